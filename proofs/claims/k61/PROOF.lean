import PyProof.Rows.All
import Wide.All
import OpenK.AllK
import Wide.FinOn
import Lean
import PyProof.Rows.SetFrom
import PyProof.TupleKey
import PyProof.SetRoads
import PySem.SetOps
import PyProof.EqAt
import PyProof.EqKinds
import PyProof.TupleCall
import KE.KDictList
import KE.KDictLaws
import PyProof.NeKinds
import PyProof.Draws
import KE.KSortTup
import KE.KLam
import PyProof.ListRange
import PyProof.TupleOfSeq
import KE.KNestM
import PyProof.MinMaxWalk
import PyProof.ReprRoads
import PyProof.CallFns
import PyProof.FitsInt
import PyProof.Conv_int_bool
import KE.KMinKey
import PySem.Challenge.RW_lotjoin_k61_changes_refused
set_option bootstrap.genMatcherCode false
set_option compiler.extract_closed false
set_option compiler.reuse false
open List renaming append_nil->dV,getElem?_eq_getElem->p_,length_map->qa,getElem?_eq_some_iff->ri,length_cons->Ge,size_toArray->Gf,replicate->Gg,getD_eq_getElem?_getD->Gh,length_append->My,getElem?_append_left->OO,mem_cons->OQ,getElem?_map->OS,mem_cons_of_mem->Yz,mem_cons_self->YB,getElem?_append_right->YD,mem_iff_getElem?->ZD,length_take->ZH,mem_map->ZI,not_mem_nil->ZL,map_append->ZM,mem_append_right->ZP,lookup_cons->ZR,mem_append->ZT,mem_singleton->ZV,map_cons->ZW,mem_of_getElem?->ZZ,range->Z1,getElem?_take_of_lt->Z2,map_map->Z7,length_singleton->Z8,mem_range->Z9,take_of_length_le->Z_,getElem?_set_self->q0a,all_eq_true->q0c,mem_append_left->q0h,getElem?_set_ne->q0i,length_drop->q0j,set_cons_zero->q0l,set_cons_succ->q0m,getElem?_eq_none->q0n,length_set->q0o,length_range->q0u,drop_eq_getElem_cons->q0y,getElem?_range->q0C,toArray->q0K,mem_iff_getElem->q0M,getElem_mem->q0N,getElem?_toArray->q0Q,append_assoc->q00,nodup_append->q06,filterMap_cons->q07,map_congr_left->q08,length_replicate->q0_,pairwise_cons->q1a,getElem_map->q1c,pairwise_map->q1f,any_eq_false->q1g,length_eq_zero_iff->q1i,length_nil->q1j,nil_append->q1k,mem_map_of_mem->q1n,any_cons->q1o,mem_filterMap->q1s,take_succ->q1u,pairwise_iff_getElem->q1w,mem_filter->q1y,ext_getElem?->q1z,lookup->q1B,replicate_succ->q1I,length_reverse->q1J,countP_cons->q1K,drop_zero->q1L,getElem?_replicate->q1N,nodup_cons->q1Y,find?_cons->q10,getElem?_concat_length->q15,mem_or_eq_of_mem_set->q2h,eq_of_mem_replicate->q2i,contains_cons->q2r,getElem?_cons_succ->q2w,set_eq_take_append_cons_drop->q2y,drop_of_length_le->q2I,reverse_cons->q2J,length_filterMap_eq_countP->q2M,eraseIdxIfInBounds_toArray->q2O,nodup_range->q2S,getElem_inj->q2X,foldl_cons->q27,filter_sublist->q3e,find?_eq_none->q3g,filterMap_map->q3i,nodup_nil->q3t,getElem?_drop->q3v,extract_eq_take_drop->q3y,mem_of_find?_eq_some->q3A,Pairwise.nil->q3D,all_cons->q3H,take_length->q3W,pairwise_lt_range->q3Z,map_nil->q39,find?_some->q3_,of_mem_zip->q4e,contains_iff_mem->q4h,countP_eq_length->q4i,dropLast_eq_take->q4l,eq_nil_or_concat->q4n,concat_eq_append->q4o,mem_of_mem_drop->q4s,mem_of_mem_take->q4A,map_id->q4C,dropLast_concat->q4E,take_succ_cons->q4U,replicate_zero->q4V,forall_mem_nil->q4X,map_take->q45,map_drop->q46,zip_cons_cons->q5b,getElem_range->q5g,filter_append->q5i,take_sublist->q5n,flatten_cons->q5y,take_add_one->q5D,getElem_take->q5F,Sublist.refl->q5G,foldl_append->q5H,any_eq_true->q5Y,length->q53,forIn_cons->q6a,filter_map->q6g,take_left'->q6i,Perm.cons->q6m,Perm.swap->q6n,foldl->q6u,cons.inj->q60,all_map->q7x,map_set->q7M,filter->q8S,map->q8U,drop->q9Q
open Nat renaming reduceBEq->kb,le_refl->tm,ne_of_lt->Zy,lt_of_lt_of_le->ZA,le_trans->Z0,zero_le->q0d,le_of_ble_eq_true->q0f,zero_add->q0p,lt_succ_of_lt->q0I,sub_self->q0O,le_of_lt->q0Z,ne_of_gt->q1d,lt_irrefl->q12,le_of_lt_succ->q13,le_succ->q2u,succ_pos->q2z,sub_zero->q2C,ble->q2L,lt_of_le_of_lt->q3h,lt_succ_self->q3S,succ_ne_self->q3T,add_sub_cancel_left->q3X,le_of_eq->q30,min_self->q35,min_eq_left->q4g,ble_eq_true_of_le->q4p,lt_trans->q5m,succ_le_succ->q5S,le_add_right->q5W,succ_add->q7m,mul_comm->q7n,succ.inj->q7N,mod_lt->q9i,not_lt->q9t
open PySem renaming wpAny_bind->nh,Heap.get?_push_of_some->qc,W.Frag->vL,wpAny_pure->y9,Heap.lt_size->OP,Heap.get?_push_size->YA,W.kitOne->ZN,Spec->ZO,W.mg_of->ZY,W.keepIn->Z3,Value.ref->Z4,W.nsIn->Z6,wpAny_holding->q0e,W.findIn->q0k,W.fnOf->q0q,wpAny_field->q0r,F.plainAttrs_list->q0t,Builtin.Slice.slicePlaces->q0x,Heap.size_push->q0z,W.kia_one->q0A,boot_len->q0B,mem_of_lookup->q0D,Heap.SameBut.update->q0E,wpAny_mono->q0F,Obj.mapSeq->q0G,Heap.get?_update_self->q0H,wpAny_callSpecial?_slot->q0L,Value.none->q0P,wpAny_loadPart'->q0S,SetTable.layClean.free->q0V,NameKind.free->q0W,NameKind.cell->q0X,wpAny_seqItems->q01,wpAny_truthy_bool->q03,Heap.get?_update_other->q04,sizeLine_eq->q09,wpAny_Call_Name_kw->q1b,wpAny_pyIter_enum->q1h,PassesOwn.never->q1m,Builtin.SmallTypes.ownedTupleIsFree->q1q,wpAny_call_entry->q1r,F.slot_tuple_iterator_next->q1t,wpAny_setField_rec->q1v,Builtin.SmallTypes.nextOf->q1x,W.emptyDict->q1A,wpAny_newObj_type->q1C,wpAny_pyIter_list->q1D,wpAny_setState_of->q1E,Builtin.Range.rangeSize->q1M,W.codeIn->q1O,Heap.SameBut->q1T,W.callWith_K->q1U,wpAny_pyIter_tuple->q1V,Obj.data_mapFields->q1W,F.called_set->q1X,W.instObj->q1Z,wpAny_standAt->q11,wpAny_loadPart_at->q14,SetTable->q16,Heap.get?_none_of_le->q17,Builtin.Slice.sliceApplied->q18,Builtin.Tuple.tupleItemsOf->q19,Around.under_plainId->q1_,W.exmOne->q2b,W.isFn->q2c,codeAny_mono->q2d,Str.ofString->q2e,F.args_tuple_add_2->q2j,Builtin.List.listTooLong->q2k,wpAny_passesOwn->q2l,codeAny_builtin->q2n,wpAny_call->q2p,call_meets->q2q,Value.int->q2t,F.entry_tuple_add->q2v,SetTable.probe.go->q2A,W.hasDictIn->q2D,W.cellsFrom_some->q2E,F.slot_tuple_add->q2F,wpAny_typeOf->q2G,plainObj_wpAny_Assign_Attribute->q2N,Obj.isFreed_of_fields->q2P,F.slot_list_pop->q2Q,F.type_list_pop->q2R,wpAny_forIn_list->q2T,SeqAt.EqAt->q2U,Value.bool->q2V,Value.type->q2W,W.plainGet->q2Y,Value.builtin->q21,wpAny_attempt->q22,wpAny_onRaise->q23,codeAny_call_builtin->q25,wpAny_updateSeq_pair->q26,wpAny_execs_nil->q28,SeqAt.EqAt.same->q29,F.args_tuple_iterator_next_1->q2_,F.slot_zip_next->q3b,W.plainGet_of->q3c,F.entry_tuple_iterator_next->q3f,SeqAt.EqAt.int_str->q3j,SeqAt.EqAt.str_int->q3k,Calls.Name_function_global->q3l,W.lookIn->q3m,SeqAt.EqAt.int_int->q3n,Heap.IsSliceOf.new->q3p,wpAny_letOwnedTupleGo_enum->q3q,Code.quiet_builtin->q3r,F.excBase_ValueError->q3s,wpAny_setField->q3u,Builtin.Slice.sliceAdjust->q3z,wpAny_sequenceKey->q3B,slot_list_getitem->q3C,wpAny_getItem_list_slice->q3G,F.store_ValueError->q3I,F.slot_list_append->q3N,F.type_list_append->q3O,noFill_tuple_add->q3Q,F.attr_ValueError->q3U,Calls.callWith_builtin->q32,wpAny_rule->q34,SetTable.insertAt_perm->q37,Obj.putSet->q38,W.takerIn->q4d,wpAny_isTrue_Compare1->q4j,W.methodCall_KW->q4k,wpAny_eqIsQuiet_tuple->q4m,wpAny_loadPart->q4u,Around.frames_deeper->q4v,SeqAt.EqAt.none_bool->q4w,SeqAt.EqAt.bool_none->q4x,SeqAt.EqAt.bool_bool->q4y,Heap.MadeExcOf->q4z,wpAny_letGo->q4D,W.findObj_own->q4H,SeqAt.EqAt.none_int->q4J,SeqAt.EqAt.none_str->q4K,SeqAt.EqAt.bool_int->q4L,SeqAt.EqAt.bool_str->q4M,SeqAt.EqAt.int_none->q4N,SeqAt.EqAt.int_bool->q4O,SeqAt.EqAt.str_none->q4P,SeqAt.EqAt.str_bool->q4Q,call_enumerate_list->q4R,Heap.get?_update_ne->q4S,wpAny_isSubtype_exc->q4T,W.codeHd_of_K->q4W,SetTable.fill->q4Z,Paired.length->q40,rangeSize_one->q41,seq_tuple_add->q42,W.Looks.here->q5a,SeqAt.EqAt.str_str->q5c,call->q5d,tupleKind_room_in1->q5e,Walks.list->q5f,SeqAt.EqAt.of_refs->q5h,W.mg_none_of->q5j,Value.isInt_shape->q5o,Within->q5p,wpAny_assign_Name->q5q,W.plainOver->q5r,Heap.Ns1.of_empty->q5s,W.specialIn->q5t,W.kitx_list->q5u,W.kitx_dict->q5v,concat_meets->q5w,seqIndex_neg->q5x,Heap.get?_push_at->q5A,wpAny_storeSet_of->q5E,F.plain_list_iadd->q5I,F.args_zip_next_1->q5J,wpAny_eqBool_int->q5L,wpAny_execs_cons->q5M,W.handedIn->q5N,wpAny_lookBehind->q5O,pastItsLine_dict->q5P,F.entry_list_pop->q5T,putSet_of->q5V,F.entry_zip_next->q5Z,wpAny_pyIter_zip->q50,W.codeHdIn->q51,seqIndex_of->q54,Shared.heap->q55,wpAny_specialOf->q56,W.makesIn->q57,W.takesIn->q58,F.slot_int_rmul->q5_,pushCells_keeps->q6b,codeAny_of_tree->q6c,wpAny_ite_split->q6e,W.OpenLaw->q6h,wpAny_Name->q6o,typeIs_int->q6t,fitsIndex_both->q6v,SeqAt.RcAt->q6x,SetFound.there->q6z,SetTable.grown->q6A,wpAny_runValue->q6B,wpAny_newTuple->q6C,W.CodeHd->q6E,SetTable.fits->q6M,Value.isStrOf->q6N,intBits_le_64->q6P,call_list_seq->q6Y,plainId_quiet->q61,wpAny_newList->q65,Obj.mapFields->q67,small_one->q7a,preSum->q7u,Fin->q95
open Option renaming map_eq_some_iff->YE,some.inj->ZX,isSome_iff_exists->q1G,bind_some->q1P,getD_none->q20,map_some->q4b,isSome->q4Y,isSome_map->q5B,getD_some->q5X,none->q8p,map->q9j
open Bool renaming false_eq_true->Zz,and_eq_true->ZK,false_ne_true->ZS,not_true->q1p,not_false->q2a,not_eq_true->q2f,eq_iff_iff->q2m,and_false->q2H,not_eq_true'->q2K,and_true->q3K,or_true->q33,false_and->q6p,false_bne->q6D,or_false->q6X,and_self->q63,true_and->q64,true_or->q7t
open Array renaming length_toList->ZC,getElem?_eq_getElem->ZE,getElem?_toList->ZU,getElem?_eq_some_iff->q0g,getD_eq_getD_getElem?->q0s,toList_setIfInBounds->q0Y,toList_filterMap->q1R,toList_push->q2B,mem_toList_iff->q24,perm_iff_toList_perm->q3w,getElem_mem_toList->q3E,size_setIfInBounds->q3F,getElem?_eq_none->q3Y,getD->q36,replicate->q4a,size_push->q4c,toList_extract->q4r,size_map->q4B,toList_append->q4G,size_extract->q47,foldl_toList->q49,forIn_toList->q4_,size_append->q5l,Perm.refl->q6d,toList->q7o
open LawfulBEq renaming eq_of_beq->ZJ
open False renaming elim->ZQ
open PyProof renaming Rows.slot_tuple_getitem->Z5,Rows.callWith_type1->q0J,Rows.F.plain_set_update_loop->q2x,Rows.boot_isinstance->q3a,Rows.entry_tuple_getitem->q3d,Rows.args_tuple_getitem->q3o,Rows.listUpdate_at->q3L,Rows.F.entry_set_update_loop->q3V,Rows.subscriptTail_builtinR->q31,Rows.get?_update_seq->q4f,Rows.lt_int->q4I,Rows.tupleItemsOf_->q43,Rows.IsTup.new->q5R,Rows.tail_any->q6s
open Int renaming toNat_natCast->q0b,toNat->q0R,emod_lt_of_pos->q0U,emod_nonneg->q1l,eq_ofNat_of_zero_le->q1Q,cast_ofNat_Int->q2s,ofNat_zero->q3x,ofNat.inj->q3J,mul_one->q4t,zero_add->q5C,ofNat->q5U,ediv_one->q7v
open ForInStep renaming yield->q0T
open Ne renaming symm->q02
open True renaming intro->q1F
open Classical renaming byContradiction->q2g,choose_spec->q8f,choose->q97
open Or renaming inl->q2o,inr->q4q
open Sum renaming inl->q4F,inr->q6j,inl.inj->q8h
open Function renaming comp->q44
open Prod renaming fst->q8t
open PUnit renaming unit->q9z
set_option linter.all false
set_option autoImplicit true
set_option compiler.extract_closed false
set_option compiler.reuse false
theorem zE1{A1:Sort _}{p:A1→Prop}{R:Prop}(h:∃x1,p x1)(f:∀x1,p x1→R):R:=by obtain⟨x1,h⟩:=h;exact f _  h
theorem zE2{A1 A2:Sort _}{p:A1→A2→Prop}{R:Prop}(h:∃x1 x2,p x1 x2)(f:∀x1 x2,p x1 x2→R):R:=by obtain⟨x1,x2,h⟩:=h;exact f _ _ h
theorem zE3{A1 A2 A3:Sort _}{p:A1→A2→A3→Prop}{R:Prop}(h:∃x1 x2 x3,p x1 x2 x3)(f:∀x1 x2 x3,p x1 x2 x3→R):R:=by obtain⟨x1,x2,x3,h⟩:=h;exact f _ _ _ h
theorem zE4{A1 A2 A3 A4:Sort _}{p:A1→A2→A3→A4→Prop}{R:Prop}(h:∃x1 x2 x3 x4,p x1 x2 x3 x4)(f:∀x1 x2 x3 x4,p x1 x2 x3 x4→R):R:=by obtain⟨x1,x2,x3,x4,h⟩:=h;exact f _ _ _ _ h
theorem zE5{A1 A2 A3 A4 A5:Sort _}{p:A1→A2→A3→A4→A5→Prop}{R:Prop}(h:∃x1 x2 x3 x4 x5,p x1 x2 x3 x4 x5)(f:∀x1 x2 x3 x4 x5,p x1 x2 x3 x4 x5→R):R:=by obtain⟨x1,x2,x3,x4,x5,h⟩:=h;exact f _ _ _ _ _ h
theorem zE6{A1 A2 A3 A4 A5 A6:Sort _}{p:A1→A2→A3→A4→A5→A6→Prop}{R:Prop}(h:∃x1 x2 x3 x4 x5 x6,p x1 x2 x3 x4 x5 x6)(f:∀x1 x2 x3 x4 x5 x6,p x1 x2 x3 x4 x5 x6→R):R:=by obtain⟨x1,x2,x3,x4,x5,x6,h⟩:=h;exact f _ _ _ _ _ _ h
theorem zE7{A1 A2 A3 A4 A5 A6 A7:Sort _}{p:A1→A2→A3→A4→A5→A6→A7→Prop}{R:Prop}(h:∃x1 x2 x3 x4 x5 x6 x7,p x1 x2 x3 x4 x5 x6 x7)(f:∀x1 x2 x3 x4 x5 x6 x7,p x1 x2 x3 x4 x5 x6 x7→R):R:=by obtain⟨x1,x2,x3,x4,x5,x6,x7,h⟩:=h;exact f _ _ _ _ _ _ _ h
theorem zE9{A1 A2 A3 A4 A5 A6 A7 A8 A9:Sort _}{p:A1→A2→A3→A4→A5→A6→A7→A8→A9→Prop}{R:Prop}(h:∃x1 x2 x3 x4 x5 x6 x7 x8 x9,p x1 x2 x3 x4 x5 x6 x7 x8 x9)(f:∀x1 x2 x3 x4 x5 x6 x7 x8 x9,p x1 x2 x3 x4 x5 x6 x7 x8 x9→R):R:=by obtain⟨x1,x2,x3,x4,x5,x6,x7,x8,x9,h⟩:=h;exact f _ _ _ _ _ _ _ _ _ h
theorem zA1{a0 a1 R:Prop}(h:a0∧a1)(f:a0→a1→R):R:=by obtain⟨h0,h1⟩:=h;exact f h0 h1
theorem zA2{a0 a1 a2 R:Prop}(h:a0∧a1∧a2)(f:a0→a1→a2→R):R:=by obtain⟨h0,h1,h2⟩:=h;exact f h0 h1 h2
theorem zA3{a0 a1 a2 a3 R:Prop}(h:a0∧a1∧a2∧a3)(f:a0→a1→a2→a3→R):R:=by obtain⟨h0,h1,h2,h3⟩:=h;exact f h0 h1 h2 h3
theorem zA4{a0 a1 a2 a3 a4 R:Prop}(h:a0∧a1∧a2∧a3∧a4)(f:a0→a1→a2→a3→a4→R):R:=by obtain⟨h0,h1,h2,h3,h4⟩:=h;exact f h0 h1 h2 h3 h4
theorem zA5{a0 a1 a2 a3 a4 a5 R:Prop}(h:a0∧a1∧a2∧a3∧a4∧a5)(f:a0→a1→a2→a3→a4→a5→R):R:=by obtain⟨h0,h1,h2,h3,h4,h5⟩:=h;exact f h0 h1 h2 h3 h4 h5
theorem zA6{a0 a1 a2 a3 a4 a5 a6 R:Prop}(h:a0∧a1∧a2∧a3∧a4∧a5∧a6)(f:a0→a1→a2→a3→a4→a5→a6→R):R:=by obtain⟨h0,h1,h2,h3,h4,h5,h6⟩:=h;exact f h0 h1 h2 h3 h4 h5 h6
theorem zA7{a0 a1 a2 a3 a4 a5 a6 a7 R:Prop}(h:a0∧a1∧a2∧a3∧a4∧a5∧a6∧a7)(f:a0→a1→a2→a3→a4→a5→a6→a7→R):R:=by obtain⟨h0,h1,h2,h3,h4,h5,h6,h7⟩:=h;exact f h0 h1 h2 h3 h4 h5 h6 h7
theorem zA8{a0 a1 a2 a3 a4 a5 a6 a7 a8 R:Prop}(h:a0∧a1∧a2∧a3∧a4∧a5∧a6∧a7∧a8)(f:a0→a1→a2→a3→a4→a5→a6→a7→a8→R):R:=by obtain⟨h0,h1,h2,h3,h4,h5,h6,h7,h8⟩:=h;exact f h0 h1 h2 h3 h4 h5 h6 h7 h8
theorem zA9{a0 a1 a2 a3 a4 a5 a6 a7 a8 a9 R:Prop}(h:a0∧a1∧a2∧a3∧a4∧a5∧a6∧a7∧a8∧a9)(f:a0→a1→a2→a3→a4→a5→a6→a7→a8→a9→R):R:=by obtain⟨h0,h1,h2,h3,h4,h5,h6,h7,h8,h9⟩:=h;exact f h0 h1 h2 h3 h4 h5 h6 h7 h8 h9
theorem zI2{A1 A2:Sort _}{p:A1→A2→Prop}(x1 x2)(h:p x1 x2):∃x1 x2,p x1 x2:=⟨x1,x2,h⟩
theorem zI3{A1 A2 A3:Sort _}{p:A1→A2→A3→Prop}(x1 x2 x3)(h:p x1 x2 x3):∃x1 x2 x3,p x1 x2 x3:=⟨x1,x2,x3,h⟩
theorem zI4{A1 A2 A3 A4:Sort _}{p:A1→A2→A3→A4→Prop}(x1 x2 x3 x4)(h:p x1 x2 x3 x4):∃x1 x2 x3 x4,p x1 x2 x3 x4:=⟨x1,x2,x3,x4,h⟩
theorem zI5{A1 A2 A3 A4 A5:Sort _}{p:A1→A2→A3→A4→A5→Prop}(x1 x2 x3 x4 x5)(h:p x1 x2 x3 x4 x5):∃x1 x2 x3 x4 x5,p x1 x2 x3 x4 x5:=⟨x1,x2,x3,x4,x5,h⟩
theorem zI6{A1 A2 A3 A4 A5 A6:Sort _}{p:A1→A2→A3→A4→A5→A6→Prop}(x1 x2 x3 x4 x5 x6)(h:p x1 x2 x3 x4 x5 x6):∃x1 x2 x3 x4 x5 x6,p x1 x2 x3 x4 x5 x6:=⟨x1,x2,x3,x4,x5,x6,h⟩
theorem zI7{A1 A2 A3 A4 A5 A6 A7:Sort _}{p:A1→A2→A3→A4→A5→A6→A7→Prop}(x1 x2 x3 x4 x5 x6 x7)(h:p x1 x2 x3 x4 x5 x6 x7):∃x1 x2 x3 x4 x5 x6 x7,p x1 x2 x3 x4 x5 x6 x7:=⟨x1,x2,x3,x4,x5,x6,x7,h⟩
set_option Elab.async false
set_option maxRecDepth 100000
abbrev br:=PySem.Value->PySem.Shared->Prop
local macro_rules | `(tactic| trivial) => `(tactic| first|exact q2o rfl|exact q4q rfl)
abbrev OR:=@decide_eq_true
abbrev YC:=@decide_eq_false
abbrev Zx:=@if_neg
abbrev ZF:=@if_pos
abbrev q0v:=@decide_eq_true_eq
abbrev q0w:=@of_decide_eq_true
abbrev q05:=@or_false
abbrev q1e:=@if_false
abbrev q1H:=@beq_eq_false_iff_ne
abbrev q1S:=@if_true
abbrev q2Z:=@beq_iff_eq
abbrev q3M:=@not_not_intro
abbrev q3R:=@beq_self_eq_true
theorem el7{α β γ ε:Type}{A B C:α→β→γ→ε→Prop}{R:Prop}(h:∃F ad δ K, A F ad δ K∧B F ad δ K∧C F ad δ K)(k:∀F ad δ K, A F ad δ K→B F ad δ K→C F ad δ K→R): R:=h.elim λF h=>h.elim λa h=>h.elim λd h=>h.elim λK h=>k F a d K h.1 h.2.1 h.2.2
theorem el5{α β:Type}{A B C:α→β→Prop}{R:Prop}(h:∃F ad, A F ad∧B F ad∧C F ad)(k:∀F ad, A F ad→B F ad→C F ad→R): R:=h.elim λF h=>h.elim λa h=>k F a h.1 h.2.1 h.2.2
theorem el3{α:Type}{A B:α→Prop}{R:Prop}(h:∃F, A F∧B F)(k:∀F, A F→B F→R): R:=h.elim λF h=>k F h.1 h.2
set_option compiler.extract_closed false
local macro_rules | `(tactic| symm) => `(tactic| first|lia|omega (config:={}))
local macro_rules | `(⋯) => `(by symm)
abbrev cu:=PySem.Value->PySem.Shared->Prop
open Option renaming some->ζ,none->η
open Bool renaming true->θ,false->ι
open Decidable renaming decide->μ
open PySem renaming Value->ν,Addr->O,Addr->ξ,Shared->ο,Str->Z,Str->π,wpAny->ρ,model->ς,Expr->υ,Stmt->χ,Program->ψ,World->ω,Heap->Α,Around->Β,Scope->Γ,Pos->Δ,Env->Ε
theorem Y{α:Sort u}{a:α}:a=a:=rfl
theorem qzr (_:True:=by first|rfl|(intros;rfl)):True:=trivial
theorem qzd (_:True:=by decide):True:=trivial
theorem qz0 (_:True:=by kernel_rfl):True:=trivial
theorem qz1 (_:True:=by first|exact .inl Y|exact .inr Y|assumption):True:=trivial
theorem qz2 (_:True:=by first|rfl|kernel_rfl):True:=trivial
theorem qz3 (_:True:=by decide +kernel):True:=trivial
theorem qz4 (_:True:=by first|exact .inl rfl|exact .inr rfl|assumption):True:=trivial
theorem qz6 (_:True:=by with_unfolding_all rfl):True:=trivial
theorem qz7 (_:True:=by size_fits):True:=trivial
theorem qz8 (_:True:=by trivial):True:=trivial
local macro_rules
|`(command|meta def $i:declId $s:optDeclSig $v:declVal)=>`(command|noncomputable def $i:declId $s:optDeclSig $v:declVal)
|`(command|meta abbrev $i:declId $s:optDeclSig $v:declVal)=>`(command|noncomputable abbrev $i:declId $s:optDeclSig $v:declVal)
section
open Lean in
local macro_rules
 |`(‹$x›)=>if x.raw.isOfKind `Lean.Parser.Term.hole then Macro.throwUnsupported else `(autoParam $x qzr._auto_1)
 |`(~~~$x)=>`(autoParam $x qzd._auto_1)
open Lean in
def zn(s:Name)(a:List Syntax):Syntax:=.node .none (`Lean.Parser++s) ⟨a⟩
open Lean in
def zp(s:Syntax):Syntax:=zn `Tactic.rintroPat.one [zn `Tactic.rcasesPat.paren [mkAtom "(",s,mkAtom ")"]]
open Lean in
def zv(s:String)(i:Nat):Syntax:=mkIdent (.mkSimple (s++toString i))
open Lean in
def zq:List Char→Nat→Syntax→List Syntax→List Syntax
|[],_,_,_=>[]
|d::l,i,m,c=>
 let k:=d.toNat-48
 if k==0 then zq l (i+1) m c else
 let z:=zv "y'" i
 let s:=if l.isEmpty then c.getD k z else zn `Tactic.rcasesPatLo [zn `Tactic.rcasesPatMed [mkNullNode #[zn `Tactic.rcasesPat.one [z]]],mkNullNode]
 zn `Tactic.refine [mkAtom "refine",zn `Term.app [zv (if i%2==0 then "zE" else "zA") k,mkNullNode #[m,zn `Term.syntheticHole [mkAtom "?",mkAtom "_"]]]]::mkAtom ";"::zn `Tactic.tacticTry_ [mkAtom "try",zn `Tactic.tacticSeq [zn `Tactic.tacticSeq1Indented [mkNullNode #[zn `Tactic.clear [mkAtom "clear",mkNullNode #[m]]]]]]::mkAtom ";"::zn `Tactic.rintro [mkAtom "rintro",mkNullNode ⟨(c.take k).map zp++[zp s]⟩,mkNullNode]::mkAtom ";"::zq l (i+1) z (c.drop k)
open Lean in
local macro_rules|`(tactic|obtain $p:rcasesPatMed:$n:num:=$e)=>pure (zn `Tactic.paren [mkAtom "(",zn `Tactic.tacticSeq [zn `Tactic.tacticSeq1Indented [mkNullNode ⟨zq n.raw[0].getAtomVal.toList 0 e p.raw[0][0][1].getSepArgs.toList⟩]],mkAtom ")"])
open Lean in
def qzp(s:Syntax):Syntax:=
 let n:=λs a=>mkNode (`Lean.Parser.Tactic++s) a
 s.rewriteBottomUp λs=>if s.isIdent then n `rcasesPat.one #[s] else if s.isOfKind `Lean.Parser.Term.hole then n `rcasesPat.ignore #[mkAtom "_"] else if s.isOfKind `Lean.Parser.Term.anonymousCtor then n `rcasesPat.tuple #[mkAtom "⟨",mkNullNode (s[1].getArgs.map λx=>if x.isAtom then x else n `rcasesPatLo #[n `rcasesPatMed #[mkNullNode #[x]],mkNullNode]),mkAtom "⟩"] else s
open Lean in
local macro_rules
 |`(tactic|let $d:letDecl)=>do
  let d:=d.raw[0]
  let r:TSyntax `tactic:=⟨if d.isOfKind `Lean.Parser.Term.letPatDecl then mkNode `Lean.Parser.Tactic.obtain #[mkAtom "obtain",mkNullNode #[mkNode `Lean.Parser.Tactic.rcasesPatMed #[mkNullNode #[qzp d[0]]]],mkNullNode (if d[2].getNumArgs==0 then #[] else #[mkAtom ":",d[2][0][1]]),mkNullNode #[mkAtom ":=",mkNullNode #[d[4]]]] else mkNode `Lean.Parser.Tactic.tacticHave__ #[mkAtom "have",mkNode `Lean.Parser.Term.letConfig #[mkNullNode],mkNode `Lean.Parser.Term.letDecl #[d]]⟩
  if d.isOfKind `Lean.Parser.Term.letPatDecl&&(d[0].find? (·.isOfKind `Lean.Parser.Term.hole)).isNone then `(tactic|set_option tactic.hygienic false in $r:tactic) else pure r
open Lean in
local macro_rules
 |`(fun $bs* => $e)=>do
  if (← getRef)[1][2].getAtomVal != "↦" then Macro.throwUnsupported
  let p:=bs.map λs=>⟨mkNode `Lean.Parser.Tactic.rintroPat.one #[qzp s]⟩
  `(by rintro $p*;exact $e)
local macro_rules |`(tactic|calc $e:term)=>`(tactic|refine $e)
local macro_rules |`(tactic|ext $p*)=>if p.any λx=>(x.raw.find? (·.isOfKind `Lean.Parser.Tactic.rcasesPat.ignore)).isSome then `(tactic|rintro $p*) else `(tactic|set_option tactic.hygienic false in rintro $p*)
local macro_rules |`(↑$x)=>`(($x).length)
local macro_rules |`(⇑$x)=>`(($x).heap.objs.size)
local macro_rules |`($x⁻¹)=>`(by simpa using $x)
open Lean in
local macro_rules
 |`(-$x)=>if x.raw.getKind==`Lean.Parser.Term.typeAscription||x.raw.isOfKind `num||(x.raw.isOfKind `Lean.Parser.Term.paren&&!x.raw[1].isOfKind `Lean.Parser.Term.app&&!x.raw[1].isOfKind `«term-_»&&!x.raw[1].isOfKind `«term_×_»&&!x.raw[1].isOfKind `Lean.Parser.Term.arrow) then Macro.throwUnsupported else `(List $x)
open Lean in
local macro_rules
 |`(tactic|erw[$ls,*] $[$l:location]?)=>do
  let a←ls.getElems.mapM fun r=>do
   let t:Term:=⟨r.raw[1]⟩
   if r.raw[0].getNumArgs==0 then `(Parser.Tactic.simpLemma|$t:term) else `(Parser.Tactic.simpLemma|←$t:term)
  `(tactic|simp only[$a,*] $[$l]?)
namespace LJS
open PySem PySem.SetTable
meta def nx(m i:Nat):Nat:=(i*5+1)%(m+1)
meta def mM(m:Nat):Nat->Nat->Nat
 |0,i=>i
 |n+1,i=>mM m n (nx m i)
theorem vx m:∀a b i,mM m (a+b) i=mM m b (mM m a i)
 |0,b,i=>by rw[q0p];rfl
 |a+1,b,i=>by rw[q7m];calc vx m a b (nx m i)
meta def xQ(m:Nat):Nat->Nat->-Nat
 |0,_=>[]
 |n+1,i=>i::xQ m n (nx m i)
theorem EF m:∀{n i e},e∈xQ m n i->∃k,k<n/\mM m k i=e
 |0,_,_,h=>nomatch h
 |n+1,i,e,h=>by
  rcases OQ.mp h with rfl|h
  .exact⟨0,q2z _,Y⟩
  .let⟨k,a,e⟩:11:=EF m h
   calc⟨k+1,Nat.succ_lt_succ a,e⟩
def Mk(m:Nat):Prop:=m=7\/m=31\/m=127
meta def sx(m:Nat):Bool:=(Z1 (m+1)).all λe=>(xQ m (m+1) 0).contains e
theorem EG(h:Mk m):sx m=θ/\mM m (m+1) 0=0:=by
 rcases h with rfl|rfl|rfl<;>calc⟨by decide +kernel,by decide +kernel⟩
theorem oC(h:Mk m)(he:e<=m):∃k,k<=m/\mM m k 0=e:=by
 let:=q0c.mp (EG h).1 e (Z9.mpr ⋯);let⟨k,a,q⟩:=EF m (q4h.mp this);calc⟨k,q13 a,q⟩
theorem Mr(h:Mk m)(c:i<=m)(he:e<=m):∃n,n<=m/\mM m n i=e:=by
 let⟨a,f,rfl⟩:=oC h c;let⟨b,g,rfl⟩:=oC h he
 by_cases d:a<=b
 .refine⟨b-a,⋯,?_⟩
  rw[<-vx];congr 1;symm
 .refine⟨m+1-a+b,⋯,?_⟩
  rw[<-vx,show a+(m+1-a+b)=(m+1)+b by symm,vx,(EG h).2]
meta def lp(m:Nat):Nat->Nat->Nat->Nat×Nat
 |0,i,p=>(i,p)
 |n+1,i,p=>lp m n (leap m i p).1 (leap m i p).2
theorem EH m:∀a b i p,lp m (a+b) i p=lp m b (lp m a i p).1 (lp m a i p).2
 |0,b,i,p=>by rw[q0p];rfl
 |a+1,b,i,p=>by rw[q7m];calc EH m a b _ _
theorem EJ m:∀n i,lp m n i 0=(mM m n i,0)
 |0,i=>Y
 |n+1,i=>by
  calc EJ m n _
theorem EK m i p:(leap m i p).1<=m:=q13 (q9i _ (q2z _))
theorem EL m:∀n i p,(lp m n i p).2=p / 32 ^ n
 |0,i,p=>by simp[lp]
 |n+1,i,p=>by
  show(lp m n (leap m i p).1 (leap m i p).2).2=_;rw[EL m n];show p / 32 / 32 ^ n=_;rw[Nat.div_div_eq_div_mul,Nat.pow_succ,q7n]
theorem reach(h:Mk m)(b:p<2 ^ 64)(he:e<=m):∃n,n<=13+m/\(lp m n i p).1=e:=by
 let z:(lp m 13 i p).2=0:=by
  rw[EL];symm
 let q:(lp m 13 i p).1<=m:=by
  exact EK _ _ _
 let⟨n,c,a⟩:=Mr h q he;calc⟨13+n,⋯,?_⟩;rw[EH,z,EJ];calc a
theorem EM j:has #[] j=ι:=by unfold has;simp
theorem sy{t:SetTable}(hd:t.dummies = #[]) j:t.slot j=.empty\/∃i,t.slot j=.live i/\i<t.place.size/\j∈t.place.toList:=by
 unfold slot;rw[hd,EM]
 by_cases c:(t.place[below t.place j]?==ζ j)=θ
 .right
  rw[ZF c];let⟨a,b⟩:=q0g.mp (ZJ c);exact⟨_,Y,a,by rw[<-b];calc q3E a⟩
 .left
  rw[Zx c];rfl
theorem Ms{t:SetTable}(hd:t.dummies = #[])(hj:j∉t.place.toList):t.slot j=.empty:=by
 rcases sy hd j with h|⟨_,_,_,h⟩
 .exact h
 .calc absurd h hj
theorem EN:∀{l l':-Nat},l.Nodup->(∀x∈l,x∈l')->↑l<=↑l'
 |[],_,_,_=>q0d _
 |a::l,l',f,c=>by
  let d:=c a (YB ..);let b:=q1Y.mp f;let g:=EN  (l':=l'.erase a) b.2 λx e=>(List.mem_erase_of_ne (λz=>b.1 (by rw[<-z];calc e))).mpr (c x (Yz _ e));rw[List.length_erase_of_mem d] at g;let:=List.length_pos_of_mem d;rw[Ge];symm
theorem vy{l:-Nat}(h:↑l<=m):∃e,e<=m/\e∉l:=by
 calc q2g λa=>?_;let:=EN q2S (λe b=>q2g λz=>a ⟨e,q13 (Z9.mp b),z⟩);rw[q0u] at this;symm
meta def stateOf(t:SetTable)(i p:Nat):Probe:=⟨i,runEnd t.mask i-i,i,p,η⟩
theorem EO m i:runEnd m i-i<=9:=by unfold runEnd;split<;>symm
section
variable{t:SetTable}{f:Nat->Int}{h:Int}
theorem pN F p:q2A t f h (F+1) p=(match t.slot p.j with
  |.empty=>ζ (.empty p.j p.dummy)
  |.dummy=>q2A t f h F (t.advance {p with dummy:=ζ p.j})
  |.live i=>if f i==h then ζ (.candidate p.j i (t.advance p)) else q2A t f h F (t.advance p)):=rfl
theorem ER(hd:t.dummies = #[])(b:∀i,i<t.place.size->f i≠h):∀k F p,p.more=k->p.dummy=η →
  (∃j,q2A t f h (F+k+1) p=ζ (.empty j η))\/q2A t f h (F+k+1) p=q2A t f h F (stateOf t (leap t.mask p.i p.perturb).1 (leap t.mask p.i p.perturb).2)
 |0,F,p,d,a=>by
  rw[pN];rcases sy hd p.j with e|⟨i,e,c,_⟩
  .left;rw[e];exact⟨p.j,by rw[a]⟩
  .right
   rw[e];show(if(f i==h)=θ then _ else _)=_;rw[Zx (by ext z;calc b i c (ZJ z))];unfold advance;rw[d,Zx ⋯,a];rfl
 |k+1,F,p,d,a=>by
  let g:=ER hd b k F {p with j:=p.j+1,more:=p.more-1} (by show p.more-1=k;symm) a;rw[show F+(k+1)+1=(F+k+1)+1 by symm,pN];rcases sy hd p.j with e|⟨i,e,c,_⟩
  .left;rw[e];exact⟨p.j,by rw[a]⟩
  .rw[e]
   show(∃j,(if(f i==h)=θ then _ else _)=_)\/(if(f i==h)=θ then _ else _)=_;rw[Zx (by ext z;calc b i c (ZJ z))];let l:t.advance p={p with j:=p.j+1,more:=p.more-1}:=by unfold advance;rw[ZF ⋯]
   rw[l];calc g
theorem ES(hd:t.dummies = #[])(c:∀i,i<t.place.size->f i≠h):∀n F i p,10*(n+1)<=F->t.slot (lp t.mask n i p).1=.empty->∃j,q2A t f h F (stateOf t i p)=ζ (.empty j η)
 |0,F,i,p,d,a=>by
  let⟨G,rfl⟩:∃G,F=G+1:=⟨F-1,⋯⟩;rw[pN];let e:t.slot (stateOf t i p).j=.empty:=a;rw[e];exact⟨i,Y⟩
 |n+1,F,i,p,d,a=>by
  let k:=EO t.mask i;let⟨G,g⟩:∃G,F=G+(runEnd t.mask i-i)+1:=⟨F-(runEnd t.mask i-i)-1,⋯⟩;let:=ER   hd c (runEnd t.mask i-i) G (stateOf t i p) Y Y;rw[<-g] at this;rcases this with b|b
  .exact b
  .rw[b]
   calc ES hd c n G _ _ ⋯ a
theorem xS h:bits h<2 ^ 64:=by
 unfold bits;symm
theorem Mt(hd:t.dummies = #[])(a:Mk t.mask)(hz:t.place.size<=t.mask)(b:∀i,i<t.place.size->f i≠h):∃j,t.probe f h (t.probeStart h)=ζ (.empty j η):=by
 let⟨e,c,d⟩:=vy   ⋯;let⟨n,k,g⟩:=reach a  (xS h) c;calc ES hd b n _ _ _ (by unfold turns;symm) (by rw[g];calc Ms hd d)
end
section
variable{m:Nat}{owner:Array (Option Nat)}
theorem xT F i p:q0V m owner (F+1) i p=(match(Z1 (runEnd m i+1-i)).find? λk=>(owner.getD (i+k) (ζ 0)).isNone with
   |some k=>ζ (i+k)
   |none=>q0V m owner F (leap m i p).1 (leap m i p).2):=rfl
theorem xU:∀n F i p,n+1<=F->(owner.getD (lp m n i p).1 (ζ 0)).isNone=θ->∃j,q0V m owner F i p=ζ j/\(owner.getD j (ζ 0)).isNone=θ
 |0,F,i,p,c,b=>by
  let⟨G,rfl⟩:∃G,F=G+1:=⟨F-1,⋯⟩;rw[xT]
  cases a:(Z1 (runEnd m i+1-i)).find? λk=>(owner.getD (i+k) (ζ 0)).isNone with
  |some k =>
   let:=q3_ a;exact⟨i+k,Y,this⟩
  |none =>
   let:=q3g.mp a 0 (Z9.mpr (by unfold runEnd;split<;>symm));exact absurd b this
 |n+1,F,i,p,c,b=>by
  let⟨G,rfl⟩:∃G,F=G+1:=⟨F-1,⋯⟩;rw[xT]
  cases a:(Z1 (runEnd m i+1-i)).find? λk=>(owner.getD (i+k) (ζ 0)).isNone with
  |some k =>
   let:=q3_ a;exact⟨i+k,Y,this⟩
  |none=>calc xU n G _ _ ⋯ b
end
structure Ow(m:Nat)(owner:Array (Option Nat))(k:Nat):Prop where
 size:owner.size=m+1
 cnt:owner.toList.countP q4Y=k
 lt:∀x,ζ x∈owner.toList->x<k
theorem xV:∀{l:-(Option Nat)}{j k},l[j]?=ζ η->(l.set j (ζ k)).countP q4Y=l.countP q4Y+1
 |[],j,k,h=>by simp at h
 |x::l,0,k,h=>by
  simp at h;subst h;rw[q0l,q1K,q1K];rfl
 |x::l,j+1,k,h=>by
  simp at h;rw[q0m,q1K,q1K,xV h];symm
theorem getD_none{owner:Array (Option Nat)}(h:(owner.getD j (ζ 0)).isNone=θ):owner.toList[j]?=ζ η:=by
 rw[q0s] at h;rw[ZU]
 cases e:owner[j]? with
 |none=>rw[e] at h;cases h
 |some x =>
  rw[e] at h
  cases x with
  |none=>rfl
  |some y=>cases h
theorem EU{owner}(O:Ow m owner k)(g:k<=m):∃e,e<=m/\(owner.getD e (ζ 0)).isNone=θ:=by
 refine q2g λd=>?_
 let a:∀x∈owner.toList,x.isSome=θ:=by
  ext x f;let⟨e,b⟩:=ZD.mp f
  cases x with
  |some y=>rfl
  |none =>
   let c:=(ri.mp b).1;rw[ZC,O.size] at c;calc absurd ⟨e,q13 c,?_⟩ d;rw[q0s,<-ZU,b];rfl
 let:=q4i.mpr a;rw[O.cnt,ZC,O.size] at this;symm
theorem Mu{owner}(b:Mk m)(O:Ow m owner k)(c:k<=m) h:∃j,q0V m owner (turns m) (bits h%(m+1)) (bits h)=ζ j/\Ow m (owner.setIfInBounds j (ζ k)) (k+1):=by
 let⟨e,d,f⟩:=EU O c;let⟨n,g,i⟩:=reach b  (xS h) d;let⟨j,l,o⟩:=xU   n (turns m) (bits h%(m+1)) (bits h) (by unfold turns;symm) (by rw[i];calc f);refine⟨j,l,by rw[q3F];calc O.size,?_,λx a=>?_⟩
 .rw[q0Y,xV (getD_none o),O.cnt]
 .rw[q0Y] at a
  rcases q2h a with h|h
  .exact q0I (O.lt x h)
  .cases h;symm
theorem EV m:Ow m (q4a (m+1) η) 0:=by
 refine⟨by simp,?_,λx a=>?_⟩
 .exact List.countP_eq_zero.mpr λx a=>by rw[q2i a];decide
 .cases q2i a
meta def l7(m:Nat)(owner:Array (Option Nat)):-(Nat×Nat):=(Z1 (m+1)).filterMap λj=>(owner.getD j η).map (j,·)
theorem EW(O:Ow m owner k):↑(l7 m owner)=k:=by
 unfold l7;rw[q2M,<-O.cnt]
 let e:owner.toList=(Z1 (m+1)).map λj=>owner.getD j η:=by
  calc q1z λi=>?_;rw[ZU,OS]
  by_cases a:i<m+1
  .rw[q0C a,q4b,ZE (by rw[O.size];calc a),q0s,ZE (by rw[O.size];calc a)];rfl
  .rw[q3Y (by rw[O.size];symm),q0n (by rw[q0u];symm)];rfl
 rw[e,List.countP_map];calc List.countP_congr λj _=>?_;simp
theorem Mv{b:Type}{es:Array b}{order:Array Nat}(h:∀k∈order.toList,k<es.size):(order.filterMap (es[·]?)).size=order.size/\∀e∈(order.filterMap (es[·]?)).toList,e∈es.toList:=by
 constructor
 .rw[<-ZC,q1R,q2M,q4i.mpr λk c=>?_,ZC]
  rw[ZE (h k c)];rfl
 .ext e a
  rw[q1R] at a;let⟨k,_,q⟩:=q1s.mp a;calc ZD.mpr ⟨k,by rw[ZU];calc q⟩
theorem Mw(t:SetTable)(hd:t.dummies = #[]) j:(t.put j).1.dummies = #[]/\(t.put j).1.mask=t.mask/\(t.put j).1.place.size=t.place.size+1/\(t.put j).1.led=t.led/\(t.put j).1.plain=t.plain/\(t.put j).1.moves=t.moves/\(t.put j).1.finger=t.finger:=by
 unfold put;rw[hd,EM];calc⟨Y,Y,?_,Y,Y,Y,Y⟩;unfold insertAt;erw[q5l,q4c,q47];symm
theorem Mx{a}(xs:Array a) p x:(insertAt xs p x).size=xs.size+1:=by
 unfold insertAt;erw[q5l,q4c,q47];symm
end LJS
namespace LJS
open PySem PySem.SetTable PyProof.Rows
structure gw(t:SetTable)(es:Array (Int×ν))(hs:-Int):Prop where
 sA:t.dummies = #[]
 sC:Mk t.mask
 oD:t.place.size=es.size
 num:es.size=↑hs
 jh:t.tooFull=ι
 ins:∀e∈es.toList,e.1∈hs
def mO(h:Α)(S:O)(b:-Int):Prop:=∃o a c t,h.get? S=ζ o/\o.ExactSet/\o.data=.set a c t/\gw t a b
section
variable{t:SetTable}{es:Array (Int×ν)}{hs:-Int}
theorem gw.fill(T:gw t es hs):t.fill=es.size:=by
 unfold q4Z;rw[T.oD,T.sA];rfl
theorem gw.lt(T:gw t es hs):es.size*5<t.mask*3:=by
 let:=T.jh;unfold tooFull at this;rw[T.fill] at this;let:=of_decide_eq_false this;symm
theorem gw.fits(T:gw t es hs):t.fits es.size=θ:=by
 let:=T.lt;unfold q6M;rw[T.fill,T.oD];simp;symm
theorem gw.sD(T:gw t es hs):t.gaveWay=ι:=by
 unfold SetTable.gaveWay;rcases T.sC with h|h|h<;>rw[h]<;>rfl
end
theorem Mz:sizeAbove (grown 5)-1=31:=by decide +kernel
theorem MA:sizeAbove (grown 19)-1=127:=by decide +kernel
section
variable{prog:ψ}{w:ω}{A:Β}{E:br}{s:ο}
end
end LJS
namespace LJS
open PySem PySem.SetTable
def Up(xs:Array Nat):Prop:=xs.toList.Pairwise (· < ·)
theorem Up.lt{xs}(u:Up xs){i k}(a:i<k)(b:k<xs.size):xs[i]'⋯<xs[k]:=by
 let:=q1w.mp u i k (by rw[ZC];symm) ⋯ a;simpa using this
theorem xW{xs}(u:Up xs) j:∀f k g,g<=xs.size->k<=g->g-k<=f->(∀i,(h:i<xs.size)->i<k->xs[i]<j)->(∀i,(h:i<xs.size)->g<=i->j<=xs[i]) →
  below.go xs j f k g<=xs.size/\(∀i,(h:i<xs.size)->i<below.go xs j f k g->xs[i]<j)/\(∀i,(h:i<xs.size)->below.go xs j f k g<=i->j<=xs[i])
 |0,k,g,m,o,p,a,b=>by
  let:k=g:=by symm
  subst this;exact⟨m,a,b⟩
 |f+1,k,g,m,o,p,a,b=>by
  unfold below.go
  by_cases c:k<g
  .rw[ZF c]
   let n:(k+g) / 2<xs.size:=by symm
   let q:xs.getD ((k+g) / 2) j=xs[(k+g) / 2]:=by rw[q0s,ZE n];rfl
   erw[q]
   by_cases d:xs[(k+g) / 2]<j
   .rw[ZF d]
    refine xW u j f _ g m ⋯ ⋯ (λi l r=>?_) b
    by_cases e:i<(k+g) / 2
    .exact q5m (u.lt e n) d
    .let:i=(k+g) / 2:=by symm
     subst this;exact d
   .rw[Zx d]
    refine xW u j f k _ ⋯ ⋯ ⋯ a λi l r=>?_
    by_cases e:(k+g) / 2<i
    .exact q0Z (q3h ⋯ (u.lt e l))
    .let:i=(k+g) / 2:=by symm
     subst this;symm
  .rw[Zx c]
   let:k=g:=by symm
   subst this;calc⟨m,a,b⟩
theorem vz{xs}(u:Up xs) j:below xs j<=xs.size/\(∀i,(h:i<xs.size)->i<below xs j->xs[i]<j)/\(∀i,(h:i<xs.size)->below xs j<=i->j<=xs[i]) :=
 xW u j xs.size 0 xs.size (tm _) (q0d _) ⋯ (λi _ h=>by symm) (λi h a=>by symm)
theorem MB{t:SetTable}(u:Up t.place){j:Nat}(hj:j∉t.place.toList):Up (t.put j).1.place:=by
 let⟨o,k,l⟩:02:=vz u j;show Up (insertAt t.place (below t.place j) j);unfold Up insertAt;generalize below t.place j=p at o k l
 let q:(((t.place.extract 0 p).push j)++t.place.extract p t.place.size).toList=t.place.toList.take p++([j]++t.place.toList.drop p):=by
  erw[q4G,q2B,q4r,q3y,q1L,q2C,q00];let r:List.take (t.place.size-p) (q9Q p t.place.toList)=q9Q p t.place.toList:=Z_ (by rw[q0j,ZC];calc tm _);rw[r]
 rw[q]
 let m:∀x∈t.place.toList.take p,x<j:=by
  ext x d;let⟨i,f,e⟩:=q0M.mp d;rw[ZH,ZC] at f;let:=k i ⋯ ⋯;rw[<-e];simpa using this
 let c:∀x∈t.place.toList.drop p,j<x:=by
  ext x d;let⟨i,f,e⟩:=q0M.mp d;rw[q0j,ZC] at f;let:=l (p+i) ⋯ ⋯;let g:j<=x:=by rw[<-e];simpa using this
  calc Nat.lt_of_le_of_ne g λz=>hj ?_;rw[z];exact q4s d
 refine List.pairwise_append.mpr ⟨u.sublist (q5n _ _),?_,λa n b h=>?_⟩
 .exact q1a.mpr ⟨c,u.sublist (List.drop_sublist _ _)⟩
 .rcases OQ.mp h with rfl|h
  .exact m a n
  .calc q5m (m a n) (c b h)
theorem MC n (f:Nat->Option Nat):(((Z1 n).filterMap λj=>(f j).map λx=>(j,x)).map (·.1)).Pairwise (· < ·):=by
 rw[q1f];calc List.Pairwise.filterMap _ (λa g c b e h d=>?_) (q3Z);let⟨x,_,rfl⟩:=YE.mp e;let⟨y,_,rfl⟩:=YE.mp d;calc c
theorem MD m owner:((l7 m owner).map (·.1)).Pairwise (· < ·):=MC (m+1) λj=>owner.getD j η
theorem xX{t f h}:∀{a p j d},q2A t f h a p=ζ (.empty j d)->t.slot j=.empty
 |0,_,_,_,e=>nomatch e
 |a+1,p,j,d,e=>by
  rw[pN] at e
  cases q:t.slot p.j with
  |empty =>
   rw[q] at e;cases e
   exact q
  |dummy =>
   rw[q] at e;exact xX e
  |live i =>
   rw[q] at e
   by_cases c:(f i==h)=θ
   .erw[c,q1S] at e;cases e
   .erw[c,q1e] at e;calc xX e
theorem ME{t:SetTable}(u:Up t.place){j:Nat}(e:t.slot j=.empty):j∉t.place.toList:=by
 ext f;let⟨i,g,h⟩:=q0M.mp f;let c:i<t.place.size:=by rw[<-ZC];exact g
 let d:t.place[i]=j:=by simpa using h
 let⟨n,k,l⟩:02:=vz u j;let a:¬ i<below t.place j:=λz=>by let:=k i c z;symm
 let b:¬ below t.place j<i:=λz=>by
  let:=l (below t.place j) ⋯ (tm _);let:=u.lt z c;symm
 let m:below t.place j=i:=by symm
 unfold slot at e;rw[m] at e;let:(t.place[i]?==ζ j)=θ:=by rw[ZE c,d];simp
 erw[this,q1S] at e;cases e
def l8(owner:Array (Option Nat))(k:Nat):Prop:=(owner.toList.filterMap id).Perm (Z1 k)
theorem xY:∀{l:-(Option Nat)}{j k},l[j]?=ζ η->((l.set j (ζ k)).filterMap id).Perm (k::l.filterMap id)
 |[],j,k,h=>by simp at h
 |x::l,0,k,h=>by
  simp at h;subst h;rfl
 |x::l,j+1,k,h=>by
  simp at h
  cases x with
  |none =>
   show((l.set j (ζ k)).filterMap id).Perm (k::l.filterMap id);exact xY h
  |some y =>
   calc(q6m y (xY h)).trans (q6n _ _ _)
theorem MF{owner:Array (Option Nat)}{j k:Nat}(P:l8 owner k)(h:owner.toList[j]?=ζ η):l8 (owner.setIfInBounds j (ζ k)) (k+1):=by
 unfold l8 at P ⊢;rw[q0Y,List.range_succ];calc(xY h).trans ((q6m k P).trans (List.perm_append_singleton k _).symm)
theorem MG{m:Nat}{owner:Array (Option Nat)}{k:Nat}(c:Mk m)(O:Ow m owner k)(d:l8 owner k)(f:k<=m)(h:Int):∃j,q0V m owner (turns m) (bits h%(m+1)) (bits h)=ζ j/\Ow m (owner.setIfInBounds j (ζ k)) (k+1)/\l8 (owner.setIfInBounds j (ζ k)) (k+1):=by
 let⟨e,g,i⟩:=EU O f;let⟨n,l,o⟩:=reach c  (xS h) g;let⟨j,p,a⟩:=xU   n (turns m) (bits h%(m+1)) (bits h) (by unfold turns;symm) (by rw[o];calc i);refine⟨j,p,⟨by rw[q3F];calc O.size,?_,λx b=>?_⟩,MF d (getD_none a)⟩
 .rw[q0Y,xV (getD_none a),O.cnt]
 .rw[q0Y] at b
  rcases q2h b with h|h
  .exact q0I (O.lt x h)
  .cases h;symm
theorem EX{m:Nat}(e:Mk m):∀(c:-Int)(owner:Array (Option Nat))(k:Nat),Ow m owner k->l8 owner k->k+↑c<=m+1 →
  ∃b,(c.foldl (init:=ζ (owner,k)) λacc h=>do
   let(owner,k) <- acc
   let j <- q0V m owner (turns m) (bits h%(m+1)) (bits h)
   pure (owner.setIfInBounds j (ζ k),k+1))=ζ (b,k+↑c)/\Ow m b (k+↑c)/\l8 b (k+↑c)
 |[],a,k,O,d,_=>⟨a,Y,O,d⟩
 |h::c,a,k,O,d,f=>by
  rw[Ge] at f ⊢;let⟨j,g,i,l⟩:12:=MG e O d ⋯ h;let⟨n,o,p,q⟩:12:=EX e c _ (k+1) i l ⋯;calc⟨n,?_,by rw[show k+(↑c+1)=k+1+↑c by symm];calc⟨p,q⟩⟩;rw[q27,show k+(↑c+1)=k+1+↑c by symm,<-o];congr 1;show(do let j <- q0V m a (turns m) (bits h%(m+1)) (bits h);pure (a.setIfInBounds j (ζ k),k+1))=_;rw[g];rfl
theorem MH m:l8 (q4a (m+1) η) 0:=by
 unfold l8;rw[Array.toList_replicate,List.filterMap_eq_nil_iff.mpr λx a=>by rw[q2i a];rfl];rfl
theorem MI{m:Nat}(c:Mk m)(a:Array Int)(hz:a.size<=m+1):∃owner,layClean m a=ζ owner/\Ow m owner a.size/\l8 owner a.size:=by
 let⟨o,e,O,b⟩:12:=EX c a.toList _ 0 (EV m) (MH m) (by rw[ZC];symm);rw[q0p,ZC] at O b;calc⟨o,?_,O,b⟩;unfold layClean;rw[<-q49,e];rfl
theorem MJ{m owner}(b:owner.size=m+1):(l7 m owner).map (·.2)=owner.toList.filterMap id:=by
 unfold l7;rw[List.map_filterMap]
 let e:owner.toList=(Z1 (m+1)).map λj=>owner.getD j η:=by
  calc q1z λi=>?_;rw[ZU,OS]
  by_cases a:i<m+1
  .rw[q0C a,q4b,ZE (by rw[b];calc a),q0s,ZE (by rw[b];calc a)];rfl
  .rw[q3Y ⋯,q0n (by rw[q0u];symm)];rfl
 rw[e,q3i];congr 1;funext j;show q9j (λx  => x.2) (q9j (λx=>(j,x)) (owner.getD j η))=owner.getD j η;cases owner.getD j η<;>rfl
end LJS
namespace LJS
open PySem PySem.SetTable PyProof.Rows
section
variable{t:SetTable}{es:Array (Int×ν)}{led:Bool}{ks:-Int}
end
section
variable{prog:ψ}{w:ω}{A:Β}{E:br}{s:ο}
theorem EY{ks}:∀{vs},ItemsAre (intKind prog w) ks vs->∀v∈vs,∃i t,v=.int i t:=by
 induction ks with
 |nil=>ext b h v a;cases h;cases a
 |cons k g c =>
  ext b h v a
  cases h with
  |cons d f =>
   rcases OQ.mp a with rfl|a
   .let⟨t,e⟩:=q5o   (by first|exact d|rfl)
    exact(zI2 _ _ e)
   .calc c f v a
theorem MK{ks a}{Q:Bool->ο->Prop}(f:IsTupleKey (intKind prog w) s.heap ks a)(h:∀b,Q b s):ρ (ς prog w) A (hashByValue 8 (.ref a)) Q E s:=by
 let g:=f.typeIs;let⟨o,j,n,k,_,l,m⟩:33:=f;calc nh (q56 g F.slot_tuple_hash.lookup (nh (q01 k l (nh ?_))));rw[<-q4_];refine q2T _ (λc _ e=>e=s/\∀v∈c,∃i t,v=q2t i t) _ ?_ ?_ _ _ ⟨Y,EY m⟩
 .ext v c r e ⟨rfl,d⟩
  let⟨i,t,rfl⟩:2:=d v YB;exact y9 ⟨Y,λu p=>d u (Yz _ p)⟩
 .ext ⟨q,x⟩ e ⟨rfl,_⟩
  cases q with
  |none=>exact y9 (h _)
  |some b=>calc y9 (h _)
theorem xZ{h h' ks a}(x:IsTupleKey (intKind prog w) h ks a)(k:∀o,h.get? a=ζ o->h'.get? a=ζ o):IsTupleKey (intKind prog w) h' ks a:=by
 let⟨o,b,n,c,r⟩:31:=x;calc(zI3 o b n ⟨k o c,r⟩)
meta abbrev hT(prog:ψ)(w:ω)(ks:-Int):Int:=tupleKeyHash (intKind prog w) ks
theorem ML{h h' S a}(x:mO h S a)(k:∀o,h.get? S=ζ o->h'.get? S=ζ o):mO h' S a:=by
 let⟨o,b,c,t,d,r⟩:41:=x;calc(zI4 o b c t ⟨k o d,r⟩)
end
section
variable{prog:ψ}{w:ω}{A:Β}{R:Result->ο->Prop}{I S:O}{fp wr:-O}{G:Array GenState->Array GenState->Prop}{n:Nat}{P:Nat->ν->Prop}{St:Nat->ο->Prop}
end
meta abbrev g7(led:Bool):Obj:={cls:=.type "set",dict:=none,data:=.set #[] 0 (.fresh 0 0 led)}
section
variable{prog:ψ}{w:ω}{A:Β}{E:br}{s:ο}
end
section
variable{prog:ψ}{w:ω}{A:Β}{I S:O}{o:Obj}{es:Array (Int×ν)}{ep:Nat}{t:SetTable}{ks:-Int}
end
section
variable{prog:ψ}{w:ω}{A:Β}{S:O}{o:Obj}{es:Array (Int×ν)}{ep:Nat}{t:SetTable}{ks:-Int}
end
end LJS
namespace L2
open PySem PySem.Spec PyProof.Rows
abbrev Key:=Sum Int Z
meta def qW:Key->ν->Bool
 |.inl k,v=>Value.isInt k v
 |.inr x,v=>q6N x v
meta def x_(w:ω):Key->Int
 |.inl k=>hashInt k
 |.inr x=>hashStr w x
theorem mP:∀{k v},qW k v=θ->(∃i t,k=q4F i/\v=q2t i t)\/(∃x t,k=q6j x/\v=Value.str x t)
 |.inl i,v,h=>by
  let⟨t,e⟩:=q5o   h;exact .inl ⟨i,t,Y,e⟩
 |.inr x,v,h=>by
  let⟨t,e⟩:=Value.isStrOf_shape   h;calc .inr ⟨x,t,Y,e⟩
theorem MM i t:qW (.inl i) (.int i t)=θ:=by simp[qW,Value.isInt]
theorem MN x t:qW (.inr x) (.str x t)=θ:=by simp[qW,q6N]
theorem MO a b:μ ((q4F a:Key)=q4F b)=(a==b):=by
 by_cases e:a=b
 .subst e;simp
 .rw[YC (λq=>e (q8h q))]
  calc(q1H.mpr e).symm
theorem MP a b:μ ((q6j a:Key)=q6j b)=μ (a=b):=by
 by_cases e:a=b
 .simp
 .rw[YC (λq=>e (Sum.inr.inj q)),YC e]
theorem MQ a b:μ ((q4F a:Key)=q6j b)=ι:=YC (λq=>nomatch q)
theorem MR a b:μ ((q6j a:Key)=q4F b)=ι:=YC (λq=>nomatch q)
meta def jY(prog:ψ)(w:ω):PySem.KeyKind prog w Key where
 is:=qW
 hash:=x_ w
 inj:=λv a b f d=>by
  rcases mP f with⟨i,t,rfl,rfl⟩|⟨x,t,rfl,rfl⟩
  .rcases mP d with⟨j,u,rfl,e⟩|⟨y,u,rfl,e⟩
   .injection e with e1 _;rw[e1]
   .exact nomatch e
  .rcases mP d with⟨j,u,rfl,e⟩|⟨y,u,rfl,e⟩
   .exact nomatch e
   .injection e with e1 _;rw[e1]
 byValue:=λk v h=>by
  rcases mP h with⟨i,t,rfl,rfl⟩|⟨x,t,rfl,rfl⟩<;>rfl
 pyHash:=λc h=>by
  rcases mP c with⟨i,t,rfl,rfl⟩|⟨x,t,rfl,rfl⟩
  .exact wpAny_pyHash_int h
  .exact wpAny_pyHash_str h
 eqBool:=λg c h=>by
  rcases mP g with⟨i,t,rfl,rfl⟩|⟨x,t,rfl,rfl⟩
  .rcases mP c with⟨j,u,rfl,rfl⟩|⟨y,u,rfl,rfl⟩
   .rw[MO] at h;exact q5L h
   .rw[MQ] at h;exact q3j i t y u _ _ _ _ h
  .rcases mP c with⟨j,u,rfl,rfl⟩|⟨y,u,rfl,rfl⟩
   .rw[MR] at h;exact q3k x t j u _ _ _ _ h
   .rw[MP] at h;exact wpAny_eqBool_str h
 «strs» := λk x t v h=>by
  rcases mP h with⟨i,u,rfl,e⟩|⟨y,u,rfl,e⟩
  .exact nomatch e
  .injection e with e1 _
   subst e1;cases v<;>rfl
theorem MS prog w i t:(jY prog w).is (.inl i) (.int i t)=θ:=MM i t
theorem MT prog w x t:(jY prog w).is (.inr x) (.str x t)=θ:=MN x t
inductive V where
 |non|bl (b:Bool)|int (i:Int)|str (x:Z)|byt (b:Array UInt8)|flt (b:UInt64)|ref (a:O)|ty (n:String)
 deriving DecidableEq
def RelV:V->ν->Prop
 |.non,u=>u=q0P
 |.bl b,u=>u=q2V b
 |.int i,u=>∃t,u=q2t i t
 |.str x,u=>∃t,u=Value.str x t
 |.byt b,u=>∃t,u=Value.bytes b t
 |.flt b,u=>∃t,u=Value.float b t
 |.ref a,u=>u=Z4 a
 |.ty n,u=>u=q2W n
abbrev Vals:-V->-ν->Prop:=Paired RelV
theorem Vals.length{xs us}(r:Vals xs us):↑xs=↑us:=q40 r
theorem Vals.get:∀{xs us}{i:Nat}{x},Vals xs us->xs[i]?=ζ x->∃u,us[i]?=ζ u/\RelV x u
 |_,_,_,_,.nil,e=>by simp at e
 |_,_,0,_,.cons r _,e=>by simp at e;subst e;exact⟨_,Y,r⟩
 |_,_,i+1,x,.cons _ t,e=>by
  let⟨u,a,b⟩:=Vals.get   t e⁻¹;calc⟨u,by simpa using a,b⟩
theorem Vals.set{x u}(r:RelV x u):∀{xs us} i,Vals xs us->Vals (xs.set i x) (us.set i u)
 |_,_,_,.nil=>.nil
 |_,_,0,.cons _ t=>.cons r t
 |_,_,i+1,.cons q t=>.cons q (Vals.set r i t)
theorem Vals.append:∀{xs ys us ws},Vals xs us->Vals ys ws->Vals (xs++ys) (us++ws)
 |_,_,_,_,.nil,s=>s
 |_,_,_,_,.cons r t,s=>.cons r (Vals.append t s)
theorem Vals.take:∀{xs us} n,Vals xs us->Vals (xs.take n) (us.take n)
 |_,_,0,_=>.nil
 |_,_,_+1,.nil=>.nil
 |_,_,n+1,.cons r t=>.cons r (Vals.take n t)
theorem Vals.drop:∀{xs us} n,Vals xs us->Vals (xs.drop n) (us.drop n)
 |_,_,0,r=>r
 |_,_,_+1,.nil=>.nil
 |_,_,n+1,.cons _ t=>Vals.drop n t
def e_:Option V->Option ν->Prop
 |some v,some u=>RelV v u
 |none,none=>True
 |_,_=>False
def KV{κ:Type}:-(κ×V)->-(κ×ν)->Prop:=Paired λ(p:κ×V) (q:κ×Value)=>p.1=q.1/\RelV p.2 q.2
meta def kV:Key->V
 |.inl i=>.int i
 |.inr x=>.str x
inductive HO where
 |lst (xs:-V)
 |tup (xs:-V)
 |dK (kvs:-(Key×V))|dT (kvs:-(-Key×V))
 |set (S:Int->Bool) (n:Nat)
 |ins (C dx:O) (fs:-(Z×V))
 |own (x:O)
 |xd (fs:-(Z×V))
 |met (f x:O)
 |rng (lo hi:Int)
 |frz (o:Obj) (u:HO)
 |tbl (ps:Array ν)
 |ext (φ:Α->Prop)
abbrev Hp:=O->Option HO
meta def upd(H:Hp)(a:O)(o:HO):Hp:=λb=>if b=a then ζ o else H b
theorem bN{H a o}:upd H a o a=ζ o:=by unfold upd;rw[ZF Y]
theorem aQ{H a b o}(h:b≠a):upd H a o b=H b:=by unfold upd;rw[Zx h]
theorem mQ{H:Hp}{a b o u}(h:H a=ζ o)(h':H b=ζ u)(d:o≠u):a≠b:=by
 ext e;subst e;rw[h] at h';calc d (ZX h')
theorem cW{H:Hp}{a b o}(h:H a=ζ o)(h':H b=η):a≠b:=by
 ext e;subst e;rw[h] at h';cases h'
section
variable(P:ψ)(w:ω)
def bg(H:Hp)(h:Α)(a:O):HO->Prop
 |.lst d=>↑d<=sizeLine/\∃(b:-ν)(n:Nat),Vals d b/\h.get? a=ζ {cls:=.type "list",data:=.seq b.toArray n}
 |.tup d=>↑d<=sizeLine/\∃b:-ν,Vals d b/\IsTup h a b.toArray
 |.dK c=>↑c<=sizeLine/\(a==sysModules)=ι/\∃k,KV c k/\h.DictOf (jY P w) a k
 |.dT c=>↑c<=sizeLine/\(a==sysModules)=ι/\∃d:-(-Key×O×ν),
   Paired (λ(p:-Key×V) (q:-Key×Addr×Value)=>p.1=q.1/\H q.2.1=ζ (.tup (p.1.map kV))/\RelV p.2 q.2.2) c d ∧
   ∃o l s,h.get? a=ζ o/\o.ExactDict/\o.data=.dict l s/\l.toList=d.map (entryOfKey (tupleKind (jY P w)))/\(d.map (·.1)).Nodup
 |.set S n=>h.SetOf (intKind P w) a S n
 |.ins C i g=>H i=ζ (.own a)/\↑g<=1000/\i≠a/\h.get? a=ζ (q1Z C i) ∧
   ∃e,h.Ns1 i e/\(∀f,e_ (g.lookup f) (e f))/\q5p e (g.map (·.1))
 |.own _=>∃o,h.get? a=ζ o
 |.xd g=>∃e,h.Ns1 a e/\∀f,e_ (g.lookup f) (e f)
 |.rng y z=>∃t u v,h.get? a=ζ {cls:=.type "range",data:=.fields #[.int y t,.int z u,.int 1 v]}
 |.frz o u=>h.get? a=ζ o/\bg H h a u
 |.tbl A=>h.get? a=ζ {cls:=.none,data:=.fields A}
 |.met f x=>h.get? a=ζ (PySem.W.methodObj (.ref f) (.ref x))
 |.ext j=>j h/\(∃o,h.get? a=ζ o)/\∀m r:Α,j m->(∀o,m.get? a=ζ o->r.get? a=ζ o)->j r
def dk(H:Hp)(h:Α):Prop:=∀a o,H a=ζ o->bg P w H h a o
end
section
variable{P:ψ}{w:ω}{H H':Hp}{h h':Α}{a:O}{o:HO}
theorem bg.lt(x:bg P w H h a o):a<h.objs.size:=by
 cases o with
 |lst c=>let⟨_,_,_,_,e⟩:0121:=x;exact OP e
 |tup c=>let⟨_,_,_,p⟩:=x;exact p.lt
 |dK b=>let⟨_,_,_,_,o,_,_,e,_⟩:021131:=x;exact OP e
 |dT b=>let⟨_,_,_,_,o,_,_,e,_⟩:021131:=x;exact OP e
 |set S n=>let⟨o,_,_,_,e,_⟩:41:=x;exact OP e
 |ins C g d=>let⟨_,_,_,e,_⟩:04:=x;exact OP e
 |own y=>let⟨_,e⟩:=x;exact OP e
 |xd d=>let⟨_,⟨_,_,_,e,_⟩,_⟩:=x;exact OP e
 |rng i j=>let⟨_,_,_,e⟩:3:=x;exact OP e
 |frz k u=>let⟨e,_⟩:=x;exact OP e
 |tbl l=>exact OP (x)
 |met f y=>exact OP (x)
 |ext m=>let⟨_,⟨_,e⟩,_⟩:02:=x;calc OP e
theorem Paired.pP{c d}{F G:c->d->Prop}:∀{l₁ l₂},Paired F l₁ l₂->(∀a b,F a b->G a b)->Paired G l₁ l₂
 |_,_,.nil,_=>.nil
 |_,_,.cons r t,f=>.cons (f _ _ r) (Paired.pP t f)
theorem bg.ee(x:bg P w H h a o)(k:∀b u,(b=a\/H b=ζ (.own a))->h.get? b=ζ u->h'.get? b=ζ u)
  (E:∀b,H b=ζ (.own a)->H' b=ζ (.own a)) (F:∀b xs,H b=ζ (.tup xs)->H' b=ζ (.tup xs)):bg P w H' h' a o:=by
 induction o with
 |lst m=>let⟨z,l,n,r,e⟩:0121:=x;exact⟨z,l,n,r,k _ _ (.inl Y) e⟩
 |tup m=>let⟨z,l,r,g,e,c⟩:=x;exact⟨z,l,r,g,k _ _ (.inl Y) e,c⟩
 |dK s=>let⟨z,y,G,r,g,i,j,e,c⟩:021131:=x;exact⟨z,y,G,r,g,i,j,k _ _ (.inl Y) e,c⟩
 |dT s =>
  let⟨z,y,m,r,g,i,j,e,c⟩:021131:=x;exact⟨z,y,m,Paired.pP r λp q z=>⟨z.1,F _ _ z.2.1,z.2.2⟩,g,i,j,k _ _ (.inl Y) e,c⟩
 |set S n=>let⟨g,i,j,t,e,c⟩:41:=x;exact(zI4 g i j t ⟨k _ _ (.inl Y) e,c⟩)
 |ins C M I =>
  let⟨d,z,J,e,A,⟨B,i,j,K,c⟩,r⟩:0411:=x;exact⟨E _ d,z,J,k _ _ (.inl Y) e,A,(zI3 B i j ⟨k _ _ (.inr d) K,c⟩),r⟩
 |own y=>let⟨g,e⟩:=x;exact⟨g,k _ _ (.inl Y) e⟩
 |xd I=>let⟨A,⟨B,i,j,e,c⟩,r⟩:=x;exact⟨A,(zI3 B i j ⟨k _ _ (.inl Y) e,c⟩),r⟩
 |rng N O=>let⟨t,u,v,e⟩:3:=x;exact(zI3 t u v (k _ _ (.inl Y) e))
 |frz g u L=>let⟨e,q⟩:=x;exact⟨k _ _ (.inl Y) e,L q⟩
 |tbl Q =>
  exact k a _ (.inl Y) x
 |met f y =>
  exact k a _ (.inl Y) x
 |ext R=>let⟨p,⟨o,e⟩,D⟩:02:=x;calc⟨D _ _ p λo q=>k _ _ (.inl Y) q,⟨o,k _ _ (.inl Y) e⟩,D⟩
theorem dk.lt(x:dk P w H h)(e:H a=ζ o):a<h.objs.size:=(x a o e).lt
theorem dk.fresh(x:dk P w H h)(e:h.objs.size<=a):H a=η:=by
 cases q:H a with
 |none=>rfl
 |some u=>calc absurd (ZA (x.lt q) e) ⋯
theorem dk.kept(x:dk P w H h)(k:∀b u,h.get? b=ζ u->h'.get? b=ζ u):dk P w H h':=λa o e =>
 (x a o e).ee (λb u _ q=>k b u q) (λ_ q=>q) λ_ _ q=>q
theorem dk.laid(x:dk P w H h)(k:∀b u,h.get? b=ζ u->h'.get? b=ζ u)(i:h.objs.size<=a)(d:bg P w (upd H a o) h' a o):dk P w (upd H a o) h':=λb u e=>by
 let f:=x.fresh i
 by_cases g:b=a
 .subst g;rw[bN] at e;cases e;exact d
 .rw[aQ g] at e
  calc(x b u e).ee (λc v _ q=>k c v q) (λc q=>by rw[aQ (cW q f)];calc q) λc j q=>by rw[aQ (cW q f)];calc q
end
def Rd(H:Hp)(a:O)(u:HO):Prop:=H a=ζ u\/∃o,H a=ζ (.frz o u)
theorem Rd.ok{P w H h a u}(r:Rd H a u)(x:dk P w H h):bg P w H h a u:=by
 rcases r with r|⟨o,r⟩
 .exact x a u r
 .let⟨_,q⟩:=x a _ r
  calc q
def sE:Option HO->Prop
 |some (.lst _)=>True
 |some (.dK _)=>True
 |some (.dT _)=>True
 |some (.set _ _)=>True
 |some (.ins _ _ _)=>True
 |some (.ext _)=>True
 |_=>False
section
variable{P:ψ}{w:ω}{H:Hp}{h h':Α}{x e:O}{o':HO}
theorem dk.write(n:dk P w H h)(mu:sE (H x))(he:e=x\/H e=ζ (.own x))(k:∀b u,b≠e->h.get? b=ζ u->h'.get? b=ζ u)(i:∃u,h'.get? e=ζ u)
  (j:bg P w (upd H x o') h' x o'):dk P w (upd H x o') h':=λb u q=>by
 let d:∀c y,H c=ζ (.own y)->c≠x:=λc y r z=>by subst z;rw[r] at mu;exact mu
 by_cases f:b=x
 .subst f;rw[bN] at q;cases q;exact j
 .rw[aQ f] at q
  by_cases a:b=e
  .let l:H b=ζ (.own x):=by
    rcases he with z|z
    .exact absurd (a.trans z) f
    .rw[a];exact z
   rw[q] at l;cases l;let⟨v,o⟩:=i;exact⟨v,by rw[a];calc o⟩
  .refine (n b u q).ee (λc v g r=>k c v ?_ r) (λc r=>by rw[aQ (d c b r)];calc r) λc m r=>by rw[aQ ((λc m r z=>by subst z;rw[r] at mu;calc mu) c m r)];exact r
   rcases g with rfl|g
   .exact a
   .ext rfl
    rcases he with z|z
    .exact d c b g z
    .rw[g] at z;cases z;calc f Y
end
structure Un(fs ex:-O)(H H':Hp)(h h':Α):Prop where
 keep:∀b o,h.get? b=ζ o->H b=η->b∉fs->b∉ex->h'.get? b=ζ o
 slot:∀b o,h.get? b=ζ o->H b=η->b∈fs->b∉ex->∃sl,h'.get? b=ζ {o with slots:=sl}
 free:∀b o,h.get? b=ζ o->H b=η->b∉ex->H' b=η
 there:∀b o,h.get? b=ζ o->b∉ex->∃o',h'.get? b=ζ o'
 dF:∀b xs,H b=ζ (.tup xs)->H' b=ζ (.tup xs)
 eE:∀b o u,H b=ζ (.frz o u)->H' b=ζ (.frz o u)
 fc:∀b ps,H b=ζ (.tbl ps)->∃more,H' b=ζ (.tbl (ps++more))
 eF:∀b xs o,H b=ζ (.tup xs)->h.get? b=ζ o->b∉ex->h'.get? b=ζ o
section
variable{fs MU ex Yw:-O}{H H1 H2:Hp}{h h1 h2 h':Α}{a x e:O}{o:HO}
theorem Un.any(u:Un fs ex H H1 h h1){b a}(q:h.get? b=ζ a)(n:H b=η)(c:b∉ex):∃e,h1.get? b=ζ {a with slots:=e}:=by
 by_cases d:b∈fs
 .exact u.slot b a q n d c
 .calc⟨a.slots,u.keep b a q n d c⟩
theorem Un.kept(k:∀b u,h.get? b=ζ u->h'.get? b=ζ u):Un fs ex H H h h' :=
 ⟨λb a q _ _ _=>k b a q,λb a q _ _ _=>⟨a.slots,k b a q⟩,λ_ _ _ n _=>n,λb a q _=>⟨a,k b a q⟩,λ_ _ q=>q,λ_ _ _ q=>q,λ_ c q=>⟨#[],by rw[q];simp⟩,λb _ u _ q _=>k b u q⟩
theorem Un.refl:Un fs ex H H h h:=Un.kept λ_ _ q=>q
theorem Un.laid(k:∀b u,h.get? b=ζ u->h'.get? b=ζ u)(c:h.objs.size<=a)(hn:H a=η):Un fs ex H (upd H a o) h h' where
 keep:=λb u q _ _ _=>k b u q
 slot:=λb u q _ _ _=>⟨u.slots,k b u q⟩
 free:=λb u q n _=>by rw[aQ (Zy (ZA (OP q) c))];exact n
 there:=λb u q _=>⟨u,k b u q⟩
 dF:=λb d q=>by rw[aQ (cW q hn)];exact q
 eE:=λb u d q=>by rw[aQ (cW q hn)];exact q
 fc:=λb e q=>⟨#[],by rw[aQ (cW q hn),q];simp⟩
 eF:=λb _ u _ q _=>k b u q
theorem Un.write(mu:sE (H x))(he:e=x\/H e=ζ (.own x))(k:∀b u,b≠e->h.get? b=ζ u->h'.get? b=ζ u)(d:∃u,h'.get? e=ζ u):Un fs ex H (upd H x o) h h':=by
 let f:∀b,H b=η->b≠x:=λb n z=>by subst z;rw[n] at mu;exact mu
 let g:∀b,H b=η->b≠e:=λb n z=>by
  subst z;rcases he with r|r
  .exact f b n r
  .rw[n] at r;cases r
 let c:∀b u,H b=ζ u->¬ sE (ζ u)->b≠x:=λb u q j z=>by subst z;rw[q] at mu;exact j mu
 refine⟨λb u q n _ _=>k b u (g b n) q,λb u q n _ _=>⟨u.slots,k b u (g b n) q⟩,λb u q n _=>by rw[aQ (f b n)];calc n,λb u q _=>?_,
  λb i q=>by rw[aQ (c b _ q λz=>z)];calc q,λb u i q=>by rw[aQ (c b _ q λz=>z)];calc q,λb l q=>⟨#[],by rw[aQ (c b _ q λz=>z),q];simp⟩,λb i u q e _=>k b u (λz=>by
   subst z;rcases he with r|r
   .exact c b _ q (λz=>z) r
   .rw[q] at r;cases r) e⟩
 by_cases a:b=e
 .subst a;exact d
 .calc⟨u,k b u a q⟩
end
meta def ya(h:Α)(H:Hp):-O:=(Z1 h.objs.size).filter λa=>(H a).isSome
meta def gx(h:Α)(H:Hp):Α:=PySem.W.hideAll h (ya h H)
theorem MV h H:(gx h H).objs.size=h.objs.size:=PySem.W.hideAll_size _ _
theorem MW{h H b o}(e:h.get? b=ζ o)(n:H b=η):(gx h H).get? b=ζ o :=
 PySem.W.hideAll_get _ e λa=>by
  let q:=(q1y.mp a).2;rw[n] at q;simp at q
theorem EZ{h H b o}(e:(gx h H).get? b=ζ o):h.get? b=ζ o/\H b=η:=by
 let a:=PySem.W.of_hideAll (ya h H) e;refine⟨a,?_⟩
 cases q:H b with
 |none=>rfl
 |some x =>
  let z:(gx h H).get? b=η:=PySem.W.hideAll_none (ya h H) (q1y.mpr ⟨Z9.mpr (OP a),by simp[q]⟩);rw[z] at e;cases e
structure Mod(K:vL)(mg:Z->Option ν)(base:Α):Prop where
 l9:K.In base
 glob:base.Ns mainGlobals mg
 blt:∃mb,base.Ns builtinsNs mb/\∀x:Z,x≠"__name__" -> mb x=bootBuiltins x
 nolimit:base.NoLimit
structure Cx where
 prog:ψ
 w:ω
 K:vL
 mg:Z->Option ν
 base:Α
 A:Β
 N:-Z
 s₀:ο
 H₀:Hp
 env:Ε
 outer:-Ε
 stack:-Ε
 ex:-O
 fn:Z->Bool
 calm:Bool
 pn:-(O×Obj)
 xe:ν->ο->Prop
meta def fg(l:-Ε):-O:=l.filterMap (·.frame)
meta abbrev Cx.fs(X:Cx):-O:=fg X.outer
def qX(a:Γ)(x:Z):Prop:=a.names.lookup x=ζ .local\/a.names.lookup x=ζ .cell\/a.names.lookup x=ζ .free
def Loc(a:Γ)(x:Z):Prop:=a.names.lookup x=ζ .local\/a.names.lookup x=ζ .cell
abbrev bF(x:Z):Prop:=(x==("__debug__" : Z))=ι
abbrev fK(X:Cx)(x:Z):Prop:=X.fn x=θ\/X.env.scope.names.lookup x=ζ .local
abbrev b7(X:Cx)(e:υ)(es:-υ):Prop:=starEach (e::es) X.env=(ι,eval e X.env)::starEach es X.env
abbrev cm(X:Cx)(p:Δ)(es:-υ):Prop:=(backTo p (starEach es X.env)).any (·.1)=ι
abbrev aF:=-(O×Obj)
def Look(env:Ε)(h:Α)(m:Z->Option ν)(x:Z)(u:ν):Prop :=
 (env.kindOf x=ζ .local/\m x=ζ u)\/((env.kindOf x=ζ .cell\/env.kindOf x=ζ .free)/\∃c,env.cells.lookup x=ζ c/\h.IsCell c (ζ u))
structure Cx.Ok(X:Cx):Prop where
 mod:Mod X.K X.mg X.base
 kind:X.env.scope.kind=.function
 glob:X.env.globals=mainGlobals
 blt:X.env.builtins=builtinsNs
 above:⇑X.s₀<=X.env.locals
 inj:∀x y c,X.env.cells.lookup x=ζ c->X.env.cells.lookup y=ζ c->x=y
 has:∀x,(X.env.kindOf x=ζ .cell\/X.env.kindOf x=ζ .free)->∃c,X.env.cells.lookup x=ζ c
 mR:∀x c,X.fn x=θ->X.env.cells.lookup x=ζ c->⇑X.s₀<=c
 hd:X.calm=θ->X.A.handled=η
 frames:X.A.frames=ζ X.stack
 pQ:X.stack=X.outer\/(X.stack=X.env::X.outer/\X.env.frame=ζ X.env.locals)
 sF:∀b∈X.ex,b≠X.env.locals/\∀x c,X.env.cells.lookup x=ζ c->c≠b
 bs:∀b o,X.base.get? b=ζ o->X.s₀.heap.get? b=ζ o/\(X.H₀ b=η\/∃xs,X.H₀ b=ζ (.tup xs))
 kB:X.base.objs.size<=⇑X.s₀
 g8:∀b o,X.base.get? b=ζ o->b∉X.ex
 ji:∀b∈X.ex,b∉X.fs
 dX:X.s₀.heap.FunFrames X.base X.outer
 kU:∀b∈X.fs,X.H₀ b=η
structure Inv(X:Cx)(pins:aF)(σ:-(Option V))(H:Hp)(s:ο):Prop where
 ok:X.Ok
 os:s.os=X.s₀.os
 bare:AllBare s.gens
 base:Un X.fs X.ex X.H₀ H X.s₀.heap s.heap
 loc:∃m,s.heap.Ns X.env.locals m/\∀(i:Nat)(x:Z)(v:V),X.N[i]?=ζ x->σ[i]?=ζ (ζ v)->qX X.env.scope x->∃u,RelV v u/\Look X.env s.heap m x u
 cell:∀x c,X.env.cells.lookup x=ζ c->∃v,s.heap.IsCell c v
 free:H X.env.locals=η
 b8:∀x c,X.env.cells.lookup x=ζ c->H c=η
 pin:∀p∈X.pn++pins,s.heap.get? p.1=ζ p.2/\H p.1=η/\p.1≠X.env.locals/\p.1∉X.fs/\∀v,p.2.data≠.cell v
 bc:dk X.prog X.w H s.heap
 len:↑σ=↑X.N
section
variable{X:Cx}{pins:aF}{σ:-(Option V)}{H H':Hp}{s:ο}{h':Α}
theorem Cx.Ok.yb(a:X.Ok){b o}(e:X.base.get? b=ζ o):b∉X.fs:=λc=>by
 let:=(a.dX.mem c).1;rw[e] at this;cases this
theorem Inv.bs(I:Inv X pins σ H s):∀b o,X.base.get? b=ζ o->s.heap.get? b=ζ o/\(H b=η\/∃xs,H b=ζ (.tup xs)):=λb o e=>by
 obtain⟨d,a|⟨c,a⟩⟩:=I.ok.bs b o e
 .exact⟨I.base.keep b o d a (I.ok.yb e) (I.ok.g8 b o e),.inl (I.base.free b o d a (I.ok.g8 b o e))⟩
 .calc⟨I.base.eF b c o a d (I.ok.g8 b o e),.inr ⟨c,I.base.dF b c a⟩⟩
theorem Inv.bk(I:Inv X pins σ H s):∀b o,X.base.get? b=ζ o->s.heap.get? b=ζ o:=λb o e=>(I.bs b o e).1
theorem Inv.mod(I:Inv X pins σ H s):Mod X.K X.mg X.base:=I.ok.mod
theorem Inv.de(I:Inv X pins σ H s):X.K.In s.heap:=I.ok.mod.l9.keeps I.bk
theorem Inv.nolimit(I:Inv X pins σ H s):s.heap.NoLimit:=I.ok.mod.nolimit.keeps I.bk
theorem Inv.lt(I:Inv X pins σ H s):X.env.locals<⇑s:=let⟨_,a,_⟩:=I.loc;a.lt
theorem Inv.sz(I:Inv X pins σ H s):⇑X.s₀<=⇑s:=Z0 I.ok.above (q0Z I.lt)
theorem Inv.yc(I:Inv X pins σ H s){a:O}(h:⇑s<=a):a∉X.fs:=λb=>by
 let⟨_,o,c,_⟩:=I.ok.dX.mem b;calc absurd (ZA (OP c) (Z0 I.sz h)) ⋯
theorem Inv.sG(I:Inv X pins σ H s):∀x c,X.env.cells.lookup x=ζ c->c≠X.env.locals:=λx c e z=>by
 let⟨v,o,d,f⟩:21:=I.cell x c e;let⟨m,⟨o',g,h,a,b,_⟩,_⟩:=I.loc;rw[z,a] at d;cases d;rw[b] at f;cases f
theorem Inv.dX(I:Inv X pins σ H s):s.heap.FunFrames X.base X.outer:=by
 let a:∀l,(∀b∈fg l,b∈X.fs)->X.s₀.heap.FunFrames X.base l->s.heap.FunFrames X.base l:=by
  ext l
  induction l with
  |nil=>ext _ _;trivial
  |cons h r i =>
   ext g j;let⟨k,⟨L,o,c,m,n,p⟩,q⟩:02:=j;let d:=g L (by unfold fg;rw[q07,c];calc YB);let⟨t,e⟩:=I.base.slot L o n (I.ok.kU L d) d λz=>I.ok.ji L z d;exact⟨k,(zI2 L _ ⟨c,m,e,p⟩),i (λb f=>g b (by unfold fg;rw[q07,c];calc Yz _ f)) q⟩
 calc a X.outer (λ_ f=>f) I.ok.dX
theorem Inv.stack(I:Inv X pins σ H s):s.heap.FunFrames X.base X.stack:=by
 rcases I.ok.pQ with e|⟨e,a⟩
 .rw[e];exact I.dX
 .rw[e]
  let⟨m,b,_⟩:=I.loc;calc .cons (by rw[I.ok.kind];decide) a b (q17 (Z0 I.ok.kB I.ok.above)) I.dX
theorem Inv.g9(I:Inv X pins σ H s):∀b∈fg X.stack,b∈X.env.locals::X.fs:=λb a=>by
 rcases I.ok.pQ with e|⟨e,c⟩
 .rw[e] at a;exact Yz _ a
 .rw[e] at a
  unfold fg at a;rw[q07,c] at a;calc a
theorem Inv.eG(I:Inv X pins σ H s):∀b∈fg X.stack,H b=η:=λb a=>by
 rcases OQ.mp (I.g9 b a) with e|a
 .rw[e];exact I.free
 .let⟨_,o,c,_⟩:=I.ok.dX.mem a
  calc I.base.free b o c (I.ok.kU b a) λz=>I.ok.ji b z a
theorem Inv.step{T:Array GenState}{t':Nat}{Z:Drawn}{ch:-ξ}(I:Inv X pins σ H s)
  (h:∀b∈ch,(b∈X.ex\/⇑X.s₀<=b)/\b≠X.env.locals/\(∀x c,X.env.cells.lookup x=ζ c->c≠b)/\∀p∈X.pn++pins,p.1≠b)
  (j:∀b o,b≠X.env.locals->b∉X.fs->b∉ch->s.heap.get? b=ζ o->H b=η->h'.get? b=ζ o)
  (C:∀b o,b≠X.env.locals->b∈X.fs->b∉ch->s.heap.get? b=ζ o->H b=η->∃O,h'.get? b=ζ {o with slots:=O}) (f:∀b o,b∉ch->s.heap.get? b=ζ o->H b=η->H' b=η)
  (E:∀b o,b∉ch->s.heap.get? b=ζ o->∃o',h'.get? b=ζ o')
  (J:∀b xs,H b=ζ (.tup xs)->H' b=ζ (.tup xs)) (K:∀b o u,H b=ζ (.frz o u)->H' b=ζ (.frz o u)) (L:∀b ps,H b=ζ (.tbl ps)->∃more,H' b=ζ (.tbl (ps++more)))
  (M:∀b xs o,H b=ζ (.tup xs)->s.heap.get? b=ζ o->b∉ch->h'.get? b=ζ o)
  (ns:∀m,s.heap.Ns X.env.locals m->h'.Ns X.env.locals m) (Q:dk X.prog X.w H' h') (hg:AllBare T) :
  Inv X pins σ H' {s with heap:=h',gens:=T,drawn:=Z,toks:=t'}:=by
 let N:∀b o,X.s₀.heap.get? b=ζ o->b≠X.env.locals:=λb o e=>Zy (ZA (OP e) I.ok.above)
 let t:∀b o,X.s₀.heap.get? b=ζ o->b∉X.ex->b∉ch:=λb o e a F=>by
  rcases(h b F).1 with z|z
  .exact a z
  .exact absurd (ZA (OP e) z) ⋯
 let A:∀x c,X.env.cells.lookup x=ζ c->∀v,s.heap.IsCell c v->h'.IsCell c v:=λx c e v ⟨o,G,R⟩↦by
  let y:=λz=>(h c z).2.2.1 x c e rfl
  by_cases U:c∈X.fs
  .let⟨O,q⟩:=C c o (I.sG x c e) U y G (I.b8 x c e)
   exact⟨_,q,R⟩
  .exact⟨o,j c o (I.sG x c e) U y G (I.b8 x c e),R⟩
 refine⟨I.ok,I.os,hg,⟨λb o e n F a=>?_,λb o e n F a=>?_,λb o e n a=>?_,λb o e a=>?_,λb B e=>J b B (I.base.dF b B e),λb o B e=>K b o B (I.base.eE b o B e),λb ps e=>?_,λb B o g D a=>M b B o (I.base.dF b B g) (I.base.eF b B o g D a) (t b o D a)⟩,?_,λx c e=>?_,?_,λx c e=>?_,λp V=>?_,Q,I.len⟩
 .exact j b o (N b o e) F (t b o e a) (I.base.keep b o e n F a) (I.base.free b o e n a)
 .let⟨O,g⟩:=I.base.slot b o e n F a
  let⟨S,D⟩:1:=C b _ (N b o e) F (t b o e a) g (I.base.free b o e n a);exact⟨S,D⟩
 .let⟨P,g⟩:=I.base.there b o e a
  exact f b P (t b o e a) g (I.base.free b o e n a)
 .let⟨P,g⟩:=I.base.there b o e a
  exact E b P (t b o e a) g
 .let⟨m1,g⟩:=I.base.fc b ps e
  let⟨m2,D⟩:=L b _ g;exact⟨m1++m2,by rw[D,Array.append_assoc]⟩
 .let⟨m,hn,hl⟩:=I.loc
  calc⟨m,ns m hn,λi x v g D e3=>?_⟩;let⟨u,r,l⟩:=hl i x v g D e3;calc⟨u,r,?_⟩;rcases l with l|⟨k,c,e,z⟩
  .exact .inl l
  .exact .inr ⟨k,c,e,A x c e _ z⟩
 .let⟨v,z⟩:=I.cell x c e
  exact⟨v,A x c e v z⟩
 .let⟨m,⟨o,_,_,G,_⟩,_⟩:=I.loc
  exact f _ o (λz=>(h _ z).2.1 rfl) G I.free
 .let⟨v,o,G,R⟩:=I.cell x c e
  exact f c o (λz=>(h c z).2.2.1 x c e rfl) G (I.b8 x c e)
 .let⟨e,n,W,Y,d⟩:04:=I.pin p V
  let y:=λz=>(h p.1 z).2.2.2 p V rfl;calc⟨j p.1 p.2 W Y y e n,f p.1 p.2 y e n,W,Y,d⟩
theorem Inv.un{t':Nat}(I:Inv X pins σ H s)(u:Un X.fs [] H H' s.heap h')(c:dk X.prog X.w H' h'):Inv X pins σ H' {s with heap:=h',toks:=t'}:=by
 let⟨m,⟨o,p,t,h,r⟩,_⟩:=id I.loc;let⟨v,i⟩:=u.any h I.free (by simp)
 exact I.step   (ch:=[]) (λ_ z=>nomatch z) (λb o _ d _ e n=>u.keep b o e n d (by simp)) (λb o _ d _ e n=>u.slot b o e n d (by simp)) (λb o _ e n=>u.free b o e n (by simp)) (λb o _ e=>u.there b o e (by simp)) u.dF u.eE u.fc (λb j o q e _=>u.eF b j o q e (by simp)) (λx k=>by
  let⟨o',f,g,a,l⟩:31:=k;rw[h] at a;cases a
  calc(zI3 _ f g ⟨i,l⟩)) c I.bare
theorem Inv.call{k:Array GenState}{t':Nat}{t:Drawn}{ch:-O}(I:Inv X pins σ H s)(u:Un (fg X.stack) ch H H' s.heap h')(g:dk X.prog X.w H' h')(v:AllBare k)
  (d:∀b∈ch,(b∈X.ex\/⇑X.s₀<=b)/\b≠X.env.locals/\(∀x c,X.env.cells.lookup x=ζ c->c≠b)/\∀p∈X.pn++pins,p.1≠b) :
  Inv X pins σ H' {s with heap:=h',gens:=k,drawn:=t,toks:=t'}:=by
 let⟨m,⟨o,D,E,l,r⟩,_⟩:=id I.loc;let⟨F,h⟩:=u.any l I.free λz=>(d _ z).2.1 Y
 exact I.step  d (λb o h y a e n=>u.keep b o e n (λz=>(OQ.mp (I.g9 b z)).elim h y) a) (λb o _ _ a e n=>u.any e n a) (λb o a e n=>u.free b o e n a) (λb o a e=>u.there b o e a) u.dF u.eE u.fc (λb A o q e a=>u.eF b A o q e a) (λG B=>by
  let⟨o',i,j,f,C⟩:31:=B;rw[l] at f;cases f
  calc(zI3 _ i j ⟨h,C⟩)) g v
theorem Inv.turned{t':Nat}{a:O}(I:Inv X pins σ H s)(k:∀b o,b≠a->s.heap.get? b=ζ o->h'.get? b=ζ o)(hn:H a=η)(g:a≠X.env.locals)
  (h:a∈X.ex\/⇑X.s₀<=a) (i:∀x c,X.env.cells.lookup x=ζ c->c≠a) (j:∀p∈X.pn++pins,p.1≠a):Inv X pins σ H {s with heap:=h',toks:=t'}:=by
 let f:∀b u,H b=ζ u->b≠a:=λb u e z=>by rw[z,hn] at e;cases e
 refine I.step   (ch:=[a]) (λb l=>?_) (λb o _ _ d e _=>k b o (λz=>d (by simp[z])) e) (λb o _ _ d e _=>⟨o.slots,k b o (λz=>d (by simp[z])) e⟩) (λ_ _ _ _ n=>n)
  (λb o d e=>⟨o,k b o (λz=>d (by simp[z])) e⟩) (λ_ _ e=>e) (λ_ _ _ e=>e) (λb B e=>⟨#[],by rw[e];simp⟩) (λb _ o _ e d=>k b o (λz=>d (by simp[z])) e) (λm t=>?_) (λb u e=>?_) I.bare
 .let e:=by simpa using l
  subst e;exact⟨h,g,i,j⟩
 .let⟨o,w,y,A,r⟩:31:=t
  exact(zI3 o w y ⟨k _ o (q02 g) A,r⟩)
 .refine (I.bc b u e).ee (λc v d q=>k c v ?_ q) (λ_ q=>q) λ_ _ q=>q
  rcases d with z|z
  .rw[z];exact f b u e
  .calc f c _ z
theorem Inv.tok(I:Inv X pins σ H s)(t:Nat):Inv X pins σ H {s with toks:=t}:=I.un   Un.refl I.bc
theorem Inv.kept{t':Nat}(I:Inv X pins σ H s)(k:∀b u,s.heap.get? b=ζ u->h'.get? b=ζ u):Inv X pins σ H {s with heap:=h',toks:=t'}:=I.un (Un.kept k) (I.bc.kept k)
theorem Inv.laid{a:O}{o:HO}{t':Nat}(I:Inv X pins σ H s)(k:∀b u,s.heap.get? b=ζ u->h'.get? b=ζ u)(c:⇑s<=a)(d:bg X.prog X.w (upd H a o) h' a o):
  Inv X pins σ (upd H a o) {s with heap:=h',toks:=t'}:=I.un (Un.laid k c (I.bc.fresh c)) (I.bc.laid k c d)
theorem Inv.write{x e:O}{o:HO}{t':Nat}(I:Inv X pins σ H s)(mu:sE (H x))(he:e=x\/H e=ζ (.own x))(k:∀b u,b≠e->s.heap.get? b=ζ u->h'.get? b=ζ u)(a:∃u,h'.get? e=ζ u)
  (c:bg X.prog X.w (upd H x o) h' x o):Inv X pins σ (upd H x o) {s with heap:=h',toks:=t'}:=I.un (Un.write mu he k a) (I.bc.write mu he k a c)
theorem Inv.fV{a:aF}(I:Inv X pins σ H s)(h:∀p∈a,s.heap.get? p.1=ζ p.2/\H p.1=η/\p.1≠X.env.locals/\p.1∉X.fs/\∀v,p.2.data≠.cell v):Inv X a σ H s :=
 ⟨I.ok,I.os,I.bare,I.base,I.loc,I.cell,I.free,I.b8,λp b=>(ZT.mp b).elim (λz=>I.pin p (q0h _ z)) (h p),I.bc,I.len⟩
theorem yd{N:-Z}(c:N.Nodup){i j:Nat}{x:Z}(a:N[i]?=ζ x)(b:N[j]?=ζ x):i=j:=by
 let⟨f,d⟩:=ri.mp a;let⟨g,e⟩:=ri.mp b;calc(q2X c).mp (d.trans e.symm)
theorem E4{M:Model}{A:Β}{E:br}{i:Nat}{x:π}{v:V}{u:ν}{Q:Unit->ο->Prop}(I:Inv X pins σ H s)(hN:X.N.Nodup)(R:X.N[i]?=ζ x)(l:Loc X.env.scope x)(r:RelV v u)
  (h:∀s',Inv X pins (σ.set i (ζ v)) H s'->(∃a,q1T a s.heap s'.heap/\(a=X.env.locals\/X.env.cells.lookup x=ζ a))->Q () s') (hf:autoParam (fK X x) qz4._auto_1):ρ M A (storeName X.env x u) Q E s:=by
 let⟨m,hn,hl⟩:=id I.loc;let S:(X.env.scope.kind==.class||(X.env.scope.kind==.module&&X.env.locals != X.env.globals))=ι:=by rw[I.ok.kind];rfl
 let G:i<↑σ:=by rw[I.len];exact(ri.mp R).1
 let K:=I.sG
 let t:∀{a P},(∃o,s.heap.get? a=ζ o/\H a=η)->q1T a s.heap P->dk X.prog X.w H P:=λ{a P} ha f b ob e=>by
  let⟨_,_,C⟩:=ha;calc(I.bc b ob e).ee (λc Z B q=>(f.2 c ?_).trans q) (λ_ q=>q) λ_ _ q=>q;ext rfl;rcases B with rfl|B
  .rw[C] at e;cases e
  .rw[C] at B;cases B
 rcases l with J|J
 .refine wpAny_storeName_local J hn (λP MX f=>?_) S
  let⟨oL,_,_,MY,_⟩:31:=id hn;refine h _ ⟨I.ok,I.os,I.bare,⟨λb o e n L l=>?_,λb o e n L l=>?_,I.base.free,λb o e l=>?_,I.base.dF,I.base.eE,I.base.fc,λb xs o g e l=>(f.2 b (Zy (ZA (OP e) I.ok.above))).trans (I.base.eF b xs o g e l)⟩,⟨_,MX,λj y v' g D e3=>?_⟩,λy c e=>?_,I.free,I.b8,λp hp=>?_,t ⟨oL,MY,I.free⟩ f,by simpa using I.len⟩ ⟨_,f,.inl rfl⟩
  .exact (f.2 b (Zy (ZA (OP e) I.ok.above))).trans (I.base.keep b o e n L l)
  .let⟨sl,g⟩:=I.base.slot b o e n L l
   exact⟨sl,(f.2 b (Zy (ZA (OP e) I.ok.above))).trans g⟩
  .let⟨o',g⟩:=I.base.there b o e l
   exact⟨o',(f.2 b (Zy (ZA (OP e) I.ok.above))).trans g⟩
  .by_cases O:j=i
   .subst O
    rw[R] at g;cases g;rw[q0a G] at D;cases D
    exact⟨u,r,.inl ⟨J,by simp⟩⟩
   .rw[q0i (q02 O)] at D
    let⟨u',r',q⟩:=hl j y v' g D e3;calc⟨u',r',?_⟩;rcases q with⟨k,e⟩|⟨k,c,e,z⟩
    .refine .inl ⟨k,?_⟩
     let:y≠x:=λe=>O (yd hN g (e▸R));simp[this,e]
    .exact .inr ⟨k,c,e,z.sameBut f (K y c e)⟩
  .let⟨Z,z⟩:=I.cell y c e
   exact⟨Z,z.sameBut f (K y c e)⟩
  .let⟨e,n,ne,nf,d⟩:04:=I.pin p hp
   exact⟨(f.2 p.1 ne).trans e,n,ne,nf,d⟩
 .let F:X.fn x=θ:=by
   rcases hf with z|z
   .exact z
   .rw[z] at J;cases J
  let⟨c,B⟩:=I.ok.has x (.inl J);let⟨Z,z⟩:=I.cell x c B;calc wpAny_storeName_cell I.ok.kind J B z (λP T f=>?_);let⟨oc,U,W⟩:=id z;refine h {s with heap:=P} ⟨I.ok,I.os,I.bare,⟨λb o e n L l=>?_,λb o e n L l=>?_,I.base.free,λb o e l=>?_,I.base.dF,I.base.eE,I.base.fc,λb xs o g e l=>(f.2 b (Zy (ZA (OP e) (I.ok.mR x c F B)))).trans (I.base.eF b xs o g e l)⟩,⟨m,hn.sameBut f (q02 (K x c B)),λj y v' g D e3=>?_⟩,λy c' e=>?_,I.free,I.b8,λp hp=>?_,t ⟨oc,U,I.b8 x c B⟩ f,by simpa using I.len⟩ ⟨c,f,.inr B⟩
  .exact (f.2 b (Zy (ZA (OP e) (I.ok.mR x c F B)))).trans (I.base.keep b o e n L l)
  .let⟨sl,g⟩:=I.base.slot b o e n L l
   exact⟨sl,(f.2 b (Zy (ZA (OP e) (I.ok.mR x c F B)))).trans g⟩
  .let⟨o',g⟩:=I.base.there b o e l
   exact⟨o',(f.2 b (Zy (ZA (OP e) (I.ok.mR x c F B)))).trans g⟩
  .by_cases O:j=i
   .subst O
    rw[R] at g;cases g;rw[q0a G] at D;cases D
    exact⟨u,r,.inr ⟨.inl J,c,B,T⟩⟩
   .rw[q0i (q02 O)] at D
    let⟨u',r',q⟩:=hl j y v' g D e3;calc⟨u',r',?_⟩;rcases q with q|⟨k,c',e,z'⟩
    .exact .inl q
    .refine .inr ⟨k,c',e,z'.sameBut f ?_⟩
     ext rfl;exact O (yd hN g (I.ok.inj _ _ _ e B▸R))
  .by_cases Y:c'=c
   .subst Y;exact⟨_,T⟩
   .let⟨w2,z2⟩:=I.cell y c' e
    exact⟨w2,z2.sameBut f Y⟩
  .let⟨e,n,ne,nf,d⟩:04:=I.pin p hp
   calc⟨(f.2 p.1 ?_).trans e,n,ne,nf,d⟩;ext q;rw[q,U] at e;calc d Z (by rw[<-(ZX e)];calc W)
theorem vA{M:Model}{A:Β}{E:br}{i:Nat}{x:Z}{v:V}{u:ν}{Q:Unit->ο->Prop}(I:Inv X pins σ H s)(a:X.N.Nodup)(b:X.N[i]?=ζ x)(c:Loc X.env.scope x)(r:RelV v u)
  (h:∀s',Inv X pins (σ.set i (ζ v)) H s'->Q () s') (e:autoParam (fK X x) qz1._auto_1):ρ M A (storeName X.env x u) Q E s :=
 E4 I a b c r (λd f _=>h d f) e
theorem Inv.jC{s':ο}{ch:-O}(I:Inv X pins σ H s)(e:s'.os=s.os)(u:Un (fg X.stack) ch H H' s.heap s'.heap)(a:dk X.prog X.w H' s'.heap)(f:AllBare s'.gens)
  (d:∀b∈ch,(b∈X.ex\/⇑X.s₀<=b)/\b≠X.env.locals/\(∀x c,X.env.cells.lookup x=ζ c->c≠b)/\∀p∈X.pn++pins,p.1≠b):Inv X pins σ H' s':=by
 let⟨g,h,i,j,k⟩:=s';subst e;calc I.call    u a f d
end
abbrev XK:=ν->Option O->Hp->Prop
abbrev St:=-(Option V)
abbrev VK:=V->Hp->Prop
abbrev TE:=St->Hp->VK->Prop
abbrev TT:=St->Hp->(Bool->Hp->Prop)->Prop
abbrev TA:=St->Hp->(-V->Hp->Prop)->Prop
structure Ends where
 nx:St->Hp->Prop
 rt:VK
 bk:St->Hp->Prop:=λ_ _=>False
 ct:St->Hp->Prop:=λ_ _=>False
abbrev TS:=Ends->St->Hp->Prop
inductive EP (X:Cx) (pins:aF) (σ:St) (Q:VK) (u:ν) (s':ο):Prop
 |mk (v:V) (H':Hp) (I:Inv X pins σ H' s') (r:RelV v u) (q:Q v H')
def TP(X:Cx)(a:aF)(d:St)(Q:Bool->Hp->Prop)(b:Bool)(s':ο):Prop:=∃c,Inv X a d c s'/\Q b c
inductive AP (X:Cx) (pins:aF) (σ:St) (Q:-V->Hp->Prop) (us:-ν) (s':ο):Prop
 |mk (vs:-V) (H':Hp) (I:Inv X pins σ H' s') (r:Vals vs us) (q:Q vs H')
def SP(X:Cx)(b:aF)(D:Ends)(f:Flow)(s':ο):Prop :=
 match f with
 |.next=>∃a c,Inv X b a c s'/\D.nx a c
 |.brk=>∃a c,Inv X b a c s'/\D.bk a c
 |.cont=>∃a c,Inv X b a c s'/\D.ct a c
 |.ret u=>∃v a c,Inv X b a c s'/\RelV v u/\D.rt v c
structure JE(X:Cx)(e:υ)(t:TE):Prop where
 out:∀(pins:aF)(s:ο)(σ:St)(H:Hp)(Q:VK),Inv X pins σ H s->t σ H Q->ρ (ς X.prog X.w) X.A (eval e X.env) (EP X pins σ Q) X.xe s
instance {X:Cx} {e:υ} {t:TE}:CoeFun (JE X e t) (λ_=>∀(pins:aF)(s:ο)(σ:St)(H:Hp)(Q:VK),Inv X pins σ H s->t σ H Q->ρ (ς X.prog X.w) X.A (eval e X.env) (EP X pins σ Q) X.xe s):=⟨JE.out⟩
structure JT(X:Cx)(e:υ)(t:TT):Prop where
 out:∀(pins:aF)(s:ο)(σ:St)(H:Hp)(Q:Bool->Hp->Prop),Inv X pins σ H s->t σ H Q->ρ (ς X.prog X.w) X.A (isTrue e X.env (eval e X.env)) (TP X pins σ Q) X.xe s
instance {X:Cx} {e:υ} {t:TT}:CoeFun (JT X e t) (λ_=>∀(pins:aF)(s:ο)(σ:St)(H:Hp)(Q:Bool->Hp->Prop),Inv X pins σ H s->t σ H Q->ρ (ς X.prog X.w) X.A (isTrue e X.env (eval e X.env)) (TP X pins σ Q) X.xe s):=⟨JT.out⟩
structure JW(X:Cx)(e:υ)(t:TT):Prop where
 out:∀(whole:Sem ν)(pins:aF)(s:ο)(σ:St)(H:Hp)(Q:Bool->Hp->Prop),Inv X pins σ H s->t σ H Q->ρ (ς X.prog X.w) X.A (isTrue e X.env whole) (TP X pins σ Q) X.xe s
instance {X:Cx} {e:υ} {t:TT}:CoeFun (JW X e t) (λ_=>∀(whole:Sem ν)(pins:aF)(s:ο)(σ:St)(H:Hp)(Q:Bool->Hp->Prop),Inv X pins σ H s->t σ H Q->ρ (ς X.prog X.w) X.A (isTrue e X.env whole) (TP X pins σ Q) X.xe s):=⟨JW.out⟩
theorem JW.jt{X:Cx}{e:υ}{t:TT}(h:JW X e t):JT X e t:=⟨h.out _⟩
structure JA(X:Cx)(es:-υ)(t:TA):Prop where
 out:∀(pos:Δ)(pins:aF)(s:ο)(σ:St)(H:Hp)(Q:-V->Hp->Prop),Inv X pins σ H s->t σ H Q->ρ (ς X.prog X.w) X.A (spliced (backTo pos (starEach es X.env))) (AP X pins σ Q) X.xe s
instance {X:Cx} {es:-υ} {t:TA}:CoeFun (JA X es t) (λ_=>∀(pos:Δ)(pins:aF)(s:ο)(σ:St)(H:Hp)(Q:-V->Hp->Prop),Inv X pins σ H s->t σ H Q->ρ (ς X.prog X.w) X.A (spliced (backTo pos (starEach es X.env))) (AP X pins σ Q) X.xe s):=⟨JA.out⟩
structure JS(X:Cx)(st:χ)(t:TS):Prop where
 out:∀(pins:aF)(s:ο)(σ:St)(H:Hp)(D:Ends),Inv X pins σ H s->t D σ H->ρ (ς X.prog X.w) X.A (exec st X.env) (SP X pins D) X.xe s
instance {X:Cx} {st:χ} {t:TS}:CoeFun (JS X st t) (λ_=>∀(pins:aF)(s:ο)(σ:St)(H:Hp)(D:Ends),Inv X pins σ H s->t D σ H->ρ (ς X.prog X.w) X.A (exec st X.env) (SP X pins D) X.xe s):=⟨JS.out⟩
structure cV(X:Cx)(st:-χ)(t:TS):Prop where
 out:∀(pins:aF)(s:ο)(σ:St)(H:Hp)(D:Ends),Inv X pins σ H s->t D σ H->ρ (ς X.prog X.w) X.A (execs st X.env) (SP X pins D) X.xe s
instance {X:Cx} {st:-χ} {t:TS}:CoeFun (cV X st t) (λ_=>∀(pins:aF)(s:ο)(σ:St)(H:Hp)(D:Ends),Inv X pins σ H s->t D σ H->ρ (ς X.prog X.w) X.A (execs st X.env) (SP X pins D) X.xe s):=⟨cV.out⟩
theorem bu{b:Type}{t:Sem b}{Q c:b->ο->Prop}{M:Model}{A:Β}{E:br}{s:ο}(h:ρ M A t Q E s)(d:∀a s,Q a s->c a s):ρ M A t c E s:=q0F h d λ_ _ x=>x
section
variable{X:Cx}
def gy(i:Nat):TE:=λa H Q=>∃v,a[i]?=ζ (ζ v)/\Q v H
def tC(v:V):TE:=λ_ H Q=>Q v H
theorem E5{i:Nat}{x:Z}{pos:Δ}(k:X.N[i]?=ζ x)(n:qX X.env.scope x)(hd: ~~~(bF x))(g: ~~~((x==("__classdict__" : Z))=ι)):JE X (.Name x pos) (gy i):=by
 calc⟨?_⟩;ext f s o H Q I h;let⟨v,e,h⟩:=h;let⟨m,p,q⟩:=I.loc;let⟨u,r,l⟩:=q i x v k e n;let b:EP X f o Q u s:=⟨v,H,I,r,h⟩;rcases l with⟨d,t⟩|⟨d,c,j,a⟩
 .exact q6o (wpAny_loadName_local I.ok.kind d p t b) hd
 .rcases d with d|d
  .exact q6o (wpAny_loadName_cell I.ok.kind d j a b) hd
  .calc q6o (wpAny_loadName_free I.ok.kind d j a b g) hd
theorem kW{i j pos}:JE X (.Constant (.int i) j pos) (tC (.int i)):=⟨λ_ _ _ H _ I h=>wpAny_Constant_int ⟨.int i,H,I.tok _,⟨_,Y⟩,h⟩⟩
theorem ye{b j pos}:JE X (.Constant (.bool b) j pos) (tC (.bl b)):=⟨λ_ _ _ H _ I h=>Constant_bool ⟨.bl b,H,I,Y,h⟩⟩
theorem MZ{j pos}:JE X (.Constant .none j pos) (tC .non):=⟨λ_ _ _ H _ I h=>Constant_none ⟨.non,H,I,Y,h⟩⟩
theorem mS{x j pos}:JE X (.Constant (.str x) j pos) (tC (.str x)):=⟨λ_ _ _ H _ I h=>Calls.Constant_str ⟨.str x,H,I.tok _,⟨_,Y⟩,h⟩
⟩
def Gl(X:Cx)(x:Z):Prop:=X.env.kindOf x=ζ .globalImplicit
theorem qY{E:br}{a:aF}{s:ο}{b:St}{H:Hp}{x:Z}{u:ν}{pos:Δ}{Q:br}(I:Inv X a b H s)(c:Gl X x)(d:X.mg x=ζ u)(h:Q u s)
  (hd: ~~~(bF x)):ρ (ς X.prog X.w) X.A (eval (.Name x pos) X.env) Q E s :=
 q3l I.ok.kind c (Calls.loadGlobal_global (by rw[I.ok.glob];calc I.mod.glob.keeps I.bk) d h) hd
theorem mT{E:br}{a:aF}{s:ο}{b:St}{H:Hp}{x:Z}{u:ν}{pos:Δ}{Q:br}(I:Inv X a b H s)(c:Gl X x)(d:X.mg x=η)(e:bootBuiltins x=ζ u)(h:Q u s)
  (hn:x≠"__name__" := by decide) (hd: ~~~(bF x)):ρ (ς X.prog X.w) X.A (eval (.Name x pos) X.env) Q E s:=by
 let⟨i,f,g⟩:=I.mod.blt;calc q3l I.ok.kind c (Calls.loadGlobal_builtin (by rw[I.ok.glob];calc I.mod.glob.keeps I.bk) d (by rw[I.ok.blt];calc f.keeps I.bk) ((g x hn).trans e) h) hd
theorem yf{x:Z}{v:V}{u:ν}{pos:Δ}(a:Gl X x)(b:X.mg x=ζ u)(r:RelV v u)(hd: ~~~(bF x)):JE X (.Name x pos) (tC v):=⟨λ_ _ _ H _ I h=>qY I a b ⟨v,H,I,r,h⟩ hd⟩
theorem E7{x:Z}{v:V}{u:ν}{pos:Δ}(a:Gl X x)(b:X.mg x=η)(c:bootBuiltins x=ζ u)(r:RelV v u)(hn:x≠"__name__" := by decide)(hd: ~~~(bF x)):JE X (.Name x pos) (tC v):=⟨λ_ _ _ H _ I h=>mT I a b c ⟨v,H,I,r,h⟩ hn hd
⟩
variable{a b:υ}{ta tb:TE}{pos:Δ}
structure JC(X:Cx)(op:CmpOp)(a b:υ)(t:TE):Prop where
 out:∀(pins:aF)(s:ο)(σ:St)(H:Hp)(Q:VK),Inv X pins σ H s->t σ H Q →
  ρ (ς X.prog X.w) X.A (eval a X.env) (λv s₁=>ρ (ς X.prog X.w) X.A (eval b X.env) (λu s₂=>ρ (ς X.prog X.w) X.A (compareOp op v u) (EP X pins σ Q) X.xe s₂) X.xe s₁) X.xe s
instance {X:Cx} {op:CmpOp} {a b:υ} {t:TE}:CoeFun (JC X op a b t) (λ_=>∀(pins:aF)(s:ο)(σ:St)(H:Hp)(Q:VK),Inv X pins σ H s->t σ H Q->ρ (ς X.prog X.w) X.A (eval a X.env) (λv s₁=>ρ (ς X.prog X.w) X.A (eval b X.env) (λu s₂=>ρ (ς X.prog X.w) X.A (compareOp op v u) (EP X pins σ Q) X.xe s₂) X.xe s₁) X.xe s):=⟨JC.out⟩
theorem M1(b:υ){op:CmpOp}(h:op≠.In)(a:op≠.NotIn):behindInMarks op b=ι:=by
 let c:(op==CmpOp.In)=ι:=by cases op<;>first|rfl|exact absurd Y h
 let d:(op==CmpOp.NotIn)=ι:=by cases op<;>first|rfl|exact absurd Y a
 cases b<;>simp[behindInMarks,c,d]
def sI(ta:TE):TE:=λa H Q=>ta a H λx b=>Q (.bl (μ (x=.non))) b
theorem RelV.kX{x:V}{v:ν}(r:RelV x v):(v==q0P)=μ (x=.non):=by
 cases x with
 |non=>cases r;rfl
 |bl _=>cases r;rfl
 |int _=>let⟨t,rfl⟩:=r;rfl
 |str _=>let⟨t,rfl⟩:=r;rfl
 |byt _=>let⟨t,rfl⟩:=r;rfl
 |flt _=>let⟨t,rfl⟩:=r;rfl
 |ref _=>cases r;rfl
 |ty _=>cases r;rfl
theorem E8{j b}(d:JE X a ta):JC X .Is a (.Constant .none j b) (sI ta):=by
 calc⟨λc s e H Q I h=>bu (d c s e H _ I h) λv l ⟨x,f,g,i,k⟩↦Constant_none (is_none_gen ⟨.bl _,f,g,by rw[i.kX];rfl,k⟩)⟩
def tB(t:TE):TT:=λa H Q=>t a H λx b=>∃c,x=.bl c/\Q c b
theorem yg{op:CmpOp}{t:TE}(h:JC X op a b t)(f:behindInMarks op b=ι:=by first|exact M1 _ (by decide) (by decide)|rfl):JT X (.Compare a [op] [b] pos) (tB t):=by
 calc⟨λe s g H Q I i=>q4j (bu (h e s g H _ I i) λv o f=>bu f λu p j=>bu j λc r ⟨x,k,l,m,n⟩=>?_) f⟩;let⟨d,rfl,q⟩:=n;cases m
 calc q03 ⟨k,l,q⟩
theorem yh{e:υ}{t:TE}(h:JE X e t)(he:‹∀a,isTrue e X.env a=(do let v <- a;standAt e.pos;holding [v] (truthy v))›):JT X e (tB t):=by
 calc⟨λb s c H Q I f=>isTrue_plain (bu (h b s c H _ I f) λv l ⟨x,g,i,j,k⟩=>?_) (he _)⟩;let⟨d,rfl,q⟩:=k;cases j
 calc q03 ⟨g,i,q⟩
variable{tA vB:TT}{rest:-υ}
def sJ(t u:TT):TT:=λa H Q=>t a H λc b=>if c=θ then u a b Q else Q ι b
def E9(t u:TT):TT:=λa H Q=>t a H λc b=>if c=θ then Q θ b else u a b Q
def yi(t:TT):TT:=λa H Q=>t a H λc b=>Q (!c) b
theorem M3(d:JT X a tA):JW X (.BoolOp .And [a] pos) tA:=by
 refine⟨λg b s f H Q I h=>isTrue_and (bu (d b s f H Q I h) λc i e=>?_)⟩
 cases c with
 |true=>exact isTrue_and_nil e
 |false=>calc e
theorem E_(d:JT X a tA):JW X (.BoolOp .Or [a] pos) tA:=by
 refine⟨λg b s f H Q I h=>isTrue_or (bu (d b s f H Q I h) λc i e=>?_)⟩
 cases c with
 |false=>exact isTrue_or_nil e
 |true=>calc e
theorem M6(j:JT X a tA)(k:JW X (.BoolOp .And (b::rest) pos) vB):JW X (.BoolOp .And (a::b::rest) pos) (sJ tA vB):=by
 refine⟨λl d s e H Q I h=>isTrue_and (bu (j d s e H _ I h) ?_)⟩;ext c m ⟨f,g,i⟩
 cases c with
 |true=>exact k l d m e f Q g i
 |false=>calc⟨f,g,i⟩
theorem yj(j:JT X a tA)(k:JW X (.BoolOp .Or (b::rest) pos) vB):JW X (.BoolOp .Or (a::b::rest) pos) (E9 tA vB):=by
 refine⟨λl d s e H Q I h=>isTrue_or (bu (j d s e H _ I h) ?_)⟩;ext c m ⟨f,g,i⟩
 cases c with
 |true=>exact⟨f,g,i⟩
 |false=>calc k l d m e f Q g i
theorem yk(d:JT X a tA):JT X (.UnaryOp .Not a pos) (yi tA):=by
 calc⟨λb s e H Q I h=>isTrue_not (d b s e H (λc f=>Q (!c) f) I h)⟩
def M_(ta tb:TE):TE:=λa H Q=>ta a H λx b=>∃c,x=.bl c/\if c=θ then tb a b Q else Q (.bl ι) b
def ym(ta tb:TE):TE:=λa H Q=>ta a H λx b=>∃c,x=.bl c/\if c=θ then Q (.bl θ) b else tb a b Q
def Na(ta:TE):TE:=λa H Q=>ta a H λx b=>∃c,x=.bl c/\Q (.bl (!c)) b
theorem Nc{op}{t:TE}(h:JE X a t):JE X (.BoolOp op [a] pos) t:=⟨λb s c H Q I d=>BoolOp_one (h b s c H Q I d)⟩
theorem Nd(j:JE X a ta)(k:JE X (.BoolOp .And (b::rest) pos) tb):JE X (.BoolOp .And (a::b::rest) pos) (M_ ta tb):=by
 calc⟨λd s f H Q I h=>BoolOp_and (bu (j d s f H _ I h) ?_)⟩;ext v l ⟨x,g,i,m,e⟩;let⟨c,rfl,e⟩:=e;cases m
 refine q03 ?_
 cases c with
 |true=>exact k d l f g Q i e
 |false=>calc⟨.bl ι,g,i,Y,e⟩
theorem Nf(j:JE X a ta)(k:JE X (.BoolOp .Or (b::rest) pos) tb):JE X (.BoolOp .Or (a::b::rest) pos) (ym ta tb):=by
 calc⟨λd s f H Q I h=>BoolOp_or (bu (j d s f H _ I h) ?_)⟩;ext v l ⟨x,g,i,m,e⟩;let⟨c,rfl,e⟩:=e;cases m
 refine q03 ?_
 cases c with
 |false=>exact k d l f g Q i e
 |true=>calc⟨.bl θ,g,i,Y,e⟩
theorem Ng(e:JE X a ta):JE X (.UnaryOp .Not a pos) (Na ta):=by
 calc⟨λb s f H Q I h=>UnaryOp_ (bu (e b s f H _ I h) ?_)⟩;ext v k ⟨x,g,i,j,d⟩;let⟨c,rfl,d⟩:=d;cases j
 calc not_of (q03 ⟨.bl (!c),g,i,Y,d⟩)
def Fb(t:TT)(ta tb:TE):TE:=λa H Q=>t a H λc b=>if c=θ then ta a b Q else tb a b Q
theorem sL{c:υ}(l:JT X c tA)(m:JE X a ta)(n:JE X b tb):JE X (.IfExp c a b pos) (Fb tA ta tb):=by
 refine⟨λe s f H Q I h=>wpAny_IfExp (bu (l e s f H _ I h) ?_)⟩;ext d g ⟨i,j,k⟩
 cases d with
 |true=>exact m e g f i Q j k
 |false=>calc n e g f i Q j k
end
def bG(K:vL)(H:Hp)(a:O)(xs:-V):Prop :=
 Rd H a (.lst xs) ∨
  ∃(o:Obj)(b:Array ν)(n:Nat),K.lookup a=ζ o/\o.cls=.type "list" /\ o.dict=η/\o.data=.seq b n/\b.size<=sizeLine/\Vals xs b.toList
def b9(K:vL)(H:Hp)(a:O)(xs:-V):Prop :=
 Rd H a (.tup xs) ∨
  ∃(o:Obj)(b:Array ν)(n:Nat),K.lookup a=ζ o/\o.cls=.type "tuple" /\ o.data=.seq b n/\b.size<=sizeLine/\Vals xs b.toList
meta def yn:ν->Option V
 |.none=>ζ .non
 |.bool b=>ζ (.bl b)
 |.int i _=>ζ (.int i)
 |.str x _=>ζ (.str x)
 |.bytes b _=>ζ (.byt b)
 |.float b _=>ζ (.flt b)
 |.ref a=>ζ (.ref a)
 |.type n=>ζ (.ty n)
 |_=>η
theorem RelV.abs{x:V}{u:ν}(r:RelV x u):yn u=ζ x:=by
 cases x with
 |non=>cases r;rfl
 |bl _=>cases r;rfl
 |int _=>let⟨t,rfl⟩:=r;rfl
 |str _=>let⟨t,rfl⟩:=r;rfl
 |byt _=>let⟨t,rfl⟩:=r;rfl
 |flt _=>let⟨t,rfl⟩:=r;rfl
 |ref _=>cases r;rfl
 |ty _=>cases r;rfl
theorem RelV.inj{x y:V}{u:ν}(r:RelV x u)(q:RelV y u):x=y:=ZX (r.abs.symm.trans q.abs)
theorem Vals.inj:∀{xs ys:-V}{us:-ν},Vals xs us->Vals ys us->xs=ys
 |_,_,_,.nil,.nil=>Y
 |_,_,_,.cons r t,.cons a b=>by rw[r.inj a,Vals.inj t b]
section
variable{X:Cx}{pins:aF}{σ:St}{H:Hp}{s:ο}{a:O}{xs ys:-V}
theorem bG.of{K:vL}(h:H a=ζ (.lst xs)):bG K H a xs:=.inl (.inl h)
theorem b9.of{K:vL}(h:H a=ζ (.tup xs)):b9 K H a xs:=.inl (.inl h)
theorem Inv.list(I:Inv X pins σ H s)(h:bG X.K H a xs):∃b:-ν,Vals xs b/\PlainL s.heap a b.toArray/\↑xs<=sizeLine:=by
 rcases h with h|⟨o,b,n,c,d,f,g,i,r⟩
 .let⟨z,b,n,r,e⟩:0121:=h.ok I.bc
  exact⟨b,r,(zI2 _ n ⟨e,Y,Y,Y⟩),z⟩
 .refine⟨b.toList,r,(zI2 o n ⟨I.de a o c,d,f,by simpa using g⟩),?_⟩
  let e:=↑r;erw[ZC] at e;symm
theorem Inv.tuple(I:Inv X pins σ H s)(h:b9 X.K H a xs):∃b:-ν,Vals xs b/\IsTup s.heap a b.toArray/\↑xs<=sizeLine:=by
 rcases h with h|⟨o,b,n,c,d,f,g,r⟩
 .let⟨z,b,r,p⟩:=h.ok I.bc
  exact⟨b,r,p,z⟩
 .refine⟨b.toList,r,⟨o,I.de a o c,d,n,by simpa using f⟩,?_⟩
  let e:=↑r;erw[ZC] at e;symm
theorem Inv.fY(I:Inv X pins σ H s)(h:bG X.K H a xs)(h':bG X.K H a ys):xs=ys:=by
 let⟨g,r,⟨o,n,e,_,_,d⟩,_⟩:=I.list h;let⟨b,i,⟨o',j,c,_,_,f⟩,_⟩:=I.list h';rw[e] at c;cases c;rw[d] at f;injection f with d1 _;let:=by simpa using congrArg q7o d1
 subst this;calc r.inj i
theorem Inv.fh(I:Inv X pins σ H s)(h:b9 X.K H a xs)(h':b9 X.K H a ys):xs=ys:=by
 let⟨g,r,⟨o,e,_,n,d⟩,_⟩:=I.tuple h;let⟨b,i,⟨o',c,_,j,f⟩,_⟩:=I.tuple h';rw[e] at c;cases c;rw[d] at f;injection f with d1 _;let:=by simpa using congrArg q7o d1
 subst this;calc r.inj i
end
meta abbrev Cx.gz(X:Cx)(E:br):Cx:={X with xe:=E}
meta abbrev Cx.jZ(X:Cx):Cx:=X.gz λ_ _=>False
theorem Cx.Ok.gz{X:Cx}(a:X.Ok)(E:br):(X.gz E).Ok :=
 ⟨a.mod,a.kind,a.glob,a.blt,a.above,a.inj,a.has,a.mR,a.hd,a.frames,a.pQ,a.sF,a.bs,a.kB,a.g8,a.ji,a.dX,a.kU⟩
theorem Cx.Ok.dG{X:Cx}{E:br}(a:(X.gz E).Ok):X.Ok :=
 ⟨a.mod,a.kind,a.glob,a.blt,a.above,a.inj,a.has,a.mR,a.hd,a.frames,a.pQ,a.sF,a.bs,a.kB,a.g8,a.ji,a.dX,a.kU⟩
section
variable{X:Cx}{pins:aF}{σ:St}{H:Hp}{s:ο}{E:br}
theorem Inv.gz(I:Inv X pins σ H s)(E:br):Inv (X.gz E) pins σ H s:=⟨I.ok.gz E,I.os,I.bare,I.base,I.loc,I.cell,I.free,I.b8,I.pin,I.bc,I.len⟩
theorem Inv.dG(I:Inv (X.gz E) pins σ H s):Inv X pins σ H s:=⟨I.ok.dG,I.os,I.bare,I.base,I.loc,I.cell,I.free,I.b8,I.pin,I.bc,I.len⟩
theorem SP.dG{D:Ends}{f:Flow}{s':ο}(h:SP (X.gz E) pins D f s'):SP X pins D f s':=by
 cases f with
 |next=>let⟨a,b,I,q⟩:=h;exact⟨a,b,I.dG,q⟩
 |brk=>let⟨a,b,I,q⟩:=h;exact⟨a,b,I.dG,q⟩
 |cont=>let⟨a,b,I,q⟩:=h;exact⟨a,b,I.dG,q⟩
 |ret u=>let⟨v,a,b,I,r,q⟩:32:=h;calc(zI3 v a b ⟨I.dG,r,q⟩)
theorem cV.jZ{st:-χ}{t:TS}(h:cV X.jZ st t):cV X st t:=⟨λa s b H D I c =>
 q0F (h a s b H D (I.gz _) c) (λ_ _ q=>q.dG) λ_ _ z=>ZQ z⟩
end
section
variable{X:Cx}{st:χ}{rest:-χ}{t u:TS}{e:υ}{te:TE}{pos:Δ}
def Nh:TS:=λD a H=>D.nx a H
def sM(t u:TS):TS:=λD a H=>t {D with nx:=u D} a H
theorem jD:cV X [] Nh:=⟨λ_ _ a H _ I h=>q28 ⟨a,H,I,h⟩⟩
theorem qZ(c:JS X st t)(d:cV X rest u):cV X (st::rest) (sM t u):=by
 refine⟨λa s e H D I h=>q5M (bu (c a s e H {D with nx:=u D} I h) λf g q=>?_)⟩
 cases f with
 |next =>
  let⟨b,i,j,q⟩:21:=q;exact d a g b i D j q
 |ret v=>exact q
 |brk=>exact q
 |cont=>calc q
theorem mU(b:JS X st t):cV X [st] t:=by
 refine⟨λa s c H D I h=>q5M (bu (b a s c H D I h) λf d q=>?_)⟩
 cases f with
 |next=>exact q28 q
 |ret v=>exact q
 |brk=>exact q
 |cont=>calc q
theorem Inv.quiet{a:aF}{b:St}{H:Hp}{s:ο}(I:Inv X a b H s):interactive X.env=ι:=by simp[interactive,I.ok.kind]
def Ni(b:TE):TS:=λD a H=>b a H λ_ c=>D.nx a c
theorem Fd(he:JE X e te)(c:‹swapsWith e η pos.line X.env=pure ι›):JS X (.Expr e pos) (Ni te):=by
 calc⟨λa s b H D I h=>wpAny_Expr_any (bu (he a s b H _ I h) λv i ⟨x,d,f,j,g⟩↦(zI2 b d ⟨f,g⟩)) I.quiet c⟩
def sN(a:TE):TS:=λD b H=>a b H D.rt
theorem pR(he:JE X e te):JS X (.Return (ζ e) pos) (sN te):=by
 calc⟨λa s b H D I h=>wpAny_Return_some (bu (he a s b H _ I h) λv i ⟨x,c,d,f,g⟩↦(zI3 x b c ⟨d,f,g⟩))⟩
def yo(c:TT)(t u:TS):TS:=λD a H=>c a H λb d=>if b=θ then t D a d else u D a d
theorem Fe{c:υ}{a b:-χ}{g:TT}(m:JT X c g)(n:cV X a t)(o:cV X b u):JS X (.If c a b pos) (yo g t u):=by
 refine⟨λe s f H D I h=>wpAny_If (bu (m e s f H _ I h) ?_)⟩;ext d i ⟨j,k,l⟩
 cases d with
 |true=>exact n e i f j D k l
 |false=>calc o e i f j D k l
end
abbrev TG:=V->St->Hp->(St->Hp->Prop)->Prop
abbrev kY:=-V->St->Hp->(St->Hp->Prop)->Prop
structure JG(X:Cx)(target:υ)(t:TG):Prop where
 out:∀(pins:aF)(s:ο)(σ:St)(H:Hp)(v:V)(u:ν)(Q:St->Hp->Prop),Inv X pins σ H s->RelV v u->t v σ H Q →
  ρ (ς X.prog X.w) X.A (assign target X.env u) (λ_ s'=>∃σ' H',Inv X pins σ' H' s'/\Q σ' H') X.xe s
instance {X:Cx} {target:υ} {t:TG}:CoeFun (JG X target t) (λ_=>∀(pins:aF)(s:ο)(σ:St)(H:Hp)(v:V)(u:ν)(Q:St->Hp->Prop),Inv X pins σ H s->RelV v u->t v σ H Q->ρ (ς X.prog X.w) X.A (assign target X.env u) (λ_ s'=>∃σ' H',Inv X pins σ' H' s'/\Q σ' H') X.xe s):=⟨JG.out⟩
structure jE(X:Cx)(ts:-υ)(t:kY):Prop where
 out:∀(pins:aF)(s:ο)(σ:St)(H:Hp)(vs:-V)(us:-ν)(Q:St->Hp->Prop),Inv X pins σ H s->Vals vs us->t vs σ H Q →
  ρ (ς X.prog X.w) X.A (assignInOrder ((assignEach ts X.env).map (·.2)) us) (λ_ s'=>∃σ' H',Inv X pins σ' H' s'/\Q σ' H') X.xe s
instance {X:Cx} {ts:-υ} {t:kY}:CoeFun (jE X ts t) (λ_=>∀(pins:aF)(s:ο)(σ:St)(H:Hp)(vs:-V)(us:-ν)(Q:St->Hp->Prop),Inv X pins σ H s->Vals vs us->t vs σ H Q->ρ (ς X.prog X.w) X.A (assignInOrder ((assignEach ts X.env).map (·.2)) us) (λ_ s'=>∃σ' H',Inv X pins σ' H' s'/\Q σ' H') X.xe s):=⟨jE.out⟩
abbrev pS:=V->V->V->Hp->(Hp->Prop)->Prop
def sO(X:Cx)(t:pS):Prop :=
 ∀(a:aF)(s:ο)(b:St)(H:Hp)(o i v:V)(c d u:ν)(Q:Hp->Prop),Inv X a b H s->RelV o c->RelV i d->RelV v u->t o i v H Q →
  ρ (ς X.prog X.w) X.A (setItem c d u) (λ_ f=>∃e,Inv X a b e f/\Q e) X.xe s
section
variable{X:Cx}{pos:Δ}
def jF(i:Nat):TG:=λv a H Q=>Q (a.set i (ζ v)) H
theorem yq{i:Nat}{x:Z}(b:X.N.Nodup)(c:X.N[i]?=ζ x)(d:Loc X.env.scope x)(e:autoParam (fK X x) qz1._auto_1):JG X (.Name x pos) (jF i):=by
 calc⟨λa s g H v u Q I r h=>q5q (vA I b c d r (λj f=>(zI2 _ H ⟨f,h⟩)) e)⟩
def yr:kY:=λa b H Q=>a=[]/\Q b H
def Nj(t:TG)(u:kY):kY:=λb c H Q=>∃v r,b=v::r/\t v c H λa d=>u r a d Q
theorem jG:jE X [] yr:=by
 calc⟨?_⟩;ext a s b H c d Q I r h;let⟨e,h⟩:=h;calc assignInOrder_nil (zI2 b H ⟨I,h⟩)
theorem yt{e:υ}{es:-υ}{t:TG}{u:kY}(d:JG X e t)(f:jE X es u)
  (g:‹(assignEach (e::es) X.env).map (·.2)=assign e X.env::(assignEach es X.env).map (·.2)›):jE X (e::es) (Nj t u):=by
 calc⟨?_⟩;ext a s i H p q Q I r h;let⟨v,w,j,h⟩:=h;subst j
 cases r with
 |cons r k =>
  rw[g];calc assignInOrder_cons (bu (d a s i H _ _ _ I r h) λ_ l b=>by let⟨c,m,n,o⟩:21:=b;calc f a l c m _ _ Q n k o)
def yu(K:vL)(n:Nat)(t:kY):TG:=λv c H Q=>∃a b,v=.ref a/\b9 K H a b/\↑b=n/\t b c H Q
theorem Ff{es:-υ}{k:Nat}{t:kY}{n:Nat}(j:X.calm=θ)(h:jE X es t)
  (hn:‹↑(assignEach es X.env)=n›) (d:‹(assignEach es X.env).findIdx? (·.1)=η›):JG X (.Tuple es k pos) (yu X.K n t):=by
 calc⟨?_⟩;ext c s g H v u Q I r f;let⟨a,l,m,p,q,f⟩:=f;subst m;cases r
 let⟨w,i,x,B⟩:12:=I.tuple p;calc assign_Tuple_tuple (I.ok.hd j) x (by simp[hn,<-q,i.length]) d λy z=>?_;let A:Inv X c g H {s with heap:=y}:=I.kept  λb o e=>z b o (Zy (OP e)) e;calc h c _ g H l _ Q A i⁻¹ f
def sP(b c:TE)(t:pS):TG:=λv a H Q=>b a H λo d=>c a d λi e=>t o i v e λf=>Q a f
theorem q9{o i:υ}{e f:TE}{t:pS}(g:JE X o e)(j:JE X i f)(k:sO X t)
  (J:‹∀v,assign (.Subscript o i pos) X.env v=(do
   let ov <- holding [v] (eval o X.env)
   let b <- holding [v,ov] (eval i X.env)
   standAt pos
   holding [v,ov,b] (setItem ov b v)
   release [v,ov,b] [])›):JG X (.Subscript o i pos) (sP e f t):=by
 calc⟨λa s d H v u Q I r h=>nh (q0e (bu (g a s d H _ I h) λl m ⟨x,n,p,q,w⟩↦nh (q0e (bu (j a m d n _ p w) λb z ⟨y,A,B,C,D⟩↦nh (q11 (nh (q0e (bu (k a z d A x y v l b u _ B q C r D) λ_ K c=>by let⟨E,F,G⟩:11:=c;calc wpAny_release (zI2 d E ⟨F,G⟩)))))))))⟩
def eg(b:TE)(g:TG):TS:=λD a H=>b a H λx c=>g x a c D.nx
theorem pT{b e:υ}{c:TE}{g:TG}(he:JE X e c)(f:JG X b g)(i:‹swapsWithSole [b] e pos.line X.env=pure ι›)(j:‹swappedStores [b] e X.env=pure η›)
  (k:‹(assignEach [b] X.env).map (·.2)=[assign b X.env]›):JS X (.Assign [b] e pos) (eg c g):=by
 calc⟨λa s d H D I h=>wpAny_Assign_stores (bu (he a s d H _ I h) λv l ⟨x,m,n,o,p⟩=>?_) i j⟩;rw[k];calc bu (f a l d m x v _ n o p) λ_ r q=>q
theorem oE{i:Nat}{x:Z}{e:υ}{c:TE}{a:Δ}(d:X.N.Nodup)(f:X.N[i]?=ζ x)(g:Loc X.env.scope x)(he:JE X e c)(j:‹swapsWith e (ζ (.Name x a)) pos.line X.env=pure ι›)(k:autoParam (fK X x) qz1._auto_1):
  JS X (.Assign [.Name x a] e pos) (eg c (jF i)):=by
 calc⟨λb s l H D I h=>wpAny_Assign_Name (bu (he b s l H _ I h) λv r ⟨y,m,n,o,p⟩↦vA n d f g o (λt q=>(zI2 _ m ⟨q,p⟩)) k) j⟩
end
structure It where
 go:Nat->Hp->Prop
 q_:Nat->Hp->V->Hp->Prop
 stop:Nat->Hp->Prop
def b3(X:Cx)(a:aF)(H:Hp)(b:O):Prop :=
 H b=η/\b≠X.env.locals/\b∉X.fs/\(b∈X.ex\/⇑X.s₀<=b)/\(∀x c,X.env.cells.lookup x=ζ c->c≠b)/\∀p∈X.pn++a,p.1≠b
theorem Inv.iL{X a}{f:St}{H H' s}{b:O}(I:Inv X a f H s)(d:⇑s<=b)(hn:H' b=η):b3 X a H' b:=by
 refine⟨hn,q1d (ZA I.lt d),I.yc d,.inr (Z0 I.sz d),λx c e z=>?_,λp g z=>?_⟩
 .let⟨v,q⟩:=I.cell x c e
  exact absurd (ZA q.lt (by rw[z];calc d)) (q12 _)
 .calc absurd (ZA (OP (I.pin p g).1) (by rw[z];calc d)) (q12 _)
structure Turn(P:ψ)(w:ω)(K:vL)(tg:υ)(J:It)(fp:-O)(it:O)(tn:Nat->Α->Prop):Prop where
 mem:it∈fp
 obj:∀i h,tn i h->∀b∈fp,∃o,h.get? b=ζ o/\∀v,o.data≠.cell v
 keep:∀i h h',tn i h->(∀b∈fp,∀o,h.get? b=ζ o->h'.get? b=ζ o)->tn i h'
 item:∀(X:Cx),X.prog=P->X.w=w->X.K=K->X.calm=θ->∀(i:Nat)(pins:aF)(s:ο)(σ:St)(H:Hp)(E:br),Inv X pins σ H s->(∀b∈fp,b3 X pins H b)->tn i s.heap->J.go i H →
  ρ (ς P w) X.A (pyNext (.ref it)) (λr s1=>∃u,r=ζ u ∧
   ρ (ς P w) X.A (letOwnedTupleGo tg (.ref it) u) (λ_ s2=>∃x H',Inv X pins σ H' s2/\RelV x u/\J.q_ i H x H'/\tn (i+1) s2.heap/\∀b∈fp,H' b=η) E s1) E s
 done:∀(X:Cx),X.prog=P->X.w=w->X.K=K->X.calm=θ->∀(i:Nat)(pins:aF)(s:ο)(σ:St)(H:Hp)(E:br),Inv X pins σ H s->(∀b∈fp,b3 X pins H b)->tn i s.heap->J.stop i H →
  ρ (ς P w) X.A (pyNext (.ref it)) (λr s1=>r=η/\Inv X pins σ H s1) E s
 self:∀(A:Β)(i:Nat)(s:ο)(Q:br)(E:br),tn i s.heap->Q (.ref it) s->ρ (ς P w) A (pyIter (.ref it)) Q E s
abbrev TI:=St->Hp->(It->Hp->Prop)->Prop
def yw(X:Cx)(a:aF)(i:St)(j:υ)(R:It->Hp->Prop)(c:ν)(e:ο):Prop :=
 ∃(f:O)(g:-O)(h:Nat->Α->Prop)(J:It)(d:Hp),c=.ref f/\Inv X a i d e/\Turn X.prog X.w X.K j J g f h/\h 0 e.heap/\(∀b∈g,b3 X a d b)/\R J d
structure JI(X:Cx)(tg iter:υ)(wi:TI):Prop where
 out:∀(pins:aF)(s:ο)(σ:St)(H:Hp)(R:It->Hp->Prop),Inv X pins σ H s->wi σ H R →
  ρ (ς X.prog X.w) X.A (eval iter X.env) (λv s1=>ρ (ς X.prog X.w) X.A (pyIter v) (yw X pins σ tg R) X.xe s1) X.xe s
instance {X:Cx} {tg iter:υ} {wi:TI}:CoeFun (JI X tg iter wi) (λ_=>∀(pins:aF)(s:ο)(σ:St)(H:Hp)(R:It->Hp->Prop),Inv X pins σ H s->wi σ H R->ρ (ς X.prog X.w) X.A (eval iter X.env) (λv s1=>ρ (ς X.prog X.w) X.A (pyIter v) (yw X pins σ tg R) X.xe s1) X.xe s):=⟨JI.out⟩
theorem yx {M A} {E:br} {s b c u o n vs} {Q:Unit->ο->Prop} (d:s.heap.get? c=ζ o) (e:o.cls = .type n) (hd:o.data = .fields vs)
  (hn:["enumerate", "zip", "dict_itemiterator", "dict_reverseitemiterator", "odict_iterator", "itertools.zip_longest", "itertools.pairwise"].contains n=ι) (a:Q () s):ρ M A (letOwnedTupleGo b (.ref c) u) Q E s:=by
 cases b<;>first
  | exact y9 a
  | (cases u<;>first
    | exact y9 a
    | (refine nh (wpAny_load d ?_)
       rw[e,hd];show ρ M A (if (["enumerate", "zip", "dict_itemiterator", "dict_reverseitemiterator", "odict_iterator", "itertools.zip_longest", "itertools.pairwise"].contains n && vs[0]? == ζ (rawInt _))=θ then _ else _) Q E s;rw[Zx (by ext h;rw[hn,q6p] at h;cases h)]
       calc y9 a))
meta def Fg(K:vL)(a:O):It :=
 ⟨λi H=>∃b x,bG K H a b/\b[i]?=ζ x,λi H x c=>c=H/\∀b,bG K H a b->b[i]?=ζ x,λi H=>∃b,bG K H a b/\↑b<=i⟩
meta def Fh(K:vL)(a:O):It :=
 ⟨λi H=>∃b x,b9 K H a b/\b[i]?=ζ x,λi H x c=>c=H/\∀b,b9 K H a b->b[i]?=ζ x,λi H=>∃b,b9 K H a b/\↑b<=i⟩
meta def sQ(a:Int)(n:Nat):It:=⟨λi _=>i<n,λi H x b=>b=H/\x=.int (a+i),λi _=>n<=i⟩
theorem Nk{P w K R} a l:Turn P w K R (Fg K a) [l] l (λi h=>h.IsListIter l a i) where
 mem:=by simp
 obj:=λi h f b j=>by
  let e:=by simpa using j
  subst e;let⟨o,e,c,d⟩:12:=f;exact⟨o,e,λv z=>by rw[d] at z;cases z⟩
 keep:=λi h r f k=>f.at λo e=>k l (by simp) o e
 item:=by
  ext X t y A O i g s Q H E I n f B;subst t y A;let⟨S,x,q,C⟩:21:=B;let⟨D,F,p,T⟩:12:=I.list q;let⟨u,U,V⟩:=F.get C;let⟨G,J,W,L,M,N⟩:05:=n l (by simp);calc wpAny_pyNext_list_item f p.isList  U⁻¹ λr m Y=>?_;let Z:Inv X g Q H {s with heap:=r}:=I.turned  (λb o j e=>(Y.2 b j).trans e) G J L M N;let⟨o,e,c,d⟩:12:=id m;exact⟨u,rfl,yx  e c d (by decide) (zI2 x H ⟨Z,V,⟨rfl,λys hy=>by rw[I.fY hy q];calc C⟩,m,λb j=>(n b j).1⟩)⟩
 done:=by
  ext X t y A O i g s Q H E I n f B;subst t y A;let⟨S,q,C⟩:=B;let⟨D,F,p,T⟩:12:=I.list q;let⟨G,J,W,L,M,N⟩:05:=n l (by simp);let hl:=↑F;exact wpAny_pyNext_list_end (I.ok.hd O) f p.isList (by simp;symm) λr eb=>⟨rfl,I.turned  (λb o j e=>eb b o j e) G J L M N⟩
 self:=λ_ _ _ _ _ f h=>wpAny_pyIter_listiter f h
theorem Nl{P w K R} a l:Turn P w K R (Fh K a) [l] l (λi h=>h.IsTupleIter l a i) where
 mem:=by simp
 obj:=λi h f b j=>by
  let e:=by simpa using j
  subst e;let⟨o,e,c,d⟩:12:=f;exact⟨o,e,λv z=>by rw[d] at z;cases z⟩
 keep:=λi h r f k=>f.at λo e=>k l (by simp) o e
 item:=by
  ext X t y A O i g s Q H E I n f B;subst t y A;let⟨S,x,q,C⟩:21:=B;let⟨D,F,p,T⟩:12:=I.tuple q;let⟨u,U,V⟩:=F.get C;let⟨G,J,W,L,M,N⟩:05:=n l (by simp);calc wpAny_pyNext_tuple_item f (p)  U⁻¹ λr m Y=>?_;let Z:Inv X g Q H {s with heap:=r}:=I.turned  (λb o j e=>(Y.2 b j).trans e) G J L M N;let⟨o,e,c,d⟩:12:=id m;exact⟨u,rfl,yx  e c d (by decide) (zI2 x H ⟨Z,V,⟨rfl,λys hy=>by rw[I.fh hy q];calc C⟩,m,λb j=>(n b j).1⟩)⟩
 done:=by
  ext X t y A O i g s Q H E I n f B;subst t y A;let⟨S,q,C⟩:=B;let⟨D,F,p,T⟩:12:=I.tuple q;let⟨G,J,W,L,M,N⟩:05:=n l (by simp);let hl:=↑F;exact wpAny_pyNext_tuple_end (I.ok.hd O) f (p) (by simp;symm) λr eb=>⟨rfl,I.turned  (λb o j e=>eb b o j e) G J L M N⟩
 self:=λ_ _ _ _ _ f h=>wpAny_pyIter_tupleiter f h
theorem Nm{P w K G} d j n:Turn P w K G (sQ j n) [d] d (λi h=>IsRangeIter h d (j+(i:Nat)*1) ((n:Int)-(i:Nat)) 1) where
 mem:=by simp
 obj:=λi h a b f=>by
  let e:=by simpa using f
  subst e
  exact⟨_,a,λv z=>by
   cases z⟩
 keep:=λi h m a k=>k d (by simp) _ a
 item:=by
  ext X B C D p i c s F H E I l a q;subst B C D;let⟨r,u,J,x,y,A⟩:05:=l d (by simp);let W:=Walks.range (prog:=X.prog) (w:=X.w) (I.ok.hd p) d j 1 n;calc W.item i s _ _ q a λv m L M g N=>?_;let⟨t,rfl⟩:1:=M;let O:Inv X c F H {s with heap:=m,toks:=L}:=I.turned (λb o f e=>N b o f⁻¹ e) r u x y A;calc⟨_,Y,yx   g Y Y (by decide) (zI2 (.int (j+i)) H ⟨O,⟨t,?_⟩,⟨Y,Y⟩,g,λb f=>(l b f).1⟩)⟩;rw[q4t]
 done:=by
  ext X B C D p i c s F H E I l a q;let⟨r,u,J,x,y,A⟩:05:=l d (by simp);exact wpAny_pyNext_range_end (I.ok.hd p) a (by let:n<=i:=q;symm) λm Q=>⟨Y,I.turned  (λb o f e=>Q b o f e) r u x y A⟩
 self:=λ_ _ _ _ _ a h=>wpAny_pyIter_rangeiter a h
section
variable{X:Cx}{tg:υ}
theorem Fi{c}{f:St}{H s R}{E:br}{a d t u v tk}(I:Inv X c f H s)(h : -(2 ^ 62)<=a)(i:a<2 ^ 62)(j : -(2 ^ 62)<=d)(k:d<2 ^ 62)
  (q:R (sQ a (d-a).toNat) H):ρ (ς X.prog X.w) X.A (pyIter (.ref ⇑s)) (yw X c f tg R) E {s with heap:=s.heap.push {cls:=.type "range",data:=.fields #[.int a t,.int d u,.int 1 v]},toks:=tk}:=by
 calc wpAny_pyIter_range (IsRange.new ..) (q7a h i j k) ?_;let g:Inv X c f H {s with heap:=s.heap.push {cls:=.type "range",data:=.fields #[.int a t,.int d u,.int 1 v]},toks:=tk}:=I.kept λb o e=>qc _ e;refine(zI5 ((s.heap.push {cls:=.type "range",data:=.fields #[.int a t,.int d u,.int 1 v]}).objs.size) ([(s.heap.push {cls:=.type "range",data:=.fields #[.int a t,.int d u,.int 1 v]}).objs.size]) _ _ H ⟨Y,g.kept  λb o e=>qc _ e,Nm _ a (d-a).toNat,?_,λb l=>?_,q⟩)
 .let m:a+(0:Nat)*1=a:=by simp
  let n:(((d-a).toNat))-(0:Nat)=q1M a d 1:=by rw[q41];split<;>symm
  rw[m,n];exact YA _ Y
 .let e:b=(s.heap.push {cls:=.type "range",data:=.fields #[.int a t,.int d u,.int 1 v]}).objs.size:=by simpa using l
  subst e;calc g.iL (tm _) (g.bc.fresh (tm _))
def Nn(ta:TA):TI:=λa H R=>ta a H λb c=>∃j:Int,b=[.int j] /\ -(2 ^ 62)<=j/\j<2 ^ 62/\R (sQ 0 j.toNat) c
def Np(ta:TA):TI:=λa H R=>ta a H λb c=>∃i j:Int,b=[.int i,.int j]/\(-(2 ^ 62)<=i/\i<2 ^ 62 /\ -(2 ^ 62)<=j/\j<2 ^ 62)/\R (sQ i (j-i).toNat) c
theorem Nq{a ta p pos}(d:Gl X "range")(f:X.mg "range" = η)(g:JA X [a] ta)(i:‹starEach [a] X.env=[(ι,eval a X.env)]›):JI X tg (.Call (.Name "range" p) [a] [] pos) (Nn ta):=by
 calc⟨λb s k H R I h=>Call_ (mT I d f boot_range (q0J (bu (g pos b s k H _ I h) λu v ⟨w,x,l,m,c⟩=>?_) i Y))⟩;let⟨j,e,c,n,q⟩:=c;subst e
 cases m with
 |cons r o =>
  cases o
  let⟨t,rfl⟩:=r;calc call_range_1 (Fi l ⋯ ⋯ c n q⁻¹)
theorem Nr{a b ta p pos}(k:Gl X "range")(l:X.mg "range" = η)(m:JA X [a,b] ta)(n:‹starEach [a,b] X.env=[(ι,eval a X.env),(ι,eval b X.env)]›)(c:‹starEach [b] X.env=[(ι,eval b X.env)]›):
  JI X tg (.Call (.Name "range" p) [a,b] [] pos) (Np ta):=by
 calc⟨λd s o H R I h=>Call_ (mT I k l boot_range (q0J (bu (m pos d s o H _ I h) λA B ⟨C,D,u,v,f⟩=>?_) (by rw[n,c]) (by rw[c];rfl)))⟩;let⟨i,j,e,⟨f,w,x,y⟩,q⟩:22:=f;subst e
 cases v with
 |cons r g =>
  cases g with
  |cons z g =>
   cases g
   let⟨t,rfl⟩:=r;let⟨E,rfl⟩:=z;calc call_range_2 (Fi u f w x y q)
def yy(f:TI)(g:TG)(tb:TS):TS:=λD a H=>f a H λJ h=>∃W:Nat->Nat->St->Hp->Prop,(∃m,W 0 m a h)/\∀i m a H,W i m a H →
 (J.stop i H/\D.nx a H)\/(J.go i H/\∃N:St->Hp->Prop,(∀b c,N b c->∃e,e<m/\W (i+1) e b c)/\∀x c,J.q_ i H x c->g x a c λd j=>tb {D with nx:=N,ct:=N,bk:=D.nx} d j)
meta def sR(a:-O)(h:Α):-(O×Obj):=a.filterMap λb=>(h.get? b).map λo=>(b,o)
theorem vC{a h b o}(c:b∈a)(e:h.get? b=ζ o):(b,o)∈sR a h:=q1s.mpr ⟨b,c,by rw[e];rfl⟩
theorem Nt{a h p}(c:p∈sR a h):p.1∈a/\h.get? p.1=ζ p.2:=by
 let⟨b,d,e⟩:=q1s.mp c
 cases q:h.get? b with
 |none=>rw[q] at e;cases e
 |some o =>
  rw[q] at e;let f:=ZX e;subst f;calc⟨d,q⟩
theorem Inv.pinned{a}{f:St}{H s c}(I:Inv X a f H s)(i:∀b∈c,b3 X a H b)(j:∀b∈c,∃o,s.heap.get? b=ζ o/\∀v,o.data≠.cell v):Inv X (a++sR c s.heap) f H s :=
 I.fV λp k=>(ZT.mp k).elim (λz=>I.pin p (ZP _ z)) λz=>by
  let⟨g,e⟩:=Nt z;let⟨l,m,n,_⟩:03:=i p.1 g;let⟨o,h,d⟩:=j p.1 g;rw[e] at h;cases h;calc⟨e,l,m,n,d⟩
theorem Inv.eI{a c}{b:St}{H s}(I:Inv X (a++c) b H s):Inv X a b H s:=I.fV λp d=>I.pin p (ZP _ (q0h _ d))
theorem Fj{j C wi g tb pos}(G:PassesOwn (ς X.prog X.w) X.A X.env X.xe)(hc:X.calm=θ)(hi:JI X tg j wi)(hg:JG X tg g)(k:cV X C tb)
  (hs:‹∀x,foldedSetIterable j X.env x=pure x›):JS X (.For tg j C [] pos) (yy wi g tb):=by
 calc⟨λa s σ H D I h=>wpAny_For (bu (hi a s σ H _ I h) λv s1 h1=>bu h1 λNu s2 h2=>?_) hs⟩;let⟨it,K,tn,J,H2,e,I2,T,V,f2,W,⟨m0,w0⟩,L⟩:5511:=h2;subst e;let l:∀{B},(∀b∈K,B b=η)->∀b∈K,b3 X a B b:=λhn b k=>⟨hn b k,(f2 b k).2⟩;calc codeAny_forLoop_any (λn s'=>∃i p B,Inv X a p B s'/\tn i s'.heap/\(∀b∈K,B b=η)/\W i n p B) ?_ m0 (zI3 0 σ H2 ⟨I2,V,λb k=>(f2 b k).1,w0⟩);ext n s3 M;let⟨i,q,U,I3,O,P,w3⟩:33:=M;rcases L i n q U w3 with⟨Q,qn⟩|⟨go,N,hN,R⟩
 .refine q2l G (bu (T.done X rfl rfl rfl hc i a s3 q U X.xe I3 (l P) O Q) ?_);ext r s4 ⟨Y,I4⟩
  subst Y;exact q28 ⟨q,U,I4,qn⟩
 .refine q2l G (bu (T.item X rfl rfl rfl hc i a s3 q U X.xe I3 (l P) O go) ?_);ext r s4 ⟨u,Y,h4⟩
  subst Y;refine q2l G (bu h4 λ_ s5 ⟨x,H5,I5,r5,y5,F,Z⟩=>q2l G (bu (hg _ s5 q H5 x u _ (I5.pinned (l Z) (T.obj _ _ F)) r5 (R x H5 y5)) λ_ s6 ⟨σ6,H6,I6,q6⟩=>q2l G (bu (k _ s6 σ6 H6 _ I6 q6) λf s7 E=>?_)))
  let z:∀{c t},Inv X (a++sR K s5.heap) c t s7->N c t->∃m,m<n/\∃i p B,Inv X a p B s7/\tn i s7.heap/\(∀b∈K,B b=η)/\W i m p B:=λ{c t} y S=>by
   let⟨m',hm,w7⟩:=hN c t S;calc⟨m',hm,i+1,c,t,y.eI,T.keep _ _ _ F λb k o e=>(y.pin (b,o) (ZP _ (ZP _ (vC k e)))).1,λb k=>?_,w7⟩;let⟨o,e,d⟩:=T.obj _ _ F b k;exact(y.pin (b,o) (ZP _ (ZP _ (vC k e)))).2.1
  cases f with
  |next=>let⟨c,t,y,S⟩:21:=E;exact z y S
  |cont=>let⟨c,t,y,S⟩:21:=E;exact z y S
  |brk=>let⟨c,t,y,E⟩:21:=E;exact⟨c,t,y.eI,E⟩
  |ret v=>let⟨x7,c,t,y,r7,E⟩:32:=E;calc(zI3 x7 c t ⟨y.eI,r7,E⟩)
end
abbrev R2:=V->V->Hp->VK->Prop
def eJ(X:Cx)(f:ν->ν->Sem ν)(r:R2):Prop :=
 ∀(a:aF)(s:ο)(b:St)(H:Hp)(x y:V)(v u:ν)(Q:VK),Inv X a b H s->RelV x v->RelV y u->r x y H Q →
  ρ (ς X.prog X.w) X.A (f v u) (EP X a b Q) X.xe s
def yz(X:Cx)(f:ν->Sem ν)(r:V->Hp->VK->Prop):Prop :=
 ∀(a:aF)(s:ο)(b:St)(H:Hp)(x:V)(v:ν)(Q:VK),Inv X a b H s->RelV x v->r x H Q →
  ρ (ς X.prog X.w) X.A (f v) (EP X a b Q) X.xe s
def g_(X:Cx)(f:ν)(r:-V->Hp->VK->Prop):Prop :=
 ∀(a:aF)(s:ο)(b:St)(H:Hp)(c:-V)(d:-ν)(Q:VK),Inv X a b H s->Vals c d->r c H Q →
  ρ (ς X.prog X.w) X.A (call f d) (EP X a b Q) X.xe s
def sS(r:R2)(ta tb:TE):TE:=λa H Q=>ta a H λx b=>tb a b λy c=>r x y c Q
def Nv(r:V->Hp->VK->Prop)(ta:TE):TE:=λa H Q=>ta a H λx b=>r x b Q
def rI(C:Int->Int->Prop)(g:Int->Int->V):R2:=λx y H Q=>∃i j,x=.int i/\y=.int j/\C i j/\Q (g i j) H
def mV(g:Int->Int->V):R2:=λx y H Q=>∃i j,x=.int i/\y=.int j/\Q (g i j) H
def rU(g:Int->V):V->Hp->VK->Prop:=λx H Q=>∃i,x=.int i/\Q (g i) H
section
variable{X:Cx}{a b c:υ}{ta tb tc:TE}{pos:Δ}
theorem pU(k:JE X a ta)(l:JE X b tb){c s}{d:St}{H}{R:V->V->Hp->Prop}(I:Inv X c d H s)
  (h:ta d H λx j=>tb d j λy H2=>R x y H2) {Q:br} {f:ν->ν->Sem ν}
  (n:∀v u i x y H2,Inv X c d H2 i->RelV x v->RelV y u->R x y H2->ρ (ς X.prog X.w) X.A (f v u) Q X.xe i) :
  ρ (ς X.prog X.w) X.A (eval a X.env) (λv e=>ρ (ς X.prog X.w) X.A (eval b X.env) (λu g=>ρ (ς X.prog X.w) X.A (f v u) Q X.xe g) X.xe e) X.xe s:=by
 calc bu (k c s d H _ I h) λv o ⟨x,j,p,q,r⟩↦bu (l c o d j _ p r) λu i ⟨y,m,t,z,B⟩↦n v u i x y m t q z B
theorem pV{op r}(d:eJ X (binaryOp op) r)(e:JE X a ta)(f:JE X b tb):JE X (.BinOp a op b pos) (sS r ta tb):=by
 calc⟨λc s g H Q I h=>wpAny_BinOp (pU e f I h λv u i x y j k l m q=>d c i g j x y v u Q k l m q)⟩
theorem Fl{op}{r:V->Hp->VK->Prop}(d:yz X (unaryOp op) r)(e:JE X a ta):JE X (.UnaryOp op a pos) (Nv r ta):=by
 calc⟨λb s c H Q I h=>UnaryOp_ (bu (e b s c H _ I h) λv f ⟨x,g,i,j,k⟩↦d b f c g x v Q i j k)⟩
theorem vD{f:ν->ν->Sem ν}{C}{g:Int->Int->Int}
  (a:∀i j t u s (Q:br) (E:br),C i j->Q (.int (g i j) s.toks) {s with toks:=s.toks+1}->ρ (ς X.prog X.w) X.A (f (.int i t) (.int j u)) Q E s) :
  eJ X f (rI C λi j=>.int (g i j)):=by
 ext b s l H x y v u Q I c d h;let⟨i,j,rfl,rfl,e,q⟩:23:=h;let⟨t,rfl⟩:=c;let⟨k,rfl⟩:=d;calc a i j t k s _ _ e ⟨.int (g i j),H,I.tok _,⟨_,Y⟩,q⟩
theorem sT{f:ν->ν->Sem ν}{g:Int->Int->Int}
  (a:∀i j t u s (Q:br) (E:br),Q (.int (g i j) s.toks) {s with toks:=s.toks+1}->ρ (ς X.prog X.w) X.A (f (.int i t) (.int j u)) Q E s) :
  eJ X f (mV λi j=>.int (g i j)):=by
 ext b s k H x y v u Q I c d h;let⟨i,j,rfl,rfl,q⟩:22:=h;let⟨t,rfl⟩:=c;let⟨e,rfl⟩:=d;calc a i j t e s _ _ ⟨.int (g i j),H,I.tok _,⟨_,Y⟩,q⟩
theorem mW{f:ν->ν->Sem ν}{g:Int->Int->Bool}
  (a:∀i j t u s (Q:br) (E:br),Q (.bool (g i j)) s->ρ (ς X.prog X.w) X.A (f (.int i t) (.int j u)) Q E s) :
  eJ X f (mV λi j=>.bl (g i j)):=by
 ext b s k H x y v u Q I c d h;let⟨i,j,rfl,rfl,q⟩:22:=h;let⟨t,rfl⟩:=c;let⟨e,rfl⟩:=d;calc a i j t e s _ _ ⟨.bl (g i j),H,I,Y,q⟩
def cI(i j:Int):Prop:=0<=j/\j<=1000000/\i.natAbs<2 ^ 64
def mX(i j:Int):Prop:=(-(2 ^ 64)<i/\i<2 ^ 64)\/(-(2 ^ 64)<j/\j<2 ^ 64)
theorem mX.ok{i j}(h:mX i j):IntMulOk i j:=by
 rcases h with⟨a,b⟩|⟨a,b⟩
 .exact .of_left (q6P a b)
 .calc .of_right (q6P a b)
theorem Fm:eJ X (binaryOp .Add) (mV λi j=>.int (i+j)):=sT λ_ _ _ _ _ _ _ q=>add_int q
theorem Nx:eJ X (binaryOp .Sub) (mV λi j=>.int (i-j)):=sT λ_ _ _ _ _ _ _ q=>sub_int q
theorem Ny:eJ X (binaryOp .Mult) (rI mX λi j=>.int (i*j)):=vD λ_ _ _ _ _ _ _ a q=>mul_int q a.ok
theorem yA:eJ X (binaryOp .Mod) (rI (λ_ j=>0<j) λi j=>.int (i%j)):=vD λi j _ _ _ _ _ a q=>by
 calc mod_int' ⋯ (by rw[Int.fmod_eq_emod_of_nonneg i ⋯];calc q)
theorem Nz:eJ X (binaryOp .Pow) (rI cI λi j=>.int (i ^ j.toNat)):=vD λ_ _ _ _ _ _ _ a q=>pow_int_small a.1 a.2.1 a.2.2 q
theorem NA{f:ν->Sem ν}{g:Int->Int}
  (a:∀(i:Int)(t:Tok)(s:ο)(Q:br)(E:br),Q (.int (g i) s.toks) {s with toks:=s.toks+1}->ρ (ς X.prog X.w) X.A (f (.int i t)) Q E s) :
  yz X f (rU λi=>.int (g i)):=by
 ext b s d H x v Q I c h;let⟨i,rfl,q⟩:=h;let⟨t,rfl⟩:=c;calc a i t s _ _ ⟨.int (g i),H,I.tok _,⟨_,Y⟩,q⟩
theorem Fp:yz X (unaryOp .USub) (rU λi=>.int (-(i:Int))):=NA λ_ _ _ _ _ q=>neg_int q
end
meta def yB:V->V->Bool
 |.non,.non=>θ|.non,.int _=>θ|.int _,.non=>θ|.non,.bl _=>θ|.bl _,.non=>θ|.non,.str _=>θ|.str _,.non=>θ
 |.int _,.int _=>θ|.bl _,.bl _=>θ|.str _,.str _=>θ|.byt _,.byt _=>θ
 |.int _,.str _=>θ|.str _,.int _=>θ|.bl _,.str _=>θ|.str _,.bl _=>θ
 |_,_=>ι
def NB:R2:=λx y H Q=>yB x y=θ/\Q (.bl (!μ (x=y))) H
theorem NC{i j}:μ (V.int i=V.int j)=(i==j):=by
 rw[q2m];simp
theorem ND{i j}:μ (V.bl i=V.bl j)=(i==j):=by
 rw[q2m];simp
theorem NF{i j}:μ (V.str i=V.str j)=(i==j):=by
 rw[q2m];simp
theorem NG{i j}:μ (V.byt i=V.byt j)=(i.toList==j.toList):=by
 rw[q2m];cases i
 cases j
 simp
section
variable{X:Cx}{a b c:υ}{ta tb tc:TE}{pos:Δ}
theorem i9{a:aF}{b:St}{H:Hp}{s:ο}{Q:VK}{k c:Bool}(I:Inv X a b H s)(q:Q (.bl k) H)(e:k=c):EP X a b Q (.bool c) s:=by
 subst e;calc⟨.bl k,H,I,Y,q⟩
theorem NH:eJ X (compareOp .NotEq) NB:=by
 ext d s e H x y v u Q I c a h;let⟨hs,q⟩:=h
 cases x with
 |non =>
  cases c
  cases y with
  |non=>cases a;exact PySem.EqNone.ne_none_none (i9 I q (by simp))
  |bl j=>cases a;exact PySem.EqNone.ne_none_bool (i9 I q (by simp))
  |int j=>let⟨b,rfl⟩:=a;exact PySem.EqNone.ne_none_int (i9 I q (by simp))
  |str j=>let⟨b,rfl⟩:=a;exact PySem.EqNone.ne_none_str (i9 I q (by simp))
  |_=>exact absurd (show ι=θ from hs) ZS
 |bl i =>
  cases c
  cases y with
  |non=>cases a;exact PySem.EqNone.ne_bool_none (i9 I q (by simp))
  |bl j=>cases a;exact ne_bool (i9 I q (congrArg not ND))
  |str j=>let⟨b,rfl⟩:=a;exact PySem.EqMixed.ne_bool_str (i9 I q (by simp))
  |_=>exact absurd (show ι=θ from hs) ZS
 |int i =>
  let⟨t,rfl⟩:=c
  cases y with
  |non=>cases a;exact PySem.EqNone.ne_int_none (i9 I q (by simp))
  |int j=>let⟨b,rfl⟩:=a;exact ne_int (i9 I q (congrArg not NC))
  |str j=>let⟨b,rfl⟩:=a;exact PySem.EqMixed.ne_int_str (i9 I q (by simp))
  |_=>exact absurd (hs) ZS
 |str i =>
  let⟨t,rfl⟩:=c
  cases y with
  |non=>cases a;exact PySem.EqNone.ne_str_none (i9 I q (by simp))
  |bl j=>cases a;exact PySem.EqMixed.ne_str_bool (i9 I q (by simp))
  |int j=>let⟨b,rfl⟩:=a;exact PySem.EqMixed.ne_str_int (i9 I q (by simp))
  |str j=>let⟨b,rfl⟩:=a;exact ne_str (i9 I q (congrArg not NF))
  |_=>exact absurd (hs) ZS
 |byt i =>
  let⟨t,rfl⟩:=c
  cases y with
  |byt j=>let⟨b,rfl⟩:=a;exact PySem.W.ne_bytes (i9 I q (congrArg not NG))
  |_=>exact absurd (hs) ZS
 |_=>cases y<;>calc absurd (hs) ZS
theorem Fs:eJ X (compareOp .Lt) (mV λi j=>.bl (μ (i<j))):=mW λ_ _ _ _ _ _ _ q=>lt_int q
theorem NI:eJ X (compareOp .LtE) (mV λi j=>.bl (μ (i<=j))):=mW λ_ _ _ _ _ _ _ q=>le_int q
theorem NJ:eJ X (compareOp .Gt) (mV λi j=>.bl (μ (j<i))):=mW λ_ _ _ _ _ _ _ q=>gt_int q
theorem NK:eJ X (compareOp .GtE) (mV λi j=>.bl (μ (j<=i))):=mW λ_ _ _ _ _ _ _ q=>ge_int q
theorem NL:eJ X (compareOp .Is) (λx y H Q=>y=.non/\Q (.bl (μ (x=.non))) H):=by
 ext a s d H x y v u Q I b c h;let⟨rfl,q⟩:=h;cases c
 refine is_none_gen (i9 I q ?_)
 cases x<;>first
  |(rfl)
  |(let⟨t,rfl⟩:=b;rfl)
theorem Ft(b:υ){op:CmpOp}(h: ~~~(op≠.In))(a: ~~~(op≠.NotIn)):behindInMarks op b=ι:=by
 let c:(op==CmpOp.In)=ι:=by cases op<;>first|rfl|exact absurd Y h
 let d:(op==CmpOp.NotIn)=ι:=by cases op<;>first|rfl|exact absurd Y a
 cases b<;>simp[behindInMarks,c,d]
theorem NM{op:CmpOp}{r:R2}(d:eJ X (compareOp op) r)(e:JE X a ta)(f:JE X b tb)(g:behindInMarks op b=ι):JE X (.Compare a [op] [b] pos) (sS r ta tb):=by
 calc⟨λc s i H Q I h=>wpAny_Compare1 (pU e f I h λv u j x y k l m n q=>d c j i k x y v u Q l m n q) g⟩
def NN(t:TE):TT:=λa H Q=>t a H λx b=>∃k,x=.bl k/\Q k b
theorem yC{op:CmpOp}{r:R2}(g:eJ X (compareOp op) r)(i:JE X a ta)(j:JE X b tb)(l:behindInMarks op b=ι):JT X (.Compare a [op] [b] pos) (NN (sS r ta tb)):=by
 refine⟨λd s f H Q I h=>q4j (bu (i d s f H _ I h) λv m ⟨x,n,o,p,q⟩=>bu (j d m f n _ o q) λu t ⟨y,w,A,B,C⟩ =>
  bu (g d t f w x y v u _ A p B C) λc J ⟨z,D,E,F,k,e,G⟩=>?_) l⟩
 subst e;cases F
 calc q03 ⟨D,E,G⟩
def NO(r c:R2)(ta tb d:TE):TE:=λa H Q=>ta a H λx e=>tb a e λy f=>r x y f λz b=>∃k,z=.bl k ∧
 (if k=θ then d a b λg h=>c y g h Q else Q (.bl ι) b)
theorem NP{op g:CmpOp}{r l:R2}(q:eJ X (compareOp op) r)(j:eJ X (compareOp g) l)(t:JE X a ta)(w:JE X b tb)(A:JE X c tc)
  (B:autoParam (lastMarks [op,g] [b,c]=ι) qz6._auto_1):JE X (.Compare a [op,g] [b,c] pos) (NO r l ta tb tc):=by
 refine⟨λf s i H Q I h=>Compare_chain (bu (t f s i H _ I h) λv C ⟨x,D,E,F,G⟩=>chain_link (bu (w f C i D _ E G) λu J ⟨y,K,L,m,M⟩ =>
  bu (q f J i K x y v u _ L F m M) λd N ⟨z,n,o,O,k,e,p⟩=>?_)) B⟩
 subst e;cases O
 refine q03 ?_
 cases k with
 |false=>exact ite_ff ⟨.bl ι,n,o,Y,p⟩
 |true=>calc ite_tt (chain_last (bu (A f N i n _ o p) λP R ⟨S,T,U,V,W⟩↦j f R i T y S u P Q U m V W))
theorem pW:(sizeLine:Nat)<2 ^ 63:=by decide
theorem NQ:eJ X (binaryOp .Add) (λx y H Q=>∃i j,x=.str i/\y=.str j/\↑i+↑j<=sizeLine/\Q (.str (i++j)) H):=by
 ext a s f H x y v u Q I b c h;let⟨i,j,rfl,rfl,d,q⟩:23:=h;let⟨t,rfl⟩:=b;let⟨e,rfl⟩:=c;calc add_str (λe g=>⟨.str (i++j),H,I.tok _,⟨_,Y⟩,q⟩) d
theorem vals1{x:V}{us:-ν}(r:Vals [x] us):∃u,us=[u]/\RelV x u:=by
 cases r with
 |cons a b=>cases b;calc⟨_,Y,a⟩
theorem vals2{x y:V}{us:-ν}(r:Vals [x,y] us):∃u a,us=[u,a]/\RelV x u/\RelV y a:=by
 cases r with
 |cons b c =>
  cases c with
  |cons d e=>cases e;calc(zI2 _ _ ⟨Y,b,d⟩)
theorem NR(c:X.calm=θ):g_ X (.builtin "max") (λxs H Q=>∃i j,xs=[.int i,.int j]/\Q (.int (if j>i then j else i)) H):=by
 ext b s e H d f Q I r h;let⟨i,j,rfl,q⟩:21:=h;let⟨u,g,rfl,⟨t,rfl⟩,⟨l,rfl⟩⟩:22:=vals2 r;refine max_two_ints (I.ok.hd c) λm n k=>⟨_,H,I.kept k,?_,q⟩
 by_cases a:j>i
 .rw[ZF a,ZF a];exact⟨_,Y⟩
 .rw[Zx a,Zx a];calc⟨_,Y⟩
theorem NS(c:X.calm=θ):g_ X (.builtin "min") (λxs H Q=>∃i j,xs=[.int i,.int j]/\Q (.int (if j<i then j else i)) H):=by
 ext b s e H d f Q I r h;let⟨i,j,rfl,q⟩:21:=h;let⟨u,g,rfl,⟨t,rfl⟩,⟨l,rfl⟩⟩:22:=vals2 r;refine min_two_ints (I.ok.hd c) λm n k=>⟨_,H,I.kept k,?_,q⟩
 by_cases a:j<i
 .rw[ZF a,ZF a];exact⟨_,Y⟩
 .rw[Zx a,Zx a];calc⟨_,Y⟩
end
structure jj(h:Α)(x dx C:O)(mA:Z->Option ν):Prop where
 obj:h.get? x=ζ (q1Z C dx)
 ns:h.Ns1 dx mA
 ne:dx≠x
theorem yD{h:Α}{d:O}{f:Z->Option ν}(n:h.Ns1 d f):∃g,h.get? d=ζ g/\∀name,q3m name g=ζ (f name):=by
 let⟨o,i,s,j,k,l,_,m⟩:34:=n;calc⟨o,j,λb=>?_⟩;let e:=m b;unfold nsFind findBy at e;rw[<-Array.find?_toList] at e;unfold q3m;rw[k];dsimp only;split
 .rename_i y q
  rw[q] at e;exact congrArg ζ e
 .rename_i q
  rw[q] at e
  let a:i.toList.any (·.refKey)=ι:=by
   rw[q1g];ext y p;let⟨z,t,c⟩:2:=l y (q24.mp p);simp[DictEntry.refKey,c]
  let r:¬ i.toList.any (·.refKey)=θ:=by rw[a];exact ZS
  rw[Zx r];calc congrArg ζ e
theorem jj.look{h:Α}{x b C:O}{c:Z->Option ν}(I:jj h x b C c):∃a,PySem.W.InstAt h x (q1Z C b) C (ζ a)/\∀name,q3m name a=ζ (c name) :=
 let⟨a,d,e⟩:=yD I.ns
 ⟨a,⟨I.obj,Y,Y,d⟩,e⟩
section
variable{prog:ψ}{w:ω}{A:Β}{E:br}{s:ο}{K:vL}{x dx C f:O}{mA:Z->Option ν}{name:Z}{v:ν}
theorem NU{a:Bool}{Q:br}(X:K.In s.heap)(I:jj s.heap x dx C mA)(c:q2Y K C name=θ)(d:q2D K C=θ)
  (e:q0k K (.ref C) name=ζ η) (f:mA name=ζ v) (b:q5N v=θ) (h:Q v {s with toks:=s.toks+1}) :
  ρ (ς prog w) A (getAttr (.ref x) name a) Q E s:=by
 let⟨i,J,g⟩:=I.look;calc PySem.W.get_value X J (q3c c).1 (q4H d e Y (by rw[g,f])) b h
theorem NV{b:Sem Bool}{Q:ν×-ν->ο->Prop}(X:K.In s.heap)(I:jj s.heap x dx C mA)(a:q2Y K C name=θ)
  (c:q0k K (.ref C) name=ζ (ζ (.ref f))) (d:q2c K (.ref f)=θ) (e:mA name=η) (h:Q (.ref f,[.ref x]) s) :
  ρ (ς prog w) A (getMethod (.ref x) name b) Q E s:=by
 let⟨g,J,i⟩:=I.look;calc PySem.W.method_fn X J (q3c a).1 (q3c a).2 c (q2Z.mp d) (by show(q3m name g).map (·.isSome)=ζ ι;rw[i,e];rfl) h
theorem NW{ns:-Z}{Q:Unit->ο->Prop}(X:K.In s.heap)(I:jj s.heap x dx C mA)
  (i:q0k K (.ref C) "__setattr__" = ζ (ζ (.builtin "object.__setattr__"))) (j:q5r K C=θ) (k:q4d K C name=ζ η) (l:q2D K C=θ)
  (m:q5p mA ns) (hsz:ns.length<=sizeLine)
  (h:∀h',jj h' x dx C (λy=>if y=name then ζ v else mA y)->q1T dx s.heap h'->Q () {s with heap:=h',toks:=s.toks+2}) :
  ρ (ς prog w) A (setAttr (.ref x) name v) Q E s:=by
 let⟨r,J,t⟩:=I.look;calc PySem.W.set_plain X J i (PySem.W.osa_open   X J j k λb=>?_);let⟨u,n,d⟩:=PySem.W.any_some l;calc nh (y9 (nh (nh (q4u I.obj (nh (q5a  (PySem.W.looks_clsIn X n) ?_))))));rw[d];calc y9  (nh (y9 (nh (wpAny_nsSet1  I.ns λq a c=>?_))));let⟨z,o,p,e,f,g⟩:32:=a.count (PySem.Within.cons name v m);calc nh (q5O e (by rw[f];calc q5P (Z0 g (by rw[Ge];symm))) (y9 (h _ ⟨(c.2 _ (q02 I.ne)).trans I.obj,a,I.ne⟩ c)))
theorem NX{R:Result->ο->Prop}{vs:-ν}{b:-(Z×ν)}(X:K.In s.heap)(c:q57 K C=θ)
  (d:q0k K (.ref C) "__init__" = ζ (ζ (.ref f))) (e:PySem.W.typeIn K (.ref f)=ζ (.type "function"))
  (h:codeAny (ς prog w) (A.under (.builtin "type.__call__" ⟨.ref C::vs,b⟩)) (.call (.ref f) ⟨.ref (⇑s+1)::vs,b⟩) (PySem.W.InitBack (⇑s+1) R)
   {s with heap:=(s.heap.push q1A).push (q1Z C ⇑s)}) :
  codeAny (ς prog w) A (.call (.ref C) ⟨vs,b⟩) R s:=by
 calc PySem.W.make_core (PySem.W.makes_of X c) (PySem.W.looks_findIn X d) (λa=>PySem.W.bind_fn X a e) (.inl Y) h
end
meta def dH(f:Z)(v:V):-(Z×V)->-(Z×V)
 |[]=>[(f,v)]
 |(g,x)::r=>if g=f then(g,v)::r else(g,x)::dH f v r
theorem Fu f g v:∀fs:-(Z×V),(dH f v fs).lookup g=if g=f then ζ v else fs.lookup g
 |[]=>by
  show q1B g [(f,v)]=_
  by_cases h:g=f
  .erw[q1B,(q2Z.mpr h),ZF h]
  .erw[q1B,(q1H.mpr h),Zx h]
 |(k,x)::r=>by
  rw[show dH f v ((k,x)::r)=(if k=f then(k,v)::r else(k,x)::dH f v r) from Y]
  by_cases a:k=f
  .rw[ZF a]
   by_cases h:g=k
   .erw[q1B,(q2Z.mpr h),ZF (h.trans a)]
   .erw[q1B,(q1H.mpr h),Zx (λe:g=f=>h (e.trans a.symm))]
  .rw[Zx a]
   by_cases h:g=k
   .erw[q1B,(q2Z.mpr h),Zx (λe  => a (h.symm.trans e))]
   .erw[q1B,(q1H.mpr h)]
    calc(Fu f g v r)
theorem yE f v:∀fs:-(Z×V),f∈(dH f v fs).map (·.1)/\∀g,g∈fs.map (·.1)->g∈(dH f v fs).map (·.1)
 |[]=>⟨by simp[dH],λg h=>by simp at h⟩
 |(k,x)::r=>by
  let⟨b,c⟩:=yE f v r;rw[show dH f v ((k,x)::r)=(if k=f then(k,v)::r else(k,x)::dH f v r) from Y]
  by_cases a:k=f
  .subst a
   exact⟨by simp,λg h=>by simpa using h⟩
  .rw[Zx a]
   refine⟨?_,λg h=>?_⟩
   .exact Yz _ b
   .rcases OQ.mp h with e|e
    .exact OQ.mpr (.inl e)
    .calc Yz _ (c g e)
theorem Fv f v:∀fs:-(Z×V),↑(dH f v fs)<=fs.length+1
 |[]=>by simp[dH]
 |(k,x)::r=>by
  let b:=Fv f v r;rw[show dH f v ((k,x)::r)=(if k=f then(k,v)::r else(k,x)::dH f v r) from Y]
  by_cases a:k=f
  .rw[ZF a,Ge,Ge];symm
  .rw[Zx a,Ge,Ge];symm
theorem e_.some_of{v:V}{o:Option ν}(r:e_ (ζ v) o):∃u,o=ζ u/\RelV v u:=by
 cases o with
 |none=>exact(r).elim
 |some u=>calc⟨u,Y,r⟩
theorem e_.none_of{o:Option ν}(r:e_ η o):o=η:=by
 cases o with
 |none=>rfl
 |some u=>calc(r).elim
theorem Fw{v:V}{u:ν}(r:RelV v u):q5N u=θ:=by
 cases v with
 |non=>cases(r);rfl
 |bl b=>cases(r);rfl
 |int i=>let⟨t,e⟩:=(r);cases e;rfl
 |str x=>let⟨t,e⟩:=(r);cases e;rfl
 |byt b=>let⟨t,e⟩:=(r);cases e;rfl
 |flt b=>let⟨t,e⟩:=(r);cases e;rfl
 |ref a=>cases(r);rfl
 |ty n=>cases(r);rfl
section
variable{P:ψ}{w:ω}{H H':Hp}{h h':Α}{a C dx:O}{fs MU:-(Z×V)}
theorem vE(c:dk P w H h)(e:H a=ζ (.ins C dx fs)):∃b,jj h a dx C b/\(∀f,e_ (fs.lookup f) (b f))/\q5p b (fs.map (·.1))/\fs.length<=1000/\H dx=ζ (.own a):=by
 let⟨d,z,g,i,b,n,r,q⟩:0412:=(c a _ e);calc⟨b,⟨i,n,g⟩,r,q,z,d⟩
end
structure hD(K:vL)(C:O):Prop where
 pg:q2Y K C Str.empty=θ
 hd:q2D K C=θ
 po:q5r K C=θ
 sa:q0k K (.ref C) "__setattr__" = ζ (ζ (.builtin "object.__setattr__"))
theorem hD.get{K:vL}{C:O}(c:hD K C)(f:Z):q2Y K C f=θ:=c.pg
def bW(K:vL)(C:O)(f:Z):Prop:=q0k K (.ref C) f=ζ η
theorem bW.sU{K:vL}{C:O}{f:Z}(n:bW K C f):q4d K C f=ζ η:=by
 unfold q4d;rw[n];rfl
structure Meth(K:vL)(C:O)(m:Z)(f:O):Prop where
 at_:q0k K (.ref C) m=ζ (ζ (.ref f))
 fn:q2c K (.ref f)=θ
 kp:Z3 K (.ref f)=θ
section
variable{X:Cx}{pins:aF}{σ:St}{H:Hp}{s:ο}{a C dx:O}{fs:-(Z×V)}{f:Z}{v:V}{A:Β}{E:br}
theorem NY{b:Bool}{Q:br}(I:Inv X pins σ H s)(e:H a=ζ (.ins C dx fs))(c:hD X.K C)(n:bW X.K C f)(l:fs.lookup f=ζ v)
  (h:∀u s',Inv X pins σ H s'->RelV v u->Q u s'):ρ (ς X.prog X.w) A (getAttr (.ref a) f b) Q E s:=by
 let⟨i,O,r,_,_,_⟩:14:=vE I.bc e;let⟨u,g,d⟩:=e_.some_of   (by rw[<-l];calc r f);calc NU I.de O (c.get f) c.hd n g (Fw d) (h u _ (I.tok _) d)
theorem FA{m:Z}{g:ξ}{b:Sem Bool}{Q:ν×-ν->ο->Prop}(I:Inv X pins σ H s)(e:H a=ζ (.ins C dx fs))(c:hD X.K C)(k:Meth X.K C m g)(l:fs.lookup m=η)
  (h:Q (.ref g,[.ref a]) s):ρ (ς X.prog X.w) A (getMethod (.ref a) m b) Q E s:=by
 let⟨d,O,r,_,_,_⟩:14:=vE I.bc e;calc NV I.de O (c.get m) k.at_ k.fn (e_.none_of (by rw[<-l];calc r m)) h
theorem NZ{y:V}{u:ν}{Q:Unit->ο->Prop}(I:Inv X pins σ H s)(e:H a=ζ (.ins C dx fs))(c:hD X.K C)(n:bW X.K C f)(F:fs.length<1000)(k:RelV y u)
  (h:∀s',Inv X pins σ (upd H a (.ins C dx (dH f y fs))) s'->Q () s'):ρ (ς X.prog X.w) A (setAttr (.ref a) f u) Q E s:=by
 let⟨l,O,r,i,_,j⟩:14:=vE I.bc e;let m:↑(fs.map (·.1))<=sizeLine:=by rw[qa,q09];symm
 calc NW I.de O c.sa c.po n.sU c.hd i m λp d t=>h _ ?_;let x:∃o,p.get? dx=ζ o:=let⟨o,_,_,v,_⟩:=d.ns;⟨o,v⟩;refine I.write   (by rw[e];calc q1F) (.inr j) (λb q B z=>(t.2 b B).trans z) x ⟨by rw[aQ O.ne];calc j,?_,O.ne,d.obj,_,d.ns,λg=>?_,λg D=>?_⟩
 .let:=Fv f y fs;symm
 .rw[Fu]
  by_cases q:g=f
  .rw[ZF q,ZF q];exact k
  .rw[Zx q,Zx q];exact r g
 .by_cases q:g=f
  .rw[q];exact(yE f y fs).1
  .refine (yE f y fs).2 g (i g λz=>D ?_)
   show(if g=f then ζ u else l g)=η;rw[Zx q];calc z
theorem Inv.made(I:Inv X pins σ H s):Inv X pins σ (upd (upd H ⇑s (.own (⇑s+1))) (⇑s+1) (.ins C ⇑s []))
  {s with heap:=(s.heap.push q1A).push (q1Z C ⇑s)}:=by
 let a:(s.heap.push q1A).get? ⇑s=ζ q1A:=YA s.heap Y
 let d:=by
  let:=YA (s.heap.push q1A) (o:=q1Z C ⇑s) Y
  rwa [q0z] at this
 let f:=I.laid  (o:=.own (⇑s+1))  (t':=s.toks) (λb u q=>qc _ q) (tm _) ⟨_,a⟩;calc f.laid    (λb u q=>qc _ q) (q30 (q0z _ _)) ?_;let c:⇑s≠⇑s+1:=Zy ⋯;calc⟨by rw[aQ c,bN],q0d _,c,d,λ_=>η,(q5s (zI3 q1A #[] _ ⟨a,Y,(λe g=>absurd g (by simp)),λ_=>Y⟩)).at λo q=>qc _ q,λ_=>q1F,λy h=>absurd Y h⟩
theorem FC{prog:ψ}{w:ω}{env:Ε}{e:υ}{f:Z}{pos:Δ}{s:ο}{Q:br}(b:attributeBase e f env (eval e env)=eval e env)
  (h:ρ (ς prog w) A (eval e env) (λo a=>ρ (ς prog w) A (getAttr o f θ) Q E a) E s):ρ (ς prog w) A (eval (.Attribute e f pos) env) Q E s :=
 Attribute_any_ h (by rw[arm_eval_Attribute,b])
end
def yF(K:vL)(ta:TE)(f:Z):TE:=λd H Q=>ta d H λx b=>∃a C e c v,x=.ref a/\b a=ζ (.ins C e c)/\hD K C/\bW K C f/\c.lookup f=ζ v/\Q v b
def yG(K:vL)(ta g:TE)(f:Z):TS:=λD b H=>g b H λy h=>ta b h λx d=>∃a C e c,x=.ref a/\d a=ζ (.ins C e c)/\hD K C/\bW K C f/\↑c<1000 ∧
 D.nx b (upd d a (.ins C e (dH f y c)))
section
variable{X:Cx}{o e value:υ}{f:Z}{pos pos' yH:Δ}{ta tv:TE}
theorem N4(he:JE X e ta)(d:attributeBase e f X.env (eval e X.env)=eval e X.env):JE X (.Attribute e f pos) (yF X.K ta f):=by
 calc⟨λb s g H Q I h=>FC d (bu (he b s g H _ I h) ?_)⟩;ext u t ⟨x,i,j,k,a,C,w,y,v,m,o,c,n,l,q⟩;subst m;obtain rfl:u=Z4 a:=k;calc NY j o c n l λz A p r=>⟨v,i,p,r,q⟩
theorem N5(e:JE X o ta)(g:JE X value tv)(i:swapsWith value (ζ (.Attribute o f pos')) pos.line X.env=pure ι):JS X (.Assign [.Attribute o f pos'] value pos) (yG X.K ta tv f):=by
 calc⟨λb s d H D I h=>q2N (bu (g b s d H _ I h) λu j ⟨y,k,m,p,q⟩=>bu (e b j d k _ m q) λr E ⟨x,F,t,v,a,C,G,J,w,z,c,n,l,A⟩=>?_) i⟩;subst w;obtain rfl:r=Z4 a:=v;calc NZ t z c n l p λL B=>(zI2 d _ ⟨B,A⟩)
end
section
variable{X:Cx}{pins:aF}{σ:St}{H:Hp}{s:ο}{A:Β}{E:br}{Q:br}{c:ν}{b:Bool}
inductive eK (K:vL) (H:Hp):V->ν->Prop where
 |non:eK K H .non (.type "NoneType")
 |bl (x:Bool):eK K H (.bl x) (.type "bool")
 |int (i:Int):eK K H (.int i) (.type "int")
 |str (x:Z):eK K H (.str x) (.type "str")
 |flt (x:UInt64):eK K H (.flt x) (.type "float")
 |lst {a:O} {xs:-V} (e:H a=ζ (.lst xs)):eK K H (.ref a) (.type "list")
 |frz {a:O} {o:Obj} {xs:-V} (e:H a=ζ (.frz o (.lst xs))):eK K H (.ref a) (.type "list")
 |tup {a:O} {xs:-V} (e:H a=ζ (.tup xs)):eK K H (.ref a) (.type "tuple")
 |dK {a:O} {kvs:-(Key×V)} (e:H a=ζ (.dK kvs)):eK K H (.ref a) (.type "dict")
 |dT {a:O} {kvs:-(-Key×V)} (e:H a=ζ (.dT kvs)):eK K H (.ref a) (.type "dict")
 |ins {a C dx:O} {fs:-(Z×V)} (e:H a=ζ (.ins C dx fs)) (cl:hD K C) (ha:q0k K (.ref C) "__class__" = ζ (ζ (.builtin "object.__class__")))
   (hn:q5t K (.builtin "object.__class__") "__get__" = ζ (ζ (.builtin "getset_descriptor.__get__"))) (Yx:q58 K (.builtin "object.__class__")=ζ θ)
   (hm:PySem.W.mroIn K C (.type "object")=ζ θ):eK K H (.ref a) (.ref C)
theorem N6{x:V}{u t:ν}(I:Inv X pins σ H s)(rx:RelV x u)(r:eK X.K H x t)(e:ZN X.K t c=ζ b)(h:∀tk,Q (.bool b) {s with toks:=tk}):
  ρ (ς X.prog X.w) A (call (.builtin "isinstance") [u,c]) Q E s:=by
 cases r with
 |non=>cases(rx);exact q0A PySem.W.kitx_none I.de q1F e (λz=>nomatch z) h
 |bl y=>cases(rx);exact q0A PySem.W.kitx_bool I.de q1F e (λz=>nomatch z) h
 |int i=>let⟨t,q⟩:=(rx);cases q;exact q0A PySem.W.kitx_int I.de q1F e (λz=>nomatch z) h
 |str y=>let⟨t,q⟩:=(rx);cases q;exact q0A PySem.W.kitx_str I.de q1F e (λz=>nomatch z) h
 |flt y=>let⟨t,q⟩:=(rx);cases q;exact q0A PySem.W.kitx_float I.de q1F e (λz=>nomatch z) h
 | @lst a j d =>
  cases(rx)
  let⟨_,_,n,_,f⟩:0121:=(I.bc a _ d);exact q0A q5u I.de ⟨_,f,Y⟩ e (λz=>nomatch z) h
 | @frz a L j d =>
  cases(rx)
  let⟨_,_,_,n,_,f⟩:0221:=(I.bc a _ d);exact q0A q5u I.de ⟨_,f,Y⟩ e (λz=>nomatch z) h
 | @tup a j d =>
  cases(rx)
  let⟨_,_,_,p⟩:=(I.bc a _ d);let⟨o,f,g,_⟩:12:=p;exact q0A PySem.W.kitx_tuple I.de ⟨o,f,g⟩ e (λz=>nomatch z) h
 | @dK a k d =>
  cases(rx)
  let⟨_,_,M,_,p⟩:0211:=(I.bc a _ d);let⟨o,v,B,f,g,_⟩:32:=p;exact q0A q5v I.de ⟨o,f,g.1⟩ e (λz=>nomatch z) h
 | @dT a k d =>
  cases(rx)
  let⟨_,_,j,_,o,v,B,f,g,_⟩:021132:=(I.bc a _ d);exact q0A q5v I.de ⟨o,f,g.1⟩ e (λz=>nomatch z) h
 | @ins a C N P d m D F l G =>
  cases(rx)
  let⟨R,O,_⟩:=vE I.bc d;let⟨S,J,_⟩:11:=O.look;calc q0A (PySem.W.kitx_own (m.get _) m.hd D F l G) I.de J e (λz=>nomatch z) h
end
structure aX(k:Nat)(A:Β):Prop where
 hd:A.handled=η
 dp:A.depth+3*k+5<recursionLimit
 un:A.units+16*k+200<cLine
 gd:A.guards=ζ []
theorem aX.mono{j k:Nat}{A:Β}(r:aX k A)(h:j<=k):aX j A:=⟨r.hd,by let:=r.dp;symm,by let:=r.un;symm,r.gd⟩
theorem aX.deeper{k A}(r:aX (k+1) A) env:aX k (A.deeper env) :=
 ⟨r.hd,by let:=r.dp;show A.depth+1+3*k+5<_;symm,by let:=r.un;show A.units+3+16*k+200<_;symm,r.gd⟩
theorem aX.in1{k A}(r:aX (k+1) A):aX k A.in1 :=
 ⟨r.hd,by let:=r.dp;show A.depth+3*k+5<_;symm,by let:=r.un;show A.units+1+16*k+200<_;symm,r.gd⟩
theorem N7{A:Β}{C:O}{us:-ν}{a:-(Z×ν)}:(A.under (.builtin "type.__call__" ⟨.ref C::us,a⟩)).depth=A.depth+1:=by
 first|rfl|symm
theorem N8{A:Β}{C:O}{us:-ν}{a:-(Z×ν)}:(A.under (.builtin "type.__call__" ⟨.ref C::us,a⟩)).units=A.units+1:=by
 first|rfl|symm
theorem aX.make{k:Nat}{A:Β}(r:aX (k+1) A)(C:O)(us:-ν)(a:-(Z×ν)):aX k (A.under (.builtin "type.__call__" ⟨.ref C::us,a⟩)) :=
 ⟨r.hd,by let:=r.dp;rw[N7];symm,by let:=r.un;rw[N8];symm,r.gd⟩
theorem aX.depth{k A}(r:aX k A):A.depth<recursionLimit:=by let:=r.dp;symm
theorem aX.units{k A}(r:aX k A):A.units+64<cLine:=by let:=r.un;symm
def iM:TA:=λ_ H Q=>Q [] H
def jk(ta:TE)(b:TA):TA:=λa H Q=>ta a H λx c=>b a c λd e=>Q (x::d) e
section
variable{X:Cx}{e:υ}{es:-υ}{te:TE}{t:TA}{pos:Δ}
theorem bj:JA X [] iM:=⟨λ_ _ _ _ H Q I h=>Calls.spliced_nil ⟨[],H,I,.nil,h⟩⟩
theorem jH(d:JE X e te)(f:JA X es t)(g:‹b7 X e es›):JA X (e::es) (jk te t):=by
 calc⟨?_⟩;ext b a s c H Q I h;rw[g];calc Calls.spliced_cons (bu (d a s c H _ I h) λu i ⟨x,j,k,l,m⟩↦bu (f b a i c j _ k m) λv w ⟨n,o,p,q,r⟩↦⟨x::n,o,p,.cons l q,r⟩)
def yI(t:TA):TE:=λc H Q=>t c H λa b=>↑a<=sizeLine/\∀p,b p=η->Q (.ref p) (upd b p (.tup a))
def yJ(t:TA):TE:=λc H Q=>t c H λa b=>↑a<=sizeLine/\∀p,b p=η->Q (.ref p) (upd b p (.lst a))
theorem N9{f}(h:JA X es t):JE X (.Tuple es f pos) (yI t):=by
 calc⟨λa s g H Q I i=>wpAny_Tuple_spliced (bu (h pos a s g H _ I i) λj c ⟨k,l,d,r,z,q⟩=>⟨by rw[<-↑r];calc z,⟨.ref ⇑c,upd l ⇑c (.tup k),d.laid  (λb u e=>qc _ e) (tm _) ?_,Y,q _ (d.bc.fresh (tm _))⟩⟩)⟩;calc⟨z,j,r,⟨_,YA _ Y,Y,_,Y⟩⟩
theorem mY(h:JA X es t):JE X (.List es pos) (yJ t):=by
 calc⟨λa s f H Q I g=>wpAny_List_spliced (bu (h pos a s f H _ I g) λi c ⟨j,k,d,r,z,q⟩=>⟨by rw[<-↑r];calc z,⟨.ref ⇑c,upd k ⇑c (.lst j),d.laid  (λb u e=>qc _ e) (tm _) ?_,Y,q _ (d.bc.fresh (tm _))⟩⟩)⟩;calc⟨z,i,0,r,YA _ Y⟩
end
abbrev Sp:=-V->Hp->VK->XK->Prop
abbrev j2:=-Ε->Hp->ο->XK->ν->ο->Prop
structure jl(P:ψ)(w:ω)(K:vL)(mg:Z->Option ν)(base:Α)(A:Β)(outer:-Ε)(s:ο)(H:Hp):Prop where
 frames:A.frames=ζ outer
 mod:Mod K mg base
 bs:∀b o,base.get? b=ζ o->s.heap.get? b=ζ o/\(H b=η\/∃xs,H b=ζ (.tup xs))
 kB:base.objs.size<=⇑s
 dX:s.heap.FunFrames base outer
 kU:∀b∈fg outer,H b=η
 bc:dk P w H s.heap
 bare:AllBare s.gens
def CE(a:-Ε)(P:ψ)(w:ω)(H:Hp)(s:ο)(Q:VK)(u:ν)(s':ο):Prop :=
 ∃v b,s'.os=s.os/\AllBare s'.gens/\Un (fg a) [] H b s.heap s'.heap/\dk P w b s'.heap/\RelV v u/\Q v b
def CR(CX:j2)(a:-Ε)(P:ψ)(w:ω)(H:Hp)(s:ο)(Q:VK)(E:XK)(r:Result)(s':ο):Prop :=
 match r with
 |.ok (.ret u)=>CE a P w H s Q u s'
 |.ok _=>False
 |.error e=>CX a H s E e s'
structure bH(P:ψ)(w:ω)(K:vL)(mg:Z->Option ν)(base:Α)(CX:j2)(k:Nat)(f:O)(fd:FuncData)(ps:-Z)(sp:Sp):Prop where
 len:∀vs H Q E,sp vs H Q E->↑vs=↑ps
 run:∀(A:Β)(outer:-Ε)(s:ο)(H:Hp)(args:Args)(us:-ν)(vs:-V)(Q:VK)(E:XK),aX k A->jl P w K mg base A outer s H->BindsTo s fd args (ps.zip us)->Vals vs us->sp vs H Q E →
  codeAny (ς P w) A (.call (.ref f) args) (CR CX outer P w H s Q E) s
theorem jl.make{P:ψ}{w:ω}{K:vL}{c:Z->Option ν}{b:Α}{A:Β}{a:-Ε}{s:ο}{H:Hp}(e:jl P w K c b A a s H)(C:O)(us:-ν)(d:-(Z×ν)):
  jl P w K c b (A.under (.builtin "type.__call__" ⟨.ref C::us,d⟩)) a s H:=⟨by first|exact e.frames|(symm),e.mod,e.bs,e.kB,e.dX,e.kU,e.bc,e.bare⟩
section
variable{X:Cx}{pins:aF}{σ:St}{H:Hp}{s s':ο}
theorem Inv.mZ(I:Inv X pins σ H s):jl X.prog X.w X.K X.mg X.base X.A X.stack s H :=
 ⟨I.ok.frames,I.ok.mod,I.bs,Z0 I.ok.kB I.sz,I.stack,I.eG,I.bc,I.bare⟩
theorem Inv.after{Q:VK}{u:ν}(I:Inv X pins σ H s)(h:CE X.stack X.prog X.w H s Q u s'):EP X pins σ Q u s':=by
 let⟨v,f,i,a,j,c,r,q⟩:25:=h;let⟨k,g,d,t,e⟩:=s';obtain rfl:e=s.os:=i;calc⟨v,f,I.call      j c a (λb z=>absurd z (by simp)),r,q⟩
end
def sV(sp:Sp)(a:-V)(E:XK)(t:TA):TE:=λb H Q=>t b H λc d=>sp (c++a) d Q E
def yK(C:O)(m:Z)(sp:Sp)(b:-V)(E:XK)(ta:TE)(t:TA):TE:=λc H Q=>ta c H λx d=>∃a f e,x=.ref a/\d a=ζ (.ins C f e)/\e.lookup m=η ∧
 t c d λg h=>sp (x::(g++b)) h Q E
def N_(C:O)(sp:Sp)(b:-V)(E:XK)(t:TA):TE:=λd H Q=>t d H λe c=>∀x a,c x=η->c a=η->a≠x →
 sp (.ref x::(e++b)) (upd (upd c a (.own x)) x (.ins C a [])) (λv f=>v=.non/\Q (.ref x) f) E
def Binds(K:vL)(b:FuncData)(ps:-Z)(ds:-ν):Prop :=
 ∀(s:ο)(a:-ν),K.In s.heap->↑(a++ds)=↑ps->BindsTo s b ⟨a,[]⟩ (ps.zip (a++ds))
theorem Binds.all{K:vL}{a:FuncData}{ps:-Z}(h:∀us:-ν,↑us=↑ps->bindArgs a ⟨us,[]⟩=pure (ps.zip us)):Binds K a ps []:=λs c _ b=>by
 rw[dV] at b ⊢;calc .of_eq (h c b)
def i_(CX:j2)(X:Cx)(E:XK):Prop:=∀(a:aF)(c:St)(H:Hp)(s:ο)(e:ν)(b:ο),Inv X a c H s->CX X.stack H s E e b->X.xe e b
section
variable{X:Cx}{CX:j2}{k:Nat}{f C:O}{fd:FuncData}{ps:-Z}{sp:Sp}{jI:-V}{ds:-ν}{E:XK}{x m:Z}{p pos apos:Δ}{e o:υ}{es:-υ}{ta:TE}{t:TA}
theorem yL{a:aF}{c:St}{H:Hp}{s:ο}{Q:VK}{us:-ν}{vs:-V}(F:bH X.prog X.w X.K X.mg X.base CX k f fd ps sp)(g:aX k X.A)(i:Binds X.K fd ps ds)(hd:Vals jI ds)(j:i_ CX X E)
  (I:Inv X a c H s) (r:Vals vs us) (h:sp (vs++jI) H Q E):ρ (ς X.prog X.w) X.A (call (.ref f) us) (EP X a c Q) X.xe s:=by
 let d:=r.append hd;let l:↑(us++ds)=↑ps:=by rw[<-↑d];exact F.len _ _ _ _ h
 refine q2p (q2d (F.run X.A X.stack s H ⟨us,[]⟩ (us++ds) (vs++jI) Q E g I.mZ (i s us I.de l) d h) λr m b=>?_)
 cases r with
 |error e=>exact j a c H s e m I b
 |ok n =>
  cases n with
  |ret u=>exact I.after b
  |next=>exact ZQ b
  |brk=>exact ZQ b
  |cont=>calc ZQ b
theorem oF(F:bH X.prog X.w X.K X.mg X.base CX k f fd ps sp)(g:aX k X.A)(i:Gl X x)(j:X.mg x=ζ (.ref f))(l:Z3 X.K (.ref f)=θ)(m:Binds X.K fd ps ds)(hd:Vals jI ds)(n:i_ CX X E)
  (o:JA X (e::es) t) (b: ~~~(bF x)) (he:‹b7 X e es›) (c:‹cm X pos es›) :
  JE X (.Call (.Name x p) (e::es) [] pos) (sV sp jI E t):=by
 calc⟨?_⟩;ext a s u H Q I h;calc q1b (qY I i j ?_ b);calc q1U (h₀:=X.base) I.ok.mod.l9 l (bu (o pos a s u H _ I h) λv y ⟨z,B,d,r,q⟩=>⟨d.de,?_⟩) he c;calc yL F g m hd n d r q
theorem FD{y:Sem Bool}(he:JE X o ta)(c:hD X.K C)(j:Meth X.K C m f)(F:bH X.prog X.w X.K X.mg X.base CX k f fd ps sp)(z:aX k X.A)(B:Binds X.K fd ps ds)(hd:Vals jI ds)(D:i_ CX X E)(G:JA X (e::es) t)
  (g:‹b7 X e es›) (i:‹cm X pos es›)
  (J:‹eval (.Call (.Attribute o m apos) (e::es) [] pos) X.env=(do
   let ov <- eval o X.env
   standAt apos.atName
   let(f,d) <- holding [ov] (getMethod ov m y)
   callWith pos f d (backTo pos (starEach (e::es) X.env)) (backToKw pos (keywordEach [] X.env)))›) :
  JE X (.Call (.Attribute o m apos) (e::es) [] pos) (yK C m sp jI E ta t):=by
 calc⟨λb s n H Q I h=>q4k  (bu (he b s n H _ I h) λu L ⟨x,M,p,N,a,S,T,O,P,l,q⟩=>?_) J⟩;subst O;obtain rfl:u=Z4 a:=N;calc FA p P c j l (q1U   I.ok.mod.l9 j.kp (bu (G pos b L n M _ p q) λU V ⟨vs,Y,v,r,R⟩↦⟨v.de,yL  (vs:=.ref a::vs) F z B hd D v (.cons rfl r) R⟩) g i)
theorem FE{i:Sem Bool}(he:JE X o ta)(c:hD X.K C)(g:Meth X.K C m f)(F:bH X.prog X.w X.K X.mg X.base CX k f fd ps sp)(j:aX k X.A)(n:Binds X.K fd ps ds)(hd:Vals jI ds)(p:i_ CX X E)
  (r:‹eval (.Call (.Attribute o m apos) [] [] pos) X.env=(do
   let ov <- eval o X.env
   standAt apos.atName
   let(f,b) <- holding [ov] (getMethod ov m i)
   callWith pos f b (backTo pos (starEach [] X.env)) (backToKw pos (keywordEach [] X.env)))›) :
  JE X (.Call (.Attribute o m apos) [] [] pos) (yK C m sp jI E ta iM):=by
 calc⟨λd s t H Q I h=>q4k  (bu (he d s t H _ I h) λu B ⟨x,D,e,v,a,G,J,y,z,l,q⟩=>?_) r⟩;subst y;obtain rfl:u=Z4 a:=v;calc FA e z c g l (PySem.W.callWith_K0  e.de g.kp (yL  (vs:=[.ref a]) F j n hd p e (.cons Y .nil) q))
structure Mk(K:vL)(C f:O):Prop where
 makes:q57 K C=θ
 init:q0k K (.ref C) "__init__" = ζ (ζ (.ref f))
 fn:q2c K (.ref f)=θ
 kp:Z3 K (.ref C)=θ
theorem Oa{a:aF}{g:St}{H:Hp}{s:ο}{Q:VK}{us:-ν}{vs:-V}(M:Mk X.K C f)(F:bH X.prog X.w X.K X.mg X.base CX k f fd ps sp)(l:aX (k+1) X.A)(m:Binds X.K fd ps ds)(hd:Vals jI ds)
  (n:i_ CX X E) (I:Inv X a g H s) (r:Vals vs us)
  (h:∀x c,H x=η->H c=η->c≠x->sp (.ref x::(vs++jI)) (upd (upd H c (.own x)) x (.ins C c [])) (λv H2=>v=.non/\Q (.ref x) H2) E) :
  ρ (ς X.prog X.w) X.A (call (.ref C) us) (EP X a g Q) X.xe s:=by
 let i:=h (⇑s+1) ⇑s (I.bc.fresh (q2u _)) (I.bc.fresh (tm _)) (Zy ⋯);let d:=Inv.made (C:=C) I;let j:Vals (V.ref (⇑s+1)::(vs++jI)) (Z4 (⇑s+1)::(us++ds)):=.cons Y (r.append hd)
 let o:=by
  let e:=↑j;rw[F.len _ _ _ _ i] at e;exact e.symm
 refine q2p (NX  I.de M.makes M.init (q2Z.mp M.fn) (q2d (F.run _ X.stack _ _ ⟨Z4 (⇑s+1)::us,[]⟩ (Z4 (⇑s+1)::(us++ds)) _ _ E (l.make C us [])
  (d.mZ.make C us []) (m _ (Z4 (⇑s+1)::us) d.de o) j i) λr p b=>?_))
 cases r with
 |error e=>exact n a g _ _ e p d b
 |ok q =>
  cases q with
  |ret u =>
   let⟨v,t,y,z,B,D⟩:=d.after b;subst B;exact⟨z,⟨V.ref (⇑s+1),t,y,Y,D⟩⟩
  |next=>exact ZQ b
  |brk=>exact ZQ b
  |cont=>calc ZQ b
theorem FF(M:Mk X.K C f)(F:bH X.prog X.w X.K X.mg X.base CX k f fd ps sp)(g:aX (k+1) X.A)(i:Gl X x)(j:X.mg x=ζ (.ref C))(l:Binds X.K fd ps ds)(hd:Vals jI ds)(m:i_ CX X E)
  (n:JA X (e::es) t) (b: ~~~(bF x)) (he:‹b7 X e es›) (c:‹cm X pos es›) :
  JE X (.Call (.Name x p) (e::es) [] pos) (N_ C sp jI E t):=by
 calc⟨?_⟩;ext a s o H Q I h;calc q1b (qY I i j ?_ b);calc q1U (h₀:=X.base) I.ok.mod.l9 M.kp (bu (n pos a s o H _ I h) λu v ⟨y,z,d,r,q⟩=>⟨d.de,?_⟩) he c;calc Oa M F g l hd m d r q
end
section
variable{X:Cx}{CX:j2}{k:Nat}{f C:O}{fd:FuncData}{ps ks:-Z}{sp:Sp}{E:XK}{x m:Z}{p pos apos m8:Δ}{e o:υ}{es:-υ}{Yy:-Keyword}{te ta:TE}{t tk:TA}{nm:Option Z}
variable{g:-ν->-ν->-ν}{gV:-V->-V->-V}
end
structure kZ(N P:-Z)(sc:Γ):Prop where
 kind:sc.kind=.function
 co:sc.isCoroutine=ι
 gen:sc.isGenerator=ι
 nd:N.Nodup
 pre:N.take ↑P=P
 par:∀x∈P,sc.names.lookup x=ζ .local\/sc.names.lookup x=ζ .cell
 pX:∀y∈sc.names,y.2≠.free
theorem FG{b:Z->Option NameKind}{x:Z}:∀{a:-(Z×ν)}{m:Z->Option ν},(∀v,(x,v)∉a)->bindL b a m x=m x
 |[],_,_=>Y
 |(n,v)::r,m,h=>by
  unfold bindL;rw[FG λw c=>h w (Yz _ c)];split
  .let:x≠n:=by ext rfl;exact h v YB
   simp[this]
  .rfl
theorem FH{b:Z->Option NameKind}{x:Z}:∀{a:-(Z×ν)}{m:Z->Option ν},(∀v,(x,v)∉a)->bindC b a m x=m x
 |[],_,_=>Y
 |(n,v)::r,m,h=>by
  unfold bindC;rw[FH λw c=>h w (Yz _ c)];split
  .rfl
  .let:x≠n:=by ext rfl;exact h v YB
   simp[this]
theorem FJ{a:Z->Option NameKind}{x:Z}{v:ν}:∀{P:-Z}{vs:-ν}{i:Nat}{m:Z->Option ν},P.Nodup->P[i]?=ζ x->vs[i]?=ζ v->a x=ζ .local →
  bindL a (P.zip vs) m x=ζ v
 |[],_,_,_,_,h,_,_=>by simp at h
 |_::_,[],_,_,_,_,h,_=>by simp at h
 |p::P,w::d,0,m,e,b,c,f=>by
  simp at b c;subst b c;show bindL a ((p,w)::P.zip d) m p=_;unfold bindL;rw[FG λv g=>(q1Y.mp e).1 (q4e g).1,ZF f];simp
 |p::P,w::d,i+1,m,e,b,c,f=>by
  show bindL a ((p,w)::P.zip d) m x=_;calc FJ  (q1Y.mp e).2 b⁻¹ c⁻¹ f
theorem FK{a:Z->Option NameKind}{x:Z}{v:ν}:∀{P:-Z}{vs:-ν}{i:Nat}{m:Z->Option ν},P.Nodup->P[i]?=ζ x->vs[i]?=ζ v->a x≠ζ .local →
  bindC a (P.zip vs) m x=ζ v
 |[],_,_,_,_,h,_,_=>by simp at h
 |_::_,[],_,_,_,_,h,_=>by simp at h
 |p::P,w::d,0,m,e,b,c,f=>by
  simp at b c;subst b c;show bindC a ((p,w)::P.zip d) m p=_;unfold bindC;rw[FH λv g=>(q1Y.mp e).1 (q4e g).1,Zx f];simp
 |p::P,w::d,i+1,m,e,b,c,f=>by
  show bindC a ((p,w)::P.zip d) m x=_;calc FK  (q1Y.mp e).2 b⁻¹ c⁻¹ f
meta def start(N:-Z)(vs:-V):St:=vs.map ζ++Gg (↑N-↑vs) η
meta def bt(CX:j2)(P:ψ)(w:ω)(K:vL)(mg:Z->Option ν)(base:Α)(N:-Z)(a:Z)(scope:Γ)(f:O)(c:ν)(A:Β)(outer:-Ε)(s:ο)(H:Hp)(E:XK):Cx where
 prog:=P
 w:=w
 K:=K
 mg:=mg
 base:=base
 A:=A.deeper (envOfC a scope ⇑s f c)
 N:=N
 s₀:=s
 H₀:=H
 env:=envOfC a scope ⇑s f c
 outer:=outer
 stack:=envOfC a scope ⇑s f c::outer
 ex:=[]
 calm:=true
 fn:=λ_=>θ
 pn:=[]
 xe:=λe d=>ρ (ς P w) (A.deeper (envOfC a scope ⇑s f c)) (leaving (envOfC a scope ⇑s f c) e) (λ_ b=>CX outer H s E e b) (λg b=>CX outer H s E g b) d
theorem FL{a:Γ}{n x}(h:a.names.lookup x=ζ .cell):∃c,(cellsFrom n a.names []).lookup x=ζ c:=by
 calc q1G.mp (q2E a.names n [] (.inl h))
theorem Ob{CX:j2}{P:ψ}{w:ω}{K:vL}{G:Z->Option ν}{l:Α}{N ps:-Z}{g:Z}{scope:Γ}{f:ξ}{C:ν}{A:Β}{d:-Ε}{s I:ο}{H:Hp}{E:XK}{us:-ν}{vs:-V}
  (S:kZ N ps scope) (hd:A.handled=η) (m:jl P w K G l A d s H) (R:↑vs=↑ps) (r:Vals vs us)
  (x:InCallC s ⇑s (bindL (envOfC g scope ⇑s f C).kindOf (ps.zip us) λ_=>η) (cellsFrom (⇑s+1) scope.names []) (bindC (envOfC g scope ⇑s f C).kindOf (ps.zip us) λ_=>η) I) :
  Inv (bt CX P w K G l N g scope f C A d s H E) [] (start N vs) H I:=by
 let M:=by let:=congrArg q53 S.pre;rw[ZH] at this;symm
 let⟨D,T,rfl,J⟩:21:=x.done;let n:∀b ,b∉(bt CX P w K G l N g scope f C A d s H E).ex:=λb z=>absurd (show b∈[] from z) (by simp)
 refine⟨⟨m.mod,S.kind,Y,Y,tm _,λy z c D j=>?_,λy o=>?_,λy c _ h=>?_,λ_=>hd,q4v m.frames,.inr ⟨Y,Y⟩,λb z=>absurd z (n b),m.bs,m.kB,λb _ _=>n b,λb z=>absurd z (n b),m.dX,m.kU⟩,
  Y,m.bare,Un.kept J,⟨_,x.toInCall.ns,λi y v D j U=>?_⟩,λy c h=>⟨_,x.cell y c h⟩,m.bc.fresh (tm _),λy c h=>?_,λp t=>absurd (show p∈[] from t) (by simp),m.bc.kept J,?_⟩
 .exact name_of_addr x.apart (q0D D) (q0D j)
 .let o:=o
  rcases o with o|o
  .exact FL o
  .exact absurd Y (S.pX _ (q0D o))
 .exact q0Z (x.above y c (q0D h))
 .let F:i<↑vs:=by
   unfold start at j
   by_cases F:i<↑vs
   .exact F
   .rw[YD F⁻¹,q1N] at j
    split at j<;>cases j
  let O:vs[i]?=ζ v:=by
   unfold start at j;rw[OO F⁻¹,OS] at j
   cases e:vs[i]? with
   |none=>rw[e] at j;cases j
   |some a=>rw[e] at j;cases j;rfl
  let⟨u,L,Q⟩:=r.get O
  let t:ps[i]?=ζ y:=by
   rw[<-S.pre,Z2 ⋯];exact D
  let B:ps.Nodup:=by rw[<-S.pre];exact S.nd.sublist (q5n _ _)
  calc⟨u,Q,?_⟩;rcases S.par y (ZZ t) with k|k
  .exact .inl ⟨k,FJ B t L k⟩
  .let⟨c,e⟩:=FL  k
   calc .inr ⟨.inl k,c,e,?_⟩;let q:=x.cell y c e;rw[FK B t L (by show scope.names.lookup y≠_;rw[k];decide)] at q;exact q
 .exact m.bc.fresh (q0Z (x.above y c (q0D h)))
 .unfold start
  show _=↑N;rw[My,qa,q0_];symm
theorem yM{CX:j2}{P:ψ}{w:ω}{K:vL}{I:π->Option ν}{h:Α}{k:Nat}{f:ξ}{name c:π}{d:Arguments}{i:-χ}{scope:Γ}{X Y B Z g ct oc:ν}{an od:Option ξ}
  {L:Array (Option ν)} {N ps:-π} {sp:Sp} (lk:K.lookup f=ζ ⟨oc,od,.func (q0q name c d i scope X Y B Z an g ct),L⟩) (M:q1O K g c=θ) (S:kZ N ps scope)
  (C:∀vs H Q E,sp vs H Q E->↑vs=↑ps)
  (l:∀(A:Β)(a:-Ε)(s:ο)(H:Hp)(vs:-V)(Q:VK)(E:XK),aX k (A.deeper (envOfC c scope ⇑s f g))->sp vs H Q E →
   ∃t,cV (bt CX P w K I h N c scope f g A a s H E) i t/\t {nx:=λ_ H'=>Q .non H',rt:=Q} (start N vs) H) :
  bH P w K I h CX (k+1) f (q0q name c d i scope X Y B Z an g ct) ps sp:=by
 calc⟨C,λA a s H args us vs Q E O D hb r F=>?_⟩;let KX:=D.mod.l9.keeps λb o e=>(D.bs b o e).1;let R:=D.mod.nolimit.keeps λb o e=>(D.bs b o e).1
 let m:∀y∈ps.zip us,scope.names.lookup y.1=ζ .local\/(scope.names.lookup y.1=ζ .cell/\((cellsFrom (⇑s+1) scope.names []).lookup y.1).isSome=θ):=λ⟨n,v⟩ hy↦by
  rcases S.par n (q4e hy).1 with q|q
  .exact .inl q
  .exact .inr ⟨q,q2E _ _ _ (.inl q)⟩
 calc codeAny_call_function O.depth (KX _ _ lk) rfl S.co S.gen rfl (PySem.W.codeRec_of KX M) (hb _ _ _ _ (wpAny_newFunctionEnv_cells S.kind m λenv he s1 x=>?_));subst he;calc⟨R.keeps x.toInCall.keep,codeAny_func ?_⟩;let⟨t,ht,hq⟩:11:=l A a s H vs Q E (O.deeper _) F;refine q0F (ht [] s1 (start N vs) H _ (Ob S O.hd D (C _ _ _ _ F) r x) hq) (λfl T z=>?_) λe T z=>z
 let G:∀{j p v u},Inv (bt CX P w K I h N c scope f g A a s H E) [] j p T->RelV v u->Q v p->CE a P w H s Q u T :=
  λ{j p v u} J U q=>(zI2 v p ⟨J.os,J.bare,J.base,J.bc,U,q⟩)
 cases fl with
 |ret u =>
  let⟨v,j,p,J,U,q⟩:32:=z;exact G J U q
 |next =>
  let⟨j,p,J,q⟩:21:=z;exact G (v:=V.non)  J rfl q
 |brk =>
  let⟨_,_,_,q⟩:21:=z;exact ZQ q
 |cont =>
  let⟨_,_,_,q⟩:21:=z;calc ZQ q
section
variable{X:Cx}{x:Z}{p pos:Δ}{e:υ}{es:-υ}{t:TA}{id T:String}{r:-V->Hp->VK->Prop}
def sW(r:-V->Hp->VK->Prop)(t:TA):TE:=λa H Q=>t a H λb c=>r b c Q
theorem sX(f:g_ X (.builtin id) r)(g:Gl X x)(i:X.mg x=η)(j:bootBuiltins x=ζ (.builtin id))(k:JA X (e::es) t)(hn:x≠"__name__" := by decide)(b: ~~~(bF x))
  (he:‹b7 X e es›) (c:‹cm X pos es›):JE X (.Call (.Name x p) (e::es) [] pos) (sW r t):=by
 calc⟨?_⟩;ext a s d H Q I h;calc q1b (mT I g i j ?_ hn b);calc PyProof.Rows.callWith_builtin1 (bu (k pos a s d H _ I h) λl m ⟨n,o,q,u,v⟩↦f a m d o n l Q q u v) he c
theorem pY(f:g_ X (.type T) r)(g:Gl X x)(i:X.mg x=η)(j:bootBuiltins x=ζ (.type T))(k:JA X (e::es) t)(hn:x≠"__name__" := by decide)(b: ~~~(bF x))
  (he:‹b7 X e es›) (c:‹cm X pos es›):JE X (.Call (.Name x p) (e::es) [] pos) (sW r t):=by
 calc⟨?_⟩;ext a s d H Q I h;calc q1b (mT I g i j ?_ hn b);calc q0J (bu (k pos a s d H _ I h) λl m ⟨n,o,q,u,v⟩↦f a m d o n l Q q u v) he c
end
end L2
namespace HT
open PySem PyProof.Rows
meta def lexLt:-Int->-Int->Bool
 |[],[]=>ι
 |[],_::_=>θ
 |_::_,[]=>ι
 |x::a,y::b=>if x=y then lexLt a b else μ (x<y)
theorem rf x y xs ys:lexLt (x::xs) (y::ys)=if x=y then lexLt xs ys else μ (x<y):=rfl
theorem Oc:lexLt [] []=ι:=rfl
theorem Od y ys:lexLt [] (y::ys)=θ:=rfl
theorem Oe x xs:lexLt (x::xs) []=ι:=rfl
theorem Of(A:Β)(s:ο)(a:Int)(t:Tok)(c:Int)(u:Tok):∃e,q2U A s (.int a t) (.int c u) e/\(e=θ↔a=c) :=
 ⟨(a==c),q3n a t c u,by simp⟩
theorem Og(A:Β)(s:ο)(a:Int)(t:Tok)(c:Int)(u:Tok)(prog:ψ)(w:ω)(E:br)(Q:br)(h:Q (.bool (μ (a<c))) s):
  ρ (ς prog w) A (richCompare .Lt (.int a t) (.int c u)) Q E s :=
 (q4I h)
section
open PySem.SeqAt
open PySem.AutoSeq1 (wpAny_loadPart')
open PySem.MeetsSeq PySem.MeetsSeq2 PySem.MeetsSeq3
theorem Oh(l b:ξ)(items f:Array ν)(n U:Nat)(V M:Option ξ)(W N:Array (Option ν))(ns ms:-Int)(S:IntsAre items.toList ns)(hj:IntsAre f.toList ms):
  Meets (Builtin.«tuple.__lt__» ⟨[.ref l,.ref b],[]⟩)
   (λ_ R s=>s.heap.get? l=ζ {cls:=.type "tuple",dict:=V,data:=.seq items n,slots:=W}/\s.heap.get? b=ζ {cls:=.type "tuple",dict:=M,data:=.seq f U,slots:=N} ∧
    R (.ok (.ret (.bool (lexLt ns ms)))) s) :=
 .of_wp λp w A R s h=>by
  let⟨H,g,d,I,J⟩:=s;let⟨hl,hb,h⟩:02:=h;let Z:=AutoSeq1.sub_tuple_tuple;let z1:items.size=ns.length:=by rw[<-↑S];simp
  let z2:f.size=↑ms:=by rw[<-↑hj];simp
  wp_walk using q0S hl,q0S hb,q2T _ (λr b O=>b.1=η/\O=⟨H,g,d,I,J⟩/\∃(K L:-ν)(j k:-Int),r=K.zip L ∧
   IntsAre K j/\IntsAre L k/\↑j+f.size=k.length+items.size/\R (.ok (.ret (.bool (lexLt j k)))) ⟨H,g,d,I,J⟩) _
  case turn =>
   ext P r b O D;let⟨y,x⟩:=P;let⟨B,rfl,K,L,j,k,m,C,o,i,v⟩:0244:=D
   cases C with
   |nil=>rw[List.zip_nil_left] at m;cases m
   |cons a t E =>
    cases o with
    |nil=>rw[List.zip_nil_right] at m;cases m
    |cons c u F =>
     rw[q5b] at m;injection m with Oi sY;injection Oi with hy hx;subst hy hx;rw[rf] at v;erw[Ge] at i;let⟨e,X,z⟩:=Of A.in1 ⟨H,g,d,I,J⟩ a t c u;refine nh (X p w _ _ ?_)
     cases e with
     |true =>
      rw[ZF (z.mp rfl)] at v
      wp_walk
      exact⟨rfl,rfl,_,_,_,_,sY,E,F,⋯,v⟩
     |false =>
      rw[Zx (λq=>absurd (z.mpr q) ZS)] at v;let Q:=Og A.in1 ⟨H,g,d,I,J⟩ a t c u p w
      wp_walk using Q
      exact⟨_,rfl,by simpa using v⟩
  case fin =>
   ext P O G;let⟨b1,b2⟩:=P;let⟨B,rfl,K,L,j,k,m,C,o,i,v⟩:0244:=G;simp only at B;subst B
   let T:lexLt j k=μ (items.size<f.size):=by
    cases C with
    |nil =>
     cases o with
     |nil =>
      erw[q1j] at i;rw[Oc];exact(YC ⋯).symm
     |cons c u Y =>
      erw[q1j,Ge] at i;rw[Od];exact(OR ⋯).symm
    |cons a t T =>
     cases o with
     |nil =>
      erw[q1j,Ge] at i;rw[Oe];exact(YC ⋯).symm
     |cons c u Y =>
      rw[q5b] at m;cases m
   rw[T] at v
   wp_walk
   exact⟨_,rfl,by simpa[Builtin.Tuple.tupleCompareSizes] using v⟩
  case h =>
   calc⟨rfl,rfl,items.toList,f.toList,ns,ms,rfl,S,hj,⋯,h⟩
end
section
variable{prog:ψ}{w:ω}{A:Β}{E:br}{s:ο}
theorem Oj{l b:O}{items a:Array ν}{ns ms:-Int}{Q:br}(q:IsTup s.heap l items)(r:IsTup s.heap b a)(t:IntsAre items.toList ns)(hj:IntsAre a.toList ms)
  (u:A.units<cLine) (h:Q (.bool (lexLt ns ms)) s):ρ (ς prog w) A (compareOp .Lt (.ref l) (.ref b)) Q E s:=by
 let⟨⟨v,y,j,z⟩,k,m,n,o⟩:121:=id q;let⟨⟨p,f,g,i⟩,c,d,B,e⟩:121:=id r;simp only at m o d e;subst m o d e
 exact richCompare_meets_room (op:=.Lt) ⟨_,k,Y⟩ ⟨_,c,Y⟩ PySem.F.slot_tuple_lt PySem.F.entry_tuple_lt (PySem.F.args_tuple_lt_2 _ _) (Oh l b items a n B y f z i ns ms t hj)
  ⟨k,c,show q2V (lexLt ns ms)≠Value.notImplemented/\Q (.bool (lexLt ns ms)) s from⟨(λx=>nomatch x),h⟩⟩ u
theorem Ol{t b:O}{vs ws:-ν}{Q:br}(q:IsTup s.heap t vs.toArray)(r:IsTup s.heap b ws.toArray)(k:vs≠[])
  (u:ws=[]->Q (.ref t) s) (v:ws≠[]->Q (.ref ⇑s) {s with heap:=s.heap.push {cls:=.type "tuple",data:=.seq (vs++ws).toArray}})
  (hsz:↑vs+↑ws<=sizeLine):ρ (ς prog w) A (binaryOp .Add (.ref t) (.ref b)) Q E s:=by
 let⟨⟨cls,l,data,m⟩,f,x,n,y⟩:121:=id q;let⟨⟨o,c,h,d⟩,a,i,p,j⟩:121:=id r;subst x y i j;let e:vs.toArray++ws.toArray=(vs++ws).toArray:=by simp
 by_cases g:ws=[]
 .exact q5w ⟨_,f,Y⟩ ⟨_,a,Y⟩ q3Q q42 q2F q2v (q2j _ _)
   (tuple_addW1 t b vs.toArray ws.toArray n p l c m d k⁻¹ (by simp[g])) ⟨f,a,u g⟩
 .refine q5w ⟨_,f,Y⟩ ⟨_,a,Y⟩ q3Q q42 q2F q2v (q2j _ _)
   (tuple_addW2 t b vs.toArray ws.toArray n p l c m d k⁻¹ g⁻¹ ⋯) ⟨f,a,?_⟩
  rw[e];calc v g
meta def bK(n d:Nat):Option Int->Nat
 |none=>d
 |some v=>if v<0 then(v+(n:Int)).toNat else min v.toNat n
theorem vF(n d:Nat):bK n d η=d:=rfl
theorem m9(n d k:Nat):bK n d (ζ (k:Int))=min k n:=by
 show(if k<0 then((k:Int)+n).toNat else min (k:Int).toNat n)=min k n;rw[Zx ⋯,q0b]
theorem FN v (n d:Nat):(if v<0 then max (v+(n:Int)) 0 else min v (n:Int))=((bK n d (ζ v):Nat):Int):=by
 show(if v<0 then max (v+n) 0 else min v n)=(((if v<0 then(v+n).toNat else min v.toNat n):Nat))
 by_cases a:v<0
 .erw[ZF a];symm
 .erw[Zx a];symm
theorem Om a b (n:Nat):q3z a b 1 (n:Int)=(((bK n 0 a:Nat):Int),((bK n n b:Nat):Int)):=by
 refine Prod.ext ?_ ?_
 .cases a with
  |none=>rfl
  |some v=>exact FN v n 0
 .cases b with
  |none=>rfl
  |some v=>calc FN v n n
theorem Oo(i j:Nat):q0x (i:Int) (j:Int) 1=j-i:=by
 unfold q0x;symm
theorem sZ{v o}{Q:Option Int->ο->Prop}(p:IsPart v o)(h:Q o s):ρ (ς prog w) A (Builtin.Slice.slicePartIndex v) Q E s:=by
 cases p with
 |none=>exact slicePart_none h
 |int i t=>calc slicePart_int h
theorem FO{e:O}{f g:ν}{a b:Option Int}{n:Nat}{Q:Int×Int×Nat->ο->Prop}(i:s.heap.IsSliceOf e f g .none)(j:IsPart f a)(k:IsPart g b)
  (h:Q (((bK n 0 a:Nat):Int),1,bK n n b-bK n 0 a) s):ρ (ς prog w) A (q18 (.ref e) (pure (n:Int))) Q E s:=by
 let⟨m,c,l,d⟩:12:=id i;refine nh (nh (q0r c d  Y (nh (q0r c d  Y (nh (q0r c d  Y (y9 (nh (slicePart_none (nh (sZ j (nh (sZ k (nh (y9 ?_)))))))))))))))
 show ρ _ _ (match q3z a b 1 n with|(a,b)=>pure (a,(1:Int),q0x a b 1)) _ _ s;rw[Om a b n];show ρ _ _ (pure (((bK n 0 a):Int),1,q0x (bK n 0 a) (bK n n b) 1)) _ _ s;rw[Oo];calc y9 h
theorem Oq(xs:Array ν)(i k:Nat):((Z1 k).filterMap λ(m:Nat)=>xs[((i:Int)+(m:Int)*1).toNat]?).toArray=((xs.toList.drop i).take k).toArray:=by
 let e:(λ(m:Nat)=>xs[((i:Int)+m*1).toNat]?)=λm=>xs[i+m]?:=by
  funext m;let:((i:Int)+m*1).toNat=i+m:=by symm
  rw[this]
 rw[e];let:=pick_run xs i k;rw[q3i] at this;let a:((λx=>xs[x]?)∘λx=>i+x)=λm=>xs[i+m]?:=Y;rw[a] at this;rw[this]
theorem Ou{t i:O}{items:Array ν}{j k:ν}{a c:Option Int}{Q:br}(d:IsTup s.heap t items)(l:s.heap.IsSliceOf i j k .none)(m:IsPart j a)(n:IsPart k c)
  (r:¬ (bK items.size 0 a=0/\bK items.size items.size c=items.size))
  (h:Q (.ref ⇑s) {s with heap:=s.heap.push {cls:=.type "tuple",data:=.seq ((items.toList.drop (bK items.size 0 a)).take (bK items.size items.size c-bK items.size 0 a)).toArray}})
  (hsz:items.size<=sizeLine):ρ (ς prog w) A (getItem (.ref t) (.ref i)) Q E s:=by
 let b:=by
  show((items.toList.drop (bK items.size 0 a)).take (bK items.size items.size c-bK items.size 0 a)).toArray.size<=sizeLine;rw[Gf,ZH,q0j,ZC];symm
 let⟨o,e,f,p⟩:12:=id l;unfold getItem
 try with_reducible refine q0e ?_
 first|symm|skip
 refine nh (q3B d.typeIs (by decide) (nh (q0L  d.typeIs Z5
  (q1r Z5 d.typeIs q3d ?_ (q3o _ _)))))
 show ρ _ _ (q19 (.ref t) >>= _) _ _ s;refine nh (q43 d (nh (q2G ⟨o,e,f⟩ (nh (FO l m n ?_)))))
 let g:¬ ((((bK items.size 0 a):Int)==0&&(1:Int)==1&&(bK items.size items.size c-bK items.size 0 a)==items.size)=θ):=by
  ext q;rw[ZK,ZK] at q;let u:=ZJ q.1.1;let v:=ZJ q.2;symm
 show ρ _ _ (if(((bK items.size 0 a):Int)==0&&1==1&&(bK items.size items.size c-bK items.size 0 a)==items.size)=θ then _ else _) _ _ s;rw[Zx g,Oq]
 first
  |exact nh  (q1C (y9 ⟨_,Y,y9 h⟩) b)
  |symm
  |symm
  |symm
end
end HT
namespace L2
open PySem PySem.Spec PyProof.Rows
abbrev TO:=St->Hp->(Option Int->Hp->Prop)->Prop
def PO(X:Cx)(e:Option υ)(t:TO):Prop :=
 ∀(a:aF)(s:ο)(b:St)(H:Hp)(Q:Option Int->Hp->Prop),Inv X a b H s->t b H Q →
  ρ (ς X.prog X.w) X.A (evalPart e X.env) (λu d=>∃o c,Inv X a b c d/\IsPart u o/\Q o c) X.xe s
def Ov:TO:=λ_ H Q=>Q η H
def Ox(t:TE):TO:=λa H Q=>t a H λx b=>∃i,x=.int i/\Q (ζ i) b
theorem intsAre_of{ns:-Int}:∀{us:-ν},Vals (ns.map V.int) us->IntsAre us ns:=by
 induction ns with
 |nil=>ext a r;cases r;exact .nil
 |cons n f b =>
  ext a r
  cases r with
  |cons c d =>
   let⟨t,e⟩:=c;subst e;calc .cons n t (b d)
section
variable{X:Cx}{e:υ}{te:TE}{lo hi:Option υ}{tl th:TO}{pos p2:Δ}
theorem FP:PO X η Ov:=by
 calcλa s b H Q I h=>y9 ⟨η,H,I,.none,h⟩
theorem vG(h:JE X e te):PO X (ζ e) (Ox te):=by
 calcλa s b H Q I c=>bu (h a s b H _ I c) ?_;ext u k ⟨x,d,f,g,j⟩;let⟨i,rfl,q⟩:=j;let⟨t,rfl⟩:=g;calc(zI2 (ζ i) d ⟨f,.int i t,q⟩)
def oG(X:Cx)(r:V->Option Int->Option Int->Hp->VK->Prop):Prop :=
 ∀(a:aF)(s:ο)(b:St)(H:Hp)(x:V)(v c d:ν)(e f:Option Int)(g:O)(Q:VK),Inv X a b H s->RelV x v->s.heap.IsSliceOf g c d .none->IsPart c e->IsPart d f->r x e f H Q →
  ∃T h,typeLookup (.type T) "__getitem__" = pure (ζ (.builtin h))/\s.TypeIs v T/\ρ (ς X.prog X.w) X.A (getItem v (.ref g)) (EP X a b Q) X.xe s
theorem oG.or{r d:V->Option Int->Option Int->Hp->VK->Prop}(h:oG X r)(h':oG X d):oG X (λx b c H Q=>r x b c H Q\/d x b c H Q):=by
 ext a s e H x v f g b c i Q I j k l m q;rcases q with q|q
 .exact h a s e H x v f g b c i Q I j k l m q
 .calc h' a s e H x v f g b c i Q I j k l m q
def Oy(r:V->Option Int->Option Int->Hp->VK->Prop)(b:TE)(c d:TO):TE:=λa H Q=>b a H λx e=>c a e λl f=>d a f λu g=>r x l u g Q
theorem yN{r:V->Option Int->Option Int->Hp->VK->Prop}(j:oG X r)(he:JE X e te)(k:PO X lo tl)(m:PO X hi th):JE X (.Subscript e (.Slice lo hi η p2) pos) (Oy r te tl th):=by
 calc⟨λa s c H Q I h=>Subscript_ (bu (he a s c H _ I h) λv n ⟨x,o,p,t,w⟩=>wpAny_Slice (bu (k a n c o _ p w) λf y ⟨l,z,A,B,C⟩=>bu (m a y c z _ A C) λg d ⟨u,i,D,E,F⟩=>y9 ?_))⟩;let G:Inv X a c i {d with heap:=d.heap.push {cls:=.type "slice",data:=.fields #[f,g,.none]}}:=D.kept  λb M q=>qc _ q;let⟨T,N,J,K,L⟩:22:=j a {d with heap:=d.heap.push {cls:=.type "slice",data:=.fields #[f,g,.none]}} c i x v f g l u ⇑d Q G t (q3p ..) B E F;calc q6s  K J L (by with_unfolding_all rfl)
meta def en(xs:-V)(a b:Option Int):-V:=(xs.drop (HT.bK ↑xs 0 a)).take (HT.bK ↑xs ↑xs b-HT.bK ↑xs 0 a)
theorem FQ xs a b:↑(en xs a b)<=↑xs:=by
 unfold en;rw[ZH,q0j];symm
def yO(K:vL):V->Option Int->Option Int->Hp->VK->Prop:=λx c d H Q=>∃a b,x=.ref a/\b9 K H a b ∧
 ¬ (HT.bK ↑b 0 c=0/\HT.bK ↑b ↑b d=↑b)/\∀p,H p=η->Q (.ref p) (upd H p (.tup (en b c d)))
theorem Oz:oG X (yO X.K):=by
 ext g s u H x v w y e i z Q I l m n o h;let⟨a,d,rfl,p,t,q⟩:23:=h;cases l
 let⟨f,r,j,k⟩:12:=I.tuple p;let c:f.toArray.size=↑d:=r.length.symm;calc(zI2 "tuple" _ ⟨Z5.lookup,j.typeIs,HT.Ou j m n o (by rw[c];calc t) ?_ (by rw[c];calc k)⟩);rw[c];calc⟨.ref ⇑s,_,I.laid   (λb A q=>qc _ q) (tm _) ?_,Y,q _ (I.bc.fresh (tm _))⟩;calc⟨Z0 (FQ d e i) k,_,(r.drop (HT.bK ↑d 0 e)).take (HT.bK ↑d ↑d i-HT.bK ↑d 0 e),q5R _ _⟩
def yP(K:vL):R2:=λx y H Q=>∃a b c d,x=.ref a/\y=.ref b/\b9 K H a (c.map V.int)/\b9 K H b (d.map V.int)/\Q (.bl (HT.lexLt c d)) H
theorem OA(i:X.A.units<cLine):eJ X (compareOp .Lt) (yP X.K):=by
 ext e s z H x y v u Q I j k h;let⟨a,b,f,g,rfl,rfl,l,m,q⟩:44:=h;cases j
 cases k
 let⟨d,n,o,_⟩:12:=I.tuple l;let⟨c,p,r,_⟩:12:=I.tuple m;let t:IntsAre d.toArray.toList f:=intsAre_of n;let w:IntsAre c.toArray.toList g:=intsAre_of p;calc HT.Oj o r t w i ⟨.bl (HT.lexLt f g),H,I,Y,q⟩
def OB(K:vL):R2:=λx y H Q=>∃a b d c,x=.ref a/\y=.ref b/\b9 K H a d/\b9 K H b c/\d≠[]/\↑d+↑c<=sizeLine ∧
 (c=[]->Q (.ref a) H)/\(c≠[]->∀p,H p=η->Q (.ref p) (upd H p (.tup (d++c))))
theorem Vals.fW{xs:-V}{us:-ν}(r:Vals xs us):us=[]↔xs=[]:=by
 cases r with
 |nil=>simp
 |cons _ _=>simp
theorem OC:eJ X (binaryOp .Add) (OB X.K):=by
 ext e s A H x y v u Q I i j h;let⟨a,b,B,C,rfl,rfl,k,l,m,f,n,o⟩:47:=h;cases i
 cases j
 let⟨p,d,r,_⟩:12:=I.tuple k;let⟨g,c,t,_⟩:12:=I.tuple l;calc HT.Ol r t (λz=>m (d.fW.mp z)) (λz=>⟨.ref a,H,I,Y,n (c.fW.mp z)⟩) (λz=>⟨.ref ⇑s,_,I.laid   (λb D q=>qc _ q) (tm _) ?_,Y,o (λw=>z (c.fW.mpr w)) _ (I.bc.fresh (tm _))⟩) (by rw[<-↑d,<-↑c];calc f);calc⟨by rw[My];calc f,_,d.append c,q5R _ _⟩
end
meta def iD(n:Nat)(i:Int):Option Nat:=if 0<=i then(if i<n then ζ i.toNat else η) else if -(n:Int)<=i then ζ (i+n).toNat else η
meta def eM{a:Type}(xs:-a)(i:Int):Option a:=(iD ↑xs i).bind λj=>xs[j]?
theorem FT{n i j}(h:iD n i=ζ j):seqIndex? i n=ζ j/\j<n /\ -(n:Int)<=i/\i<n:=by
 unfold iD at h
 by_cases b:0<=i
 .rw[ZF b] at h
  by_cases a:i<n
  .rw[ZF a] at h
   let e:=ZX h;exact⟨by rw[q54 b a,e],⋯,⋯,a⟩
  .rw[Zx a] at h;cases h
 .rw[Zx b] at h
  by_cases a : -(n:Int)<=i
  .rw[ZF a] at h
   let e:=ZX h;exact⟨by rw[q5x ⋯ a,e],⋯,a,⋯⟩
  .rw[Zx a] at h;cases h
theorem yQ{a}{xs:-a}{i v}(h:eM xs i=ζ v):∃j,seqIndex? i ↑xs=ζ j/\xs[j]?=ζ v/\j<↑xs /\ -(↑xs:Int)<=i/\i<↑xs:=by
 unfold eM at h
 cases e:iD ↑xs i with
 |none=>rw[e] at h;cases h
 |some j =>
  rw[e] at h;let⟨b,c,d,f⟩:03:=FT e;calc⟨j,b,h,c,d,f⟩
theorem iN{a}{xs:-a}{j:Nat}{v}(h:xs[j]?=ζ v):eM xs (j:Int)=ζ v:=by
 let b:=(ri.mp h).1
 let e:iD ↑xs j=ζ j:=by
  unfold iD;rw[ZF ⋯,ZF ⋯];simp
 unfold eM;rw[e];calc h
def FU(b:υ):Prop:=∀o i,subscripted b ι o i=operate [o,i] (getItem o i)
def s_(X:Cx)(r:R2):Prop :=
 ∀(c a:υ)(b:aF)(s:ο)(d:St)(H:Hp)(x y:V)(v u:ν)(Q:VK),Inv X b d H s->RelV x v->RelV y u->r x y H Q →
  subscripted a ι v u=operate [v,u] (getItem v u)->ρ (ς X.prog X.w) X.A (subscriptTail c a v u) (EP X b d Q) X.xe s
def yR(X:Cx)(e:String)(r:V->-V->Hp->VK->Prop):Prop :=
 ∀(a:aF)(s:ο)(b:St)(H:Hp)(x:V)(c:-V)(v:ν)(d:-ν)(Q:VK),Inv X a b H s->RelV x v->Vals c d->r x c H Q →
  ρ (ς X.prog X.w) X.A (call (.builtin e) (v::d)) (EP X a b Q) X.xe s
section
variable{X:Cx}{a b:υ}{ta tb:TE}{pos:Δ}
theorem vH{r:R2}(d:s_ X r)(e:JE X a ta)(f:JE X b tb)(g:FU b):JE X (.Subscript a b pos) (sS r ta tb):=by
 calc⟨λc s i H Q I h=>Subscript_ (pU e f I h λv u j x y k l m n q=>d a b c j i k x y v u Q l m n q (g _ _))⟩
def yS(K:vL):R2:=λx y H Q=>∃p a i v,x=.ref p/\y=.int i/\bG K H p a/\eM a i=ζ v/\Q v H
def yT(K:vL):R2:=λx y H Q=>∃p a i v,x=.ref p/\y=.int i/\b9 K H p a/\eM a i=ζ v/\Q v H
def yU:R2:=λx y H Q=>∃z i c,x=.str z/\y=.int i/\↑z<=sizeLine/\eM z.cps.toList i=ζ c/\Q (.str ⟨#[c]⟩) H
theorem vI:s_ X (yS X.K):=by
 ext d e a s A H x y v u Q I B C h m;let⟨p,M,i,z,rfl,rfl,D,E,q⟩:44:=h;cases B
 let⟨t,rfl⟩:=C;let⟨f,r,g,N⟩:12:=I.list D;let⟨j,c,F,O,G,J⟩:14:=yQ E;let⟨w,n,k⟩:=r.get F;let L:=↑r;let P:=pW;let b:EP X a A Q w s:=⟨z,H,I,k,q⟩
 by_cases o:0<=i
 .let l:=by
   rw[q54 o J] at c;exact ZX c
  exact item_listR g.isList o ⋯ (by rw[l];simpa using n) b m
 .let l:(i+f.toArray.size).toNat=j:=by
   rw[q5x ⋯ G] at c;rw[Gf,<-L];exact ZX c
  exact q31  g.isList.typeIs q3C.lookup
   (wpAny_getItem_list_neg  g.isList ⋯ (by rw[Gf]<;>symm) ⋯ (by rw[l];simpa using n) ⟨Y,b⟩) m
theorem OD:s_ X (yT X.K):=by
 ext a b d s C H x y v u Q I f g h k;let⟨p,D,i,z,rfl,rfl,l,m,q⟩:44:=h;cases f
 let⟨t,rfl⟩:=g;let⟨n,r,e,E⟩:12:=I.tuple l;let⟨j,o,A,F,G,J⟩:14:=yQ m;let⟨w,B,c⟩:=r.get A;let L:=pW
 exact q31  e.typeIs slot_tuple_getitem.lookup
  (getItem_tuple   e ⋯ ⋯ (by rw[Gf,<-↑r];calc o) B⁻¹ ⟨Y,⟨z,H,I,c,q⟩⟩) k
theorem OE:s_ X yU:=by
 ext a b d s r H x y v u Q I f g h k;let⟨z,i,c,rfl,rfl,w,l,q⟩:34:=h;let⟨t,rfl⟩:=f;let⟨A,rfl⟩:=g;let⟨j,e,m,B,n,o⟩:14:=yQ l;let p:↑z.cps.toList=↑z:=by simp[Str.length]
 rw[p] at e n o;let C:=pW
 exact q6s (typeIs_str s z t) slot_str_getitem.lookup (getItem_str  (by
  rw[(YC ⋯),(YC ⋯),q6X]) (by rw[e];simpa using m) ⟨.str ⟨#[c]⟩,H,I.tok _,⟨_,Y⟩,q⟩) k
theorem OF(a:-ν) n j u:q0G (·.setIfInBounds j u) {cls:=.type "list",data:=.seq a.toArray n}={cls:=.type "list",data:=.seq (a.set j u).toArray n}:=by
 simp[q0G]
theorem Inv.lst{b:aF}{c:St}{H:Hp}{s:ο}{p:O}{xs:-V}(I:Inv X b c H s)(h:H p=ζ (.lst xs)):
  ∃(a:-ν)(n:Nat),Vals xs a/\s.heap.get? p=ζ {cls:=.type "list",data:=.seq a.toArray n}/\↑xs<=sizeLine:=by
 let⟨z,a,n,r,e⟩:0121:=I.bc p _ h;calc(zI2 a n ⟨r,e,z⟩)
theorem Inv.pZ{a:aF}{g:St}{H:Hp}{s:ο}{p:O}{xs ys:-V}{c its':-ν}{n d:Nat}{f:Obj->Obj}(I:Inv X a g H s)(h:H p=ζ (.lst xs))
  (j:s.heap.get? p=ζ {cls:=.type "list",data:=.seq c.toArray n}) (i:f {cls:=.type "list",data:=.seq c.toArray n}={cls:=.type "list",data:=.seq its'.toArray d}) (r:Vals ys its') (hz:↑ys<=sizeLine) (t:Nat) :
  Inv X a g (upd H p (.lst ys)) {s with heap:=s.heap.update p f,toks:=t}:=by
 let e:(s.heap.update p f).get? p=ζ {cls:=.type "list",data:=.seq its'.toArray d}:=by
  rw[q0H f j (by rw[i]<;>rfl),i]
 calc I.write   (by rw[h];trivial) (.inl Y) (λb u k q=>(q04 _ _ (q02 k)).trans q) ⟨_,e⟩ ?_;calc⟨hz,its',d,r,e⟩
def FW:V->V->V->Hp->(Hp->Prop)->Prop:=λo i v H Q=>∃p a k j,o=.ref p/\i=.int k/\H p=ζ (.lst a)/\iD ↑a k=ζ j/\Q (upd H p (.lst (a.set j v)))
theorem set_list:sO X FW:=by
 ext f s D H o i v E F u Q I y z A h;let⟨p,G,k,j,rfl,rfl,g,B,q⟩:44:=h;cases y
 let⟨t,rfl⟩:=z;let⟨a,n,r,c,C⟩:22:=I.lst g;let⟨b,J,l,m⟩:03:=FT B;let d:=↑r;let K:=pW
 let w :=
  I.pZ g c (OF a n j u) (r.set A j) (by rw[q0o];calc C) s.toks
 by_cases x:0<=k
 .let e:=by
   rw[q54 x m] at b;exact ZX b
  exact PySem.W.ki_setAt c x ⋯ (by rw[Gf,<-d];calc m) (by rw[e];calc⟨_,w,q⟩)
 .let e:(k+a.toArray.size).toNat=j:=by
   rw[q5x ⋯ l] at b;rw[Gf,<-d];exact ZX b
  calc PySem.W.ki_setBack c ⋯ (by rw[Gf,<-d];calc l) ⋯ (by rw[e];calc⟨_,w,q⟩)
theorem OG a b n:(sliceBounds a b η n).1=((HT.bK n 0 a:Nat):Int)/\(sliceBounds a b η n).2.1=((HT.bK n n b:Nat):Int)/\(sliceBounds a b η n).2.2=1:=by
 refine⟨?_,?_,Y⟩
 .cases a with
  |none=>simp[sliceBounds,HT.bK]
  |some i =>
   erw[sliceBounds,HT.bK,q20,show 1>0 by decide,q1S]
   by_cases h:i<0
   .erw[h,q1S]<;>symm
   .erw[h,q1e]<;>symm
 .cases b with
  |none=>simp[sliceBounds,HT.bK]
  |some i =>
   erw[sliceBounds,HT.bK,q20,show 1>0 by decide,q1S]
   by_cases h:i<0
   .erw[h,q1S]<;>symm
   .erw[h,q1e]<;>symm
theorem OH(a:-ν) b c:slicePick a.toArray b c η=((a.drop (HT.bK ↑a 0 b)).take (HT.bK ↑a ↑a c-HT.bK ↑a 0 b)).toArray:=by
 let⟨d,e,f⟩:02:=OG b c a.toArray.size;unfold slicePick;rw[d,e,f];erw[sliceRange_one,pick_run,Gf]<;>rfl
def yV(K:vL):V->Option Int->Option Int->Hp->VK->Prop:=λx c d H Q=>∃a b,x=.ref a/\bG K H a b/\∀p,H p=η->Q (.ref p) (upd H p (.lst (en b c d)))
theorem hJ:oG X (yV X.K):=by
 ext f s t H x v u w e g y Q I j k l m h;let⟨a,c,rfl,n,q⟩:22:=h;cases j
 let⟨o,r,i,p⟩:12:=I.list n;let d:=↑r;calc(zI2 "list" _ ⟨q3C.lookup,i.isList.typeIs,q3G i.isList k l m .none (by simp) ?_ (by rw[Gf]<;>symm)⟩);rw[OH,<-d];calc⟨.ref ⇑s,_,I.laid   (λb z q=>qc _ q) (tm _) ?_,Y,q _ (I.bc.fresh (tm _))⟩;calc⟨Z0 (FQ c e g) p,_,0,(r.drop (HT.bK ↑c 0 e)).take (HT.bK ↑c ↑c g-HT.bK ↑c 0 e),YA _ Y⟩
meta def kC:V->Bool
 |.non=>θ
 |.bl _=>θ
 |.int _=>θ
 |.str _=>θ
 |_=>ι
meta def hR:V->V->Bool
 |.non,.non=>θ
 |.bl a,.bl b=>a==b
 |.bl a,.int b=>(if a then 1 else 0)==b
 |.int a,.bl b=>a==(if b then 1 else 0)
 |.int a,.int b=>a==b
 |.str a,.str b=>a==b
 |_,_=>ι
theorem OI{A:Β}{s:ο}{y x:V}{u v:ν}(e:RelV y u)(c:RelV x v)(fy:kC y=θ)(fx:kC x=θ):q2U A s u v (hR y x):=by
 cases y with
 |non =>
  cases e
  cases x with
  |non=>cases c;exact q29 _
  |bl b=>cases c;exact q4w b
  |int b=>let⟨t,rfl⟩:=c;exact q4J b t
  |str b=>let⟨t,rfl⟩:=c;exact q4K b t
  |_=>exact absurd (fx) ZS
 |bl a =>
  cases e
  cases x with
  |non=>cases c;exact q4x a
  |bl b=>cases c;exact q4y a b
  |int b=>let⟨t,rfl⟩:=c;exact q4L a b t
  |str b=>let⟨t,rfl⟩:=c;exact q4M a b t
  |_=>exact absurd (fx) ZS
 |int a =>
  let⟨d,rfl⟩:=e
  cases x with
  |non=>cases c;exact q4N a d
  |bl b=>cases c;exact q4O a d b
  |int b=>let⟨t,rfl⟩:=c;exact q3n a d b t
  |str b=>let⟨t,rfl⟩:=c;exact q3j a d b t
  |_=>exact absurd (fx) ZS
 |str a =>
  let⟨d,rfl⟩:=e
  cases x with
  |non=>cases c;exact q4P a d
  |bl b=>cases c;exact q4Q a d b
  |int b=>let⟨t,rfl⟩:=c;exact q3k a d b t
  |str b=>let⟨t,rfl⟩:=c;exact q5c a d b t
  |_=>exact absurd (fx) ZS
 |_=>calc absurd (fy) ZS
meta def p8(x:V)(u:ν):Bool:=match u with
 |.none=>hR .non x
 |.bool b=>hR (.bl b) x
 |.int i _=>hR (.int i) x
 |.str z _=>hR (.str z) x
 |_=>ι
theorem yW{x y:V}{u:ν}(r:RelV y u)(f:kC y=θ):p8 x u=hR y x:=by
 cases y with
 |non=>cases r;rfl
 |bl b=>cases r;rfl
 |int i=>let⟨t,rfl⟩:=r;rfl
 |str z=>let⟨t,rfl⟩:=r;rfl
 |_=>calc absurd (f) ZS
theorem yX{A:Β}{s:ο}{x:V}{v:ν}(b:RelV x v)(c:kC x=θ):∀{xs:-V}{us:-ν},Vals xs us->xs.all kC=θ->∀u∈us,q2U A s u v (p8 x u)
 |_,_,.nil,_=>λu a=>by cases a
 |y::e,u::g,.cons r t,f=>λd a=>by
  rw[q3H,ZK] at f;rcases OQ.mp a with rfl|a
  .rw[yW r f.1];exact OI r b f.1 c
  .calc yX b c t f.2 d a
theorem FX:g_ X (.builtin "len") (λxs H Q=>∃p ys,xs=[.ref p]/\(bG X.K H p ys\/b9 X.K H p ys)/\Q (.int ↑ys) H):=by
 ext g s l H k m Q I r h;let⟨p,f,rfl,b,q⟩:22:=h;let⟨u,rfl,i⟩:=vals1 r;cases i
 let n:=pW;rcases b with b|b
 .let⟨c,d,e,j⟩:=I.list b
  let a:=↑d;exact Calls.call_len_list e.isList (by erw[Gf]<;>symm) ⟨.int ↑f,H,I.tok _,⟨s.toks+1,by rw[Gf,a]⟩,q⟩
 .let⟨c,d,e,j⟩:=I.tuple b
  let a:=↑d;calc len_tuple e (by erw[Gf]<;>symm) ⟨.int ↑f,H,I.tok _,⟨s.toks+1,by rw[Gf,a]⟩,q⟩
theorem OJ:g_ X (.builtin "len") (λxs H Q=>∃z,xs=[.str z]/\↑z<=sizeLine/\Q (.int ↑z) H):=by
 ext a s c H b d Q I r h;let⟨z,rfl,e,q⟩:12:=h;let⟨u,rfl,t,rfl⟩:=vals1 r;let f:=pW;calc len_str ⋯ ⟨.int ↑z,H,I.tok _,⟨_,Y⟩,q⟩
theorem ti:g_ X (.type "list") (λxs H Q=>∃p ys,xs=[.ref p]/\(bG X.K H p ys\/b9 X.K H p ys)/\∀l,H l=η->Q (.ref l) (upd H l (.lst ys))):=by
 ext g s C H E F Q I r h;let⟨p,v,rfl,i,q⟩:22:=h;let⟨u,rfl,D⟩:=vals1 r;cases D
 let m:∀a,Vals v a->v.length<=sizeLine->∀c d,(∀b B,s.heap.get? b=ζ B->c.get? b=ζ B) →
   c.get? ⇑s=ζ {cls:=.type "list",dict:=none,data:=.seq a.toArray d,slots := #[]}->EP X g C Q (.ref ⇑s) {s with heap:=c}:=λa f j c d k e =>
  ⟨.ref ⇑s,_,I.laid  k (tm _) (show bg X.prog X.w _ c _ (.lst v) from⟨j,a,d,f,e⟩),Y,q _ (I.bc.fresh (tm _))⟩
 rcases i with i|i
 .let⟨a,f,x,j⟩:=I.list i
  let t:=↑f;let⟨o,y,z,n,A⟩:=x.isList;exact q6Y p (.inl Y) y z A (λc d k e=>m a f j c d k e) (by erw[Gf]<;>symm)
 .let⟨a,f,x,j⟩:=I.tuple i
  let t:=↑f;let⟨o,y,z,n,A⟩:=x;calc q6Y p (.inr Y) y z A (λc d k e=>m a f j c d k e) (by erw[Gf]<;>symm)
theorem FY:g_ X (.type "tuple") (λxs H Q=>∃p ys,xs=[.ref p]/\((bG X.K H p ys/\∀l,H l=η->Q (.ref l) (upd H l (.tup ys)))\/(b9 X.K H p ys/\Q (.ref p) H))):=by
 ext a s j H y z Q I r h;let⟨p,t,rfl,h⟩:=h;let⟨u,rfl,v⟩:=vals1 r;cases v
 rcases h with⟨f,q⟩|⟨f,q⟩
 .let⟨c,g,i,k⟩:=I.list f
  let m:=↑g;calc call_tuple_list i.isList (λd w=>?_) (by erw[Gf]<;>symm);let n:Inv X a j H {s with heap:=d}:=I.kept  w
  let x:Inv X a j (upd H d.objs.size (.tup t)) {s with heap:=d.push {cls:=.type "tuple",data:=.seq c.toArray}} :=
   n.laid  (λb o e=>qc _ e) (tm _) (⟨k,c,g,q5R _ _⟩)
  exact⟨.ref d.objs.size,_,x,Y,q _ (n.bc.fresh (tm _))⟩
 .let⟨c,g,i,k⟩:=I.tuple f
  calc call_tuple_same i ⟨.ref p,H,I,Y,q⟩
def yY(K:vL)(T:String)(x:V)(H:Hp):Prop:=match x with
 |.str _=>T="str"
 |.int _=>T="int"
 |.ref p=>(T="list" /\ ∃b,bG K H p b)\/(T="tuple" /\ ∃o,K.lookup p=ζ o/\o.cls=.type "tuple" /\ o.dict=η) ∨
   (T="dict" /\ ((∃a,H p=ζ (.dK a))\/∃a,H p=ζ (.dT a)))\/(T="set" /\ ∃S n,H p=ζ (.set S n))
 |_=>False
theorem FZ{f:aF}{m:St}{H:Hp}{s:ο}{T:String}{x:V}{v:ν}(I:Inv X f m H s)(r:RelV x v)(ty:yY X.K T x H):
  s.TypeIs v T/\∀a,v=.ref a->∃k,s.heap.get? a=ζ k/\k.dict=η:=by
 cases x with
 |str z =>
  let⟨t,rfl⟩:=r;cases(ty)
  exact⟨typeIs_str s z t,λ_ e=>nomatch e⟩
 |int i =>
  let⟨t,rfl⟩:=r;cases(ty)
  exact⟨q6t s i t,λ_ e=>nomatch e⟩
 |ref p =>
  cases r
  rcases ty with⟨rfl,y,q⟩|⟨rfl,o,b,u,g⟩|⟨rfl,b⟩|⟨rfl,S,n,b⟩
  .let⟨w,_,l,_⟩:12:=I.list q
   calc⟨l.isList.typeIs,λa e=>?_⟩;cases e
   let⟨o,n,e,c,g,_⟩:23:=l;exact⟨o,e,g⟩
  .refine⟨⟨o,I.de p o b,u⟩,λa e=>?_⟩
   cases e
   exact⟨o,I.de _ o b,g⟩
  .let z:∃o,s.heap.get? p=ζ o/\o.ExactDict:=by
    rcases b with⟨h,b⟩|⟨h,b⟩
    .let⟨_,_,_,_,o,_,_,e,d,_⟩:021132:=I.bc p _ b
     exact⟨o,e,d⟩
    .let⟨_,_,_,_,o,_,_,e,d,_⟩:021132:=I.bc p _ b
     exact⟨o,e,d⟩
   let⟨o,e,d⟩:=z;calc⟨⟨o,e,d.1⟩,λa j=>?_⟩;cases j
   exact⟨o,e,d.2.1⟩
  .let⟨o,_,_,_,e,d,_⟩:42:=I.bc p _ b
   calc⟨⟨o,e,d.1⟩,λa j=>?_⟩;cases j
   exact⟨o,e,d.2.1⟩
 |_=>calc ZQ ty
def tj(K:vL)(T:String)(r:V->-V->Hp->VK->Prop)(b:TE):TE:=λc H Q=>b c H λx a=>yY K T x a/\r x [] a Q
def vJ(K:vL)(T:String)(r:V->-V->Hp->VK->Prop)(c:TE)(t:TA):TE:=λa H Q=>c a H λx b=>yY K T x b/\t a b λd e=>r x d e Q
variable{o e:υ}{es:-υ}{to:TE}{t:TA}{name:Z}{apos gA:Δ}{T id:String}{r:V->-V->Hp->VK->Prop}
theorem F0(j:PlainAttrs T)(d:Slot T name id)(e:typeOf (.builtin id)=pure (.type "method_descriptor"))(k:yR X id r)(l:JE X o to)
  (b:‹attributeBase o name X.env (eval o X.env)=eval o X.env›) (c:‹(apos.endLine==gA.line)=θ›):JE X (.Call (.Attribute o name apos) [] [] gA) (tj X.K T r to):=by
 calc⟨λa s f H Q I h=>wpAny_Call_method0_late b c (bu (l a s f H _ I h) ?_)⟩;ext v m ⟨x,n,g,i,p,q⟩;let⟨t,u⟩:=FZ g i p;calc(zI2 T id ⟨j,d,e,t,u,q32 Y (PySem.evalArgs_none (k a m f n x [] v [] Q g i .nil q))⟩)
theorem rg(m:PlainAttrs T)(d:Slot T name id)(g:typeOf (.builtin id)=pure (.type "method_descriptor"))(n:yR X id r)(p:JE X o to)(q:JA X (e::es) t)
  (b:‹attributeBase o name X.env (eval o X.env)=eval o X.env›)
  (f:‹((backTo gA (starEach (e::es) X.env)).all (λx => !x.1)&&(backToKw gA (keywordEach [] X.env)).all (λx=>x.1.isSome)
   && μ (↑(e::es)+↑([]:-Keyword)+(if([]:-Keyword).isEmpty then 0 else 1)<30))=θ›)
  (c:‹(apos.endLine==gA.line)=θ›) (u:‹b7 X e es›) (p9:‹cm X gA es›) :
  JE X (.Call (.Attribute o name apos) (e::es) [] gA) (vJ X.K T r to t):=by
 calc⟨λa s i H Q I h=>wpAny_Call_method_late b f c Y (bu (p a s i H _ I h) ?_)⟩;ext v w ⟨x,y,j,k,z,A⟩;let⟨B,C⟩:=FZ j k z;calc(zI2 T id ⟨m,d,g,B,C,?_⟩);let l:=q gA a w i y _ j A;rw[u] at l ⊢;calc q32 (by show(ι||(backTo gA (starEach es X.env)).any (·.1))=ι;rw[p9]<;>rfl) (Calls.evalArgs_plain (bu l λD E ⟨F,G,J,L,M⟩↦n a E i G x F v D Q J k L M))
end
def rh(X:Cx)(e:String)(r:V->-V->Hp->VK->Prop):Prop :=
 ∀(a:aF)(s:ο)(b:St)(H:Hp)(x:V)(c:-V)(v:ν)(d:-ν)(Q:VK),Inv X a b H s->RelV x v->Vals c d->r x c H Q →
  ρ (ς X.prog X.w) X.A (call (.builtin e) (v::d)) (EP X a b Q) X.xe s
theorem Vals.one:∀{x:V}{us:-ν},Vals [x] us->∃u,us=[u]/\RelV x u:=by
 ext x a h
 cases h with
 |cons r h=>cases h;calc⟨_,Y,r⟩
theorem Vals.two:∀{x y:V}{us:-ν},Vals [x,y] us->∃u v,us=[u,v]/\RelV x u/\RelV y v:=by
 ext x y a h
 cases h with
 |cons r h =>
  let⟨v,rfl,q⟩:=Vals.one h;calc(zI2 _ _ ⟨Y,r,q⟩)
theorem Vals.zero:∀{us:-ν},Vals [] us->us=[]
 |_,.nil=>Y
theorem Vals.dropLast{xs:-V}{us:-ν}(h:Vals xs us):Vals xs.dropLast us.dropLast:=by
 induction h with
 |nil=>exact .nil
 |cons r t a =>
  cases t with
  |nil=>exact .nil
  |cons q b=>calc .cons r a
theorem Vals.eraseIdx:∀{xs:-V}{us:-ν}(i:Nat),Vals xs us->Vals (xs.eraseIdx i) (us.eraseIdx i)
 |_,_,_,.nil=>.nil
 |_,_,0,.cons _ t=>t
 |_,_,i+1,.cons r t=>.cons r (Vals.eraseIdx i t)
theorem Vals.rep{xs:-V}{us:-ν}(h:Vals xs us):∀k:Nat,Vals (Gg k xs).flatten (Gg k us).flatten
 |0=>.nil
 |k+1=>by
  calc Vals.append h (Vals.rep h k)
theorem OK{c:Type}(l:-c):l.eraseIdx (↑l-1)=l.dropLast:=by
 induction l with
 |nil=>rfl
 |cons a r d =>
  cases r with
  |nil=>rfl
  |cons b r =>
   let e:↑(a::b::r)-1=(↑(b::r)-1)+1:=by
    let f:↑(a::b::r)=↑r+2:=Y;let g:↑(b::r)=↑r+1:=Y;symm
   rw[e,List.eraseIdx_cons_succ,d]
   all_goals rfl
theorem F7{a:Type}:∀(l:-a) i,↑(l.eraseIdx i)<=↑l
 |[],_=>tm _
 |_::_,0=>q2u _
 |_::r,i+1=>q5S (F7 r i)
theorem foldl_rep(a:-ν):∀k acc,
  q6u (λc d=>c++d) acc.toArray (Gg k a.toArray)=(acc++(Gg k a).flatten).toArray
 |0,b=>by simp
 |k+1,b=>by
  let e:b.toArray++a.toArray=(b++a).toArray:=by simp
  let f:(b++a)++(Gg k a).flatten=b++(Gg (k+1) a).flatten:=by
   rw[q1I,q5y,q00]
  rw[<-f,<-foldl_rep a k (b++a),<-e,q1I,q27]
section
variable{X:Cx}{pins:aF}{σ:St}{H:Hp}{s:ο}{l b:O}{xs ys zs:-V}
theorem Inv.m_{a its':-ν}{n:Nat}{f:Array ν->Array ν}{t':Nat}(I:Inv X pins σ H s)(b:H l=ζ (.lst xs))
  (e:s.heap.get? l=ζ {cls:=.type "list",data:=.seq a.toArray n}) (c:f a.toArray=its'.toArray) (d:Vals ys its') (hz:↑ys<=sizeLine) :
  Inv X pins σ (upd H l (.lst ys)) {s with heap:=s.heap.update l (q0G f),toks:=t'}:=by
 let q:=PySem.IsL.update e f;rw[c] at q;calc I.write   (by rw[b];calc trivial) (.inl Y) (λi u g h=>(q04 s.heap (q0G f) (q02 g)).trans h) ⟨_,q⟩ ?_;calc⟨hz,its',_,d,q⟩
theorem Inv.cy{a:-ν}{t':Nat}(I:Inv X pins σ H s)(b:Vals ys a)(hz:↑ys<=sizeLine):
  Inv X pins σ (upd H ⇑s (.lst ys)) {s with heap:=s.heap.push {cls:=.type "list",data:=.seq a.toArray},toks:=t'} :=
 I.laid (λ_ _ q=>qc _ q) (tm _) ⟨hz,a,0,b,YA _ Y⟩
theorem Inv.fresh(I:Inv X pins σ H s):H ⇑s=η:=I.bc.fresh (tm _)
theorem Inv.iO(I:Inv X pins σ H s)(b:H l=ζ (.lst xs)):↑xs<=sizeLine/\∃(a:-ν)(n:Nat),Vals xs a/\↑xs=↑a/\s.heap.get? l=ζ {cls:=.type "list",data:=.seq a.toArray n}:=by
 let⟨z,a,n,r,e⟩:0121:=I.bc l _ b;calc⟨z,a,n,r,↑r,e⟩
theorem F8{n:Nat}(h:n<=sizeLine):q2k n=ι:=by
 calc YC ⋯
end
section
variable{X:Cx}
def F9:V->-V->Hp->VK->Prop:=λx b H Q=>∃l a y,x=.ref l/\b=[y]/\H l=ζ (.lst a)/\↑a<sizeLine/\Q .non (upd H l (.lst (a++[y])))
theorem yZ:rh X "list.append" F9:=by
 ext b s i H x j v k Q I d f h;let⟨l,m,y,rfl,rfl,c,o,q⟩:34:=h;cases d
 let⟨u,rfl,g⟩:=f.one;let⟨z,a,n,r,p,e⟩:0122:=I.iO c;calc q2q F.slot_list_append ⟨_,e,Y⟩ F.entry_list_append (F.args_list_append_2 _ _) (PySem.list_append l a.toArray n u (by rw[Gf];symm)) ⟨e,⟨.non,_,I.m_  c e (by simp) (r.append (.cons g .nil)) ?_,Y,q⟩⟩;rw[My,Z8];symm
def F_:V->-V->Hp->VK->Prop:=λx d H Q=>∃l b a c,x=.ref l/\d=[.ref b]/\H l=ζ (.lst a)/\H b=ζ (.lst c)/\↑a+↑c<=sizeLine/\Q .non (upd H l (.lst (a++c)))
theorem OL:rh X "list.extend" F_:=by
 ext g s A H x B v C Q I j k h;let⟨l,b,D,E,rfl,rfl,i,m,G,q⟩:45:=h;cases j
 let⟨u,rfl,o⟩:=k.one;cases o
 let⟨z,c,n,r,J,e⟩:0122:=I.iO i;let⟨K,a,p,t,w,y⟩:0122:=I.iO m;let f:c.toArray.size+a.toArray.size<=sizeLine:=by rw[Gf,Gf];symm
 let d:¬ (!c.toArray.isEmpty&&q2k (c.toArray.size+a.toArray.size))=θ:=by
  rw[F8 f,q2H];exact ZS
 refine q2q F.slot_list_extend ⟨_,e,Y⟩ F.entry_list_extend (F.args_list_extend_2 _ _)
  (AutoSeq1.list_extend_list_list_0 l c.toArray n b a.toArray p d ⋯ ⋯) ⟨e,y,?_⟩
 calc⟨.non,_,I.m_  i e (by simp) (r.append t) ?_,Y,q⟩;rw[My];symm
def tq:V->-V->Hp->VK->Prop:=λx b H Q=>∃l a y,x=.ref l/\b=[]/\H l=ζ (.lst a)/\a[↑a-1]?=ζ y/\Q y (upd H l (.lst a.dropLast))
theorem Ga:rh X "list.pop" tq:=by
 ext d s p H x t v w Q I g i h;let⟨l,A,y,rfl,rfl,f,j,q⟩:34:=h;cases g
 let b:=i.zero;subst b;let⟨z,a,n,r,k,e⟩:0122:=I.iO f;let⟨u,m,o⟩:=r.get j
 let c:a.toArray[a.toArray.size-1]?=ζ u:=by
  show a.toArray[↑a-1]?=ζ u;rw[<-ZU,<-k];exact m
 calc q2q q2Q ⟨_,e,Y⟩ q5T (F.args_list_pop_1 _) (MeetsSeq.list_pop_last l a.toArray n u c (by rw[Gf];symm)) ⟨e,?_⟩;refine⟨y,_,I.m_ (its':=a.dropLast) f e ?_ r.dropLast ?_,o,q⟩
 .show a.toArray.eraseIdxIfInBounds (a.toArray.size-1)=a.dropLast.toArray
  rw[Gf,q2O,OK]
 .rw[List.length_dropLast]
  symm
def Gb:V->-V->Hp->VK->Prop:=λx b H Q=>∃l a i k y,x=.ref l/\b=[.int i]/\H l=ζ (.lst a) /\ -(2 ^ 63)<=i/\i<2 ^ 63/\seqIndex? i ↑a=ζ k/\a[k]?=ζ y/\Q y (upd H l (.lst (a.eraseIdx k)))
theorem OM:rh X "list.pop" Gb:=by
 ext c s E H x G v J Q I f g h;let⟨l,j,i,k,y,rfl,rfl,d,m,o,p,A,q⟩:57:=h;cases f
 let⟨u,rfl,B⟩:=g.one;let⟨t,rfl⟩:=B;let⟨z,a,n,r,C,e⟩:0122:=I.iO d;let⟨w,D,b⟩:=r.get A
 refine q2q q2Q ⟨_,e,Y⟩ q5T (F.args_list_pop_2 _ _)
  (MeetsSeq.list_pop_at l a.toArray n i t k w (q6v m o) (by rw[Gf,<-C];calc p) (by rw[<-ZU];calc D) (by rw[Gf];symm)) ⟨e,?_⟩
 refine⟨y,_,I.m_  d e ?_ (r.eraseIdx k) ?_,b,q⟩
 .rw[q2O]
 .let:=F7 j k
  symm
def y0:R2:=λx y H Q=>∃l b a c,x=.ref l/\y=.ref b/\H l=ζ (.lst a)/\H b=ζ (.lst c)/\↑a+↑c<=sizeLine/\∀p,H p=η->Q (.ref p) (upd H p (.lst (a++c)))
theorem vK:eJ X (binaryOp .Add) y0:=by
 ext d s t H x y v u Q I f g h;let⟨l,b,w,A,rfl,rfl,i,j,B,q⟩:45:=h;cases f
 cases g
 let⟨z,c,n,r,C,e⟩:0122:=I.iO i;let⟨D,a,E,k,m,o⟩:0122:=I.iO j;calc PySem.P.add_list e o ?_ (by rw[Gf,Gf];symm);let p:c.toArray++a.toArray=(c++a).toArray:=by simp
 rw[p];calc⟨.ref _,_,I.cy (t':=s.toks) (r.append k) (by rw[My];symm),Y,q _ I.fresh⟩
def y8:R2:=λx y H Q=>∃l k a,x=.ref l/\y=.int k/\H l=ζ (.lst a) /\ -(2 ^ 63)<=k/\k<2 ^ 63/\↑a*k.toNat<=sizeLine ∧
 ∀p,H p=η->Q (.ref p) (upd H p (.lst (Gg k.toNat a).flatten))
theorem len_rep{a:Type}(xs:-a)(k:Nat):(Gg k xs).flatten.length=k*↑xs:=by
 induction k with
 |zero=>simp
 |succ k b=>rw[q1I,q5y,My,b,Nat.succ_mul,Nat.add_comm]
theorem ON:eJ X (binaryOp .Mult) y8:=by
 ext p s L H x y v u Q I A B h;let⟨l,k,M,rfl,rfl,C,D,E,w,q⟩:36:=h;cases A
 let⟨t,rfl⟩:=B;let⟨z,b,n,r,G,e⟩:0122:=I.iO C;let d:b.toArray.size*k.toNat<=sizeLine:=by rw[Gf,<-G];exact w
 let f:¬ b.toArray.size*k.toNat>(2 ^ 63-1) / 8:=by
  let:(sizeLine:Nat)<=(2 ^ 63-1) / 8:=by decide
  symm
 let g:¬ (!Builtin.List.listFitsIndex k)=θ:=by
  rw[q6v D E];exact ZS
 let c:¬ q2k (b.toArray.size*k.toNat)=θ:=by
  rw[F8 d];exact ZS
 let i:q6u (λj o=>j++o) #[] (Gg (if b.toArray.isEmpty=θ then 0 else k.toNat) b.toArray)=(Gg k.toNat b).flatten.toArray:=by
  let J:∀m:Nat,q6u (λj o=>j++o) #[] (Gg m b.toArray)=(Gg m b).flatten.toArray:=λm=>by
   let:=foldl_rep b m [];rw[q1k] at this;exact this
  rw[J]
  cases b with
  |nil=>simp
  |cons a N=>rw[Zx (by simp)]
 refine wpAny_binaryOp_repeat_ref (T:="list") (U:="int") (by decide) ⟨_,e,Y⟩ (λK=>q6t K k t) noFill_list_mul F.fills_int_mul q5_ repeat_list F.slot_int_index.lookup
  (q2q q5_ (q6t s k t) F.entry_int_rmul (F.args_int_rmul_2 _ _) (int___rmul___int_list k t l b.toArray n)
   ⟨e,Y,⟨_,e,Y⟩,q2q F.slot_list_mul ⟨_,e,Y⟩ F.entry_list_mul (F.args_list_mul_2 _ _) (AutoListH.list___mul___list_int_3 l b.toArray n k t g f c) ⟨e,?_⟩⟩)
 rw[i];calc⟨.ref _,_,I.cy (t':=s.toks) (r.rep k.toNat) (by rw[len_rep,q7n];calc w),Y,q _ I.fresh⟩
end
section
variable{prog:ψ}{w:ω}{A:Β}{E:br}{s:ο}
end
section
variable{X:Cx}
end
end L2
namespace Att
open PySem PySem.W PySem.Calls PyProof.Rows
theorem fL{P h}:∀ns vs,WellAll P h vs (ns.map WData.int)->IntsAre vs ns:=by
 ext c
 induction c with
 |nil =>
  ext d w;cases w
  exact .nil
 |cons n c e =>
  ext d w
  cases w with
  |cons a b =>
   cases a
   calc .cons _ _ (e _ b)
theorem j3{l:OpenLaw}{n}(hn:l.most=ζ n){P h args b}
  (c:l.row.toRowW.claim.pre args=θ) (j:WellAll P h b args) :
  ∃a vs ns,b=[Z4 a]/\args=[WData.list (ns.map WData.int)]/\h.get? a=ζ {cls:=.type "list",data:=.seq vs.toArray}/\IntsAre vs ns/\ns.length<=n:=by
 let⟨d,r,rfl,k,m⟩:22:=hasAllW_cons ((pre_splitW c).1);obtain rfl:=hasAllW_nil m;let⟨v,rfl,o⟩:=hasW_list k;let⟨g,rfl⟩:=items_int o
 let e:↑g<=n:=by
  let i:=by
   let i:=(holds_andW ((pre_splitW c).2)).1;rw[hn] at i;exact i
  let h5:=condW_of i (w_not (w_lt w_lit (w_len_list (w_arg Y))));rw[qa] at h5;calc Nat.le_of_not_lt λq=>?_;let p:(n:Int)<↑g:=by symm
  first
   |(rw[OR p] at h5;calc absurd h5 (by decide))
   |(simp at h5)
 cases j with
 |cons s t =>
  cases t
  cases s with
  |list u f=>calc(zI3 _ _ g ⟨Y,Y,u,fL g _ f,e⟩)
theorem j4(l:OpenLaw) args:l.row.toRowW.claim.post args (.bool θ) args=θ :=
 postW_of
  (by first|rfl|decide|symm)
  (w_eq_bool (w_res Y) w_lit) Y
theorem iP{l:OpenLaw}{n:Nat}{q:ψ}{c:-Z}{B:(Z->Option ν)->Α->Prop}{C:ω->Α->Prop}{d:DefRec}
  (hn:l.most=ζ n) (u:d.params.defaults=[])
  (j:∀(w:ω)(e b:ο)(s v:Z->Option ν)(i:ξ)(o:Obj)(x t g:ν)(a:ξ)(vs:-ν)(ns:-Int),
   Ground q c [] B w e s v b.heap->C w b.heap →
   b.heap.get? i=ζ o->o.data=.func (docDef d.name d.params d.body d.scope x t g)->b.heap.CodeRec t d.name->s d.name=ζ (.ref i) →
   b.heap.get? a=ζ {cls:=.type "list",data:=.seq vs.toArray}->IntsAre vs ns->ns.length<=n->b.gens = #[] →
   codeAny (ς l.prog w) callerA (.call (.ref i) ⟨[.ref a],[]⟩) (λr s'=>r=.ok (.ret (.bool θ))/\OldK b.heap s'.heap/\s'.os=b.os/\AllBare s'.gens) b) :
  WalkO q c B C l.row.toRowW d [] (λf vs=>q5d f vs):=by
 ext w e b s v G Y i o x t g K L M N y D z O E F X k H P A Q;obtain rfl:K=.none:=Dflts.none D u;obtain rfl:L=.none:=Dflts.noKw D;let⟨a,I,J,rfl,rfl,m,h,p⟩:34:=j3 hn k A;calc enter_call (q2d (j w e b s v i o x t g a I J G Y M (fd_plain N) y z m h p O) λr W R=>?_);let⟨rfl,S,T,U⟩:03:=R;calc⟨.inl (zI3 (.bool θ) (.bool θ) [] ⟨rfl,λ_=>rfl,.bool θ,j4 l _,λ_=>⟨q3D,λ_ V=>(nomatch V)⟩⟩),S,T,U⟩
section
variable{prog:ψ}{w:ω}{A:Β}{E:br}{s:ο}{K:Frag}
end
end Att
namespace L2
open PySem PySem.Spec PyProof.Rows
theorem Gd:∀{vs ns},IntsAre vs ns->Vals (ns.map V.int) vs
 |_,_,.nil=>.nil
 |_,_,.cons n t h=>.cons ⟨t,Y⟩ (Gd h)
meta def inClass(s:χ)(j:Nat):χ:=match s with
 |.ClassDef _ _ _ a _ _ _ _ _ _ _=>a.getD j (.Pass ⟨0,0,0,0⟩)
 |_=>.Pass ⟨0,0,0,0⟩
meta def ja(s:χ):Arguments:=match s with
 |.FunctionDef _ a _ _ _ _ _ _ _ _=>a
 |_=>{posonlyargs:=[],args:=[],vararg:=none,kwonlyargs:=[],kw_defaults:=[],kwarg:=none,defaults:=[]}
meta def dA(s:χ):-χ:=match s with
 |.FunctionDef _ _ b _ _ _ _ _ _ _=>b
 |_=>[]
meta def bX(s:χ):Γ:=match s with
 |.FunctionDef _ _ _ _ _ _ a _ _ _=>a
 |_=>{kind:=.function,names:=[],isGenerator:=false,isCoroutine:=false}
abbrev d7:j2:=λ_ _ _ _ _ _=>False
abbrev E0:XK:=λ_ _ _=>False
theorem l_{X}:i_ d7 X E0:=λ_ _ _ _ _ _ _ h=>h.elim
structure e7(K:vL)(x qual:Z)(st:χ)(f:O)(fd:FuncData):Prop where
 ex:∃(oc:ν)(od:Option O)(kV doc pm:ν)(an:Option O)(eZ ct:ν)(OT:Array (Option ν)),
  fd=q0q x qual (ja st) (dA st) (bX st) .none kV doc pm an eZ ct/\K.lookup f=ζ ⟨oc,od,.func fd,OT⟩/\q1O K eZ qual=θ
 kp:Z3 K (.ref f)=θ
section
variable{P:ψ}{w:ω}{K:vL}{mg:Z->Option ν}{base:Α}
theorem e7.rk{x b:Z}{st:χ}{f:O}{j:FuncData}{N ps:-Z}{k:Nat}{sp:Sp}(F:e7 K x b st f j)(S:kZ N ps (bX st))(e:∀vs H Q E,sp vs H Q E->↑vs=↑ps)
  (d:∀(c:ν)(A:Β)(a:-Ε)(s:ο)(H:Hp)(vs:-V)(Q:VK)(E:XK),aX k (A.deeper (envOfC b (bX st) ⇑s f c))->sp vs H Q E →
   ∃t,cV (bt d7 P w K mg base N b (bX st) f c A a s H E).jZ (dA st) t/\t {nx:=λ_ H'=>Q .non H',rt:=Q} (start N vs) H):bH P w K mg base d7 (k+1) f j ps sp:=by
 let⟨r,u,v,m,y,z,c,B,n,rfl,o,g⟩:92:=F.ex;calc yM o g S e λA a s H l Q E p i=>?_;let⟨t,h,q⟩:=d c A a s H l Q E p i;calc⟨t,h.jZ,q⟩
theorem e7.binds{x a:Z}{st:χ}{f:O}{i:FuncData}{ps:-Z}(F:e7 K x a st f i)
  (h:∀(d b e:ν)(g:Option O)(c ct:ν)(us:-ν),↑us=↑ps->bindArgs (q0q x a (ja st) (dA st) (bX st) .none d b e g c ct) ⟨us,[]⟩=pure (ps.zip us)):Binds K i ps []:=by
 let⟨m,n,d,b,e,g,c,j,k,rfl,o,l⟩:92:=F.ex;calc .all (h d b e g c j)
theorem tr{x a:Z}{st:χ}{f:O}{j:ν}{m g:Option O}{e:Array (Option ν)}{h d i b ct:ν}(l:K.lookup f=ζ ⟨j,m,.func (q0q x a (ja st) (dA st) (bX st) .none h d i g b ct),e⟩)
  (c:q1O K b a=θ) (k:Z3 K (.ref f)=θ):e7 K x a st f (q0q x a (ja st) (dA st) (bX st) .none h d i g b ct):=⟨(zI7 j m h d i g b (zI2 ct e ⟨Y,l,c⟩)),k⟩
end
theorem qd{n:Nat}(h:n<=1000):n<sizeLine:=q3h h (by decide)
section
variable{X:Cx}
theorem jv(i:Nat){x:Z}{pos:Δ}(b:‹X.N[i]?=ζ x›)(c:qX X.env.scope x:=by first|exact q2o Y|exact q4q (q2o Y)|calc q4q (q4q Y))(hd: ~~~(bF x))
  (a: ~~~((x==("__classdict__" : Z))=ι)):JE X (.Name x pos) (gy i):=E5 b c hd a
end
theorem qe{A B:Prop}(h:B):if ι=θ then A else B:=by
 calc h
theorem za{A B:Prop}(h:A):if θ=θ then A else B:=by
 calc h
theorem zb{c A B:Prop}[Decidable c](a:c->A)(b:¬ c->B):if c then A else B:=by
 by_cases h:c
 .rw[ZF h]
  exact a h
 .rw[Zx h]
  calc b h
theorem OU{c A B:Prop}[Decidable c](a:c)(h:B):if(!μ c)=θ then A else B:=by
 rw[OR a];calc qe h
def aI(H H':Hp):Prop:=∀b o,H b=ζ o->H' b=ζ o
theorem aI.trans{H d H2:Hp}(a:aI H d)(b:aI d H2):aI H H2:=λc o h=>b c o (a c o h)
theorem aI.free{H H':Hp}(e:aI H H'){l:O}(h:H' l=q8p):H l=q8p:=by
 cases q:H l with
 |none=>rfl
 |some o =>
  rw[e l o q] at h;cases h
theorem aI.seq{K:vL}{H H':Hp}{a:O}{xs:-V}(e:aI H H')(h:bG K H a xs):bG K H' a xs:=by
 rcases h with(h|⟨o,h⟩)|h
 .exact .inl (.inl (e _ _ h))
 .exact .inl (.inr ⟨o,e _ _ h⟩)
 .calc .inr h
theorem OW{prog w A}{R:Result->ο->Prop}{s l a o p scope pos C acc env}(I:Nat->ο->Prop)
  (u:∀n s,I n s->ρ (ς prog w) A (pyNext C) (λr e=>match r with
   |none=>R (.ok .next) e
   |some v=>ρ (ς prog w) A (letOwnedTupleGo a C v) (λ_ g=>ρ (ς prog w) A (assign a env v) (λ_ i =>
     ρ (ς prog w) A (forIn p θ λc r=>if r=θ then do let q <- isTrue c env (eval c env);pure (q0T q) else pure (q0T r)) (λq b =>
      if q=θ then ρ (ς prog w) A (eval l env) (λx j =>
       ρ (ς prog w) A (call (.builtin "list.append") [acc,x]) (λ_ t=>∃m,m<n/\I m t) (λ_ _=>False) j) (λ_ _=>False) b
      else ∃m,m<n/\I m b) (λ_ _=>False) i) (λ_ _=>False) g) (λ_ _=>False) e) (λ_ _=>False) s)
  n (h:I n s) :
  codeAny (ς prog w) A (.compLoop (.ListComp l [⟨a,o,p,0⟩] scope pos) 0 C acc env) R s:=by
 refine codeAny_loop Y I (λn s D=>wpAny_noted (nh (q11 (nh (q0F (u n s D) (λr e k=>?_) λ_ _ f=>ZQ f))))) n h
 cases r with
 |none=>exact y9 k
 |some v =>
  refine nh (q0F k (λ_ g y=>nh (q0F y (λ_ i z=>nh (q0F z (λq b d=>?_) λ_ _ f=>ZQ f)) λ_ _ f=>ZQ f)) λ_ _ f=>ZQ f)
  cases q with
  |false=>exact y9 ⟨Y,d⟩
  |true =>
   calc nh (nh (q0F d (λx b d=>nh (q0F d (λ_ j B=>y9 (y9 ⟨Y,B⟩)) λ_ _ f=>ZQ f)) λ_ _ f=>ZQ f))
theorem zc{env}:∀(names:-(Z×NameKind)) acc,(∀y∈names,y.2=.free->∃c,env.cells.lookup y.1=ζ c)->(∀x c,acc.lookup x=ζ c->env.cells.lookup x=ζ c) →
  ∃g,(forIn names acc (λ(x:Str×NameKind) (u:-(Str×Addr))=>if x.2==q0W then cellOf env x.1 >>= λa=>pure (q0T ((x.1,a)::u)) else pure (q0T u)):Sem (-(Z×O)))=pure g ∧
   (∀x c,g.lookup x=ζ c->env.cells.lookup x=ζ c)/\(∀y∈names,y.2=.free->∃c,g.lookup y.1=ζ c)/\(∀x c,acc.lookup x=ζ c->∃c,g.lookup x=ζ c)
 |[],f,_,j=>⟨f,Y,j,λ_ b=>absurd b (by simp),λx c e=>⟨c,e⟩⟩
 |(n,k)::r,f,m,j=>by
  rw[q6a]
  by_cases o:k=.free
  .subst o
   let⟨c,v⟩:=m (n,.free) YB Y;let h:=v;let w:cellOf env n=pure c:=by unfold cellOf;rw[h]
   let p:∀x d,((n,c)::f).lookup x=ζ d->env.cells.lookup x=ζ d:=λx d e=>by
    rw[ZR] at e
    cases q:x==n with
    |true =>
     rw[q] at e;cases e
     rw[ZJ q];exact h
    |false =>
     rw[q] at e;exact j x d e
   let⟨g,e,s,t,i⟩:13:=zc r ((n,c)::f) (λy b=>m y (Yz _ b)) p;refine⟨g,?_,s,λy b l=>?_,λx d e=>?_⟩
   .dsimp only
    rw[ZF (by decide),w];exact e
   .rcases OQ.mp b with rfl|b
    .exact i n c (by simp)
    .exact t y b l
   .cases q:x==n with
    |true=>exact i x c (by rw[ZR,q])
    |false=>exact i x d (by rw[ZR,q];calc e)
  .let⟨g,e,s,t,i⟩:13:=zc r f (λy b=>m y (Yz _ b)) j
   refine⟨g,?_,s,λy b l=>?_,i⟩
   .rw[Zx o⁻¹]
    exact e
   .rcases OQ.mp b with rfl|b
    .exact absurd l o
    .calc t y b l
theorem Gi{scope env}(h:∀y∈scope.names,y.2=.free->∃c,env.cells.lookup y.1=ζ c):
  ∃b,closureFor scope env=pure b/\(∀x c,b.lookup x=ζ c->env.cells.lookup x=ζ c)/\∀y∈scope.names,y.2=.free->∃c,b.lookup y.1=ζ c:=by
 let⟨b,e,f,g,_⟩:13:=zc scope.names [] h (λx c e=>by simp at e);calc⟨b,?_,f,g⟩;let i:closureFor scope env=(forIn scope.names [] (λx d=>if x.2==q0W then cellOf env x.1 >>= λa=>pure (q0T ((x.1,a)::d)) else pure (q0T d))) >>= pure:=Y;rw[i,e];rfl
structure BD where
 cl:-(Z×O)
 C:O
 s:ο
 H:Hp
 fp:-O
@[reducible] noncomputable def cZ (X:Cx) (scope:Γ) (Nb:-Z) (d:BD):Cx where
 prog:=X.prog
 w:=X.w
 K:=X.K
 mg:=X.mg
 base:=X.base
 A:=X.A
 N:=Nb
 s₀:=d.s
 H₀:=d.H
 env:=compEnvC scope d.cl d.C X.env
 outer:=X.stack
 stack:=X.stack
 ex:=d.fp
 fn:=λx=>μ (scope.names.lookup x=ζ .cell)
 calm:=X.calm
 pn:=[]
 xe:=λ_ _=>False
meta def j5(cp:-(Option Nat))(a:St):St:=cp.map λo=>match o with
 |some i=>(a[i]?).join
 |none=>η
meta def k6(N:-Z)(a scope:Γ)(Nb:-Z)(cp:-(Option Nat)):Bool :=
 (scope.names.all λy=>(μ (y.2≠.cell)||μ (scope.names.lookup y.1=ζ .cell))&&(μ (y.2≠.local)||μ (scope.names.lookup y.1=ζ .local))&&(μ (y.2≠.free)||μ (a.names.lookup y.1=ζ .cell)||μ (a.names.lookup y.1=ζ .free))) &&
 μ (↑cp=↑Nb)&&(cp.zip Nb).all λz=>match z.1 with
  |none=>θ
  |some i=>μ (N[i]?=ζ z.2)&&μ (scope.names.lookup z.2=ζ .free)
structure vM(X:Cx)(scope:Γ)(Nb:-Z)(cp:-(Option Nat)):Prop where
 kind:scope.kind=.function
 cell:∀y∈scope.names,y.2=.cell->scope.names.lookup y.1=ζ .cell
 names:∀y∈scope.names,y.2=.local->scope.names.lookup y.1=ζ .local
 free:∀y∈scope.names,y.2=.free->(X.env.kindOf y.1=ζ .cell\/X.env.kindOf y.1=ζ .free)
 len:↑cp=↑Nb
 tu:∀(j i:Nat)(x:Z),cp[j]?=ζ (ζ i)->Nb[j]?=ζ x->X.N[i]?=ζ x/\scope.names.lookup x=ζ .free
theorem vN{X scope Nb cp}(c:scope.kind=.function)(h:k6 X.N X.env.scope scope Nb cp=θ):vM X scope Nb cp:=by
 unfold k6 at h;erw[ZK,q0c,Bool.or_eq_true,q0v] at h;let⟨⟨b,d⟩,f⟩:=h;refine⟨c,λy a e=>(b y a).1.1.resolve_left (λz=>z e),λy a e=>?_,λy a e=>?_,d,λj i x g k=>?_⟩
 .rcases (b y a).1.2 with z|z
  .exact absurd e z
  .exact z
 .rcases (b y a).2 with(z|z)|z
  .exact absurd e z
  .exact .inl z
  .exact .inr z
 .let l:=by
   let:(cp.zip Nb)[j]?=ζ (ζ i,x):=by
    rw[List.getElem?_zip_eq_some];exact⟨g,k⟩
   exact ZZ this
  let:=f _ l;simpa using this
theorem zd{env:Ε}{x}:∀{names:-(Z×NameKind)}{k},names.lookup x=ζ k →
  (names.map λ(n,k)=>if(k==q0W&&env.scope.kind==.function&&env.kindOf n==ζ .cell) then(n,q0X) else(n,k)).lookup x =
   ζ (if(k==q0W&&env.scope.kind==.function&&env.kindOf x==ζ .cell) then q0X else k)
 |[],k,h=>by simp at h
 |(n,k')::r,k,h=>by
  let c:=@zd env x r k;show q1B x ((if(k'==q0W&&env.scope.kind==.function&&env.kindOf n==ζ .cell)=θ then(n,q0X) else(n,k'))::_)=_
  cases b:x==n with
  |true =>
   erw[ZR,b] at h;cases h
   let e:=ZJ b;subst e
   by_cases a:(k'==q0W&&env.scope.kind==.function&&env.kindOf x==ζ .cell)=θ
   .rw[ZF a,ZF a];simp[ZR]
   .rw[Zx a,Zx a];simp[ZR]
  |false =>
   erw[ZR,b] at h
   by_cases a:(k'==q0W&&env.scope.kind==.function&&env.kindOf n==ζ .cell)=θ
   .rw[ZF a];erw[ZR,b];exact c h
   .rw[Zx a];erw[ZR,b];calc c h
theorem Gj{env:Ε}{x}:∀{names:-(Z×NameKind)},names.lookup x=η →
  (names.map λ(n,k)=>if(k==q0W&&env.scope.kind==.function&&env.kindOf n==ζ .cell) then(n,q0X) else(n,k)).lookup x=η
 |[],h=>by simp
 |(n,b)::r,h=>by
  let c:=@Gj env x r;show q1B x ((if(b==q0W&&env.scope.kind==.function&&env.kindOf n==ζ .cell)=θ then(n,q0X) else(n,b))::_)=_
  cases a:x==n with
  |true=>erw[ZR,a] at h;cases h
  |false =>
   erw[ZR,a] at h
   by_cases d:(b==q0W&&env.scope.kind==.function&&env.kindOf n==ζ .cell)=θ
   .rw[ZF d];erw[ZR,a];exact c h
   .rw[Zx d];erw[ZR,a];calc c h
structure JF(X:Cx)(ifs:-υ)(t:TT):Prop where
 out:∀(pins:aF)(s:ο)(σ:St)(H:Hp)(Q:Bool->Hp->Prop),Inv X pins σ H s->t σ H Q →
  ρ (ς X.prog X.w) X.A (forIn ifs θ λc r=>if r=θ then do let ok <- isTrue c X.env (eval c X.env);pure (q0T ok) else pure (q0T r)) (TP X pins σ Q) X.xe s
instance {X:Cx} {ifs:-υ} {t:TT}:CoeFun (JF X ifs t) (λ_=>∀(pins:aF)(s:ο)(σ:St)(H:Hp)(Q:Bool->Hp->Prop),Inv X pins σ H s->t σ H Q->ρ (ς X.prog X.w) X.A (forIn ifs θ λc r=>if r=θ then do let ok <- isTrue c X.env (eval c X.env);pure (q0T ok) else pure (q0T r)) (TP X pins σ Q) X.xe s):=⟨JF.out⟩
def ze:TT:=λ_ H Q=>Q θ H
theorem qf{X}:JF X [] ze:=⟨λ_ _ _ H _ I h=>wpAny_tests_nil ⟨H,I,h⟩⟩
theorem OX{X:Cx}{c:υ}{t:TT}(h:JT X c t):JF X [c] t:=⟨λa s b H Q I d=>wpAny_tests_one (h a s b H Q I d)
⟩
def OY(g:TG)(f:TT)(h:TE)(l:O)(x:V)(i:St)(H:Hp)(N:St->Hp->Prop):Prop :=
 g x i H λa j=>f a j λb d=>if b=θ then h a d λy e=>∃c,e l=ζ (.lst c)/\↑c<sizeLine/\N a (upd e l (.lst (c++[y]))) else N a d
def Gk(J:It)(g:TG)(f:TT)(h:TE)(l:O)(c:St)(j:Hp)(Q:VK):Prop :=
 ∃W:Nat->Nat->St->Hp->Prop,(∃m,W 0 m c j)/\∀i m d H,W i m d H →
  (J.stop i H/\Q (.ref l) H)\/(J.go i H/\∃N:St->Hp->Prop,(∀a b,N a b->∃e,e<m/\W (i+1) e a b)/\∀x b,J.q_ i H x b->OY g f h l x d b N)
def tw(c:TI)(cp:-(Option Nat))(g:BD->TG)(e:BD->TT)(f:BD->TE):TE:=λa H Q=>c a H λJ b=>∀(d:BD)(l:O),b l=η->Gk J (g d) (e d) (f d) l (j5 cp a) (upd b l (.lst [])) Q
theorem rl:∀{names n acc x c},(cellsFrom n names acc).lookup x=ζ c->acc.lookup x=ζ c\/(n<=c/\(x,q0X)∈names)
 |[],n,a,x,c,h=>.inl h
 |(y,k)::r,n,a,x,c,h=>by
  unfold cellsFrom at h;split at h
  .rename_i b
   let d:=ZJ b;subst d;rcases rl h with h|⟨h,m⟩
   .rw[ZR] at h
    cases q:x==y with
    |true=>rw[q] at h;cases h;rw[ZJ q];exact .inr ⟨tm _,YB ..⟩
    |false=>rw[q] at h;exact .inl h
   .exact .inr ⟨⋯,Yz _ m⟩
  .rcases rl h with h|⟨h,m⟩
   .exact .inl h
   .calc .inr ⟨h,Yz _ m⟩
theorem zf:∀{names:-(Z×NameKind)}{n:Nat}{acc:-(Z×O)}{x:Z}{c:O},(x,q0X)∈names->(cellsFrom n names acc).lookup x=ζ c->n<=c
 |[],n,a,x,c,m,h=>by cases m
 |(y,k)::r,n,a,x,c,m,h=>by
  unfold cellsFrom at h
  by_cases b:(x,q0X)∈r
  .split at h
   .let:=zf b h;symm
   .exact zf b h
  .let e:(x,q0X)=(y,k):=by
    rcases OQ.mp m with e|e
    .exact e
    .exact absurd e b
   cases e
   rcases rl h with h|⟨h,_⟩
   .rw[ZR,q3R] at h
    cases h;exact tm _
   .omega
theorem zg:∀{names:-(Z×NameKind)}{n:Nat}{acc:-(Z×O)}{x y:Z}{c:O},(∀u v c,acc.lookup u=ζ c->acc.lookup v=ζ c->u=v)->(∀u c,acc.lookup u=ζ c->c<n)->(cellsFrom n names acc).lookup x=ζ c->(cellsFrom n names acc).lookup y=ζ c->x=y
 |[],n,j,x,y,c,h,_,d,a=>h x y c d a
 |(z,k)::r,n,j,x,y,c,h,i,d,a=>by
  unfold cellsFrom at d a;split at d
  .rename_i l
   rw[ZF l] at a;refine zg (λu v c e b=>?_) (λu c q=>?_) d a
   .rw[ZR] at e b
    cases f:u==z with
    |true =>
     rw[f] at e;cases e
     cases g:v==z with
     |true=>rw[ZJ f,ZJ g]
     |false=>rw[g] at b;exact absurd (i v _ b) (q12 _)
    |false =>
     rw[f] at e
     cases g:v==z with
     |true=>rw[g] at b;cases b;exact absurd (i u _ e) (q12 _)
     |false=>rw[g] at b;exact h u v c e b
   .rw[ZR] at q
    cases f:u==z with
    |true=>rw[f] at q;cases q;exact q3S _
    |false=>rw[f] at q;exact q0I (i u c q)
  .rename_i l
   rw[Zx l] at a;calc zg h i d a
theorem zh:∀{names:-(Z×NameKind)}{n:Nat}{acc:-(Z×O)}{x:Z},(x,q0X)∉names->(cellsFrom n names acc).lookup x=acc.lookup x
 |[],n,a,x,_=>Y
 |(y,k)::r,n,a,x,m=>by
  unfold cellsFrom;split
  .rename_i b
   let c:=ZJ b;subst c;rw[zh λz=>m (Yz _ z),ZR]
   cases q:x==y with
   |true=>exact absurd (by rw[ZJ q];calc YB ..) m
   |false=>rfl
  .calc zh λz=>m (Yz _ z)
theorem zi:∀{names:-(Z×NameKind)}{h:Α}{acc:-(Z×O)}{x:Z}{c:O},(∀u c,acc.lookup u=ζ c->∃v,h.IsCell c v)->(cellsFrom h.objs.size names acc).lookup x=ζ c->∃v,(pushCells h names).IsCell c v
 |[],h,b,x,c,a,e=>a x c e
 |(y,k)::r,h,b,x,c,a,e=>by
  unfold cellsFrom at e;unfold pushCells;split at e
  .rename_i d
   rw[ZF d];let g:(h.push {cls:=.type "cell",data:=.cell η}).objs.size=h.objs.size+1:=q0z ..;rw[<-g] at e;calc zi (λu c q=>?_) e;rw[ZR] at q
   cases f:u==y with
   |true=>rw[f] at q;cases q;exact⟨η,_,YA _ Y,Y⟩
   |false =>
    rw[f] at q;let⟨v,o,i,j⟩:21:=a u c q;exact⟨v,o,qc _ i,j⟩
  .rename_i d
   rw[Zx d];calc zi a e
theorem OZ{M:Model}{A:Β}{E:br}{s:ο}{scope:Γ}{g:O}{c:-(Z×O)}{a:Z}{env:Ε}{Q:Ε->ο->Prop}
  (h:Q (newEnv scope ⇑s g (cellsFrom (⇑s+1) scope.names c) a η .none (ζ env) builtinsNs) {s with heap:=pushCells (s.heap.push {cls:=.type "dict",data:=.dict #[]}) scope.names}) :
  ρ M A (newFunctionEnv scope g c [] a η .none (ζ env)) Q E s:=by
 calc nh (wpAny_alloc (nh (wpAny_layCells _ (λd e b=>Y) _ _ _ _ ?_)));rw[q0z ..];calc nh (y9 (y9 h))
section
variable{X:Cx}{elt tg iter:υ}{ifs:-υ}{scope:Γ}{pos:Δ}{Nb:-Z}{cp:-(Option Nat)}{wi:TI}{g:BD->TG}{tf:BD->TT}{te:BD->TE}
variable{pins:aF}{σ:St}{H:Hp}{s:ο}
meta abbrev vO(scope:Γ)(s:ο)(a:-(Z×O)):-(Z×O):=cellsFrom (⇑s+1) scope.names a
theorem O1{g:-O}{f:-(Z×O)}(S:vM X scope Nb cp)(I:Inv X pins σ H s)(j:∀b∈g,b3 X pins H b)(n:∀b∈g,∃o,s.heap.get? b=ζ o)
  (i:∀x c,f.lookup x=ζ c->X.env.cells.lookup x=ζ c) (r:∀y∈scope.names,y.2=.free->∃c,f.lookup y.1=ζ c):(cZ X scope Nb ⟨vO scope s f,⇑s,s,H,g⟩).Ok:=by
 let l:∀b∈g,b∉fg X.stack:=λb d z=>by
  let⟨_,t,w,_⟩:03:=j b d;rcases OQ.mp (I.g9 b z) with e|e
  .exact t e
  .exact w e
 let A:∀u c,f.lookup u=ζ c->c<⇑s:=λu c e=>by
  let⟨v,q⟩:=I.cell u c (i _ _ e);exact q.lt
 refine⟨I.ok.mod,?_,I.ok.glob,I.ok.blt,tm _,λx y c B C=>?_,λx p=>?_,λx c h D=>?_,I.ok.hd,I.ok.frames,.inl Y,λb d=>⟨?_,λx c e=>?_⟩,I.bs,Z0 I.ok.kB I.sz,λb o e d=>?_,l,I.stack,I.eG⟩
 .exact S.kind
 .exact zg (λu v c E F=>I.ok.inj u v c (i _ _ E) (i _ _ F)) (λu c e=>q0I (A u c e)) B C
 .cases q:scope.names.lookup x with
  |none =>
   let z:(relabel scope X.env).names.lookup x=η:=Gj q;let a:(relabel scope X.env).names.lookup x=ζ .cell\/(relabel scope X.env).names.lookup x=ζ .free:=p;rw[z] at a;rcases a with h|h<;>cases h
  |some k =>
   let z:(relabel scope X.env).names.lookup x=_:=zd  q;let a:(relabel scope X.env).names.lookup x=ζ .cell\/(relabel scope X.env).names.lookup x=ζ .free:=p;rw[z] at a
   let G:k=.free\/k=.cell:=by
    by_cases m:k=.free
    .exact .inl m
    .let:(k==q0W)=ι:=by simpa using m
     erw[this,q6p,Zz,q1e] at a;rcases a with h|h
     .exact .inr (ZX h)
     .exact absurd (ZX h) m
   calc q1G.mp (q2E scope.names _ f ?_);rcases G with rfl|rfl
   .let⟨c,e⟩:=r (x,.free) (q0D q) Y
    exact .inr (by rw[e];rfl)
   .exact .inl q
 .let:=zf (q0D (q0w h)) D
  exact Nat.le_of_succ_le this
 .let⟨o,e⟩:=n b d
  exact Zy (OP e)
 .rcases rl e with e|⟨e,_⟩
  .exact (j b d).2.2.2.2.1 x c (i _ _ e)
  .let⟨o,J⟩:=n b d
   ext z;subst z;exact absurd ⋯ (q9t.mpr (q0Z (OP J)))
 .rcases (j b d).2.2.2.1 with z|z
  .exact I.ok.g8 b o e z
  .calc absurd (ZA (OP (I.ok.bs b o e).1) z) ⋯
theorem O3{cp:-(Option Nat)}{a:St}{j:Nat}{v:V}(h:(j5 cp a)[j]?=ζ (ζ v)):∃i,cp[j]?=ζ (ζ i)/\a[i]?=ζ (ζ v):=by
 unfold j5 at h;rw[OS] at h
 cases e:cp[j]? with
 |none=>rw[e] at h;cases h
 |some o =>
  rw[e] at h
  cases o with
  |none=>cases h
  |some i =>
   calc⟨i,Y,?_⟩;let b:(a[i]?).join=ζ v:=ZX h
   cases q:a[i]? with
   |none=>rw[q] at b;cases b
   |some z =>
    rw[q] at b;let:z=ζ v:=b;rw[this]
theorem O4{q:-ξ}{l:-(Z×ξ)}{n:Α}{tk:Nat}(S:vM X scope Nb cp)(I:Inv X pins σ H s)(E:∀b∈q,b3 X pins H b)(F:∀b∈q,∃o,s.heap.get? b=ζ o)
  (r:∀x c,l.lookup x=ζ c->X.env.cells.lookup x=ζ c) (C:∀y∈scope.names,y.2=.free->∃c,l.lookup y.1=ζ c)
  (hn:n.Ns ⇑s (λx=>([]:-(Z×ν)).reverse.lookup x)) (t:∀b o,s.heap.get? b=ζ o->n.get? b=ζ o) (w:∀x c,(vO scope s l).lookup x=ζ c->∃v,n.IsCell c v) :
  Inv (cZ X scope Nb ⟨vO scope s l,⇑s,s,H,q⟩) [] (j5 cp σ) H {s with heap:=n,toks:=tk}:=by
 refine⟨O1 S I E F r C,Y,I.bare,Un.kept t,⟨_,hn,λj x v G J V=>?_⟩,w,I.bc.fresh (tm _),λx c e=>?_,λp hp=>absurd (hp) (by simp),I.bc.kept t,?_⟩
 .let⟨i,K,L⟩:11:=O3 J
  let⟨M,A⟩:=S.tu j i x K G;let D:=q0D A;let a:=S.free _ D Y;let⟨m,_,N⟩:=I.loc
  let B:qX X.env.scope x:=by
   rcases a with h|h
   .exact .inr (.inl h)
   .exact .inr (.inr h)
  let⟨u,O,P⟩:=N i x v M L B;refine⟨u,O,?_⟩
  let Q:X.env.kindOf x≠ζ .local:=by
   rcases a with h|h
   .ext z;rw[h] at z;cases z
   .ext z;rw[h] at z;cases z
  rcases P with⟨k,_⟩|⟨_,c,R,T⟩
  .exact absurd k Q
  .let⟨c',f⟩:=C (x,.free) D Y
   let g:=r _ _ f;rw[R] at g;cases g;let U:(x,q0X)∉scope.names:=λz=>by let:=S.cell _ z Y;rw[A] at this;cases this
   refine .inr ⟨?_,c,(zh U).trans f,?_⟩
   .let z:(relabel scope X.env).names.lookup x=_:=zd  A
    show(relabel scope X.env).names.lookup x=ζ .cell\/(relabel scope X.env).names.lookup x=ζ .free;rw[z];split
    .exact .inl Y
    .exact .inr Y
   .let⟨o,e,d⟩:=T
    exact⟨o,t _ _ e,d⟩
 .rcases rl e with e|⟨e,_⟩
  .exact I.b8 x c (r _ _ e)
  .exact I.bc.fresh ⋯
 .unfold j5
  rw[qa];calc S.len
theorem O5{t d it l tn J}{R:Result->ο->Prop}{Q:VK}{H1 L}{E:St}(hc:X.calm=θ)
  (hg:JG (cZ X scope Nb d) tg (g d)) (hf:JF (cZ X scope Nb d) ifs (tf d)) (he:JE (cZ X scope Nb d) elt (te d)) (T:Turn X.prog X.w X.K tg J t it tn)
  (YF:d.fp=t) (I1:Inv (cZ X scope Nb d) [] E H1 L) (M:tn 0 L.heap) (O:∀b∈t,b3 (cZ X scope Nb d) [] H1 b)
  (W:Nat->Nat->St->Hp->Prop) (w0:∃m,W 0 m E H1)
  (P:∀i m E H,W i m E H->(J.stop i H/\Q (.ref l) H)\/(J.go i H/\∃N:St->Hp->Prop,(∀a H',N a H'->∃k,k<m/\W (i+1) k a H')/\∀x H',J.q_ i H x H'->g d x E H' λp H2=>tf d p H2 λb z =>
   if b=θ then te d p z λy H4=>∃ys,H4 l=ζ (.lst ys)/\↑ys<sizeLine/\N p (upd H4 l (.lst (ys++[y]))) else N p z))
  (fin:∀a H' s',Inv (cZ X scope Nb d) [] a H' s'->Q (.ref l) H'->R (.ok .next) s') :
  codeAny (ς X.prog X.w) X.A (.compStart (.ListComp elt [⟨tg,iter,ifs,0⟩] scope pos) 0 (.ref it) (.ref l) (compEnvC scope d.cl d.C X.env)) R L:=by
 let c:∀{j},(∀b∈t,j b=η)->∀b∈t,b3 (cZ X scope Nb d) [] j b:=λhn b q=>⟨hn b q,(O b q).2⟩
 let v:codeAny (ς X.prog X.w) X.A (.compLoop (.ListComp elt [⟨tg,iter,ifs,0⟩] scope pos) 0 (.ref it) (.ref l) (compEnvC scope d.cl d.C X.env)) R L:=by
  let⟨m0,w0⟩:1:=w0;calc OW (λn s'=>∃i a j,Inv (cZ X scope Nb d) [] a j s'/\tn i s'.heap/\(∀b∈t,j b=η)/\W i n a j) ?_ m0 (zI3 0 E H1 ⟨I1,M,λb q=>(O b q).1,w0⟩);ext n s3 S;let⟨i,f,z,I3,U,V,w3⟩:33:=S;rcases P i n f z w3 with⟨Y,qn⟩|⟨go,N,hN,Z⟩
  .refine bu (T.done (cZ X scope Nb d) rfl rfl rfl hc i [] s3 f z (λ_ _=>False) I3 (c V) U Y) ?_;ext r s4 ⟨hr,I4⟩
   subst hr;exact fin f z s4 I4 qn
  .refine bu (T.item (cZ X scope Nb d) rfl rfl rfl hc i [] s3 f z (λ_ _=>False) I3 (c V) U go) ?_;ext r s4 ⟨u,hr,h4⟩
   subst hr;refine bu h4 λ_ s5 ⟨x,H5,I5,r5,y5,B,O6⟩=>bu (hg _ s5 f H5 x u _ (I5.pinned (c O6) (T.obj _ _ B)) r5 (Z x H5 y5)) ?_;ext _ s6 ⟨D,H6,I6,q6⟩
   let h:∀{s F G k},Inv (cZ X scope Nb d) ([]++sR t s5.heap) s F G->k<n->W (i+1) k s F->∃m,m<n/\∃i σ' j,Inv (cZ X scope Nb d) [] σ' j G/\tn i G.heap/\(∀b∈t,j b=η)/\W i m σ' j:=λ{s F G k} I hm w7=>by
    calc⟨k,hm,i+1,s,F,I.eI,T.keep _ _ _ B λb q o e=>(I.pin (b,o) (ZP _ (ZP _ (vC q e)))).1,λb q=>?_,w7⟩;let⟨o,e,d⟩:=T.obj _ _ B b q;exact(I.pin (b,o) (ZP _ (ZP _ (vC q e)))).2.1
   refine bu (hf _ s6 D H6 _ I6 q6) ?_;ext ok G ⟨F,I,q7⟩
   cases ok with
   |false =>
    let⟨k,hm,w7⟩:=hN _ _ q7;exact h I hm w7
   |true =>
    calc bu (he _ G D F _ I q7) ?_;ext y s8 ⟨yv,H8,I8,r8,ys,hy,hz,q8⟩;let⟨k,hm,w8⟩:=hN _ _ q8;calc bu (yZ _ s8 D H8 (.ref l) [yv] (.ref l) [y] (λ_ H9=>H9=upd H8 l (.lst (ys++[yv]))) I8 rfl (.cons r8 .nil) (zI3 l ys yv ⟨rfl,rfl,hy,hz,rfl⟩)) ?_;ext _ s9 ⟨_,H9,I9,_,e9⟩;subst e9;exact h I9 hm w8
 calc codeAny_compStart_list v (T.self _ 0 L _ _ M v)
theorem O7{f d}{h:St}{e H' g s'}(i:Inv X pins σ e g)(j:d.s=g)(k:d.H=e)(hd:d.fp=f)(a:∀b∈f,b3 X pins e b)(J:Inv (cZ X scope Nb d) [] h H' s'):Inv X pins σ H' s':=by
 subst j k hd;calc i.jC  J.os J.base J.bc J.bare λb c=>⟨(a b c).2.2.2.1,(a b c).2.1,(a b c).2.2.2.2.1,(a b c).2.2.2.2.2⟩
theorem Gm{B:Option (ν->Sem Unit)}{P:br}{Q:VK}(hc:X.calm=θ)(S:vM X scope Nb cp)(hi:JI X tg iter wi)(hg:∀d,JG (cZ X scope Nb d) tg (g d))(hf:∀d,JF (cZ X scope Nb d) ifs (tf d))(he:∀d,JE (cZ X scope Nb d) elt (te d))
  (hs:∀x,foldedSetIterable iter X.env x=pure x) (I:Inv X pins σ H s) (h:tw wi cp g tf te σ H Q)
  (F:∀(l C:ξ)(H':Hp)(s':ο)(m:π->Option ν),Inv X pins σ H' s'->b3 X pins H' C->(∀p c,X.env.cells.lookup p=ζ c->c≠C)->s'.heap.Ns C m->Q (.ref l) H'->compPost (ς X.prog X.w) X.A X.xe B P (.ref l) C (.ok .next) s') :
  ρ (ς X.prog X.w) X.A (comprehension (.ListComp elt [⟨tg,iter,ifs,0⟩] scope pos) scope X.env (firstIterPos [⟨tg,iter,ifs,0⟩] pos) (newList []) ι (eval iter X.env) B) P X.xe s:=by
 let⟨Y,K,L,c2⟩:12:=Gi   λy hy G=>by
  rcases S.free y hy G with z|z
  .exact I.ok.has _ (.inl z)
  .exact I.ok.has _ (.inr z)
 calc wpAny_comprehension_free  rfl hs K S.kind S.names (bu (hi pins s σ H _ I h) λv s1 h1=>bu h1 λNu j h2=>?_);let⟨it,M,tn,J,N,e,Z,T,k,f2,q2⟩:55:=h2;subst e;calc q1C ?_;let n:Inv X pins σ (upd N ⇑j (.lst [])) {j with heap:=j.heap.push {cls:=.type "list",data:=.seq [].toArray}}:=Z.cy   .nil (q0d _);let k3:∀b o,j.heap.get? b=ζ o->(j.heap.push {cls:=.type "list",data:=.seq [].toArray}).get? b=ζ o:=λb o e=>qc _ e
 let t:∀b∈M,b3 X pins (upd N ⇑j (.lst [])) b:=λb i=>by
  let⟨o,e,_⟩:=T.obj _ _ k b i;calc⟨?_,(f2 b i).2⟩;rw[aQ (Zy (OP e))];exact(f2 b i).1
 generalize O:upd N ⇑j (.lst [])=H3 at n t;generalize R:({j with heap:=j.heap.push {cls:=.type "list",data:=.seq [].toArray}})=a at n;let D:∀b o,j.heap.get? b=ζ o->a.heap.get? b=ζ o:=by rw[<-R];exact k3
 let o3:∀b∈M,∃o,a.heap.get? b=ζ o:=λb i=>let⟨o,e,_⟩:=T.obj _ _ k b i;⟨o,D b o e⟩;calc OZ ?_;let U:∀b o,a.heap.get? b=ζ o->(pushCells (a.heap.push {cls:=.type "dict",data:=.dict #[]}) scope.names).get? b=ζ o:=λb o e=>q6b _ _ _ _ (qc _ e);let f:(pushCells (a.heap.push {cls:=.type "dict",data:=.dict #[]}) scope.names).Ns ⇑a (λx=>[].reverse.lookup x):=(Heap.Ns.new a.heap (.type "dict")).keeps (q6b _ _)
 let I4:=O4  (tk:=a.toks) S n t o3 L c2 f U λx c e=>by
  let hz:(a.heap.push {cls:=.type "dict",data:=.dict #[]}).objs.size=⇑a+1:=q0z ..;let e':(cellsFrom (a.heap.push {cls:=.type "dict",data:=.dict #[]}).objs.size scope.names Y).lookup x=ζ c:=by rw[hz];exact e
  calc zi (λu c q=>?_) e';let⟨v,o,g1,g2⟩:21:=n.cell u c (L _ _ q);exact⟨v,o,qc _ g1,g2⟩
 generalize YG:pushCells (a.heap.push {cls:=.type "dict",data:=.dict #[]}) scope.names=h₁ at U f I4 ⊢;let⟨W,w0,E⟩:11:=q2 ⟨vO scope a Y,⇑a,a,H3,M⟩ ⇑j Z.fresh;rw[O] at w0;refine O5      hc (hg _) (hf _) (he _) T rfl I4 (T.keep _ _ _ k λb i o e=>U b o (D b o e)) (λb i=>?_) W w0 E fun τ' H' s' V q5=>?_
 .let⟨o,e⟩:=o3 b i
  refine⟨(t b i).1,Zy (OP e),λz=>?_,.inl i,λx c ec=>?_,λp hp=>absurd (hp) (by simp)⟩
  .rcases OQ.mp (n.g9 b z) with r|r
   .exact (t b i).2.1 r
   .exact (t b i).2.2.1 r
  .rcases rl ec with q|⟨q,_⟩
   .exact (t b i).2.2.2.2.1 x c (L _ _ q)
   .ext z
    subst z;exact absurd ⋯ (q9t.mpr (q0Z (OP e)))
 .let⟨m,hn,_⟩:=V.loc
  let fC:=n.iL (tm _) V.free;calc F _ _ _ _ m (O7 n rfl rfl rfl t V) fC (λp c e=>fC.2.2.2.2.1 p c e) hn q5
theorem Gn cp Nb (i:X.calm=θ) (j:JI X tg iter wi) (k:∀d,JG (cZ X scope Nb d) tg (g d)) (n:∀d,JF (cZ X scope Nb d) ifs (tf d)) (he:∀d,JE (cZ X scope Nb d) elt (te d))
  (p:‹scope.kind=.function›) (r:autoParam (k6 X.N X.env.scope scope Nb cp=θ) qz2._auto_1) (t:‹∀x,foldedSetIterable iter X.env x=pure x›) :
  JE X (.ListComp elt [⟨tg,iter,ifs,0⟩] scope pos) (tw wi cp g tf te):=by
 calc⟨λf s A H Q I h=>Gm  i (vN p r) j k n he t I h λl C u B m v a w y q=>⟨m,y,λD c=>⟨.ref l,u,v.turned  (λb o z e=>(c.2 b z).trans e) a.1 a.2.1 a.2.2.2.1 a.2.2.2.2.1 a.2.2.2.2.2,Y,q⟩⟩⟩
theorem O8 cp Nb {i x c f} (y:X.N.Nodup) (z:X.N[i]?=ζ x) (A:Loc X.env.scope x) (B:X.calm=θ) (k:JI X tg iter wi) (E:∀d,JG (cZ X scope Nb d) tg (g d)) (F:∀d,JF (cZ X scope Nb d) ifs (tf d)) (he:∀d,JE (cZ X scope Nb d) elt (te d))
  (G:‹scope.kind=.function›) (J:autoParam (k6 X.N X.env.scope scope Nb cp=θ) qz2._auto_1) (K:‹∀x,foldedSetIterable iter X.env x=pure x›)
  (n:‹swapsWith (.ListComp elt [⟨tg,iter,ifs,0⟩] scope pos) (ζ (.Name x c)) f.line X.env=pure θ›)
  (p:autoParam (fK X x) qz4._auto_1) :
  JS X (.Assign [.Name x c] (.ListComp elt [⟨tg,iter,ifs,0⟩] scope pos) f) (eg (tw wi cp g tf te) (jF i)):=by
 calc⟨?_⟩;ext w s W H D I h;rw[exec_Assign_Name_used _ _ _ _ n];refine nh (q11 (nh (nh (bu (Gm   B (vN G J) k E F he K I h λl C L M m O j r P q=>q5q (E4 O y z A (v:=.ref l) rfl (λQ t ⟨a,R,S⟩=>?_) p)) λ_ M T=>y9 (y9 T)))))
 let U:C≠a:=by
  rcases S with e|e
  .rw[e];exact j.2.1
  .exact q02 (r _ _ e)
 calc⟨m,P.sameBut R U,λY u=>(zI2 _ L ⟨t.turned  (λb o V e=>(u.2 b V).trans e) j.1 j.2.1 j.2.2.2.1 j.2.2.2.2.1 j.2.2.2.2.2,q⟩)⟩
end
section
variable{g:TG}{tf:TT}{te:TE}
end
section
variable{X:Cx}{pins:aF}{σ:St}{H:Hp}{s:ο}{h':Α}{T:O}{o:HO}{ch:-O}{t':Nat}
theorem Inv.fZ(I:Inv X pins σ H s)(f:∀b∈ch,b3 X pins H b)(k:∀b u,b∉ch->s.heap.get? b=ζ u->h'.get? b=ζ u)(j:⇑s<=T)(i:bg X.prog X.w (upd H T o) h' T o):
  Inv X pins σ (upd H T o) {s with heap:=h',toks:=t'}:=by
 let g:=I.bc.fresh j;let h:∀b u,H b=ζ u->b∉ch:=λb u e a=>by rw[(f b a).1] at e;cases e
 refine I.step    (λb a=>⟨(f b a).2.2.2.1,(f b a).2.1,(f b a).2.2.2.2.1,(f b a).2.2.2.2.2⟩) (λb u _ _ d e _=>k b u d e) (λb u _ _ d e _=>⟨u.slots,k b u d e⟩)
  (λb u _ e n=>by rw[aQ (Zy (ZA (OP e) j))];calc n) (λb u d e=>⟨u,k b u d e⟩) (λb l e=>by rw[aQ (cW e g)];calc e)
  (λb u l e=>by rw[aQ (cW e g)];calc e) (λb A e=>⟨#[],by rw[aQ (cW e g),e];simp⟩) (λb _ u _ e d=>k b u d e) (λm p=>?_) (λb u e=>?_) I.bare
 .let⟨u,t,x,y,r⟩:31:=p
  exact(zI3 u t x ⟨k _ u (λa=>(f _ a).2.1 Y) y,r⟩)
 .by_cases a:b=T
  .subst a;rw[bN] at e;cases e;exact i
  .rw[aQ a] at e
   refine(I.bc b u e).ee (λc v d q=>k c v ?_ q) (λc q=>by rw[aQ (cW q g)];calc q) λc l q=>by rw[aQ (cW q g)];exact q
   rcases d with z|z
   .rw[z];exact h b u e
   .calc h c _ z
theorem Inv.j6(I:Inv X pins σ H s)(f:∀b∈ch,b3 X pins H b)(k:∀b u,b∉ch->s.heap.get? b=ζ u->h'.get? b=ζ u):Inv X pins σ H {s with heap:=h',toks:=t'}:=by
 let g:∀b u,H b=ζ u->b∉ch:=λb u e d=>by rw[(f b d).1] at e;cases e
 refine I.step    (λb d=>⟨(f b d).2.2.2.1,(f b d).2.1,(f b d).2.2.2.2.1,(f b d).2.2.2.2.2⟩) (λb u _ _ a e _=>k b u a e) (λb u _ _ a e _=>⟨u.slots,k b u a e⟩)
  (λb u _ e n=>n) (λb u a e=>⟨u,k b u a e⟩) (λb h e=>e)
  (λb u h e=>e) (λb p e=>⟨#[],by rw[e];simp⟩) (λb _ u _ e a=>k b u a e) (λm i=>?_) (λb u e=>?_) I.bare
 .let⟨u,j,l,o,r⟩:31:=i
  exact(zI3 u j l ⟨k _ u (λd=>(f _ d).2.1 Y) o,r⟩)
 .refine (I.bc b u e).ee (λc v a q=>k c v ?_ q) (λc q=>q) λc h q=>q
  rcases a with z|z
  .rw[z];exact g b u e
  .calc g c _ z
end
meta def rm(K:vL)(a:O):It :=
 ⟨λi H=>∃b x,bG K H a b/\b[i]?=ζ x,λi H x c=>∃T v,x=.ref T/\H T=η/\c=upd H T (.tup [.int (i:Nat),v])/\∀b,bG K H a b->b[i]?=ζ v,λi H=>∃b,bG K H a b/\↑b<=i⟩
theorem Gp{P:ψ}{w:ω}{K:vL}{n:-υ}{V}{Y:Δ}(a e l:ξ)(r:e≠l):
  Turn P w K (.Tuple n V Y) (rm K a) [e,l] e (λi h=>(∃c,IsEnum h e l (i:Nat) c)/\h.IsListIter l a i) where
 mem:=by simp
 obj:=λi h g b d=>by
  let⟨⟨c,f⟩,o,j,D,Z⟩:0112:=g;rcases OQ.mp d with rfl|d
  .exact⟨_,f,λv z=>by cases z⟩
  .let z:=by simpa using d
   subst z;exact⟨o,j,λv z=>by rw[Z] at z;cases z⟩
 keep:=λi h h' g k=>by
  let⟨⟨c,f⟩,j⟩:=g;exact⟨⟨c,k e (by simp) _ f⟩,j.at λo q=>k l (by simp) o q⟩
 item:=by
  ext X F G J D i t s σ H E I B g L;subst F G J;let⟨⟨c,f⟩,j⟩:=g;let⟨xs,x,C,M⟩:21:=L;let⟨N,O,p,hz⟩:12:=I.list C;let⟨u,hu,ru⟩:=O.get M;refine wpAny_pyNext_enum_item f j p.isList  hu⁻¹ r λh1 R S T hsz hk=>⟨_,rfl,q3q R λh2 U m=>?_⟩
  let k2:∀b o,b∉[e,l]->s.heap.get? b=ζ o->h2.get? b=ζ o:=λb o d q=>by
   let y:b≠e:=λz=>d (by simp[z]);exact(m.2 _ y).trans (hk b o y (λz=>d (by simp[z])) q)
  refine(zI2 (.ref ⇑s) (upd H ⇑s (.tup [.int i,x])) ⟨I.fZ   B k2 (tm _) ?_,rfl,(zI2 _ x ⟨rfl,(I.bc.fresh (tm _)),rfl,λys hy=>by rw[I.fY hy C];calc M⟩),⟨⟨u,?_⟩,?_⟩,λb d=>?_⟩)
  .exact⟨by show 2<=sizeLine;decide,[.int i s.toks,u],.cons ⟨_,rfl⟩ (.cons ru .nil),_,((m.2 _ (q1d (OP f))).trans T),rfl,_,rfl⟩
  .exact U
  .exact S.at λo q=>(m.2 _ (q02 r)).trans q
  .let:b<⇑s:=by
    let⟨o,q,_⟩:=j;rcases OQ.mp d with rfl|d
    .exact OP f
    .let z:=by simpa using d
     subst z;exact OP q
   rw[aQ (Zy this)];exact(B b d).1
 done:=by
  ext X F G J D i t s σ H E I B g L;subst F G J;let⟨⟨c,f⟩,j⟩:=g;let⟨xs,C,M⟩:11:=L;let⟨N,O,p,hz⟩:12:=I.list C;let hl:=↑O;calc wpAny_pyNext_enum_end (I.ok.hd D) f j p.isList (by simp;symm) λh1 eb=>⟨rfl,?_⟩;let⟨f0,f1,f2,f3,f4,f5⟩:05:=B l (by simp);exact I.turned  (λb o d q=>eb b o d q) f0 f1 f3 f4 f5
 self:=λA i s Q E g h=>by
  let⟨⟨c,f⟩,j⟩:=g;calc q1h f h
section
variable{X:Cx}{elts:-υ}{x1:Nat}{tp:Δ}
def O9(K:vL)(ta:TA):TI:=λc H R=>ta c H λd b=>∃a,d=[.ref a]/\(∃e,bG K b a e)/\R (rm K a) b
theorem Gq:bootBuiltins "enumerate" = ζ (.type "enumerate"):=by decide +kernel
theorem O_:bootBuiltins "zip" = ζ (.type "zip"):=by decide +kernel
theorem Pa{a:υ}{ta:TA}{p pos:Δ}(n:Gl X "enumerate")(o:X.mg "enumerate" = η)(t:JA X [a] ta)(u:‹starEach [a] X.env=[(ι,eval a X.env)]›):
  JI X (.Tuple elts x1 tp) (.Call (.Name "enumerate" p) [a] [] pos) (O9 X.K ta):=by
 calc⟨λc s j H R I h=>Call_ (mT I n o Gq (q0J (bu (t pos c s j H _ I h) λG f ⟨J,k,g,v,w⟩=>?_) u Y))⟩;let⟨l,e,⟨L,x⟩,q⟩:12:=w;subst e
 cases v with
 |cons r y =>
  cases y
  cases r
  let⟨A,M,p,N⟩:12:=g.list x;calc q4R p.isList λB m C D E=>?_;let F:Inv X c j k {f with heap:=B}:=g.kept  E;refine q1h m ((zI5 _ _ _ _ k ⟨Y,F,Gp l (⇑f+1) ⇑f (q3T _),⟨⟨_,m⟩,C⟩,λb i=>?_,q⟩))
  let d:⇑f<=b:=by
   rcases OQ.mp i with rfl|i
   .exact q2u _
   .let z:=by simpa using i
    rw[z];exact tm _
  calc g.iL d (g.bc.fresh d)
end
section
variable{X:Cx}{nm:Z}{tp:Δ}
end
end L2
namespace L2
open PySem PySem.Spec PyProof.Rows PySem.W
open Builtin Builtin.ObjectAttr
section
variable{prog:ψ}{w:ω}{A:Β}{E:br}{s:ο}{K:Frag}{x D:O}{ox:Obj}{ni:Option Obj}{name:Z}
theorem Pb:builtinKind "BaseException.__getattribute__" = ζ .slot:=by decide +kernel
theorem Pc:splitId "BaseException.__getattribute__" = ζ ("BaseException", "__getattribute__"):=by decide +kernel
theorem Pd:plainId "BaseException.__getattribute__" = θ:=q3U.ga.plain
theorem Pe{tk}{Q:Unit->ο->Prop}(X:K.In s.heap)(I:InstAt s.heap x ox D ni)(a:mroIn K D (.type "BaseException")=ζ θ)(q:Q () s):
  ρ (ς prog w) A (checkBuiltinCall "BaseException.__getattribute__" ⟨[.ref x,.str name tk],[]⟩) Q E s:=by
 calc @check_slot (ς prog w) A E s "BaseException.__getattribute__" "BaseException" "__getattribute__" (.ref x) [.str name tk] [] Q Pb Pc ((I.type).andThen (looks_mroIn X a)) (PySem.F.args_bexc_ga (.ref x) (.str name tk)) q
theorem Pf{tk:Tok}{Q:br}(X:K.In s.heap)(I:InstAt s.heap x ox D ni)(b:mroIn K D (.type "BaseException")=ζ θ)
  (h:ρ (ς prog w) A.in1 (Builtin.«object.__getattribute__» ⟨[.ref x,.str name tk],[]⟩) (λa s'=>∃v,a=.done (.ret v)/\Q v s') E s) :
  ρ (ς prog w) A (call (.builtin "BaseException.__getattribute__") [.ref x,.str name tk]) Q E s:=by
 calc q2p (q25 Pd PySem.F.entry_bexc_ga ?_);calc Pe X I b ?_;calc q0F h (λa d c=>?_) λ_ _ z=>z;let⟨v,rfl,q⟩:=c;calc q
theorem Gr{b a:Bool}{tk:Tok}{Q:br}(X:K.In s.heap)(I:InstAt s.heap x ox D ni)(e:findIn K (.ref D) "__getattribute__" = ζ (ζ (.builtin "BaseException.__getattribute__")))
  (f:findIn K (.ref D) "__getattr__" = ζ η) (m:mroIn K D (.type "BaseException")=ζ θ)
  (h:ρ (ς prog w) A.in1 (Builtin.«object.__getattribute__» ⟨[.ref x,.str name tk],[]⟩) (λg s'=>∃v,g=.done (.ret v)/\handedIn v=θ/\Q v s') (λ_ _=>False) s) :
  ρ (ς prog w) A (getAttrBy (.ref x) (.str name tk) b a) Q E s:=by
 let n:=I.type (M:=ς prog w);let o:=looks_findIn (M:=ς prog w) X e;let p:=looks_findIn (M:=ς prog w) X f
 let i:(onTheHeap (Z4 D)&&(q21 "BaseException.__getattribute__" == q21 "object.__getattribute__"))=ι:=by
  rw[show(q21 "BaseException.__getattribute__" == q21 "object.__getattribute__")=ι by decide +kernel];rfl
 let j:(a&&onTheHeap (q21 "BaseException.__getattribute__"))=ι:=by cases a<;>rfl
 let k:=q3U.ga.bind (.ref x)
 let c:ρ (ς prog w) A (callGetattribute (.ref x) (.str name tk) (.builtin "BaseException.__getattribute__") a) (λv d=>handedIn v=θ/\Q v d) (λ_ _=>False) s:=by
  unfold callGetattribute;rw[j,Zx ZS];unfold boundAndCalled;rw[k];calc nh (y9 ?_);exact Pf (Q:=λv d=>handedIn v=θ/\Q v d) X I m h
 unfold getAttrBy;calc q0e (nh (n.here (nh (o.here ?_))));dsimp only;rw[i,Zx ZS];unfold getAttrByItsOwn;calc nh (p.here (nh (q22 (q0e (q0F c (λv d l=>?_) λ_ _ z=>z.elim)))));dsimp only;rw[handedOut_of l.1];calc y9 l.2
theorem Pg{tk v Q}(X:K.In s.heap)(I:InstAt s.heap x ox D ni)(a:findObj K D ni name=ζ (.value v))(h:Q (.done (.ret v)) s):
  ρ (ς prog w) A (Builtin.«object.__getattribute__» ⟨[.ref x,.str name tk],[]⟩) Q E s:=by
 let b:=I.type (M:=ς prog w);let c:=looks_find (M:=ς prog w) X I a;calc nh (y9 (nh (y9 (nh (b.here (nh (c.here (y9 h))))))))
theorem Ph{a v}{Q:br}(X:K.In s.heap)(I:InstAt s.heap x ox D ni)(b:findIn K (.ref D) "__getattribute__" = ζ (ζ (.builtin "BaseException.__getattribute__")))
  (c:findIn K (.ref D) "__getattr__" = ζ η) (d:mroIn K D (.type "BaseException")=ζ θ) (e:findObj K D ni name=ζ (.value v)) (f:handedIn v=θ) (h:Q v {s with toks:=s.toks+1}) :
  ρ (ς prog w) A (getAttr (.ref x) name a) Q E s:=by
 calc Gr  X I b c d (Pg  X I e ⟨v,Y,f,h⟩)
theorem Pj{Q:Option ν->ο->Prop}(X:K.In s.heap)(I:InstAt s.heap x ox D ni)(a:findIn K (.ref D) "__getattribute__" = ζ (ζ (.builtin "BaseException.__getattribute__")))
  (b:findIn K (.ref D) "__getattr__" = ζ η) (c:mroIn K D (.type "BaseException")=ζ θ) (d:mroIn K D (.type "object")=ζ θ)
  (e:findObj K D ni "__class__" = ζ (.bind (.builtin "getset_descriptor.__get__") (.builtin "object.__class__"))) (h:Q (ζ (.ref D)) {s with toks:=s.toks+1}) :
  ρ (ς prog w) A (getAttr? (.ref x) "__class__") Q E s:=by
 calc nh (wpAny_mkText (nh (q22 (Gr  X I a b c ?_))));let f:=I.type (M:=ς prog w);let g:=looks_find (M:=ς prog w) X I e;calc nh (y9 (nh (y9 (nh (Looks.here  f (nh (Looks.here  g (nh (q0e (q2p (class_get    X I d (y9 ⟨.ref D,Y,Y,y9 h⟩))))))))))))
meta def iQ:-ν->Bool
 |.ref _::r=>iQ r
 |l=>l==[.type "ValueError",.type "Exception",.type "BaseException",.type "object"]
theorem Gs(a:ν):∀{l:-ν},iQ l=θ->refuseLoop a "__setattr__" l=pure ()
 |.ref c::r,e=>by rw[refuseLoop_ref];exact Gs a (l:=r) (by unfold iQ at e;calc e)
 |[],e=>by
  unfold iQ at e;rw[ZJ e];exact q3I.passes a
 |.type n::r,e=>by
  unfold iQ at e;rw[ZJ e];exact q3I.passes a
 |.none::r,e=>by unfold iQ at e;cases ZJ e
 |.bool _::r,e=>by unfold iQ at e;cases ZJ e
 |.int _ _::r,e=>by unfold iQ at e;cases ZJ e
 |.float _ _::r,e=>by unfold iQ at e;cases ZJ e
 |.str _ _::r,e=>by unfold iQ at e;cases ZJ e
 |.bytes _ _::r,e=>by unfold iQ at e;cases ZJ e
 |.builtin _::r,e=>by unfold iQ at e;cases ZJ e
 |.notImplemented::r,e=>by unfold iQ at e;cases ZJ e
 |.ellipsis::r,e=>by unfold iQ at e;cases ZJ e
theorem tE:∀{l},iQ l=θ->l.contains (.type "object")=θ/\l.contains (.type "BaseException")=θ/\l.isEmpty=ι
 |.ref c::r,e=>by
  let a:=tE (l:=r) (e);exact⟨by rw[q2r,a.1,q33],by rw[q2r,a.2.1,q33],Y⟩
 |[],e=>by
  rw[ZJ e];decide +kernel
 |.type n::r,e=>by
  rw[ZJ e];decide +kernel
 |.none::r,e=>by cases ZJ e
 |.bool _::r,e=>by cases ZJ e
 |.int _ _::r,e=>by cases ZJ e
 |.float _ _::r,e=>by cases ZJ e
 |.str _ _::r,e=>by cases ZJ e
 |.bytes _ _::r,e=>by cases ZJ e
 |.builtin _::r,e=>by cases ZJ e
 |.notImplemented::r,e=>by cases ZJ e
 |.ellipsis::r,e=>by cases ZJ e
structure bS(K:Frag)(C:O):Prop where
 cd:∃cd,clsIn K C=ζ cd/\iQ cd.mro=θ/\cd.hasDict=θ
 ga:findIn K (.ref C) "__getattribute__" = ζ (ζ (.builtin "BaseException.__getattribute__"))
 gh:findIn K (.ref C) "__getattr__" = ζ η
 sa:findIn K (.ref C) "__setattr__" = ζ (ζ (.builtin "object.__setattr__"))
 cl:findIn K (.ref C) "__class__" = ζ (ζ (.builtin "object.__class__"))
 hn:specialIn K (.builtin "object.__class__") "__get__" = ζ (ζ (.builtin "getset_descriptor.__get__"))
 tk:takesIn K (.builtin "object.__class__")=ζ θ
theorem bS.base{C}(c:bS K C):mroIn K C (.type "BaseException")=ζ θ:=by
 let⟨d,b,a,_⟩:12:=c.cd;unfold mroIn;rw[b,q1P,Zx (by rw[(tE a).2.2];decide),(tE a).2.1]
theorem bS.obj{C}(c:bS K C):mroIn K C (.type "object")=ζ θ:=by
 let⟨d,b,a,_⟩:12:=c.cd;unfold mroIn;rw[b,q1P,Zx (by rw[(tE a).2.2];decide),(tE a).1]
theorem Pk{C v vs}{Q:Unit->ο->Prop}(X:K.In s.heap)(k:s.heap.get? x=ζ ⟨.ref C,η,.fields vs,#[]⟩)(c:bS K C)(l:findIn K (.ref C) name=ζ η)
  (h:∀h' m,h'.get? x=ζ ⟨.ref C,ζ ⇑s,.fields vs,#[]⟩->h'.Ns1 ⇑s (λy=>if y=name then ζ v else η)->(∀b o,b≠x->s.heap.get? b=ζ o->h'.get? b=ζ o)->Q () {s with heap:=h',toks:=m}) :
  ρ (ς prog w) A (setAttr (.ref x) name v) Q E s:=by
 let I:InstAt s.heap x ⟨.ref C,η,.fields vs,#[]⟩ C η:=⟨k,Y,Y,trivial⟩;let⟨M,d,G,f⟩:12:=c.cd;calc set_plain X I c.sa ?_;let g:=PySem.F.store_object;calc q25 g.slot.plain g.entry (@check_slot (ς prog w) _ _ {s with toks:=s.toks+1} "object.__setattr__" "object" "__setattr__" (.ref x) [.str name s.toks,v] [] _ g.kind g.split (I.type.andThen (looks_mroIn X c.obj)) (g.args (.ref x) (.str name s.toks) v) ?_);rw[osa_eq,refuse_eq];calc nh (nh (Looks.here  I.type (nh (Looks.here  ((looks_clsIn X d).andThen .now) ?_))));rw[Gs _ G];refine y9 (nh (Looks.here  I.type (nh (Looks.here  (looks_findIn X l) (nh (y9 (nh (y9 (nh (nh (q4u  k (nh (Looks.here  (looks_clsIn X d) ?_)))))))))))))
 rw[f];let a:(s.heap.push {cls:=.type "dict",data:=.dict #[]}).get? x=ζ ⟨.ref C,η,.fields vs,#[]⟩:=qc _ k;let i:=Zy (OP k);refine nh (wpAny_alloc' (nh (wpAny_update' a (y9 ?_))))
 let n:((s.heap.push {cls:=.type "dict",data:=.dict #[]}).update x λo=>{cls:=o.cls,dict:=ζ ⇑s,data:=o.data,slots:=o.slots}).get? ⇑s
   = ζ {cls:=.type "dict",data:=.dict #[]}:=(q4S _ _ _ _ i.symm).trans (q5A Y Y)
 let p:((s.heap.push {cls:=.type "dict",data:=.dict #[]}).update x λo=>{cls:=o.cls,dict:=ζ ⇑s,data:=o.data,slots:=o.slots}).Ns ⇑s (λ_=>η) :=
  (zI3 _ #[] _ ⟨n,Y,λe H=>absurd H (by simp),λ_=>Y⟩)
 calc nh (y9 (nh (wpAny_nsSet1 (q5s p) λD j z=>?_)));let⟨N,J,L,q,r,t⟩:32:=j.count (Within.cons name v Within.nil);calc nh (q5O q (by rw[r];calc q5P (Z0 t (by rw[Ge,q1j,q09];symm))) (y9 (h D _ ((z.2 x i).trans (q0H _ a Y)) j λb O u B=>(z.2 b (Zy (OP B))).trans ((q4S _ _ _ _ u).trans (qc _ B)))))
theorem Pl{C d e c g a}(f:clsIn K C=ζ d)(h:findIn K (.ref C) c=ζ (ζ a))(hn:specialIn K a "__get__" = ζ (ζ g))(b:takesIn K a=ζ θ):
  findObj K C e c=ζ (.bind g a):=by
 unfold findObj;rw[f,q1P,h,q1P];dsimp only;rw[hn,q1P];dsimp only;rw[b,q1P]
theorem Pm{C}(c:bS K C):KitX K (.ref x) (.ref C) (λh=>∃j l,InstAt h x j C l) where
 ty:=λ_ _ _ I=>by let⟨_,_,I⟩:2:=I;exact I.type
 it:=λ_ _ X _=>by
  let⟨b,a,_⟩:=c.cd;unfold clsIn at a;split at a
  .rename_i o m g f d
   exactλr s t u k q=>nh (q4u (k _ _ (X _ _ d)) (y9 q))
  .cases a
 ne:=λh v w p n y X i=>by
  let⟨b,a,_⟩:=c.cd;calc Bool.eq_false_iff.mpr λq=>?_;let e:=Value.ref.inj (q2Z.mp q);subst e;unfold clsIn at a;split at a
  .rename_i o m g f d
   cases((X _ _ d).symm.trans i)
  .cases a
 ca:=λX I k=>by
  let⟨j,l,I⟩:2:=I;let⟨b,a,_⟩:=c.cd;calc Pj X I c.ga c.gh c.base c.obj (Pl a c.cl c.hn c.tk) k
variable{h:Α}{g:Array GenState}{d:Drawn}{t:Nat}{os:OsState}{nm q:Z}{C N:O}{bs bm vP:-ν}{j7:Bool}{sn:-Z}{sub:-ν}{ab:Bool}{col:Option Bool}{dd:Option O}{k0 k1 k2 k3 k5:Option ν}{B newId k9:String}
theorem Pn(F:ExcBaseFacts B newId k9 vP)(T:OwnTail h vP bm){n:Z->Option ν}{a:-ν}{p:O}{v:Obj}{Q:Fin->ο->Prop}
  (l:h.get? C=ζ (excClassObj nm q C N bs bm j7 sn sub ab col dd k0 k1 k2 k3 k5 newId)) (hn:h.Ns N n) (y:n "__init__" = ζ (.ref p))
  (s:h.get? p=ζ v) (u:v.cls=.type "function")
  (z:∀h' e,q4z h h' e (.ref C) a →
   ρ (ς prog w) A (call (.ref p) (.ref e::a)) (λr s'=>r=.none/\Q (.done (.ret (.ref e))) s') E ⟨h',g,d,t,os⟩) (j:autoParam (↑a<=sizeLine) qz7._auto_1) :
  ρ (ς prog w) A (Builtin.«type.__call__» ⟨.ref C::a,[]⟩) Q E ⟨h,g,d,t,os⟩:=by
 repeat(first|with_reducible refine q14 l ?_|with_reducible refine wpAny_madeBy_exc l ?_|wp_step)
 calc codeAny_call_builtin_code (q3r _ F.quiet) (wpAny_check_new_subT F T l ?_);refine codeAny_exc_new_subT F T l ?_ j
 let c:=qc {cls:=.ref C,data:=.fields #[.ref h.objs.size,.none,.none,.none,.bool ι,.none]}
  (qc {cls:=.type "tuple",data:=.seq a.toArray} l)
 let f:=qc {cls:=.ref C,data:=.fields #[.ref h.objs.size,.none,.none,.none,.bool ι,.none]}
  (qc {cls:=.type "tuple",data:=.seq a.toArray} s)
 let k:((h.push {cls:=.type "tuple",data:=.seq a.toArray}).push {cls:=.ref C,data:=.fields #[.ref h.objs.size,.none,.none,.none,.bool ι,.none]}).Ns N n :=
  let⟨o,D,G,e,r⟩:=hn;(zI3 o D G ⟨qc _ (qc _ e),r⟩)
 let i:((h.push {cls:=.type "tuple",data:=.seq a.toArray}).push
   {cls:=.ref C,data:=.fields #[.ref h.objs.size,.none,.none,.none,.bool ι,.none]}).get? (h.objs.size+1)=ζ
   {cls:=.ref C,data:=.fields #[.ref h.objs.size,.none,.none,.none,.bool ι,.none]}:=by heap_get
 let m:=T.keeps (h':=(h.push {cls:=.type "tuple",data:=.seq a.toArray}).push {cls:=.ref C,data:=.fields #[.ref h.objs.size,.none,.none,.none,.bool ι,.none]})
  λb o e=>qc _ (qc _ e)
 repeat(first|with_reducible refine q14 i ?_|(with_reducible calc q4T c ?_)|wp_step)
 calc wpAny_typeLookup_tail c k m F.mroIs F.init.lookup ?_;rw[y];refine q0e (nh (nh (q2G  ⟨_,f,u⟩ (y9 (nh (q0F (z _ (h.objs.size+1) ⟨λb o H=>qc _ (qc _ H),q17 (q2u _),h.objs.size,i,q17 (tm _),?_⟩) (λr K I=>?_) λ_ _ x=>x))))))
 .exact qc _ (q5A Y Y)
 .let⟨rfl,J⟩:=I
  wp_walk
  calc J
theorem Po(F:ExcBaseFacts B newId k9 vP)(T:OwnTail h vP bm){k:Z->Option ν}{a:-ν}{b:O}{l:Obj}{Q:br}
  (c:h.get? C=ζ (excClassObj nm q C N bs bm j7 sn sub ab col dd k0 k1 k2 k3 k5 newId)) (hn:h.Ns N k) (m:k "__init__" = ζ (.ref b))
  (f:h.get? b=ζ l) (i:l.cls=.type "function")
  (o:∀h' e,q4z h h' e (.ref C) a →
   ρ (ς prog w) (A.under (.builtin "type.__call__" ⟨.ref C::a,[]⟩)) (call (.ref b) (.ref e::a)) (λr s'=>r=.none/\Q (.ref e) s') E ⟨h',g,d,t,os⟩) (j:autoParam (↑a<=sizeLine) qz7._auto_1) :
  ρ (ς prog w) A (call (.ref C) a) Q E ⟨h,g,d,t,os⟩:=by
 let s:=tc_lookup;let u:=tc_bind (.ref C);refine q2p (q6c ?_)
 repeat(any_goals (first|assumption|with_reducible refine q14 c ?_|wp_step))
 calc⟨Y,codeAny_call_builtin_at (q3r _ (by decide +kernel)) entry_typeCall (wpAny_check_type_call_sub c (Pn  F T c hn m f i λn e p=>o n e p))⟩
end
end L2
namespace L2
open PySem PySem.Spec PyProof.Rows
meta def eN(a C:O)(b:Option O):HO:=.ext λh=>∃t,h.get? a=ζ ⟨.ref C,b,.fields #[.ref t,.none,.none,.none,.bool ι,.none],#[]⟩
theorem Gu{P w H h a C t c}(e:h.get? a=ζ ⟨.ref C,c,.fields #[.ref t,.none,.none,.none,.bool ι,.none],#[]⟩):bg P w H h a (eN a C c) :=
 ⟨⟨t,e⟩,⟨_,e⟩,λg i b k=>by let⟨d,f⟩:1:=b;calc⟨d,k _ f⟩⟩
theorem Gv{P w H h a C b}(x:bg P w H h a (eN a C b)):∃t,h.get? a=ζ ⟨.ref C,b,.fields #[.ref t,.none,.none,.none,.bool ι,.none],#[]⟩:=x.1
def tF(K:vL)(N:O)(name:Z)(r:Option ν):Prop:=∃b c a d f,K.lookup N=ζ ⟨b,c,.dict a d,f⟩/\(a.all λe=>match e.key with|.str _ _=>θ|_=>ι)=θ/\nsFind a name=r
theorem tF.ns{K N name r}(x:tF K N name r){h}(k:K.In h):∃m,h.Ns N m/\m name=r:=by
 let⟨g,i,b,c,j,l,d,e⟩:52:=x;calc⟨λn=>nsFind b n,(zI3 _ b c ⟨k _ _ l,Y,λf a=>?_,λ_=>Y⟩),e⟩;let:=(Array.all_eq_true'.mp d) f a;split at this
 .rename_i s t q;exact⟨s,t,q⟩
 .cases this
meta abbrev kD:-ν:=[.type "ValueError",.type "Exception",.type "BaseException",.type "object"]
inductive cX (K:vL):-ν->Prop
 |base:cX K kD
 |own {A:O} {c0:ν} {dd:Option O} {cd:ClassData} {sl:Array (Option ν)} {tl:-ν}:K.lookup A=ζ ⟨c0,dd,.cls cd,sl⟩->tF K cd.ns "__init__" η->cX K tl->cX K (.ref A::tl)
theorem cX.tail{K l}(x:cX K l){h}(k:K.In h):OwnTail h kD l:=by
 induction x with
 |base=>exact .base
 |own l n _ a =>
  let⟨m,b,e⟩:=n.ns k;calc .own (k _ _ l) b e a
structure oH(K:vL)(C:O)(vQ:Option ν):Prop where
 zj:∃(nm q:Z)(N:O)(bs bm:-ν)(j7:Bool)(sn:-Z)(sub:-ν)(ab:Bool)(col:Option Bool)(dd:Option O)(k0 k1 k2 k3 k5:Option ν),
  K.lookup C=ζ (excClassObj nm q C N bs bm j7 sn sub ab col dd k0 k1 k2 k3 k5 "ValueError.__new__")/\cX K bm/\tF K N "__init__" vQ
 kp:Z3 K (.ref C)=θ
section
variable{X:Cx}{pins:aF}{σ:St}{H:Hp}{s:ο}{C f:O}{CX:j2}{k:Nat}{fd:FuncData}{ps:-Z}{sp:Sp}{E:XK}{x:Z}{p pos pos':Δ}{e o value:υ}{es:-υ}{ta tv:TE}{t:TA}
theorem Gw{P w H h a o}(x:bg P w H h a o):∃c,h.get? a=ζ c:=by
 cases o with
 |lst d=>let⟨_,_,_,_,e⟩:0121:=x;exact⟨_,e⟩
 |tup d=>let⟨_,_,_,p⟩:=x;let⟨o,e,_⟩:=p;exact⟨_,e⟩
 |dK b=>let⟨_,_,_,_,o,_,_,e,_⟩:021131:=x;exact⟨_,e⟩
 |dT b=>let⟨_,_,_,_,o,_,_,e,_⟩:021131:=x;exact⟨_,e⟩
 |set S n=>let⟨o,_,_,_,e,_⟩:41:=x;exact⟨_,e⟩
 |ins C i g=>let⟨_,_,_,e,_⟩:04:=x;exact⟨_,e⟩
 |own y=>exact x
 |xd g=>let⟨_,⟨_,_,_,e,_⟩,_⟩:=x;exact⟨_,e⟩
 |rng j k=>let⟨_,_,_,e⟩:3:=x;exact⟨_,e⟩
 |frz c u=>let⟨e,_⟩:=x;exact⟨_,e⟩
 |tbl l=>exact⟨_,(x)⟩
 |met f y=>exact⟨_,(x)⟩
 |ext m=>let⟨_,e,_⟩:02:=x;calc e
theorem Inv.oJ{a}(I:Inv X pins σ H s)(hn:s.heap.get? a=η):H a=η:=by
 cases q:H a with
 |none=>rfl
 |some u =>
  let⟨o,b⟩:=Gw (I.bc a u q);rw[hn] at b;cases b
theorem Inv.tG{h' a u t'}(I:Inv X pins σ H s)(k:∀b u,s.heap.get? b=ζ u->h'.get? b=ζ u)(hn:s.heap.get? a=η)(f:bg X.prog X.w (upd H a u) h' a u):
  Inv X pins σ (upd H a u) {s with heap:=h',toks:=t'}:=by
 let d:=I.oJ hn;refine I.un ⟨λb o q _ _ _=>k b o q,λb o q _ _ _=>⟨o.slots,k b o q⟩,λb o q n _=>by rw[aQ ((λb i e z=>by rw[z,hn] at e;cases e) b o q)];calc n,λb o q _=>⟨o,k b o q⟩,λb g q=>by rw[aQ (cW q d)];calc q,λb o g q=>by rw[aQ (cW q d)];calc q,λb j q=>⟨#[],by rw[aQ (cW q d),q];simp⟩,λb _ o _ q _=>k b o q⟩ λb o q=>?_
 by_cases h:b=a
 .subst h;rw[bN] at q;cases q;exact f
 .rw[aQ h] at q
  calc(I.bc b o q).ee (λc v _ z=>k c v z) (λc z=>by rw[aQ (cW z d)];calc z) λc g z=>by rw[aQ (cW z d)];calc z
theorem Inv.jJ{h' a us}(I:Inv X pins σ H s)(m:q4z s.heap h' a (.ref C) us):H a=η/\Inv X pins σ (upd H a (eN a C η)) {s with heap:=h'}:=by
 let⟨t,b,_,_⟩:12:=m.there;calc⟨I.oJ m.new,I.tG  m.keeps m.new (Gu b)⟩
def zk(C:O)(t:TA):TE:=λc H Q=>t c H λd b=>↑d<=sizeLine/\∀a,b a=η->Q (.ref a) (upd b a (eN a C η))
theorem Gx(M:oH X.K C η)(j:Gl X x)(d:X.mg x=ζ (.ref C))(k:JA X (e::es) t)(f: ~~~(bF x))
  (he:‹b7 X e es›) (g:‹cm X pos es›) :
  JE X (.Call (.Name x p) (e::es) [] pos) (zk C t):=by
 calc⟨?_⟩;calcλb s m H Q I h=>q1b (qY I j d (q1U  I.ok.mod.l9 M.kp (bu (k pos b s m H _ I h) λB D ⟨E,G,c,r,o,q⟩=>⟨c.de,?_⟩) he g) f);let⟨J,L,N,O,P,i,R,u,S,v,U,V,Y,Z,k3,k5,l,T,n⟩:9072:=M.zj;let⟨mN,w,y⟩:=n.ns c.de;calc wpAny_call_exc_subT q3s (T.tail c.de) (c.de _ _ l) w y (λh' a d=>?_) (by rw[q1k,<-↑r];calc o);let⟨z,A⟩:=c.jJ d;calc⟨.ref a,_,A,rfl,q a z⟩
def Pp(C:O)(sp:Sp)(E:XK)(t:TA):TE:=λd H Q=>t d H λb c=>↑b<=sizeLine/\∀a,c a=η->sp (.ref a::b) (upd c a (eN a C η)) (λv e=>v=.non/\Q (.ref a) e) E
theorem Pq(M:oH X.K C (ζ (.ref f)))(j:q2c X.K (.ref f)=θ)(F:bH X.prog X.w X.K X.mg X.base CX k f fd ps sp)(L:aX (k+1) X.A)(O:Binds X.K fd ps [])(P:i_ CX X E)(R:Gl X x)(m:X.mg x=ζ (.ref C))(S:JA X (e::es) t)(o: ~~~(bF x))
  (he:‹b7 X e es›) (y:‹cm X pos es›) :
  JE X (.Call (.Name x p) (e::es) [] pos) (Pp C sp E t):=by
 calc⟨?_⟩;calcλc s z H Q I h=>q1b (qY I R m (q1U  I.ok.mod.l9 M.kp (bu (S pos c s z H _ I h) λd s1 ⟨U,H1,g,r,Y,q⟩=>⟨g.de,?_⟩) he y) o);let⟨nm,q',N,bs,bm,B,sn,Z,ab,col,dd,k0,k1,k2,k3,k5,l,T,n⟩:9072:=M.zj;let⟨mN,hN,hi⟩:=n.ns g.de;let⟨oI,lI,hc⟩:=YE.mp (q2Z.mp j);calc Po q3s (T.tail g.de) (g.de _ _ l) hN hi (g.de _ _ lI) hc (λh' a m=>?_) (by rw[q1k,<-↑r];calc Y);let⟨hf,i⟩:=g.jJ m;let D:=q a hf;let G:Vals (V.ref a::U) (Z4 a::d):=.cons rfl r
 let hl:↑(Z4 a::d++[])=↑ps:=by
  rw[dV];let e:=↑G;rw[F.len _ _ _ _ D] at e;exact e.symm
 let J:=O _ (Z4 a::d) i.de hl;rw[dV] at J;refine q2p (q2d (F.run _ X.stack _ _ ⟨Z4 a::d,[]⟩ (Z4 a::d) _ _ E (L.make C d []) (i.mZ.make C d []) J G D) λr s' b=>?_)
 cases r with
 |error e=>exact P c z _ _ e s' i b
 |ok fl =>
  cases fl with
  |ret u =>
   let⟨v,H',I3,rv,ev,q3⟩:=i.after b;subst ev;exact⟨rv,⟨V.ref a,H',I3,rfl,q3⟩⟩
  |next=>exact ZQ b
  |brk=>exact ZQ b
  |cont=>calc ZQ b
def Pr(K:vL)(ta e:TE)(f:Z):TS:=λD b H=>e b H λy g=>ta b g λx c=>∃a C,x=.ref a/\c a=ζ (eN a C η)/\bS K C/\bW K C f ∧
 ∀d,c d=η->D.nx b (upd (upd c d (.xd [(f,y)])) a (eN a C (ζ d)))
theorem Pt{l:π}(O:JE X o ta)(P:JE X value tv)(Q:swapsWith value (ζ (.Attribute o l pos')) pos.line X.env=pure ι):JS X (.Assign [.Attribute o l pos'] value pos) (Pr X.K ta tv l):=by
 calc⟨λk s E H D I h=>q2N (bu (P k s E H _ I h) λu R ⟨y,S,T,U,q⟩=>bu (O k R E S _ T q) λV M ⟨x,W,m,Y,a,C,Z,i,c,n,q2⟩=>?_) Q⟩;subst Z;obtain rfl:V=Z4 a:=Y;let⟨t,ht⟩:=Gv (m.bc a _ i);let d:=m.fresh;refine Pk m.de ht c n λh' zl p F hk=>?_
 let G:∀N ,bg X.prog X.w N h' ⇑M (.xd [(l,y)]):=λN=>⟨_,F,λg=>by
  by_cases e:g=l
  .subst e
   erw[ZR,q3R];exact U
  .rw[Zx e]
   let:(g==l)=ι:=by simpa using e
   erw[ZR,this,List.lookup_nil]
   trivial⟩
 let r:=hk;refine(zI2 E _ ⟨m.un   ⟨λb f q j _ _=>r b f (λz=>by rw[z,i] at j;cases j) q,λb f q j _ _=>⟨f.slots,r b f (λz=>by rw[z,i] at j;cases j) q⟩,λb f q j _=>?_,λb f q _=>?_,λb J q=>?_,λb f J q=>?_,λb YH q=>⟨#[],?_⟩,λb J f q e _=>r b f (mQ q i (by ext z;cases z)) e⟩ λb f q=>?_,q2 _ d⟩)
 .rw[aQ (λz=>by rw[z,i] at j;cases j),aQ (Zy (OP q))];exact j
 .by_cases z:b=a
  .subst z;exact⟨_,p⟩
  .exact⟨f,r b f z q⟩
 .rw[aQ (mQ q i (by ext z;cases z)),aQ (cW q d)];exact q
 .rw[aQ (mQ q i (by ext z;cases z)),aQ (cW q d)];exact q
 .rw[aQ (mQ q i (by ext z;cases z)),aQ (cW q d),q];simp
 .by_cases L:b=a
  .subst L;rw[bN] at q;cases q;exact Gu p
  .rw[aQ L] at q
   by_cases A:b=⇑M
   .subst A;rw[bN] at q;cases q;exact G _
   .rw[aQ A] at q
    let B:∀c,W c=ζ (.own b)->c≠a:=λc z e=>by rw[e,i] at z;cases z
    refine(m.bc b f q).ee (λc v hc z=>r c v ?_ z) (λc z=>by rw[aQ (B c z),aQ (cW z d)];calc z) λc J z=>by rw[aQ (mQ z i (by ext y;cases y)),aQ (cW z d)];exact z
    rcases hc with e|e
    .rw[e];exact L
    .calc B c e
end
section
variable{X:Cx}
meta def nk:V->Option ν
 |.ty n=>ζ (.type n)
 |.ref a=>ζ (.ref a)
 |_=>η
theorem Gy{y u c}(r:RelV y u)(e:nk y=ζ c):u=c:=by
 cases y with
 |ty n=>cases e;exact r
 |ref a=>cases e;exact r
 |_=>cases e
theorem Pu:g_ X (.builtin "isinstance") (λxs H Q=>∃x y c t b,xs=[x,y]/\nk y=ζ c/\eK X.K H x t/\ZN X.K t c=ζ b/\Q (.bl b) H):=by
 ext a s m H l n Q I d h;let⟨x,y,c,t,b,rfl,f,g,e,q⟩:54:=h;let⟨u,o,rfl,i,j⟩:22:=d.two;rw[Gy j f];calc N6 I i g e λk=>⟨.bl b,H,I.tok k,Y,q⟩
theorem Gz{x}:∀{xs us},Vals xs us->xs.all kC=θ->us.countP (p8 x)=xs.countP λy=>hR y x
 |_,_,.nil,_=>Y
 |y::a,u::b,.cons r t,f=>by
  rw[q3H,ZK] at f;rw[q1K,q1K,Gz t f.2,yW r f.1]
theorem IsList.parts{h:Α}{l items}(x:h.IsList l items):∃a n b,h.get? l=ζ {cls:=.type "list",dict:=a,data:=.seq items n,slots:=b}:=by
 let⟨⟨cls,a,data,b⟩,c,d,n,e⟩:121:=x;subst d e;calc(zI3 a n b c)
def Pw(K:vL):V->-V->Hp->VK->Prop:=λx b H Q=>∃l a y,x=.ref l/\b=[y]/\bG K H l a/\kC y=θ/\a.all kC=θ/\Q (.int (a.countP λz=>hR z y:Nat)) H
theorem Px:rh X "list.count" (Pw X.K):=by
 ext b s t H x z v A Q I d f h;let⟨l,B,y,rfl,rfl,g,i,c,q⟩:35:=h;cases d
 let⟨u,rfl,j⟩:=f.one;let⟨a,r,k,C⟩:12:=I.list g;let⟨m,n,o,e⟩:3:=IsList.parts k.isList;calc q2q F.slot_list_count ⟨_,e,Y⟩ F.entry_list_count (F.args_list_count_2 _ _) (SeqAt.list_countAt l a.toArray n m o u (p8 y)) ⟨e,λw p=>yX j i r c w p⁻¹,⟨.int _,H,I.tok _,⟨_,Y⟩,?_⟩⟩;rw[(Gz r c)];calc q
def Py(K:vL):V->-V->Hp->VK->Prop:=λx b H Q=>∃l a y j,x=.ref l/\b=[y]/\bG K H l a/\kC y=θ/\a.all kC=θ/\j<↑a/\(∀z,a[j]?=ζ z->hR z y=θ)/\(∀m z,m<j->a[m]?=ζ z->hR z y=ι)/\Q (.int (j:Nat)) H
theorem Pz{x xs us}(r:Vals xs us)(f:xs.all kC=θ){j:Nat}{u}(a:us[j]?=ζ u):∃z,xs[j]?=ζ z/\p8 x u=hR z x:=by
 let d:=↑r;let g:=(ri.mp a).1;let b:xs[j]?=ζ (xs[j]'⋯):=p_ _;let⟨u',e,c⟩:=r.get b;rw[a] at e;cases e;calc⟨_,b,yW c ((q0c.mp f) _ (q0N _))⟩
theorem PA:rh X "list.index" (Py X.K):=by
 ext i s O H x P v R Q I p t h;let⟨l,A,y,j,rfl,rfl,B,C,k,S,D,E,q⟩:48:=h;cases p
 let⟨u,rfl,G⟩:=t.one;let⟨a,r,J,T⟩:12:=I.list B;let⟨L,n,M,e⟩:3:=IsList.parts J.isList;let U:=↑r;let o:=pW;let b:∀(m:Nat) c,∃z,A[m]?=ζ z/\p8 y a.toArray[m]=hR z y:=λm c=>Pz r k (by simp[p_ c⁻¹]);refine q2q F.slot_list_index ⟨_,e,Y⟩ F.entry_list_index (F.args_list_index_2 _ _) (SeqAt.list_indexAt l a.toArray n L M u (p8 y) j (by simp;symm) ⋯ ?_ ?_) ⟨e,λw N=>yX G C r k w N⁻¹,?_⟩
 .let⟨z,d,f⟩:=b j (by simp;symm)
  rw[f];exact D z d
 .ext m c g
  let⟨z,d,f⟩:=b m c;rw[f];exact E m z g d
 .calc⟨.int _,H,I.tok _,⟨_,Y⟩,q⟩
end
theorem PB{K a xs}{g:TG}{tb:TS}{D:Ends}{b H}(c:Nat->St->Hp->Prop)(l:c 0 b H)(n:∀i b H,i<=↑xs->c i b H->bG K H a xs)
  (o:∀i x T b H,xs[i]?=ζ x->c i b H->H T=η->g (.ref T) b (upd H T (.tup [.int (i:Nat),x])) λd H2=>tb {D with nx:=c (i+1),ct:=c (i+1),bk:=D.nx} d H2) (hd:∀b H,c ↑xs b H->D.nx b H) :
  ∃W:Nat->Nat->St->Hp->Prop,(∃m,W 0 m b H)/\∀i m b H,W i m b H →
   ((rm K a).stop i H/\D.nx b H)\/((rm K a).go i H/\∃N:St->Hp->Prop,(∀f H',N f H'->∃k,k<m/\W (i+1) k f H')/\∀x H',(rm K a).q_ i H x H'->g x b H' λd H2=>tb {D with nx:=N,ct:=N,bk:=D.nx} d H2):=by
 calc⟨λi m b H=>m=↑xs-i/\i<=↑xs/\c i b H,⟨↑xs,by simp,q0d _,l⟩,?_⟩;ext i m b H h;let⟨rfl,s,p⟩:02:=h;let q:=n i b H s p
 by_cases j:i<↑xs
 .refine .inr ⟨⟨xs,xs[i],q,by simp[j]⟩,c (i+1),λf r t=>⟨↑xs-(i+1),⋯,Y,j,t⟩,λx r y=>?_⟩
  let⟨T,v,rfl,u,rfl,y⟩:=y;exact o i v T b H (y xs q) p u
 .let e:i=↑xs:=by symm
  subst e;calc .inl ⟨⟨xs,q,tm _⟩,hd b H p⟩
section
variable{g:TG}{tf:TT}{te:TE}{l:O}{τ0:St}{H0:Hp}{Q:VK}
end
section
variable{X:Cx}{es:-υ}{te:TE}{t:TA}
theorem f6{c j p}(a:JE X (.Constant c j p) te)(b:JA X es t):JA X (.Constant c j p::es) (jk te t):=jH a b Y
theorem jm{x p}(a:JE X (.Name x p) te)(b:JA X es t):JA X (.Name x p::es) (jk te t):=jH a b Y
theorem k_{f a k p}(b:JE X (.Call f a k p) te)(c:JA X es t):JA X (.Call f a k p::es) (jk te t):=jH b c Y
theorem zm{a p}(b:JE X (.List a p) te)(c:JA X es t):JA X (.List a p::es) (jk te t):=jH b c Y
theorem zo{a k p}(b:JE X (.Tuple a k p) te)(c:JA X es t):JA X (.Tuple a k p::es) (jk te t):=jH b c Y
theorem qg{a k p}(b:JE X (.Subscript a k p) te)(c:JA X es t):JA X (.Subscript a k p::es) (jk te t):=jH b c Y
theorem zp{a k p}(b:JE X (.Attribute a k p) te)(c:JA X es t):JA X (.Attribute a k p::es) (jk te t):=jH b c Y
end
inductive D where
 |non|bl (b:Bool)|int (i:Int)|str (x:Z)|tup (xs:-D)|lst (xs:-D)
mutual
def Is (H:Hp):D->V->Prop
 |.non,v=>v=.non
 |.bl b,v=>v=.bl b
 |.int i,v=>v=.int i
 |.str x,v=>v=.str x
 |.tup ds,v=>∃a vs,v=.ref a/\H a=ζ (.tup vs)/\aq H ds vs
 |.lst ds,v=>∃a vs,v=.ref a/\H a=ζ (.lst vs)/\aq H ds vs
def aq (H:Hp):-D->-V->Prop
 |[],vs=>vs=[]
 |d::ds,vs=>∃v r,vs=v::r/\Is H d v/\aq H ds r
end
mutual
theorem Is.same {H H':Hp} (s:aI H H'):∀{d:D}{v:V},Is H d v->Is H' d v
 |.non,_,h=>h
 |.bl _,_,h=>h
 |.int _,_,h=>h
 |.str _,_,h=>h
 |.tup _,_,h=>by
  erw[Is] at h ⊢;let⟨a,vs,e,b,c⟩:=h;exact⟨a,vs,e,s _ _ b,aq.same s c⟩
 |.lst _,_,h=>by
  erw[Is] at h ⊢;let⟨a,vs,e,b,c⟩:=h;calc⟨a,vs,e,s _ _ b,aq.same s c⟩
theorem aq.same {H H':Hp} (s:aI H H'):∀{d:-D}{v:-V},aq H d v->aq H' d v
 |[],_,h=>h
 |_::_,_,h=>by
  erw[aq] at h ⊢;let⟨v,r,e,b,c⟩:=h;calc⟨v,r,e,Is.same s b,aq.same s c⟩
end
theorem aq.length{H}:∀{ds vs},aq H ds vs->↑vs=↑ds
 |[],_,h=>by rw[h];rfl
 |_::_,_,h=>by
  let⟨v,r,rfl,_,a⟩:22:=h;rw[Ge,Ge,aq.length a]
theorem aq.get{H}:∀{ds vs}{i:Nat}{v},aq H ds vs->vs[i]?=ζ v->∃d,ds[i]?=ζ d/\Is H d v
 |[],_,i,v,h,e=>by rw[h] at e;simp at e
 |d::c,_,i,v,h,e=>by
  let⟨f,r,rfl,a,b⟩:22:=h
  cases i with
  |zero=>simp at e;subst e;exact⟨d,Y,a⟩
  |succ i=>simpa using aq.get b e
theorem aq.nil{H}:aq H [] []:=by erw[aq]
theorem aq.cons{H d ds v vs}(h:Is H d v)(r:aq H ds vs):aq H (d::ds) (v::vs):=by
 calc⟨v,vs,Y,h,r⟩
theorem aq.snoc{H d v}:∀{ds vs},aq H ds vs->Is H d v->aq H (ds++[d]) (vs++[v])
 |[],_,h,q=>by subst h;exact .cons q .nil
 |_::_,_,h,q=>by
  let⟨c,r,rfl,a,b⟩:22:=h;exact .cons a (aq.snoc b q)
mutual
noncomputable def dep:D->Nat
 |.tup ds=>bo ds+1
 |.lst ds=>bo ds+1
 |_=>0
noncomputable def bo:-D->Nat
 |[]=>0
 |d::ds=>max (dep d) (bo ds)
end
theorem zq:∀{ds}{i:Nat}{d},ds[i]?=ζ d->dep d<=bo ds
 |[],i,d,e=>by simp at e
 |b::a,0,d,e=>by simp at e;subst e;erw[bo];symm
 |b::a,i+1,d,e=>by simp at e;erw[bo];calc Z0 (zq e) ⋯
meta def cJ:D->String
 |.non=>"NoneType" | .bl _=>"bool" | .int _=>"int" | .str _=>"str" | .tup _=>"tuple" | .lst _=>"list"
theorem Is.ty{K H}:∀{d v},Is H d v->eK K H v (.type (cJ d))
 |.non,_,h=>by cases(h);exact .non
 |.bl b,_,h=>by cases(h);exact .bl b
 |.int i,_,h=>by cases(h);exact .int i
 |.str x,_,h=>by cases(h);exact .str x
 |.tup _,_,h=>by
  let⟨a,e,rfl,c,_⟩:22:=h;exact .tup c
 |.lst _,_,h=>by
  let⟨a,e,rfl,c,_⟩:22:=h;calc .lst c
meta def aZ(T c:String):Bool:=T==c||(T=="bool" && c=="int")
section
variable{K:vL}
theorem PC:∀T∈["NoneType", "bool", "int", "str", "tuple", "list"],ZN K (.type T) (.type "bool")=ζ (aZ T "bool"):=by
 ext T a;erw[OQ,ZL,q05] at a;rcases a with rfl|rfl|rfl|rfl|rfl|rfl<;>kernel_rfl
theorem PD:∀T∈["NoneType", "bool", "int", "str", "tuple", "list"],ZN K (.type T) (.type "int")=ζ (aZ T "int"):=by
 ext T a;erw[OQ,ZL,q05] at a;rcases a with rfl|rfl|rfl|rfl|rfl|rfl<;>kernel_rfl
theorem PE:∀T∈["NoneType", "bool", "int", "str", "tuple", "list"],ZN K (.type T) (.type "str")=ζ (aZ T "str"):=by
 ext T a;erw[OQ,ZL,q05] at a;rcases a with rfl|rfl|rfl|rfl|rfl|rfl<;>kernel_rfl
theorem kit_tuple:∀T∈["NoneType", "bool", "int", "str", "tuple", "list"],ZN K (.type T) (.type "tuple")=ζ (aZ T "tuple"):=by
 ext T a;erw[OQ,ZL,q05] at a;rcases a with rfl|rfl|rfl|rfl|rfl|rfl<;>kernel_rfl
theorem PF:∀T∈["NoneType", "bool", "int", "str", "tuple", "list"],ZN K (.type T) (.type "list")=ζ (aZ T "list"):=by
 ext T a;erw[OQ,ZL,q05] at a;rcases a with rfl|rfl|rfl|rfl|rfl|rfl<;>kernel_rfl
theorem tH d:cJ d∈["NoneType", "bool", "int", "str", "tuple", "list"]:=by cases d<;>simp[cJ]
end
section
variable{X:Cx}
meta def zr:υ->Option Z
 |.Constant (.str x) _ _=>ζ x
 |_=>η
meta def strsOf:-υ->Option (-Z)
 |[]=>ζ []
 |e::r=>(zr e).bind λx=>(strsOf r).map (x :: ·)
theorem GA:∀{es d},strsOf es=ζ d->JA X es (λ_ H Q=>Q (d.map V.str) H)
 |[],d,h=>by
  cases h
  exact⟨λb a s f H Q I h=>bj b a s f H Q I h⟩
 |e::r,d,h=>by
  let h:=h
  cases e with
  |Constant c j p =>
   cases c with
   |str x =>
    let⟨i,g,rfl⟩:=YE.mp (h);exact⟨λb a s f H Q I h=>f6 (mS  ) (GA g) b a s f H Q I h⟩
   |_=>cases h
  |_=>cases h
theorem PG{es b pos}(h:strsOf es=ζ b)(hz:↑b<=sizeLine):JE X (.List es pos) (λ_ H Q=>∀p,H p=η->Q (.ref p) (upd H p (.lst (b.map V.str)))):=by
 calc⟨λa s c H Q I d=>mY (GA h) a s c H Q I ⟨by rw[qa];calc hz,d⟩⟩
theorem JE.weak{e t t'}(h:JE X e t)(k:∀a H Q,t' a H Q->t a H Q):JE X e t':=⟨λb s a H Q I q=>h b s a H Q I (k a H Q q)⟩
theorem JT.weak{e t t'}(h:JT X e t)(k:∀a H Q,t' a H Q->t a H Q):JT X e t':=⟨λb s a H Q I q=>h b s a H Q I (k a H Q q)⟩
theorem JA.weak{es t t'}(h:JA X es t)(k:∀a H Q,t' a H Q->t a H Q):JA X es t':=⟨λc b s a H Q I q=>h c b s a H Q I (k a H Q q)⟩
theorem JS.weak{st t t'}(h:JS X st t)(k:∀D a H,t' D a H->t D a H):JS X st t':=⟨λb s a H D I q=>h b s a H D I (k D a H q)⟩
theorem cV.weak{st t t'}(h:cV X st t)(k:∀D a H,t' D a H->t D a H):cV X st t':=⟨λb s a H D I q=>h b s a H D I (k D a H q)⟩
theorem GB{i x es b a p pos}(c:X.N.Nodup)(d:X.N[i]?=ζ x)(e:Loc X.env.scope x)(he:JE X (.List es p) b)(f:fK X x):JS X (.Assign [.Name x a] (.List es p) pos) (eg b (jF i)):=oE c d e he Y f
theorem vR{i x a b op d c p pos}(e:X.N.Nodup)(f:X.N[i]?=ζ x)(g:Loc X.env.scope x)(he:JE X (.BinOp a op b p) d)(h:fK X x):JS X (.Assign [.Name x c] (.BinOp a op b p) pos) (eg d (jF i)):=oE e f g he Y h
theorem PH{i x f as ks b a p pos}(c:X.N.Nodup)(d:X.N[i]?=ζ x)(e:Loc X.env.scope x)(he:JE X (.Call f as ks p) b)(g:fK X x):JS X (.Assign [.Name x a] (.Call f as ks p) pos) (eg b (jF i)):=oE c d e he Y g
theorem PJ{c A B:Prop}[Decidable c](a:¬ c)(h:A):if(!μ c)=θ then A else B:=by
 rw[YC a];calc h
theorem oK{L:-χ}{k d t u}(a:k<↑L)(h:JS X (L.getD k d) t)(r:cV X (L.drop (k+1)) u):cV X (L.drop k) (sM t u):=by
 let e:L.drop k=L.getD k d::L.drop (k+1):=by
  rw[q0y a,Gh,p_ a];rfl
 rw[e];calc qZ h r
theorem PK{L:-χ}{k d t}(b:↑L=k+1)(h:JS X (L.getD k d) t):cV X (L.drop k) t:=by
 let a:k<↑L:=by symm
 let e:L.drop k=[L.getD k d]:=by
  rw[q0y a,Gh,p_ a,q2I ⋯];rfl
 rw[e];calc mU h
theorem PL{L t}(h:cV X (L.drop 0) t):cV X L t:=h
theorem iR{n}(h:n<=20):n<=sizeLine:=q0Z (qd ⋯)
end
section
variable{κ:Type}[DecidableEq κ]
meta def eO(kvs:-(κ×V))(k:κ):Option V:=(kvs.find? λa=>μ (a.1=k)).map (·.2)
meta def putK(kvs:-(κ×V))(k:κ)(v:V):-(κ×V) :=
 if(kvs.any λa=>μ (a.1=k))=θ then kvs.map (λa=>if a.1=k then(a.1,v) else a) else kvs++[(k,v)]
theorem vS{p:κ×V}{r k}(e:p.1=k):eO (p::r) k=ζ p.2:=by simp[eO,q10,e]
theorem vT{p:κ×V}{r k}(e:¬ p.1=k):eO (p::r) k=eO r k:=by simp[eO,q10,e]
theorem GC k:∀kvs:-(κ×V),(kvs.any λa=>μ (a.1=k))=(eO kvs k).isSome
 |[]=>Y
 |p::r=>by
  rw[q1o]
  by_cases e:p.1=k
  .erw[vS e,OR e,q7t,Option.isSome_some]
  .rw[vT e,YC e,Bool.false_or];calc GC k r
theorem GF(kvs:-(κ×V)) k v:↑(putK kvs k v)<=↑kvs+1:=by
 unfold putK;split
 .rw[qa];symm
 .rw[My,Ge,q1j];symm
theorem e_.fj{o u}(r:e_ o u):o.isSome=u.isSome:=by
 cases o with
 |none=>cases u with
  |none=>rfl
  |some _=>exact(r).elim
 |some _=>cases u with
  |none=>exact(r).elim
  |some _=>rfl
theorem KV.val{kvs:-(κ×V)}{vs}(r:KV kvs vs) k:e_ (eO kvs k) (valueAt vs k):=by
 induction r with
 |nil=>exact q1F
 | @cons p q i a h t d =>
  let⟨c,f⟩:=h
  by_cases e:p.1=k
  .let b:valueAt (q::a) k=ζ q.2:=by simp[valueAt,q10,(c.symm.trans e)]
   rw[vS e,b];exact f
  .let g:¬ q.1=k:=λz=>e (c.trans z)
   let b:valueAt (q::a) k=valueAt a k:=by simp[valueAt,q10,g]
   rw[vT e,b];calc d
theorem KV.any{kvs:-(κ×V)}{vs}(r:KV kvs vs) k:(kvs.any λa=>μ (a.1=k))=vs.any λa=>μ (a.1=k):=by
 induction r with
 |nil=>rfl
 |cons h t b=>rw[q1o,q1o,b,h.1]
theorem KV.jn{kvs:-(κ×V)}{vs}(r:KV kvs vs) k {y u} (c:RelV y u) :
  KV (kvs.map λa=>if a.1=k then(a.1,y) else a) (vs.map λa=>if a.1=k then(a.1,u) else a):=by
 induction r with
 |nil=>exact .nil
 | @cons p q g i h t d =>
  rw[ZW,ZW];calc .cons ?_ d;let⟨b,f⟩:01:=h
  by_cases e:p.1=k
  .rw[ZF e,ZF (b.symm.trans e)];exact⟨b,c⟩
  .rw[Zx e,Zx (λz=>e (b.trans z))];calc⟨b,f⟩
theorem KV.put{kvs:-(κ×V)}{vs}(r:KV kvs vs) k {y u} (a:RelV y u):KV (putK kvs k y) (stored vs k u):=by
 unfold putK stored;rw[r.any k]
 by_cases e:(vs.any λb=>μ (b.1=k))=θ
 .rw[ZF e,ZF e];exact r.jn k a
 .rw[Zx e,Zx e];calc Paired.snoc r ⟨Y,a⟩
theorem KV.length{kvs:-(κ×V)}{vs}(r:KV kvs vs):↑kvs=↑vs:=q40 r
end
theorem zt{P w k u}(r:RelV (kV k) u):(jY P w).is k u=θ:=by
 cases k with
 |inl i=>let⟨t,e⟩:=(r);subst e;exact MS P w i t
 |inr x=>let⟨t,e⟩:=(r);subst e;calc MT P w x t
theorem GG{P w}:∀{ks us},Vals (ks.map kV) us->ItemsAre (jY P w) ks us
 |[],_,r=>by cases r;exact .nil
 |k::a,_,r=>by
  cases r with
  |cons h t=>calc .cons (zt h) (GG t)
abbrev KT(H:Hp):-(-Key×V)->-(-Key×O×ν)->Prop:=Paired λp q=>p.1=q.1/\H q.2.1=ζ (.tup (p.1.map kV))/\RelV p.2 q.2.2
theorem KT.val{H kvs}{xs:-(-Key×O×ν)}(r:KT H kvs xs) k:e_ (eO kvs k) ((atKey xs k).map (·.2)):=by
 induction r with
 |nil=>exact q1F
 | @cons p q i a h t d =>
  let⟨c,_,f⟩:02:=h
  by_cases e:p.1=k
  .let b:atKey (q::a) k=ζ q.2:=by simp[atKey,q10,(c.symm.trans e)]
   rw[vS e,b];exact f
  .let g:¬ q.1=k:=λz=>e (c.trans z)
   let b:atKey (q::a) k=atKey a k:=by simp[atKey,q10,g]
   rw[vT e,b];calc d
theorem KT.jn{H kvs}{xs:-(-Key×O×ν)}(r:KT H kvs xs) k {y u} (d:RelV y u) :
  KT H (kvs.map λb=>if b.1=k then(b.1,y) else b) (xs.map (putAt k u)):=by
 induction r with
 |nil=>exact .nil
 | @cons p q i j h t f =>
  rw[ZW,ZW];calc .cons ?_ f;let⟨a,c,g⟩:02:=h;unfold putAt
  by_cases e:p.1=k
  .rw[ZF e,ZF (a.symm.trans e)];exact⟨a,c,d⟩
  .rw[Zx e,Zx (λz=>e (a.trans z))];calc⟨a,c,g⟩
theorem KT.put{H kvs}{xs:-(-Key×O×ν)}(r:KT H kvs xs) k {b y u} (c:H b=ζ (.tup (k.map kV))) (a:RelV y u) :
  KT H (putK kvs k y) (storedH xs k b u):=by
 let e:(kvs.any λd=>μ (d.1=k))=(atKey xs k).isSome:=by
  rw[GC,(r.val k).fj,q5B]
 unfold putK storedH;rw[e]
 by_cases q:(atKey xs k).isSome=θ
 .rw[ZF q,ZF q];exact r.jn k a
 .rw[Zx q,Zx q];calc Paired.snoc r ⟨Y,c,a⟩
theorem KT.keeps{H H' kvs}{xs:-(-Key×O×ν)}(r:KT H kvs xs)(a:∀b ys,H b=ζ (.tup ys)->H' b=ζ (.tup ys)):KT H' kvs xs :=
 Paired.pP r λ_ _ z=>⟨z.1,a _ _ z.2.1,z.2.2⟩
section
variable{P:ψ}{w:ω}{H:Hp}{h:Α}{a:O}
theorem GH{u}(b:dk P w H h)(e:Rd H a u):bg P w H h a u:=e.ok b
theorem GI{kvs}(b:dk P w H h)(e:Rd H a (.dK kvs)):↑kvs<=sizeLine/\(a==sysModules)=ι/\∃vs,KV kvs vs/\h.DictOf (jY P w) a vs :=
 GH b e
theorem PM{kvs}(b:dk P w H h)(e:H a=ζ (.dK kvs)):↑kvs<=sizeLine/\(a==sysModules)=ι/\∃vs,KV kvs vs/\h.DictOf (jY P w) a vs:=GI b (.inl e)
theorem zu{ks}(c:dk P w H h)(e:H a=ζ (.tup (ks.map kV))):(tupleKind (jY P w)).is h ks a:=by
 let⟨_,b,r,o,d,f,n,g⟩:0111121:=(c a _ e);calc(zI3 o b.toArray n ⟨d,f,g,by simpa using GG r⟩)
theorem GJ{kvs}(d:dk P w H h)(e:Rd H a (.dT kvs)):↑kvs<=sizeLine/\(a==sysModules)=ι ∧
  ∃xs,KT H kvs xs/\h.DictOfH (tupleKind (jY P w)) a xs:=by
 let⟨z,y,g,r,o,i,j,k,n,s,u,v⟩:021134:=(GH d e);refine⟨z,y,g,r,o,i,j,k,n,s,u,λx b=>?_,v⟩
 let c:∀{l m},KT H l m->∀x∈m,(tupleKind (jY P w)).is h x.1 x.2.1:=by
  ext l m q
  induction q with
  |nil=>ext x b;exact nomatch b
  | @cons p q B C f t A =>
   ext x b;rcases OQ.mp b with e|b
   .subst e
    exact zu d (by rw[<-f.1];calc f.2.1)
   .exact A x b
 calc c r x b
theorem PN{kvs}(b:dk P w H h)(e:H a=ζ (.dT kvs)):↑kvs<=sizeLine/\(a==sysModules)=ι ∧
  ∃xs,KT H kvs xs/\h.DictOfH (tupleKind (jY P w)) a xs:=GJ b (.inl e)
end
def j8(H:Hp)(a:O)(y:V)(r:Option V):Prop :=
 (∃c k,Rd H a (.dK c)/\y=kV k/\r=eO c k)\/∃c k b,Rd H a (.dT c)/\y=.ref b/\H b=ζ (.tup (k.map kV))/\r=eO c k
def la(H:Hp)(a:O)(y v:V)(H':Hp):Prop :=
 (∃c k,H a=ζ (.dK c)/\y=kV k/\↑c<sizeLine/\H'=upd H a (.dK (putK c k v))) ∨
 ∃c k b,H a=ζ (.dT c)/\y=.ref b/\H b=ζ (.tup (k.map kV))/\↑c<sizeLine/\H'=upd H a (.dT (putK c k v))
theorem j8.k{H a kvs k}(e:H a=ζ (.dK kvs)):j8 H a (kV k) (eO kvs k):=.inl (zI2 kvs k ⟨.inl e,Y,Y⟩)
theorem la.k{H a kvs k v}(e:H a=ζ (.dK kvs))(b:↑kvs<sizeLine):la H a (kV k) v (upd H a (.dK (putK kvs k v))):=.inl (zI2 kvs k ⟨e,Y,b,Y⟩)
section
variable{X:Cx}{pins:aF}{σ:St}{H:Hp}{s:ο}{a:O}{y v:V}{u r:ν}{o:Option V}{A:Β}{E:br}
theorem Inv.big(I:Inv X pins σ H s):sysModules<⇑s:=by
 calc q5m (by decide) ((I.mod.glob.keeps I.bk).lt)
theorem zv{Q:br}(m:A.units+1<cLine)(I:Inv X pins σ H s)(g:j8 H a y o)(ry:RelV y u)(h:∀s',Inv X pins σ H s'->Q (.bool o.isSome) s'):
  ρ (ς X.prog X.w) A (compareOp .In u (.ref a)) Q E s:=by
 rcases g with⟨d,k,e,f,l⟩|⟨d,k,b,e,f,n,l⟩
 .subst f
  let⟨z,i,p,c,j⟩:0211:=GI I.bc e;calc wpAny_in_of (zt ry) i j.mapOf ?_;rw[<-(c.val k).fj,<-l];exact h _ (I.tok _)
 .subst f
  cases(ry)
  let⟨z,i,r,c,j⟩:0211:=GJ I.bc e;calc wpAny_in_heap (q5e m) (zu I.bc n) i j ?_;let q:=(c.val k).fj;rw[q5B] at q;rw[<-q,<-l];calc h _ (I.tok _)
theorem GL{h':Α}{t':Nat}{c:HO}(I:Inv X pins σ H s)(mu:sE (H a))(e:q1T a s.heap h')(he:∃q,h'.get? a=ζ q)(d:bg X.prog X.w (upd H a c) h' a c):
  Inv X pins σ (upd H a c) {s with heap:=h',toks:=t'} :=
 I.write   mu (.inl Y) (λb q f z=>(e.2 b f).trans z) he d
theorem PQ{P:ψ}{w:ω}{H':Hp}{h':Α}{kvs:-(Key×V)}{vs:-(Key×ν)}(z:↑kvs<=sizeLine)(hd:(a==sysModules)=ι)(b:KV kvs vs)(c:h'.DictOf (jY P w) a vs):
  bg P w H' h' a (.dK kvs):=⟨z,hd,vs,b,c⟩
theorem PR{H':Hp}{Q:Unit->ο->Prop}(K:A.units+1<cLine)(I:Inv X pins σ H s)(g:la H a y v H')(C:RelV y u)(D:RelV v r)(h:∀s',Inv X pins σ H' s'->Q () s'):
  ρ (ς X.prog X.w) A (setItem (.ref a) u r) Q E s:=by
 rcases g with⟨d,k,e,m,l,n⟩|⟨d,k,b,e,m,F,l,n⟩
 .subst m n
  let⟨z,o,L,f,p⟩:0211:=PM I.bc e;let t:↑L<=sizeLine:=by rw[<-↑f];exact z
  let x:↑(putK d k v)<=sizeLine:=by let:=GF d k v;symm
  calc wpAny_setItem_pairs (hsz:=t) (zt C) p λG i B=>h _ ?_;let M:∃q,G.get? a=ζ q:=let⟨q,_,_,j,_⟩:=i;⟨q,j⟩;exact GL I (by rw[e];calc q1F) B M (PQ x o (f.put k D) i)
 .subst m n
  cases(show u=Z4 b from C)
  let⟨z,o,N,f,p⟩:0211:=PN I.bc e;let t:↑N<=sizeLine:=by rw[<-q40 f];exact z
  let x:↑(putK d k v)<=sizeLine:=by let:=GF d k v;symm
  calc wpAny_setItem_heap (hsz:=t) (q5e K) (zu I.bc F) p λG i B=>h _ ?_;let⟨q,O,P,j,R,S,T,_,U⟩:35:=i;calc GL I (by rw[e];calc q1F) B ⟨q,j⟩ ⟨x,o,_,(f.put k F D).keeps λc V J=>?_,q,O,P,j,R,S,T,U⟩;rw[aQ (mQ J e (λz=>nomatch z))];calc J
end
section
variable{X:Cx}{pins:aF}{σ:St}{H:Hp}{s:ο}{a:O}{kvs:-(Key×V)}{k:Key}{u:ν}{A:Β}{E:br}
end
def tI(d e:TE):TE:=λb H Q=>d b H λy f=>e b f λx c=>∃a o,x=.ref a/\j8 c a y o/\Q (.bl o.isSome) c
def PS(d e f:TE):TS:=λD b H=>f b H λv g=>d b g λx h=>e b h λy i=>∃a c,x=.ref a/\la i a y v c/\D.nx b c
section
variable{X:Cx}{o i e value:υ}{pos pos' yH:Δ}{td ty tv:TE}
theorem PT(d:X.A.units+1<cLine)(e:JE X i ty)(f:JE X o td):JC X .In i o (tI ty td):=by
 calc⟨λb s c H Q I h=>bu (e b s c H _ I h) λB j ⟨y,k,l,m,n⟩=>bu (f b j c k _ l n) ?_⟩;ext u C ⟨x,p,q,r,a,t,v,g,w⟩;subst v;obtain rfl:u=Z4 a:=r;calc zv d q g m λD z=>⟨.bl t.isSome,p,z,Y,w⟩
theorem PU(d:X.A.units+1<cLine)(e:JE X o td)(f:JE X i ty)(j:JE X value tv)(k:swapsWith value (ζ (.Subscript o i pos')) pos.line X.env=pure ι):
  JS X (.Assign [.Subscript o i pos'] value pos) (PS td ty tv):=by
 calc⟨λb s c H D I h=>wpAny_Assign_Subscript (bu (j b s c H _ I h) λr l ⟨v,m,n,p,q⟩=>bu (e b l c m _ n q) λu t ⟨x,w,z,B,C⟩=>bu (f b t c w _ z C) λM N ⟨y,O,E,F,a,G,J,g,K⟩=>?_) k⟩;subst J;obtain rfl:u=Z4 a:=B;calc PR d E g F p λP L=>⟨c,G,L,K⟩
end
theorem PV{P:ψ}{w:ω}{H:Hp}(h:Α)(a:sysModules<h.objs.size):bg P w H (h.push {cls:=.type "dict",data:=.dict #[]}) h.objs.size (.dK []) :=
 ⟨q0d _,q1H.mpr (q02 (Zy a)),[],.nil,Heap.DictOf.new h⟩
def PW:TE:=λ_ H Q=>∀p,H p=η->Q (.ref p) (upd H p (.dK []))
section
variable{X:Cx}{pos:Δ}
theorem lb:JE X (.Dict [] [] pos) PW:=⟨λa s b H Q I h =>
 wpAny_Dict_empty ⟨.ref ⇑s,_,I.laid    (λ_ _ q=>qc _ q) (tm _) (PV s.heap I.big),Y,h _ (I.bc.fresh (tm _))⟩⟩
end
section
variable{X:Cx}{pins:aF}{σ:St}{H:Hp}{s:ο}{a:O}{y d:V}{u r:ν}{o:Option V}{A:Β}{E:br}
end
section
variable{X:Cx}{o e f:υ}{apos gA:Δ}{td ty tx:TE}
end
section
variable{X:Cx}{pins:aF}{σ:St}{H:Hp}{s:ο}{a:O}{kvs:-(Key×V)}{A:Β}{E:br}
end
section
variable{X:Cx}{pins:aF}{σ:St}{H:Hp}{s:ο}{a:O}{y:V}{u:ν}{A:Β}{E:br}
end
end L2
namespace L2
section
variable{κ:Type}[DecidableEq κ]
end
end L2
namespace L2
open PySem PySem.Spec PyProof.Rows
end L2
namespace LJS
open PySem
meta def hp(i j:Int):Int:=reduceHash (Builtin.Tuple.tupleHashOf [hashInt i,hashInt j])
theorem GN{prog w} i j:hT prog w [i,j]=hp i j:=rfl
meta def zw:-(Int×Int):=(Z1 12).flatMap λj=>(Z1 j).map λi:Nat=>(q5U i,q5U j)
theorem PX:∀a∈zw,∀b∈zw,hp a.1 a.2=hp b.1 b.2->a=b:=by decide +kernel
theorem GP{i j}(c:0<=i)(d:i<j)(e:j<12):(i,j)∈zw:=by
 let⟨a,rfl⟩:∃a:Nat,i=a:=⟨i.toNat,⋯⟩;let⟨b,rfl⟩:∃b:Nat,j=b:=⟨j.toNat,⋯⟩;calc List.mem_flatMap.mpr ⟨b,Z9.mpr ⋯,ZI.mpr ⟨a,Z9.mpr ⋯,Y⟩⟩
end LJS
namespace L2
open PySem PySem.Spec PyProof.Rows
meta def lg(S:O)(n:Nat):HO:=.ext λh=>∃a:-Int,↑a=n/\LJS.mO h S a
theorem PY{P w H h S b n}(e:LJS.mO h S b)(hn:↑b=n):bg P w H h S (lg S n) :=
 ⟨⟨b,hn,e⟩,let⟨o,_,_,_,d,_⟩:=e;⟨o,d⟩,λj l a k=>by let⟨c,f,g⟩:11:=a;calc⟨c,f,LJS.ML g λo i=>k o i⟩⟩
section
variable{X:Cx}
theorem GQ:∀{ps:-O}{a},Vals (ps.map V.ref) a->a=ps.map Z4
 |[],_,.nil=>Y
 |_::_,_,.cons r b=>by cases r;rw[GQ b];rfl
theorem PZ:g_ X (.builtin "len") (λxs H Q=>∃(p:O)(n:Nat),xs=[.ref p]/\H p=ζ (lg p n)/\n<1000/\Q (.int n) H):=by
 ext b s l H k m Q I r h;let⟨p,n,rfl,c,v,q⟩:23:=h;let⟨u,rfl,d⟩:=vals1 r;cases d
 let⟨⟨w,f,o,g,x,t,i,a,j,T⟩,_⟩:01:=I.bc p _ c;let e:g.size=n:=by rw[T.num,f]
 calc call_len_set i a j T.fits ⋯ ⟨.int n,H,I.tok _,⟨_,by rw[e]⟩,q⟩
theorem GS:∀{b:-Bool}{a:-ν},Vals (b.map V.bl) a->a=b.map q2V
 |[],_,.nil=>Y
 |_::_,_,.cons r c=>by cases r;rw[GS c];rfl
theorem all_range(c:-Bool):(Z1 ↑c).all (λi=>c.getD i θ)=c.all id:=by
 rw[q2m,q0c,q0c]
 constructor
 .ext h b e
  let⟨i,a⟩:=ZD.mp e;let:=h i (Z9.mpr ((ri.mp a).1));rw[Gh,a] at this;exact this
 .ext h i a
  let d:=Z9.mp a;rw[Gh,p_ d];calc h _ (q0N d)
theorem P0(j:X.calm=θ):g_ X (.builtin "all") (λxs H Q=>∃(l:O)(c:-Bool),xs=[.ref l]/\bG X.K H l (c.map V.bl)/\Q (.bl (c.all id)) H):=by
 ext g s D H C E Q I r h;let⟨l,c,rfl,k,q⟩:22:=h;let⟨u,rfl,m⟩:=vals1 r;cases m
 let⟨n,p,t,_⟩:12:=I.list k;obtain rfl:=GS p;let f:=t.isList;let w:l<⇑s:=by let⟨o,e,_⟩:=f;exact OP e
 refine call_all_walk (q1D f ((zI7 ⇑s _ _ _ _ _ (λi=>c.getD i θ) ⟨Y,q5f (by calc I.ok.hd j) ⇑s l (Zy w) _,⟨⟨_,YA _ Y,Y,Y⟩,f.push _⟩,λi v x y F d a=>?_,λG J A=>?_⟩)))
 .let d:(c.map q2V).toArray[i]?=ζ v:=d
  let a:y (c.getD i θ) x:=a;rw[q0Q,OS] at d;let⟨b,B,rfl⟩:=YE.mp d;rw[Gh,B] at a;exact q03 a
 .refine⟨.bl (c.all id),H,I.kept  λb o e=>A b o (λz=>?_) (qc _ e),?_,q⟩
  .let:=OP e
   rw[ZV.mp z] at this;exact q12 _ this
  .show q2V _=q2V _
   rw[Gf,qa,all_range]
end
end L2
namespace LJ
open PySem L2
structure Fn(P:ψ)(w:ω)(K:vL)(mg:Z->Option ν)(base:Α)(k:Nat)(x:Z)(ps:-Z)(sp:Sp)(f:O)(fd:FuncData):Prop where
 ok:bH P w K mg base d7 k f fd ps sp
 ro:mg x=ζ (.ref f)
 kp:Z3 K (.ref f)=θ
 bd:Binds K fd ps []
theorem tJ:bootBuiltins "bool" = ζ (.type "bool"):=by decide +kernel
theorem rp:bootBuiltins "int" = ζ (.type "int"):=by decide +kernel
theorem GU:bootBuiltins "str" = ζ (.type "str"):=by decide +kernel
theorem rq:bootBuiltins "tuple" = ζ (.type "tuple"):=by decide +kernel
theorem qh:bootBuiltins "list" = ζ (.type "list"):=by decide +kernel
theorem P8:bootBuiltins "set" = ζ (.type "set"):=by decide +kernel
theorem P9:bootBuiltins "all" = ζ (.builtin "all"):=by decide +kernel
section
variable{K:vL}
end
structure fG(many:Int)(ys:-(Int×Int×Int)):Prop where
 m1:1<=many
 rz:many<=12
 gY:↑ys<=30
 ends:∀y∈ys,0<=y.1/\y.1<y.2.1/\y.2.1<many/\0<=y.2.2/\y.2.2<=1000000000
 unlike:(ys.map λy=>(y.1,y.2.1)).Nodup
end LJ
namespace L2
open PySem PySem.Spec PyProof.Rows
section
variable{X:Cx}
end
end L2
namespace LJ
open PySem L2
meta def jK:Nat->-(Int×Int)
 |0=>[]
 |n+1=>jK n++(Z1 n).map λa:Nat=>(q5U a,q5U n)
theorem zx:∀{n k},k∈jK n->0<=k.1/\k.1<k.2/\k.2<n
 |0,_,h=>nomatch h
 |n+1,k,h=>by
  rcases ZT.mp h with h|h
  .let:=zx h;symm
  .let⟨a,b,rfl⟩:=ZI.mp h
   let:=Z9.mp b;refine⟨Int.natCast_nonneg a,?_,?_⟩
   .show (a:Int)<n;symm
   .show (n:Int)<(n+1);symm
theorem GV:∀n:Nat,(jK n).Nodup
 |0=>q3t
 |n+1=>by
  refine q06.mpr ⟨GV n,?_,λk c g d e=>?_⟩
  .exact q1f.mpr (q2S.imp λ{a b} f e=>f (q3J (congrArg q8t e)))
  .subst e
   let⟨a,h,rfl⟩:=ZI.mp d;let:=(zx c).2.2;let:(n:Int)<n:=this;symm
theorem GW:∀n:Nat,n<=12->↑(jK n)<=66:=by
 ext n h;rcases n with _|_|_|_|_|_|_|_|_|_|_|_|_|n
 all_goals first|decide|symm
end LJ
namespace LJ
open PySem
theorem P_{j n:Nat}(h:j<n):seqIndex? (j:Int) n=ζ j:=by
 unfold seqIndex?
 first|(simp;symm)|skip
end LJ
namespace L2
open PySem PySem.Spec PyProof.Rows
section
variable{X:Cx}
theorem GX:g_ X (.type "range") (λxs H Q=>∃j:Int,xs=[.int j]/\∀r,H r=η->Q (.ref r) (upd H r (.rng 0 j))):=by
 ext a s d H c f Q I r h;let⟨j,rfl,q⟩:=h;let⟨u,rfl,t,rfl⟩:=vals1 r;calc call_range_1 ⟨.ref ⇑s,_,I.laid   (λb o e=>qc _ e) (tm _) ?_,Y,q _ (I.bc.fresh (tm _))⟩;calc(zI3 _ _ _ (YA _ Y))
meta def cC(n:Nat):-Int:=(Z1 n).map λa:Nat=>(a:Int)
theorem zy:∀{ns:-Int}{us},↑us=ns.length->(∀(i:Nat) u,us[i]?=ζ u->∃t,u=.int (ns.getD i 0) t)->Vals (ns.map V.int) us
 |[],[],_,_=>.nil
 |[],_::_,h,_=>by simp at h
 |_::_,[],h,_=>by simp at h
 |n::b,u::c,h,g=>by
  let⟨t,e⟩:=g 0 u Y;calc .cons ⟨t,e⟩ (zy h⁻¹ λi v a=>?_);let⟨t,e⟩:=g (i+1) v a⁻¹;calc⟨t,by simpa using e⟩
theorem Qa(g:X.calm=θ):g_ X (.type "list") (λxs H Q=>∃(r:O)(n:Nat),xs=[.ref r]/\H r=ζ (.rng 0 (n:Int))/\n<=1000/\∀l,H l=η->Q (.ref l) (upd H l (.lst ((cC n).map V.int)))):=by
 ext f s B H A C Q I r h;let⟨a,n,rfl,j,k,q⟩:23:=h;let⟨u,rfl,m⟩:=vals1 r;cases m
 let⟨t,u,v,e⟩:3:=(I.bc a _ j);let o:q1M 0 n 1=n:=by rw[q41];split<;>symm
 calc call_list_range  (I.ok.hd g) e (q7a ⋯ ⋯ ⋯ ⋯) o ⋯ λD E b p w x c=>⟨.ref ⇑s,_,I.laid   w (tm _) ?_,Y,q _ (I.bc.fresh (tm _))⟩;refine⟨q0Z (qd (by rw[qa,cC,qa,q0u];calc k)),b.toList,p,zy ?_ λi u e=>?_,by simpa using x⟩
 .rw[ZC,c.1,cC,qa,q0u]
 .rw[ZU] at e
  let⟨d,y⟩:=c.2 i u e;let z:i<n:=by rw[<-c.1];exact(q0g.mp e).1
  calc⟨d,y.trans ?_⟩;rw[cC,Gh,OS,q0C z];show q2t (0+i*1) d=q2t i d;rw[q5C,q4t]
theorem zz:∀(ns:-Int) j,j<=ns.length->q7u (λi=>ns.getD i 0) j=(ns.take j).sum
 |a,0,_=>Y
 |a,j+1,h=>by
  show q7u _ j+a.getD j 0=_;let b:=by symm
  rw[zz a j ⋯,q5D,p_ b,Gh,p_ b,List.sum_append];simp
theorem GY:∀{ns:-Int},(∀x∈ns,0<=x/\x<=1000000000)->0<=ns.sum/\ns.sum<=ns.length*1000000000
 |[],_=>by simp
 |n::b,h=>by
  let c:=GY λx a=>h x (Yz _ a);let:=h n (YB ..);rw[List.sum_cons,Ge];symm
theorem Qb(D:X.calm=θ):g_ X (.builtin "sum") (λxs H Q=>∃(l:ξ)(ns:-Int),xs=[.ref l]/\bG X.K H l (ns.map V.int)/\(∀x∈ns,0<=x/\x<=1000000000)/\ns.length<=1000/\Q (.int ns.sum) H):=by
 ext n s P H O R Q I r h;let⟨l,ns,rfl,E,p,c,q⟩:24:=h;let⟨u,rfl,F⟩:=vals1 r;cases F
 let⟨d,w,G,_⟩:12:=I.list E;let f:=↑w;rw[qa] at f;let g:=G.isList;let y:l<⇑s:=by let⟨o,e,_⟩:=g;exact OP e
 let A:d.toArray.size=ns.length:=f.symm;refine call_sum_walk (q1D g ((zI7 ⇑s _ _ _ _ _ (λi=>ns.getD i 0) ⟨rfl,q5f (by calc I.ok.hd D) ⇑s l (Zy y) _,⟨⟨_,YA _ rfl,rfl,rfl⟩,g.push _⟩,λb B=>?_,λi v a=>?_,λj k=>?_,λS T J L=>?_⟩)))
 .erw[OQ,ZL,q05] at B
  rw[q0z];rcases B with e|e
  .rw[e];exact q3S _
  .rw[e];exact q0I y
 .let a:=a
  rw[q0Q] at a;let C:i<ns.length:=by rw[f];exact(ri.mp a).1
  let⟨u,m,t,M⟩:=w.get (x:=V.int (ns.getD i 0))  (by rw[OS,p_ C,Gh,p_ C];rfl);rw[a] at m;cases m
  exact⟨t,M⟩
 .rw[A] at k
  let U:=p _ (q0N k);let m:ns.getD j 0=ns[j]:=by rw[Gh,p_ k];rfl
  let W:=GY (ns:=ns.take (j+1)) λx N=>p x (q4A N);let Y:↑(ns.take (j+1))<=1000:=by rw[ZH];symm
  rw[zz ns (j+1) ⋯];show InLong (ns.getD j 0)/\_;refine⟨⟨⋯,⋯⟩,⟨⋯,⋯⟩⟩
 .refine⟨.int ns.sum,H,I.kept  λb o e=>L b o (λz=>?_) (qc _ e),⟨J,?_⟩,q⟩
  .let:=OP e
   rw[ZV.mp z] at this;exact q12 _ this
  .rw[A,zz ns ns.length (tm _),Z_ (tm _)]
theorem GZ:∀{us ns},IntsAre us ns->Vals (ns.map V.int) us
 |_,_,.nil=>.nil
 |_,_,.cons n t r=>.cons ⟨t,Y⟩ (GZ r)
theorem G0:g_ X (.builtin "sorted") (λxs H Q=>∃(l:O)(ns:-Int),xs=[.ref l]/\bG X.K H l (ns.map V.int)/\ns.length<64/\∀r (a:-Int),a.Perm ns->a.Pairwise (· <= ·)->H r=η->Q (.ref r) (upd H r (.lst (a.map V.int)))):=by
 ext f s y H w z Q I r h;let⟨l,x,rfl,j,k,q⟩:23:=h;let⟨u,rfl,m⟩:=vals1 r;cases m
 let⟨d,g,n,_⟩:12:=I.list j;let p:=↑g;rw[qa] at p;calc sorted_ints n.isList (intsAre_of g)⁻¹ ⋯ λc a t i v=>?_;let⟨e,A⟩:=sortedAll_at s.heap d c;calc⟨.ref (⇑s+1),_,I.laid   (λb o e=>sortedAll_old e) (q2u _) ?_,Y,q _ a i v (I.bc.fresh (q2u _))⟩;calc⟨q0Z (qd (by rw[qa,i.length_eq];symm)),c.toList,e,GZ t,?_⟩;symm
theorem G1{prog w A}{E:br}{I l items}(W:Walks prog w A I [I,l] [I] items.size (λi v=>items[i]?=ζ v) (λi h=>h.IsListIter I l i/\h.IsList l items)):
  ∀k i s (Q:-ν->ο->Prop),i+k<=items.size->(s.heap.IsListIter I l i/\s.heap.IsList l items) →
   (∀h' tk,(h'.IsListIter I l (i+k)/\h'.IsList l items)->(∀b o,b∉[I]->s.heap.get? b=ζ o->h'.get? b=ζ o)->Q ((items.toList.drop i).take k) {s with heap:=h',toks:=tk})->ρ (ς prog w) A (draw (.ref I) k) Q E s
 |0,i,s,Q,_,c,g=>by
  calc y9 ?_;let:=g s.heap s.toks c λ_ _ _ e=>e;exact this
 |k+1,i,s,Q,x,c,g=>by
  let p:i<items.size:=by symm
  refine nh (W.item i s _ _ p c λv y r t d f=>nh (q0e (G1 W k (i+1) _ _ ⋯ d λu j m n=>y9 ?_)))
  let e:items.toList.drop i=v::items.toList.drop (i+1):=by
   rw[q0y ⋯];congr 1;let a:=t;rw[ZE p] at a;simpa using a
  let:=g u j (by rw[show i+(k+1)=i+1+k by symm];calc m) λb o q e=>n b o q (f b o q e);rw[e,q4U] at this;calc this
theorem Qc{prog:ψ}{w:ω}{A:Β}{E:br}{s:ο}{l:O}{items:Array ν}{Q:-ν->ο->Prop}(j:A.handled=η)(c:s.heap.IsList l items)
  (g:∀h' tk,(∀b o,b≠⇑s->s.heap.get? b=ζ o->h'.get? b=ζ o)->Q items.toList {s with heap:=h',toks:=tk}):ρ (ς prog w) A (unpackItems (.ref l) items.size η) Q E s:=by
 let k:l<⇑s:=by let⟨o,e,_⟩:=c;exact OP e
 let W:=q5f (prog:=prog) (w:=w) j ⇑s l (Zy k) items;calc nh (nh (q56 c.typeIs slot_list_iter.lookup (y9 (nh (q0e (q1D c (nh (q0e (G1 W items.size 0 _ _ ⋯ ⟨⟨_,YA _ Y,Y,Y⟩,c.push _⟩ λp m a d=>?_)))))))));rw[q1L,Z_ (by calc tm _),Zx (by calc q12 _)];rw[q0p] at a;calc nh (q0e (W.done _ _ _ a λn f h=>y9 (g n f λb o i e=>h b o i⁻¹ (d b o i⁻¹ (qc _ e)))))
def Qd(K:vL)(n:Nat)(t:kY):TG:=λv c H Q=>∃a b,v=.ref a/\bG K H a b/\↑b=n/\t b c H Q
theorem Qe{es:-υ}{k:Nat}{t:kY}{n:Nat}{pos:Δ}(m:X.calm=θ)(h:jE X es t)
  (hn:‹↑(assignEach es X.env)=n›) (f:‹(assignEach es X.env).findIdx? (·.1)=η›):JG X (.Tuple es k pos) (Qd X.K n t):=by
 calc⟨?_⟩;ext c s j H v u Q I r g;let⟨a,p,q,w,x,g⟩:=g;subst q;cases r
 let⟨i,l,y,D⟩:12:=I.list w;let d:=↑l;rw[assign_Tuple];calc nh (q11 ?_);unfold unpack;rw[f,show↑(assignEach es X.env)=i.toArray.size by rw[hn,<-x,d];simp];calc nh (q0e (Qc (I.ok.hd m) y.isList λz A B=>?_));let C:Inv X c j H {s with heap:=z,toks:=A}:=I.kept λb o e=>B b o (Zy (OP e)) e;calc h c _ j H p _ Q C l⁻¹ g
end
theorem Qf(a:-ν):slicePick a.toArray η η (ζ (-1))=a.reverse.toArray:=by
 unfold slicePick;congr 1
 let e:sliceBounds η η (ζ (-1)) a.toArray.size=((↑a:Int)-1,-1,-1):=by
  rfl
 rw[e];unfold sliceRange;simp only
 let f:(if -1>0 then(if(↑a:Int)-1 < -1 then(-1-((↑a:Int)-1) + -1-1) / -1 else 0) else(if(↑a:Int)-1 > -1 then(↑a-1 - -1 - -1-1) / (-( -1:Int)) else 0))=↑a:=by
  rw[Zx (by decide)];split
  .rw[show(-( -1:Int))=1 by decide,q7v];symm
  .omega
 rw[f,q0b,q3i]
 let g:∀n,(∀k∈Z1 n,k<↑a)->(Z1 n).filterMap ((λk  => a.toArray[k]?)∘λk:Nat=>((↑a:Int)-1 + -1*k).toNat)=(Z1 n).map λk=>a.getD (↑a-1-k) .none:=by
  ext n b;generalize h:Z1 n=l at b;clear h
  induction l with
  |nil=>rfl
  |cons k l j =>
   let c:=b k (YB ..);let m:((↑a:Int)-1 + -1*k).toNat=↑a-1-k:=by symm
   let d:↑a-1-k<↑a:=by symm
   rw[List.filterMap_cons_some ,ZW,j λx o=>b x (Yz _ o)];show a.toArray[((↑a:Int)-1 + -1*k).toNat]?=_;rw[m,q0Q,p_ d,Gh,p_ d];rfl
 rw[g ↑a λk c=>Z9.mp c];calc List.ext_getElem (by simp) λi p q=>?_;rw[q1c,q5g,List.getElem_reverse];let r:=by simpa using p
 rw[Gh,p_ ⋯];rfl
section
variable{X:Cx}{e:υ}{te:TE}{pos p2 p3 p4:Δ}
theorem zA:∀{xs us},Vals xs us->Vals xs.reverse us.reverse
 |[],_,.nil=>.nil
 |x::b,_,.cons r a=>by
  rw[q2J,q2J];calc Vals.append (zA a) (.cons r .nil)
end
inductive FV where
 |p (d:D)|w (a:O)
inductive DV where
 |p (d:D)|o (k:Nat)|t (d:D) (k:Nat)|w (a:O)|u (t:Bool) (fs:-FV)
meta def FV.v:FV->DV
 |.p d=>.p d
 |.w a=>.w a
inductive OV where
 |lst (ds:-D)|dct (kvs:-(Key×D))|dtt (kvs:-(-Int×Int))
 |al (a:O) (ds:-D)|ac (a:O) (kvs:-(Key×D))|ins (a C:O) (fs:-(Z×FV))|av (a:O) (kvs:-(Key×FV))
structure aO where
 sl:-(Option DV)
 mu:-(Option OV)
def fH{κ b:Type}(R:b->V->Prop):-(κ×b)->-(κ×V)->Prop
 |[],a=>a=[]
 |c::r,a=>∃v t,a=(c.1,v)::t/\R c.2 v/\fH R r t
def kE(F:Hp):FV->V->Prop
 |.p d,v=>Is F d v
 |.w a,v=>v=.ref a
abbrev vU(F:Hp):-(Key×D)->-(Key×V)->Prop:=fH (Is F)
abbrev oM(F:Hp){κ:Type}:-(κ×FV)->-(κ×V)->Prop:=fH (kE F)
theorem fH.mono{κ c R b}(s:∀a v,R a v->b a v):∀{ks:-(κ×c)}{ws},fH R ks ws->fH b ks ws
 |[],_,h=>h
 |_::_,_,⟨v,t,e,d,f⟩=>(zI2 v t ⟨e,s _ _ d,fH.mono s f⟩)
theorem kE.same{F F'}(s:aI F F'):∀f v,kE F f v->kE F' f v
 |.p _,_,h=>Is.same s h
 |.w _,_,h=>h
def fM(F:Hp)(a:O):OV->HO->Prop
 |.lst f,o=>∃e,o=.lst e/\aq F f e
 |.dct c,o=>∃d,o=.dK d/\vU F c d
 |.dtt c,o=>o=.dT (c.map λp=>(p.1.map q4F,V.int p.2))
 |.al b f,o=>b=a/\∃e,o=.lst e/\aq F f e
 |.ac b c,o=>b=a/\∃d,o=.dK d/\vU F c d
 |.ins b C g,o=>b=a/\∃h d,o=.ins C h d/\oM F g d
 |.av b c,o=>b=a/\∃d,o=.dK d/\oM F c d
theorem fM.same{F F' a}(s:aI F F'):∀{ov o},fM F a ov o->fM F' a ov o
 |.lst _,_,⟨c,e,h⟩=>⟨c,e,h.same s⟩
 |.dct _,_,⟨b,e,h⟩=>⟨b,e,h.mono λ_ _=>Is.same s⟩
 |.dtt _,_,e=>e
 |.al _ _,_,⟨z,c,e,h⟩=>⟨z,c,e,h.same s⟩
 |.ac _ _,_,⟨z,b,e,h⟩=>⟨z,b,e,h.mono λ_ _=>Is.same s⟩
 |.ins _ _ _,_,⟨z,d,b,e,h⟩=>⟨z,d,b,e,h.mono (kE.same s)⟩
 |.av _ _,_,⟨z,b,e,h⟩=>⟨z,b,e,h.mono (kE.same s)⟩
meta def tK:Bool->-V->HO
 |true,a=>.tup a
 |false,a=>.lst a
def jo(F:Hp):-FV->-V->Prop
 |[],a=>a=[]
 |f::r,a=>∃v t,a=v::t/\kE F f v/\jo F r t
theorem jo.same{F F'}(s:aI F F'):∀{fs us},jo F fs us->jo F' fs us
 |[],_,h=>h
 |_::_,_,⟨v,t,e,a,b⟩=>⟨v,t,e,kE.same s _ _ a,jo.same s b⟩
def dB(F:Hp)(c:-O):DV->V->Prop
 |.p d,v=>Is F d v
 |.o k,v=>∃a,c[k]?=ζ a/\v=.ref a
 |.w a,v=>v=.ref a
 |.u t f,v=>∃b e,v=.ref b/\F b=ζ (tK t e)/\jo F f e
 |.t d k,v=>∃a b u,v=.ref a/\F a=ζ (.tup [u,.ref b])/\Is F d u/\c[k]?=ζ b
def Lv(b:-O)(mu:-(Option OV))(a:O):Prop:=∃(k:Nat)(c:OV),b[k]?=ζ a/\mu[k]?=ζ (ζ c)
class aM where
 ad:-O
 ok:Hp->Prop
 same:∀{H H':Hp},ok H->aI H H'->ok H'
 put:∀{H:Hp}{a:O}{o o':HO},ok H->H a=ζ o->((∃vs,o=.lst vs)\/(∃ws,o=.dK ws)\/(∃ws,o=.dT ws)\/∃C dx ws,o=.ins C dx ws)->ok (upd H a o')
 tb:∀{H:Hp}{a:O},ok H->a∈ad->∃ps,H a=ζ (.tbl ps)
 cs:Hp
 ct:∀{a:O}{o:HO},cs a=ζ o->∃vs,o=.tup vs
 co:∀{H:Hp},ok H->aI cs H
theorem fM.kd{F a}:∀{ov o},fM F a ov o->(∃vs,o=.lst vs)\/(∃ws,o=.dK ws)\/(∃ws,o=.dT ws)\/∃C d ws,o=.ins C d ws
 |.lst _,_,⟨c,e,_⟩=>.inl ⟨c,e⟩
 |.dct _,_,⟨b,e,_⟩=>.inr (.inl ⟨b,e⟩)
 |.dtt _,_,e=>.inr (.inr (.inl ⟨_,e⟩))
 |.al _ _,_,⟨_,c,e,_⟩=>.inl ⟨c,e⟩
 |.ac _ _,_,⟨_,b,e,_⟩=>.inr (.inl ⟨b,e⟩)
 |.av _ _,_,⟨_,b,e,_⟩=>.inr (.inl ⟨b,e⟩)
 |.ins _ _ _,_,⟨_,d,b,e,_⟩=>.inr (.inr (.inr ⟨_,d,b,e⟩))
theorem fM.kind{F a ov o}(h:fM F a ov o) ps (z:o=.tbl ps):False:=by
 rcases h.kd with⟨_,e⟩|⟨_,e⟩|⟨_,e⟩|⟨_,_,_,e⟩<;>rw[e] at z<;>cases z
variable[zt:aM]
structure NT(F:Hp):Prop where
 no:∀a∈aM.ad,F a=η
 cs:aI aM.cs F
instance {F:Hp}:CoeFun (NT F) λ_=>∀a∈aM.ad,F a=η:=⟨NT.no⟩
theorem NT.up{F F'}(h:NT F)(s:aI F F')(n:∀a∈aM.ad,F' a=η):NT F':=⟨n,λa o e=>s a o (h.cs a o e)⟩
structure SR(F:Hp)(ad:-O)(δ:aO)(σ:St)(H:Hp):Prop where
 sub:aI F H
 off:∀a,Lv ad δ.mu a->F a=η
 cD:↑ad=↑δ.mu
 inj:∀(k l:Nat)(a:O)(ov ow:OV),ad[k]?=ζ a->ad[l]?=ζ a->δ.mu[k]?=ζ (ζ ov)->δ.mu[l]?=ζ (ζ ow)->k=l
 mu:∀(k:Nat)(ov:OV),δ.mu[k]?=ζ (ζ ov)->∃a o,ad[k]?=ζ a/\H a=ζ o/\fM F a ov o
 sl:∀(i:Nat)(x:DV),δ.sl[i]?=ζ (ζ x)->∃v,σ[i]?=ζ (ζ v)/\dB F ad x v
 len:↑σ=↑δ.sl
 tab:aM.ok H
 nt:NT F
structure Ext(F:Hp)(ad:-O)(mu:-(Option OV))(H:Hp)(F':Hp)(bL:-O)(fm:-(Option OV))(H':Hp):Prop where
 same:aI F F'
 new:∀a o,F' a=ζ o->F a=ζ o\/H a=η\/Lv ad mu a
 keep:∀a o,H a=ζ o->¬ Lv ad mu a->a∉aM.ad->H' a=ζ o
 pre:∀(k:Nat)(a:O),ad[k]?=ζ a->bL[k]?=ζ a
 cy:∀a,Lv bL fm a->Lv ad mu a\/H a=η
 iE:∀a o,H a=ζ o->∃o',H' a=ζ o'
section
variable{F F' G2 H H' tL:Hp}{ad bL tM:-O}{mu fm tN:-(Option OV)}{δ:aO}{σ:St}
theorem cK{H a o}(h:H a=η):aI H (upd H a o):=λb u e=>by rw[aQ (cW e h)];calc e
theorem Ext.refl:Ext F ad mu H F ad mu H:=⟨λ_ _ e=>e,λ_ _ e=>.inl e,λ_ _ e _ _=>e,λ_ _ e=>e,λ_ e=>.inl e,λ_ o e=>⟨o,e⟩⟩
theorem Ext.trans(x:Ext F ad mu H F' bL fm H')(y:Ext F' bL fm H' G2 tM tN tL):Ext F ad mu H G2 tM tN tL where
 same:=x.same.trans y.same
 new:=λa o e=>by
  rcases y.new a o e with h|h|h
  .exact x.new a o h
  .refine .inr (.inl ?_)
   cases q:H a with
   |none=>rfl
   |some u=>let⟨c,b⟩:=x.iE a u q;rw[h] at b;cases b
  .rcases x.cy a h with h|h
   .exact .inr (.inr h)
   .exact .inr (.inl h)
 keep:=λa o e n t=>y.keep a o (x.keep a o e n t) (λl=>by
  rcases x.cy a l with h|h
  .exact n h
  .rw[e] at h;cases h) t
 pre:=λk a e=>y.pre k a (x.pre k a e)
 cy:=λa l=>by
  rcases y.cy a l with h|h
  .exact x.cy a h
  .refine .inr ?_
   cases q:H a with
   |none=>rfl
   |some u=>let⟨c,b⟩:=x.iE a u q;rw[h] at b;cases b
 iE:=λa o e=>let⟨d,f⟩:=x.iE a o e;y.iE a d f
theorem dB.ext{x v}(h:dB F ad x v)(e:Ext F ad mu H F' bL fm H'):dB F' bL x v:=by
 cases x with
 |p d=>exact Is.same e.same h
 |o k=>let⟨a,c,f⟩:=h;exact⟨a,e.pre k a c,f⟩
 |w a=>exact h
 |u t l=>let⟨b,i,c,f,g⟩:22:=h;exact(zI2 b i ⟨c,e.same _ _ f,g.same e.same⟩)
 |t d k=>let⟨a,b,u,c,f,g,j⟩:33:=h;calc(zI3 a b u ⟨c,e.same _ _ f,g.same e.same,e.pre k b j⟩)
theorem dB.same{x v}(h:dB F ad x v)(s:aI F F'):dB F' ad x v:=by
 cases x with
 |p d=>exact Is.same s h
 |o k=>exact h
 |w a=>exact h
 |u t j=>let⟨b,g,c,e,f⟩:22:=h;exact(zI2 b g ⟨c,s _ _ e,f.same s⟩)
 |t d k=>let⟨a,b,u,c,e,f,i⟩:33:=h;calc(zI3 a b u ⟨c,s _ _ e,f.same s,i⟩)
theorem dB.pre{c x v}(h:dB F ad x v)(s:∀k a,ad[k]?=ζ a->x=.o k\/(∃d,x=.t d k)->c[k]?=ζ a):dB F c x v:=by
 cases x with
 |p d=>exact h
 |o k=>let⟨a,e,f⟩:=h;exact⟨a,s k a e (.inl Y),f⟩
 |w a=>exact h
 |u t j=>exact h
 |t d k=>let⟨a,b,u,e,f,g,i⟩:33:=h;calc(zI3 a b u ⟨e,f,g,s k b i (.inr ⟨d,Y⟩)⟩)
meta def Nw(F H H':Hp):Hp:=λa=>match H a with
 |none=>H' a
 |some _=>F a
theorem Nw.same(s:aI F H):aI F (Nw F H H'):=λa o e=>by
 unfold Nw;rw[s a o e];calc e
theorem Nw.sub(s:aI F H)(k:aI H H'):aI (Nw F H H') H':=λa o e=>by
 unfold Nw at e
 cases q:H a with
 |none=>rw[q] at e;exact e
 |some u=>rw[q] at e;calc k a o (s a o e)
theorem Nw.upd{p o}(s:aI F H)(b:H p=η):Nw F H (upd H p o)=upd F p o:=by
 funext a;unfold Nw L2.upd
 by_cases c:a=p
 .subst c;rw[b,ZF Y];simp
 .rw[Zx c,Zx c]
  cases q:H a with
  |none =>
   cases d:F a with
   |none=>rfl
   |some u=>rw[s a u d] at q;cases q
  |some u=>rfl
theorem Nw.refl(s:aI F H):Nw F H H=F:=by
 funext a;unfold Nw
 cases q:H a with
 |none =>
  cases b:F a with
  |none=>rfl
  |some u=>rw[s a u b] at q;cases q
 |some u=>rfl
theorem SR.al(S:SR F ad δ σ H)(k:aI H H'):SR (Nw F H H') ad δ σ H':=by
 let f:=Nw.same (H':=H') S.sub;refine⟨Nw.sub S.sub k,λa l=>?_,S.cD,S.inj,λi c e=>?_,λi x e=>?_,S.len,aM.same S.tab k,S.nt.up f λa g=>by let⟨n,q⟩:=aM.tb S.tab g;unfold Nw;rw[q];calc S.nt a g⟩
 .let⟨i,c,b,d⟩:21:=l
  let⟨a',o,j,m,_⟩:22:=S.mu i c d;rw[b] at j;cases j;unfold Nw;rw[m];exact S.off a (zI2 i c ⟨b,d⟩)
 .let⟨a,o,b,d,h⟩:22:=S.mu i c e
  exact(zI2 a o ⟨b,k a o d,h.same f⟩)
 .let⟨v,b,h⟩:=S.sl i x e
  calc⟨v,b,h.same f⟩
theorem Ext.al(S:SR F ad δ σ H)(k:aI H H'):Ext F ad δ.mu H (Nw F H H') ad δ.mu H' where
 same:=Nw.same S.sub
 new:=λa o e=>by
  unfold Nw at e
  cases q:H a with
  |none=>exact .inr (.inl Y)
  |some u=>rw[q] at e;exact .inl e
 keep:=λa o e _ _=>k a o e
 pre:=λ_ _ e=>e
 cy:=λ_ l=>.inl l
 iE:=λa o e=>⟨o,k a o e⟩
theorem SR.own{p:O}{o ov}(S:SR F ad δ σ H)(r:H p=η)(h:fM F p ov o):SR F (ad++[p]) ⟨δ.sl,δ.mu++[ζ ov]⟩ σ (upd H p o):=by
 let g:∀{k w},(δ.mu++[ζ ov])[k]?=ζ (ζ w)->(k<↑δ.mu/\δ.mu[k]?=ζ (ζ w))\/(k=↑δ.mu/\w=ov):=λ{k w} e=>by
  by_cases c:k<↑δ.mu
  .rw[OO c] at e;exact .inl ⟨c,e⟩
  .let A:=(ri.mp e).1
   rw[My,Z8] at A;let B:k=↑δ.mu:=by symm
   subst B;exact .inr ⟨Y,by simpa using e.symm⟩
 let j:∀{k},k<↑δ.mu->(ad++[p])[k]?=ad[k]?:=λ{k} c=>OO (by rw[S.cD];calc c);let f:(ad++[p])[↑δ.mu]?=ζ p:=by rw[<-S.cD,YD (tm _),q0O];rfl
 let y:∀{k a w},ad[k]?=ζ a->δ.mu[k]?=ζ (ζ w)->a≠p:=λ{k a w} b d=>by
  let⟨a',u,m,t,_⟩:22:=S.mu k w d;rw[b] at m;cases m;exact cW t r
 refine⟨λa u e=>?_,λa l=>?_,by rw[My,My,S.cD];rfl,λk l a w C b d m t=>?_,λk w e=>?_,λi x e=>?_,S.len,aM.same S.tab (cK r),S.nt⟩
 .let:=S.sub a u e
  rw[aQ (cW this r)];exact this
 .let⟨k,w,b,d⟩:21:=l
  rcases g d with⟨c,m⟩|⟨c,m⟩
  .rw[j c] at b;exact S.off a (zI2 k w ⟨b,m⟩)
  .subst c;rw[f] at b;cases b
   cases q:F p with
   |none=>rfl
   |some u=>rw[S.sub p u q] at r;cases r
 .rcases g m with⟨c,q⟩|⟨c,q⟩
  .rw[j c] at b
   rcases g t with⟨n,s⟩|⟨n,s⟩
   .rw[j n] at d;exact S.inj k l a w C b d q s
   .subst n;rw[f] at d;cases d;exact absurd Y (y b q)
  .subst c;rw[f] at b;cases b
   rcases g t with⟨n,s⟩|⟨n,s⟩
   .rw[j n] at d;exact absurd Y (y d s)
   .exact n.symm
 .rcases g e with⟨c,q⟩|⟨c,q⟩
  .let⟨a,u,b,d,z⟩:22:=S.mu k w q
   exact(zI2 a u ⟨by rw[j c];calc b,by rw[aQ (y b q)];calc d,z⟩)
  .subst c q;exact(zI2 p o ⟨f,bN,h⟩)
 .let⟨v,b,z⟩:=S.sl i x e
  calc⟨v,b,z.pre λk a d _=>by rw[OO (ri.mp d).1];calc d⟩
theorem Ext.own{p:O}{o:HO}{ov:OV}(S:SR F ad δ σ H)(b:H p=η):Ext F ad δ.mu H F (ad++[p]) (δ.mu++[ζ ov]) (upd H p o) where
 same:=λ_ _ e=>e
 new:=λ_ _ e=>.inl e
 keep:=λa u e _ _=>by rw[aQ (cW e b)];exact e
 pre:=λk a e=>by rw[OO (ri.mp e).1];exact e
 cy:=λa l=>by
  let⟨k,w,d,f⟩:21:=l
  by_cases c:k<↑δ.mu
  .rw[OO c] at f
   rw[OO (by rw[S.cD];calc c)] at d;exact .inl (zI2 k w ⟨d,f⟩)
  .let g:=(ri.mp f).1
   rw[My,Z8] at g;let h:k=↑ad:=by rw[S.cD];symm
   subst h;let:=by simpa using d
   subst this;exact .inr b
 iE:=λa u e=>⟨u,by rw[aQ (cW e b)];calc e⟩
theorem SR.put{k:Nat}{a:O}{o:HO}{ov m:OV}(S:SR F ad δ σ H)(j:δ.mu[k]?=ζ (ζ m))(n:ad[k]?=ζ a)(h:fM F a ov o):SR F ad ⟨δ.sl,δ.mu.set k (ζ ov)⟩ σ (upd H a o):=by
 let f:∀{l w},(δ.mu.set k (ζ ov))[l]?=ζ (ζ w)->(l≠k/\δ.mu[l]?=ζ (ζ w))\/(l=k/\w=ov):=λ{l w} e=>by
  by_cases c:k=l
  .subst c;rw[q0a ((ri.mp j).1)] at e;exact .inr ⟨Y,by simpa using e.symm⟩
  .rw[q0i c] at e;exact .inl ⟨λz=>c z.symm,e⟩
 let s:∀{l w b},ad[l]?=ζ b->(δ.mu.set k (ζ ov))[l]?=ζ (ζ w)->Lv ad δ.mu b:=λ{l w b} d g=>by
  rcases f g with⟨_,q⟩|⟨c,_⟩
  .exact⟨l,w,d,q⟩
  .subst c;exact(zI2 l m ⟨d,j⟩)
 let t:aM.ok (upd H a o):=by
  let⟨a',u,d,g,p⟩:22:=S.mu k m j;rw[n] at d;cases d;exact aM.put S.tab g p.kd
 refine⟨λb u e=>?_,λb l=>?_,by rw[q0o];calc S.cD,λl r b w G d g v y=>?_,λl w e=>?_,λi x e=>?_,S.len,t,S.nt⟩
 .let A:b≠a:=λz=>by
   subst z;rw[S.off b (zI2 k m ⟨n,j⟩)] at e;cases e
  rw[aQ A];exact S.sub b u e
 .let⟨l,w,d,g⟩:21:=l
  exact S.off b (s d g)
 .let B:∃w,δ.mu[l]?=ζ (ζ w):=by
   rcases f v with⟨_,q⟩|⟨c,_⟩
   .exact⟨_,q⟩
   .subst c;exact⟨_,j⟩
  let C:∃w,δ.mu[r]?=ζ (ζ w):=by
   rcases f y with⟨_,q⟩|⟨c,_⟩
   .exact⟨_,q⟩
   .subst c;exact⟨_,j⟩
  let⟨I,D⟩:=B;let⟨J,E⟩:=C;exact S.inj l r b _ _ d g D E
 .rcases f e with⟨c,q⟩|⟨c,q⟩
  .let⟨b,u,d,g,p⟩:22:=S.mu l w q
   exact(zI2 b u ⟨d,by rw[aQ (λz=>by subst z;calc c (S.inj l k b _ _ d n q j))];calc g,p⟩)
  .subst c q;exact(zI2 a o ⟨n,bN,h⟩)
 .calc S.sl i x e
theorem Ext.put{k:Nat}{a:O}{o:HO}{ov d:OV}(S:SR F ad δ σ H)(f:δ.mu[k]?=ζ (ζ d))(i:ad[k]?=ζ a):Ext F ad δ.mu H F ad (δ.mu.set k (ζ ov)) (upd H a o) where
 same:=λ_ _ e=>e
 new:=λ_ _ e=>.inl e
 keep:=λb u e n _=>by rw[aQ λz=>n (by subst z;calc⟨k,d,i,f⟩)];exact e
 pre:=λ_ _ e=>e
 cy:=λb l=>by
  let⟨l,w,g,h⟩:21:=l
  by_cases c:k=l
  .subst c;exact .inl ⟨k,d,g,f⟩
  .rw[q0i c] at h;exact .inl ⟨l,w,g,h⟩
 iE:=λb u e=>by
  by_cases c:b=a
  .subst c;exact⟨o,bN⟩
  .calc⟨u,by rw[aQ c];calc e⟩
theorem SR.fix{k:Nat}{a:O}{o:HO}{m:OV}(S:SR F ad δ σ H)(j:δ.mu[k]?=ζ (ζ m))(n:ad[k]?=ζ a)(s:H a=ζ o):SR (upd F a o) ad ⟨δ.sl,δ.mu.set k η⟩ σ H:=by
 let p:aI F (upd F a o):=λb u e=>by rw[aQ (cW e (S.off a ⟨k,m,n,j⟩))];exact e
 let f:∀{l w},(δ.mu.set k η)[l]?=ζ (ζ w)->l≠k/\δ.mu[l]?=ζ (ζ w):=λ{l w} e=>by
  by_cases c:k=l
  .subst c;rw[q0a ((ri.mp j).1)] at e;cases e
  .rw[q0i c] at e;exact⟨λz=>c z.symm,e⟩
 refine⟨λb u e=>?_,λb l=>?_,by rw[q0o];calc S.cD,λl t b w y d g A B=>S.inj l t b w y d g (f A).2 (f B).2,λl w e=>?_,λi x e=>?_,S.len,S.tab,S.nt.up p λb r=>?_⟩
 .by_cases c:b=a
  .subst c;rw[bN] at e;cases e;exact s
  .rw[aQ c] at e;exact S.sub b u e
 .let⟨l,w,d,g⟩:21:=l
  let⟨c,q⟩:=f g;rw[aQ (λz=>by subst z;calc c (S.inj l k b _ _ d n q j))];exact S.off b ⟨l,w,d,q⟩
 .let⟨b,u,d,g,h⟩:22:=S.mu l w (f e).2
  exact(zI2 b u ⟨d,g,h.same p⟩)
 .let⟨v,d,h⟩:=S.sl i x e
  exact⟨v,d,h.same p⟩
 .let⟨C,q⟩:=aM.tb S.tab r
  let D:b≠a:=λz=>by
   subst z;let⟨a',u,d,g,h⟩:22:=S.mu k m j;rw[n] at d;cases d;rw[q] at g;cases g;exact h.kind C Y
  rw[aQ D];calc S.nt b r
theorem Ext.fix{k:Nat}{a:O}{o:HO}{f:OV}(S:SR F ad δ σ H)(g:δ.mu[k]?=ζ (ζ f))(h:ad[k]?=ζ a):Ext F ad δ.mu H (upd F a o) ad (δ.mu.set k η) H where
 same:=λb u e=>by rw[aQ (cW e (S.off a ⟨k,f,h,g⟩))];exact e
 new:=λb u e=>by
  by_cases c:b=a
  .subst c;exact .inr (.inr ⟨k,f,h,g⟩)
  .rw[aQ c] at e;exact .inl e
 keep:=λb u e _ _=>e
 pre:=λ_ _ e=>e
 cy:=λb l=>by
  let⟨l,w,i,d⟩:21:=l
  by_cases c:k=l
  .subst c;rw[q0a (ri.mp g).1] at d;cases d
  .rw[q0i c] at d;exact .inl ⟨l,w,i,d⟩
 iE:=λb u e=>⟨u,e⟩
theorem SR.set{i:Nat}{x:DV}{v:V}(S:SR F ad δ σ H)(h:dB F ad x v):SR F ad ⟨δ.sl.set i (ζ x),δ.mu⟩ (σ.set i (ζ v)) H:=by
 refine⟨S.sub,S.off,S.cD,S.inj,S.mu,λj y e=>?_,by rw[q0o,q0o];calc S.len,S.tab,S.nt⟩
 by_cases c:i=j
 .subst c
  let a:=(ri.mp e).1;rw[q0o] at a;rw[q0a a] at e;cases e
  exact⟨v,q0a (by rw[S.len];calc a),h⟩
 .rw[q0i c] at e
  let⟨w,b,d⟩:=S.sl j y e;calc⟨w,by rw[q0i c];calc b,d⟩
end
abbrev WE:=aO->(DV->aO->Prop)->Prop
abbrev WA:=aO->(-DV->aO->Prop)->Prop
abbrev WT:=aO->(Bool->aO->Prop)->Prop
def cY(F:Hp)(b:-O):-DV->-V->Prop
 |[],a=>a=[]
 |x::c,a=>∃v r,a=v::r/\dB F b x v/\cY F b c r
theorem cY.ext{F F' H H' c a mu b}(e:Ext F c mu H F' a b H'):∀{xs vs},cY F c xs vs->cY F' a xs vs
 |[],_,h=>h
 |_::_,_,⟨v,r,q,d,f⟩=>(zI2 v r ⟨q,d.ext e,cY.ext e f⟩)
inductive tD (f:WE) (σ:St) (H:Hp) (Q:VK):Prop
 |mk (F:Hp) (ad:-O) (δ:aO) (K:DV->aO->Prop) (S:SR F ad δ σ H) (q:f δ K) (k:∀x δ',K x δ'->∀v F' bL H',Ext F ad δ.mu H F' bL δ'.mu H'->SR F' bL δ' σ H'->dB F' bL x v->Q v H')
inductive b_ (f:WA) (σ:St) (H:Hp) (Q:-V->Hp->Prop):Prop
 |mk (F:Hp) (ad:-O) (δ:aO) (K:-DV->aO->Prop) (S:SR F ad δ σ H) (q:f δ K) (k:∀xs δ',K xs δ'->∀vs F' bL H',Ext F ad δ.mu H F' bL δ'.mu H'->SR F' bL δ' σ H'->cY F' bL xs vs->Q vs H')
inductive dm (f:WT) (σ:St) (H:Hp) (Q:Bool->Hp->Prop):Prop
 |mk (F:Hp) (ad:-O) (δ:aO) (K:Bool->aO->Prop) (S:SR F ad δ σ H) (q:f δ K) (k:∀b δ',K b δ'->∀F' bL H',Ext F ad δ.mu H F' bL δ'.mu H'->SR F' bL δ' σ H'->Q b H')
def jL(F H:Hp):D->V->Prop
 |.lst c,v=>∃a b,v=.ref a/\H a=ζ (.lst b)/\aq F c b
 |d,v=>Is F d v
def iF(x:DV)(b:aO)(K:D->Prop):Prop:=match x with
 |.p d=>K d
 |.o k=>match b.mu[k]? with
  |some (some (.lst a))=>K (.lst a)
  |some (some (.al _ a))=>K (.lst a)
  |_=>False
 |.w _=>False
 |.u _ _=>False
 |.t _ _=>False
theorem jL.of{F H}(s:aI F H):∀{d v},Is F d v->jL F H d v
 |.lst _,_,h=>by
  let⟨a,b,e,c,f⟩:22:=h;exact(zI2 a b ⟨e,s _ _ c,f⟩)
 |.tup _,_,h=>h
 |.non,_,h=>h
 |.bl _,_,h=>h
 |.int _,_,h=>h
 |.str _,_,h=>h
theorem jL.is{F H}(s:aI F H):∀{d v},jL F H d v->Is H d v
 |.lst _,_,h=>by
  let⟨a,b,e,c,f⟩:22:=h;exact(zI2 a b ⟨e,c,f.same s⟩)
 |.tup _,_,h=>Is.same s h
 |.non,_,h=>Is.same s h
 |.bl _,_,h=>Is.same s h
 |.int _,_,h=>Is.same s h
 |.str _,_,h=>Is.same s h
theorem jM{F H l m n x v K}(S:SR F l m n H)(c:dB F l x v)(h:iF x m K):∃d,K d/\jL F H d v:=by
 cases x with
 |p d=>exact⟨d,h,jL.of S.sub c⟩
 |o k =>
  unfold iF at h;dsimp only at h;split at h
  .rename_i q e
   let⟨a,f,rfl⟩:11:=c;let⟨a',o,b,g,i,rfl,j⟩:2211:=S.mu k _ e;rw[f] at b;cases b;exact⟨_,h,a,i,Y,g,j⟩
  .rename_i q e
   let⟨a,f,rfl⟩:=c;let⟨a',o,b,g,_,i,rfl,j⟩:2311:=S.mu k _ e;rw[f] at b;cases b;exact⟨_,h,a,i,Y,g,j⟩
  .exact h.elim
 |w _=>exact h.elim
 |u _ _=>exact h.elim
 |t _ _=>calc h.elim
def lh:-DV->aO->(-D->Prop)->Prop
 |[],_,K=>K []
 |x::b,a,K=>iF x a λd=>lh b a λc=>K (d::c)
def jq(F H:Hp):-D->-V->Prop
 |[],a=>a=[]
 |d::b,a=>∃v r,a=v::r/\jL F H d v/\jq F H b r
theorem vV{F H c e f}(S:SR F c e f H):∀{xs vs K},cY F c xs vs->lh xs e K->∃ds,K ds/\jq F H ds vs
 |[],_,_,i,h=>⟨[],h,i⟩
 |x::n,_,_,⟨v,r,rfl,j,k⟩,h=>by
  let⟨d,l,m⟩:=jM S j h;let⟨g,a,b⟩:=vV S k l;calc⟨d::g,a,v,r,Y,m,b⟩
abbrev Made(F H:Hp)(K:D->Prop)(Q:VK):Prop:=∀z v a,K z->aI H a->Is (Nw F H a) z v->Q v a
inductive zB (g:D->D->(D->Prop)->Prop) (x y:V) (H:Hp) (Q:VK):Prop
 |mk (F:Hp) (d e:D) (K:D->Prop) (s:aI F H) (rd:jL F H d x) (re:jL F H e y) (q:g d e K) (md:Made F H K Q)
inductive G3 (g:-D->(D->Prop)->Prop) (xs:-V) (H:Hp) (Q:VK):Prop
 |mk (F:Hp) (ds:-D) (K:D->Prop) (s:aI F H) (rd:jq F H ds xs) (q:g ds K) (md:Made F H K Q)
def fX(X:Cx)(f:ν->ν->Sem ν)(g:D->D->(D->Prop)->Prop):Prop :=
 eJ X f λx y H Q=>zB g x y H Q
def G4(X:Cx)(g:D->D->(D->Prop)->Prop):Prop :=
 s_ X λx y H Q=>zB g x y H Q
def dJ(X:Cx)(f:ν)(g:-D->(D->Prop)->Prop):Prop :=
 g_ X f λa H Q=>G3 g a H Q
def d2(f g:WE)(op:D->D->(D->Prop)->Prop):WE:=λc K=>f c λx b=>g b λy a=>iF x a λd=>iF y a λe=>op d e λz=>K (.p z) a
def d1(f:WE)(op:D->(D->Prop)->Prop):WE:=λb K=>f b λx a=>iF x a λd=>op d λz=>K (.p z) a
def dN(f:WA)(op:-D->(D->Prop)->Prop):WE:=λb K=>f b λc a=>lh c a λd=>op d λz=>K (.p z) a
def dC(d:D):WE:=λa K=>K (.p d) a
def aa(i:Nat):WE:=λa K=>match a.sl[i]? with
 |some (some x)=>K x a
 |_=>False
def af:WA:=λa K=>K [] a
def ag(f:WE)(g:WA):WA:=λc K=>f c λx a=>g a λd b=>K (x::d) b
section
variable{X:Cx}{a b c:υ}{f g h:WE}{fa:WA}{pos:Δ}
theorem tO{e d v}(h:JE X e (tC v))(a:∀F,Is F d v):JE X e (tD (dC d)):=h.weak λb H Q ⟨F,c,f,K,S,q,k⟩↦k _ _ q _ _ _ _ .refl S (a F)
theorem bh{i j pos}:JE X (.Constant (.int i) j pos) (tD (dC (.int i))):=tO kW λ_=>Y
theorem jr{i j pos}:JE X (.Constant (.bool i) j pos) (tD (dC (.bl i))):=tO ye λ_=>Y
theorem j9{j pos}:JE X (.Constant .none j pos) (tD (dC .non)):=tO MZ λ_=>Y
theorem gZ{x j pos}:JE X (.Constant (.str x) j pos) (tD (dC (.str x))):=tO mS λ_=>Y
theorem Qg{x i u pos}(a:Gl X x)(b:X.mg x=ζ u)(r:RelV (.int i) u)(hd: ~~~(bF x)):JE X (.Name x pos) (tD (dC (.int i))):=tO (yf a b r hd) λ_=>Y
theorem dv(i:Nat){x:Z}{pos:Δ}(b:‹X.N[i]?=ζ x›)(c:qX X.env.scope x:=by first|exact q2o Y|exact q4q (q2o Y)|calc q4q (q4q Y))
  (hd: ~~~(bF x)) (a: ~~~((x==("__classdict__" : Z))=ι)):JE X (.Name x pos) (tD (aa i)) :=
 (E5 b c hd a).weak λg H Q ⟨F,h,j,K,S,q,k⟩↦by
  unfold aa at q;split at q
  .rename_i x e
   let⟨v,d,f⟩:=S.sl i x e;exact⟨v,d,k _ _ q _ _ _ _ .refl S f⟩
  .calc q.elim
theorem vW{r}{ta tb:TE}{op:D->D->(D->Prop)->Prop}(l:∀x y H Q,(zB op x y H Q)->r x y H Q):∀b H Q,tD (d2 f g op) b H Q->sS r (tD f) (tD g) b H Q:=by
 ext b H Q ⟨F,m,n,K,S,q,k⟩;calc⟨F,m,n,_,S,q,λx c o O p h P s t u=>⟨p,h,c,_,t,o,λy w A R B C T i a E=>l _ _ _ _ ?_⟩⟩;let⟨d,G,I⟩:=jM a (u.ext i) A;let⟨e,J,L⟩:=jM a E G;calc⟨B,d,e,_,a.sub,I,L,J,λz v U M j N=>k _ _ M _ _ _ _ ((s.trans i).trans (Ext.al a j)) (a.al j) N⟩
theorem dg{op}{o:D->D->(D->Prop)->Prop}(c:fX X (binaryOp op) o)(d:JE X a (tD f))(e:JE X b (tD g)):JE X (.BinOp a op b pos) (tD (d2 f g o)) :=
 (pV c d e).weak (vW (ta:=tD f) (tb:=tD g) λ_ _ _ _ h=>h)
theorem jN{op}{o:D->D->(D->Prop)->Prop}(c:fX X (compareOp op) o)(d:JE X a (tD f))(e:JE X b (tD g))(i:behindInMarks op b=ι):JE X (.Compare a [op] [b] pos) (tD (d2 f g o)) :=
 (NM c d e i).weak (vW (ta:=tD f) (tb:=tD g) λ_ _ _ _ h=>h)
theorem dM{o:D->D->(D->Prop)->Prop}(c:G4 X o)(d:JE X a (tD f))(e:JE X b (tD g))(i:FU b):JE X (.Subscript a b pos) (tD (d2 f g o)) :=
 (vH c d e i).weak (vW (ta:=tD f) (tb:=tD g) λ_ _ _ _ h=>h)
theorem aP:JA X [] (b_ af):=bj.weak λa H Q ⟨F,b,c,K,S,q,k⟩↦k _ _ q _ _ _ _ .refl S Y
theorem qi:∀a H Q,b_ (ag f fa) a H Q->jk (tD f) (b_ fa) a H Q:=by
 ext a H Q ⟨F,e,g,K,S,q,k⟩;calc⟨F,e,g,_,S,q,λx b h i j c v l m n=>⟨j,c,b,_,m,h,λw o p r y s z d t u=>k _ _ p _ _ _ _ (l.trans d) t (zI2 i r ⟨Y,n.ext d,u⟩)⟩⟩
theorem cL{e es}(a:JE X e (tD f))(b:JA X es (b_ fa))(c:‹b7 X e es›):JA X (e::es) (b_ (ag f fa)):=(jH a b c).weak qi
theorem a_{es c j p}(a:JE X (.Constant c j p) (tD f))(b:JA X es (b_ fa)):JA X (.Constant c j p::es) (b_ (ag f fa)):=(f6 a b).weak qi
theorem aD{es x p}(a:JE X (.Name x p) (tD f))(b:JA X es (b_ fa)):JA X (.Name x p::es) (b_ (ag f fa)):=(jm a b).weak qi
theorem c_{es x y k p}(a:JE X (.Call x y k p) (tD f))(b:JA X es (b_ fa)):JA X (.Call x y k p::es) (b_ (ag f fa)):=(k_ a b).weak qi
theorem j_{es x p}(a:JE X (.List x p) (tD f))(b:JA X es (b_ fa)):JA X (.List x p::es) (b_ (ag f fa)):=(zm a b).weak qi
theorem fN{es x k p}(a:JE X (.Tuple x k p) (tD f))(b:JA X es (b_ fa)):JA X (.Tuple x k p::es) (b_ (ag f fa)):=(zo a b).weak qi
theorem cM{es x k p}(a:JE X (.Subscript x k p) (tD f))(b:JA X es (b_ fa)):JA X (.Subscript x k p::es) (b_ (ag f fa)):=(qg a b).weak qi
theorem G5{r:-V->Hp->VK->Prop}{op:-D->(D->Prop)->Prop}(e:∀xs H Q,(G3 op xs H Q)->r xs H Q):∀b H Q,tD (dN fa op) b H Q->sW r (b_ fa) b H Q:=by
 ext b H Q ⟨F,f,g,K,S,q,k⟩;calc⟨F,f,g,_,S,q,λu h i w j l x m a n=>e _ _ _ ?_⟩;let⟨o,p,c⟩:=vV a n i;calc⟨j,o,_,a.sub,c,p,λz v y s d t=>k _ _ s _ _ _ _ (m.trans (Ext.al a d)) (a.al d) t⟩
theorem g0{x p e es c}{o:-D->(D->Prop)->Prop}(d:dJ X (.builtin c) o)(f:Gl X x)(g:X.mg x=η)(i:bootBuiltins x=ζ (.builtin c))(j:JA X (e::es) (b_ fa))(hn:x≠"__name__" := by decide)(a: ~~~(bF x))
  (he:‹b7 X e es›) (b:‹cm X pos es›):JE X (.Call (.Name x p) (e::es) [] pos) (tD (dN fa o)) :=
 (sX d f g i j hn a he b).weak (G5 λ_ _ _ h=>h)
theorem tP{x p e es T}{o:-D->(D->Prop)->Prop}(c:dJ X (.type T) o)(d:Gl X x)(f:X.mg x=η)(g:bootBuiltins x=ζ (.type T))(i:JA X (e::es) (b_ fa))(hn:x≠"__name__" := by decide)(a: ~~~(bF x))
  (he:‹b7 X e es›) (b:‹cm X pos es›):JE X (.Call (.Name x p) (e::es) [] pos) (tD (dN fa o)) :=
 (pY c d f g i hn a he b).weak (G5 λ_ _ _ h=>h)
end
meta def G6(k:Nat)(ds:-D):Option DV->Option DV
 |some (.o j)=>if j=k then ζ (.p (.lst ds)) else ζ (.o j)
 |some (.t d j)=>if j=k then η else ζ (.t d j)
 |s=>s
meta def aO.fix(a:aO)(k:Nat)(ds:-D):aO:=⟨a.sl.map (G6 k ds),a.mu.set k η⟩
def nq(x:DV)(a:aO)(K:D->aO->Prop):Prop:=match x with
 |.p d=>K d a
 |.o k=>match a.mu[k]? with
  |some (some (.lst b))=>K (.lst b) (a.fix k b)
  |_=>False
 |.w _=>False
 |.u _ _=>False
 |.t _ _=>False
def ka:-DV->aO->(-D->aO->Prop)->Prop
 |[],a,K=>K [] a
 |x::e,a,K=>nq x a λd b=>ka e b λf c=>K (d::f) c
section
variable{F F' H H':Hp}{ad bL:-O}{δ δ':aO}{σ σ':St}
theorem SR.fixed{k a vs ds}(S:SR F ad δ σ H)(n:δ.mu[k]?=ζ (ζ (.lst ds)))(l:ad[k]?=ζ a)(y:H a=ζ (.lst vs))(z:aq F ds vs):SR (upd F a (.lst vs)) ad (δ.fix k ds) σ H:=by
 let b:=S.fix n l y;calc⟨b.sub,b.off,b.cD,b.inj,b.mu,λi x e=>?_,by rw[S.len];unfold aO.fix;rw[qa],b.tab,b.nt⟩;unfold aO.fix at e;rw[OS] at e;let⟨s,h,g⟩:=YE.mp e
 match s,g with
 |none,g=>cases g
 |some (.p d),e2 =>
  cases(e2)
  exact b.sl i _ h
 |some (.w d),e2 =>
  cases(e2)
  exact b.sl i _ h
 |some (.u t A),e2 =>
  cases(e2)
  exact b.sl i _ h
 |some (.t d j),g =>
  let f:(if j=k then η else ζ (DV.t d j))=ζ x:=g
  by_cases c:j=k
  .rw[ZF c] at f;cases f
  .rw[Zx c] at f;cases f;exact b.sl i _ h
 |some (.o j),g =>
  let f:(if j=k then ζ (DV.p (.lst ds)) else ζ (DV.o j))=ζ x:=g;let⟨v,q,a',m,r⟩:1111:=S.sl i _ h
  by_cases c:j=k
  .rw[ZF c] at f
   subst c;cases f
   rw[l] at m;cases m;exact⟨v,q,(zI2 a vs ⟨r,bN,z.same ((Ext.fix  S n l).same)⟩)⟩
  .rw[Zx c] at f
   cases f
   calc⟨v,q,a',m,r⟩
theorem tQ{x v K}(S:SR F ad δ σ H)(f:dB F ad x v)(h:nq x δ K):∃d b F',K d b/\Ext F ad δ.mu H F' ad b.mu H/\SR F' ad b σ H/\Is F' d v:=by
 cases x with
 |p d=>exact(zI3 d δ F ⟨h,.refl,S,f⟩)
 |o k =>
  unfold nq at h;dsimp only at h;split at h
  .rename_i m e
   let⟨a,c,rfl⟩:=f;let⟨a',o,g,j,l,rfl,i⟩:2211:=S.mu k _ e;rw[c] at g;cases g;exact(zI3 _ _ _ ⟨h,Ext.fix S e c,S.fixed e c j i,(zI2 a l ⟨Y,bN,i.same (Ext.fix  S e c).same⟩)⟩)
  .exact h.elim
 |w _=>exact h.elim
 |u _ _=>exact h.elim
 |t _ _=>calc h.elim
theorem vX:∀{xs vs b F K},SR F ad b σ H->cY F ad xs vs->ka xs b K->∃ds a F',K ds a/\Ext F ad b.mu H F' ad a.mu H/\SR F' ad a σ H/\aq F' ds vs
 |[],_,b,F,_,S,k,h=>(zI3 [] b F ⟨h,.refl,S,k⟩)
 |x::w,_,b,F,_,S,⟨v,r,e,l,m⟩,h=>by
  subst e;let⟨d,n,y,o,g,p,q⟩:33:=tQ S l h;let⟨j,c,s,f,i,t,u⟩:33:=vX p (m.ext g) o;calc(zI3 (d::j) c s ⟨f,g.trans i,t,.cons (q.same i.same) u⟩)
end
def bp(d:WA):WE:=λe K=>d e λf a=>ka f a λc b=>↑c<=1000/\K (.p (.tup c)) b
def bw(d:WA):WE:=λe K=>d e λf a=>ka f a λc b=>↑c<=1000/\K (.p (.lst c)) b
def nu(d:WA):WE:=λe K=>d e λf b=>ka f b λc a=>↑c<=1000/\K (.o ↑a.mu) ⟨a.sl,a.mu++[ζ (.lst c)]⟩
section
variable{X:Cx}{a b c:υ}{es:-υ}{f g h:WE}{fa:WA}{t u:WT}{pos:Δ}
theorem lj{n}(h:n<=1000):n<=sizeLine:=q0Z (qd h)
theorem iG{i}(j:JA X es (b_ fa)):JE X (.Tuple es i pos) (tD (bp fa)):=(N9 j).weak λA H Q ⟨F,l,m,K,S,q,k⟩ =>
 ⟨F,l,m,_,S,q,λB n r d C s f t u v=>by
  let⟨D,w,E,⟨x,y⟩,z,a,g⟩:33:=vX u v r;calc⟨lj (by rw[↑g];calc x),λp c=>?_⟩;let h:aI f (upd f p (.tup d)):=cK c;calc k _ _ y _ _ _ _ ((t.trans z).trans (Ext.al a h)) (a.al h) ?_;rw[Nw.upd a.sub c];refine(zI2 p d ⟨Y,bN,g.same λb o e=>?_⟩)
  rw[aQ (cW (a.sub b o e) c)];calc e⟩
theorem gu(i:JA X es (b_ fa)):JE X (.List es pos) (tD (bw fa)):=(mY i).weak λz H Q ⟨F,j,l,K,S,q,k⟩ =>
 ⟨F,j,l,_,S,q,λA m n d B r f s t u=>by
  let⟨C,v,D,⟨w,x⟩,y,a,g⟩:33:=vX t u n;calc⟨lj (by rw[↑g];calc w),λp c=>?_⟩;let h:aI f (upd f p (.lst d)):=cK c;calc k _ _ x _ _ _ _ ((s.trans y).trans (Ext.al a h)) (a.al h) ?_;rw[Nw.upd a.sub c];refine(zI2 p d ⟨Y,bN,g.same λb o e=>?_⟩)
  rw[aQ (cW (a.sub b o e) c)];calc e⟩
theorem vY(f:JA X es (b_ fa)):JE X (.List es pos) (tD (nu fa)):=(mY f).weak λy H Q ⟨F,g,h,K,S,q,k⟩ =>
 ⟨F,g,h,_,S,q,λz i j c A l B m n o=>by
  let⟨r,s,t,⟨u,v⟩,w,b,d⟩:33:=vX n o j;calc⟨lj (by rw[↑d];calc u),λp e=>?_⟩;let x:∀{a},fM t a (.lst r) (.lst c):=λ{a}=>⟨c,Y,d⟩;refine k _ _ v _ _ _ _ ((m.trans w).trans (Ext.own b e)) (b.own e x) ⟨p,?_,Y⟩
  rw[<-b.cD,YD (tm _),q0O];rfl⟩
def qj(x:DV)(P:Bool->Prop):Prop:=match x with
 |.p (.bl b)=>P b
 |_=>False
def dT(f:WE):WT:=λc K=>f c λx a=>qj x λb=>K b a
def gB(t u:WT):WT:=λc K=>t c λb a=>if b=θ then u a K else K ι a
def ju(t u:WT):WT:=λc K=>t c λb a=>if b=θ then K θ a else u a K
def cb(t:WT):WT:=λc K=>t c λb a=>K (!b) a
def nv(t:WT)(f g:WE):WE:=λc K=>t c λb a=>if b=θ then f a K else g a K
def jO(f g:WE):WE:=λc K=>f c λx a=>qj x λb=>if b=θ then g a K else K (.p (.bl ι)) a
def qk(f g:WE):WE:=λc K=>f c λx a=>qj x λb=>if b=θ then K (.p (.bl θ)) a else g a K
def vZ(f:WE):WE:=λc K=>f c λx a=>qj x λb=>K (.p (.bl (!b))) a
theorem rA{F a x v P}(c:dB F a x v)(h:qj x P):∃b,v=.bl b/\P b:=by
 unfold qj at h;split at h
 .rename_i b
  exact⟨b,c,h⟩
 .calc h.elim
theorem iH(d:JE X a (tD f))(he:‹∀c,isTrue a X.env c=(do let v <- c;standAt a.pos;holding [v] (truthy v))›):JT X a (dm (dT f)) :=
 (yh d he).weak λp H Q ⟨F,e,g,K,S,q,k⟩↦⟨F,e,g,_,S,q,λx h i v r j s l m n=>by
  let⟨b,rfl,o⟩:=rA n i
  calc⟨b,Y,k _ _ o _ _ _ l m⟩⟩
theorem dW{op}{o:D->D->(D->Prop)->Prop}(c:fX X (compareOp op) o)(d:JE X a (tD f))(e:JE X b (tD g))(i:behindInMarks op b=ι):JT X (.Compare a [op] [b] pos) (dm (dT (d2 f g o))) :=
 (yC c d e i).weak λj H Q ⟨F,l,m,K,S,q,k⟩↦vW (ta:=tD f) (tb:=tD g) (λ_ _ _ _ h=>h) j H _ ⟨F,l,m,_,S,q,λx n p v y r z s t u=>by
  let⟨b,rfl,w⟩:=rA u p
  calc⟨b,Y,k _ _ w _ _ _ s t⟩⟩
theorem ma(c:JT X a (dm t)):JT X (.UnaryOp .Not a pos) (dm (cb t)):=(yk c).weak λl H Q ⟨F,d,e,K,S,q,k⟩↦⟨F,d,e,_,S,q,λb f g m h n i j=>k _ _ g _ _ _ i j⟩
theorem Qh:∀a H Q,dm (gB t u) a H Q->sJ (dm t) (dm u) a H Q:=λa H Q ⟨F,h,i,K,S,q,k⟩↦⟨F,h,i,_,S,q,λb c e j d r f g=>by
 cases b with
 |true =>
  exact⟨j,d,c,_,g,e,λb l m s n v o p=>k _ _ m _ _ _ (f.trans o) p⟩
 |false =>
  calc k _ _ e _ _ _ f g⟩
theorem Qi:∀a H Q,dm (ju t u) a H Q->E9 (dm t) (dm u) a H Q:=λa H Q ⟨F,h,i,K,S,q,k⟩↦⟨F,h,i,_,S,q,λb c e j d r f g=>by
 cases b with
 |false =>
  exact⟨j,d,c,_,g,e,λb l m s n v o p=>k _ _ m _ _ _ (f.trans o) p⟩
 |true =>
  calc k _ _ e _ _ _ f g⟩
theorem JW.weak{e t t'}(h:JW X e t)(k:∀a H Q,t' a H Q->t a H Q):JW X e t':=⟨λc b s a H Q I q=>h c b s a H Q I (k a H Q q)⟩
theorem zC(b:JT X a (dm t)):JW X (.BoolOp .And [a] pos) (dm t):=M3 b
theorem v3(b:JT X a (dm t)):JW X (.BoolOp .Or [a] pos) (dm t):=E_ b
theorem rB{c}(d:JT X a (dm t))(e:JW X (.BoolOp .And (b::c) pos) (dm u)):JW X (.BoolOp .And (a::b::c) pos) (dm (gB t u)):=(M6 d e).weak Qh
theorem tR{c}(d:JT X a (dm t))(e:JW X (.BoolOp .Or (b::c) pos) (dm u)):JW X (.BoolOp .Or (a::b::c) pos) (dm (ju t u)):=(yj d e).weak Qi
theorem tT{op}(b:JE X a (tD f)):JE X (.BoolOp op [a] pos) (tD f):=Nc b
theorem tU{c}(l:JE X a (tD f))(m:JE X (.BoolOp .And (b::c) pos) (tD g)):JE X (.BoolOp .And (a::b::c) pos) (tD (jO f g)) :=
 (Nd l m).weak λB H Q ⟨F,n,o,K,S,q,k⟩=>⟨F,n,o,_,S,q,λx d p v r e C h i s=>by
  let⟨b,rfl,j⟩:=rA s p;refine⟨b,Y,?_⟩
  cases b with
  |true =>
   exact⟨r,e,d,_,i,j,λx t u v D w E y z A=>k _ _ u _ _ _ _ (h.trans y) z A⟩
  |false =>
   calc k _ _ j _ _ _ _ h i Y⟩
theorem Qj{c}(l:JE X a (tD f))(m:JE X (.BoolOp .Or (b::c) pos) (tD g)):JE X (.BoolOp .Or (a::b::c) pos) (tD (qk f g)) :=
 (Nf l m).weak λB H Q ⟨F,n,o,K,S,q,k⟩=>⟨F,n,o,_,S,q,λx d p v r e C h i s=>by
  let⟨b,rfl,j⟩:=rA s p;refine⟨b,Y,?_⟩
  cases b with
  |false =>
   exact⟨r,e,d,_,i,j,λx t u v D w E y z A=>k _ _ u _ _ _ _ (h.trans y) z A⟩
  |true =>
   calc k _ _ j _ _ _ _ h i Y⟩
theorem Qk(c:JE X a (tD f)):JE X (.UnaryOp .Not a pos) (tD (vZ f)) :=
 (Ng c).weak λo H Q ⟨F,d,e,K,S,q,k⟩↦⟨F,d,e,_,S,q,λx g h v p i r j l m=>by
  let⟨b,rfl,n⟩:=rA m h
  calc⟨b,Y,k _ _ n _ _ _ _ j l Y⟩⟩
theorem zD(u:JT X c (dm t))(w:JE X a (tD f))(y:JE X b (tD g)):JE X (.IfExp c a b pos) (tD (nv t f g)) :=
 (sL u w y).weak λD H Q ⟨F,z,A,K,S,q,k⟩↦⟨F,z,A,_,S,q,λb d o p e E r s=>by
  cases b with
  |true =>
   exact⟨p,e,d,_,s,o,λx h i v B j C l m n=>k _ _ i _ _ _ _ (r.trans l) m n⟩
  |false =>
   calc⟨p,e,d,_,s,o,λx h i v B j C l m n=>k _ _ i _ _ _ _ (r.trans l) m n⟩⟩
end
structure KS where
 nx:aO->Prop
 rt:DV->aO->Prop
 bk:aO->Prop:=λ_=>False
 ct:aO->Prop:=λ_=>False
abbrev WS:=KS->aO->Prop
def Cn(F:Hp)(f:-O)(mu:-(Option OV))(H:Hp)(P:aO->Prop)(R:St->Hp->Prop):Prop:=∀a,P a->∀e b c d,Ext F f mu H e b a.mu d->SR e b a c d->R c d
class cj where
 ok:Nat->Int->Prop
 kp:Hp->-O->-(Option OV)->Hp->Prop
 st:∀{F ad mu H F' bL fm H'},Ext F ad mu H F' bL fm H'->kp F ad mu H->kp F' bL fm H'
instance (priority:=low) Ql:cj:=⟨λ_ _=>False,λ_ _ _ _=>True,λ_ _=>trivial⟩
section
variable[cj]
structure rC(F:Hp)(ad:-O)(mu:-(Option OV))(H:Hp)(K:KS)(D:Ends):Prop where
 nx:Cn F ad mu H K.nx D.nx
 bk:Cn F ad mu H K.bk D.bk
 ct:Cn F ad mu H K.ct D.ct
 rt:∀x δ',K.rt x δ'->∀v F' bL σ' H',Ext F ad mu H F' bL δ'.mu H'->SR F' bL δ' σ' H'->dB F' bL x v->D.rt v H'
 kp:cj.kp F ad mu H
theorem Cn.ext{F F' H H' f a mu b P R}(c:Cn F f mu H P R)(e:Ext F f mu H F' a b H'):Cn F' a b H' P R:=λd h _ _ _ _ E S=>c d h _ _ _ _ (e.trans E) S
theorem rC.ext{F F' H H' f a mu b K D}(c:rC F f mu H K D)(e:Ext F f mu H F' a b H'):rC F' a b H' K D :=
 ⟨c.nx.ext e,c.bk.ext e,c.ct.ext e,λx d h _ _ _ _ _ E S V=>c.rt x d h _ _ _ _ _ (e.trans E) S V,cj.st e c.kp⟩
inductive dc (G:WS) (D:Ends) (σ:St) (H:Hp):Prop
 |mk (F:Hp) (ad:-O) (δ:aO) (K:KS) (S:SR F ad δ σ H) (q:G K δ) (k:rC F ad δ.mu H K D)
def ar(G a:WS):WS:=λK b=>G {K with nx:=a K} b
def bY:WS:=λK a=>K.nx a
def aK(i:Nat)(f:WE):WS:=λK b=>f b λx a=>K.nx ⟨a.sl.set i (ζ x),a.mu⟩
def f7(f:WE):WS:=λK b=>f b λ_ a=>K.nx a
def aB(f:WE):WS:=λK b=>f b λx a=>K.rt x a
def aU(t:WT)(G c:WS):WS:=λK d=>t d λb a=>if b=θ then G K a else c K a
section
variable{X:Cx}{e c:υ}{st:χ}{rest:-χ}{f:WE}{t:WT}{G G':WS}{pos:Δ}
theorem eC:cV X [] (dc bY):=jD.weak λD a H ⟨F,b,c,K,S,q,k⟩↦k.nx _ q _ _ _ _ .refl S
theorem bR(h:JS X st (dc G)):cV X [st] (dc G):=mU h
theorem bM(h:JS X st (dc G))(r:cV X rest (dc G')):cV X (st::rest) (dc (ar G G')) :=
 (qZ h r).weak λD e H ⟨F,b,c,K,S,q,k⟩↦⟨F,b,c,_,S,q,⟨λa h _ _ _ _ E d=>⟨_,_,a,K,d,h,k.ext E⟩,k.bk,k.ct,k.rt,k.kp⟩⟩
theorem Qm{i}:∀D a H,dc (aK i f) D a H->eg (tD f) (jF i) D a H:=λD a H ⟨F,b,c,K,S,q,k⟩↦⟨F,b,c,_,S,q,λx d e v m g n h j l=>k.nx _ e _ _ _ _ h (j.set l)⟩
theorem fq{i x a}(b:X.N.Nodup)(c:X.N[i]?=ζ x)(d:Loc X.env.scope x)(he:JE X e (tD f))(g:‹swapsWith e (ζ (.Name x a)) pos.line X.env=pure ι›)
  (h:autoParam (fK X x) qz1._auto_1):JS X (.Assign [.Name x a] e pos) (dc (aK i f)):=(oE b c d he g h).weak Qm
theorem ny(he:JE X e (tD f))(a:‹swapsWith e η pos.line X.env=pure ι›):JS X (.Expr e pos) (dc (f7 f)) :=
 (Fd he a).weak λD l H ⟨F,b,c,K,S,q,k⟩↦⟨F,b,c,_,S,q,λx d g v m h n i j o=>k.nx _ g _ _ _ _ i j⟩
theorem dh(he:JE X e (tD f)):JS X (.Return (ζ e) pos) (dc (aB f)) :=
 (pR he).weak λD l H ⟨F,a,b,K,S,q,k⟩↦⟨F,a,b,_,S,q,λx c d v m g n h i j=>k.rt _ _ d _ _ _ _ _ h i j⟩
theorem dY{a b}(j:JT X c (dm t))(l:cV X a (dc G))(m:cV X b (dc G')):JS X (.If c a b pos) (dc (aU t G G')) :=
 (Fe j l m).weak λD p H ⟨F,n,o,K,S,q,k⟩↦⟨F,n,o,_,S,q,λb d f g e r h i=>by
  cases b with
  |true =>
   exact⟨g,e,d,K,i,f,k.ext h⟩
  |false =>
   calc⟨g,e,d,K,i,f,k.ext h⟩⟩
def me:WS:=λ_ _=>False
abbrev WG:=DV->aO->(aO->Prop)->Prop
inductive jP (g:WG) (v:V) (σ:St) (H:Hp) (Q:St->Hp->Prop):Prop
 |mk (F:Hp) (ad:-O) (δ:aO) (x:DV) (K:aO->Prop) (S:SR F ad δ σ H) (V:dB F ad x v) (q:g x δ K) (k:Cn F ad δ.mu H K Q)
abbrev tV:=-D->aO->(aO->Prop)->Prop
def nz(g:tV):kY:=λd e H Q=>∃F b a c K,SR F b a e H/\aq F c d/\g c a K/\Cn F b a.mu H K Q
def bZ(i:Nat):WG:=λx a K=>K ⟨a.sl.set i (ζ x),a.mu⟩
def kF:tV:=λa b K=>match a with
 |[]=>K b
 |_=>False
def g4(g:WG)(b:tV):tV:=λc e K=>match c with
 |d::r=>g (.p d) e λa=>b r a K
 |[]=>False
theorem JG.weak{c t t'}(h:JG X c t)(k:∀v a H Q,t' v a H Q->t v a H Q):JG X c t':=⟨λb s a H v u Q I r q=>h b s a H v u Q I r (k v a H Q q)⟩
theorem jE.weak{c t t'}(h:jE X c t)(k:∀v a H Q,t' v a H Q->t v a H Q):jE X c t':=⟨λb s a H v u Q I r q=>h b s a H v u Q I r (k v a H Q q)⟩
theorem iS{i x}(a:X.N.Nodup)(b:X.N[i]?=ζ x)(c:Loc X.env.scope x)(d:autoParam (fK X x) qz1._auto_1):JG X (.Name x pos) (jP (bZ i)) :=
 (yq a b c d).weak λv e H Q ⟨F,f,g,x,K,S,V,q,k⟩↦k _ q _ _ _ _ .refl (S.set V)
theorem v5:jE X [] (nz kF):=jG.weak λa b H Q ⟨F,c,d,e,K,S,V,q,k⟩↦by
 unfold kF at q;split at q
 .exact⟨V,k _ q _ _ _ _ .refl S⟩
 .calc q.elim
theorem ql{es g b}(c:JG X e (jP g))(f:jE X es (nz b))(i:‹(assignEach (e::es) X.env).map (·.2)=assign e X.env::(assignEach es X.env).map (·.2)›):jE X (e::es) (nz (g4 g b)) :=
 (yt c f i).weak λt u H Q ⟨F,j,l,w,K,S,V,q,k⟩↦by
  unfold g4 at q;split at q
  .rename_i d r
   let⟨v,m,e,n,o⟩:22:=V;exact(zI2 v m ⟨e,F,j,l,.p d,_,S,n,q,λa h _ _ _ _ E s=>(zI5 _ _ a r K ⟨s,o.same E.same,h,k.ext E⟩)⟩)
  .calc q.elim
def lq(n:Nat)(g:tV):WG:=λx b K=>iF x b λd=>match d with
 |.tup a=>↑a=n/\g a b K
 |.lst a=>↑a=n/\g a b K
 |_=>False
theorem JG.or{c t t'}(h:JG X c t)(h':JG X c t'):JG X c (λv b H Q=>t v b H Q\/t' v b H Q):=⟨λa s b H v u Q I r q=>q.elim (λq=>h a s b H v u Q I r q) λq=>h' a s b H v u Q I r q⟩
theorem v7{es k g n}(l:X.calm=θ)(h:jE X es (nz g))(hn:‹↑(assignEach es X.env)=n›)(b:‹(assignEach es X.env).findIdx? (·.1)=η›):JG X (.Tuple es k pos) (jP (lq n g)) :=
 ((Ff l h hn b).or (Qe l h hn b)).weak λv r H Q ⟨F,m,o,x,K,S,V,q,k⟩↦by
  let⟨d,q,p⟩:=jM S V q;split at q
  .rename_i f
   let⟨a,i,e,j,c⟩:=p;exact .inl ⟨a,i,e,b9.of (S.sub _ _ j),by rw[↑c];calc q.1,F,m,o,f,K,S,c,q.2,k⟩
  .rename_i f
   let⟨a,i,e,j,c⟩:=p;exact .inr ⟨a,i,e,bG.of j,by rw[↑c];calc q.1,F,m,o,f,K,S,c,q.2,k⟩
  .calc q.elim
def iT(f:WE)(g:WG):WS:=λK b=>f b λx a=>g x a K.nx
theorem zE{a g}(he:JE X e (tD f))(h:JG X a (jP g))(i:‹swapsWithSole [a] e pos.line X.env=pure ι›)(j:‹swappedStores [a] e X.env=pure η›)
  (b:‹(assignEach [a] X.env).map (·.2)=[assign a X.env]›):JS X (.Assign [a] e pos) (dc (iT f g)) :=
 (pT he h i j b).weak λD s H ⟨F,l,m,K,S,q,k⟩↦⟨F,l,m,_,S,q,λx c b v n d t o p r=>⟨n,d,c,x,K.nx,p,r,b,k.nx.ext o⟩⟩
end
end
structure rD where
 items:-D
 ft:aO->Prop
abbrev WI:=aO->(rD->aO->Prop)->Prop
def qm(F:Hp)(h:-O)(c:rD)(J:It):Prop:=∀(e:Hp)(b:-O)(g:aO)(j:St)(H:Hp),aI F e->(∀(k:Nat)(a:O),h[k]?=ζ a->b[k]?=ζ a)->SR e b g j H->c.ft g →
 J.stop ↑c.items H/\∀(i:Nat)(d:D),c.items[i]?=ζ d->J.go i H/\∀x f,J.q_ i H x f->aI H f/\Is (Nw e H f) d x
inductive jQ (w:WI) (σ:St) (H:Hp) (R:It->Hp->Prop):Prop
 |mk (F:Hp) (ad:-O) (δ:aO) (K:rD->aO->Prop) (S:SR F ad δ σ H) (q:w δ K) (k:∀it δ',K it δ'->∀J F' bL H',Ext F ad δ.mu H F' bL δ'.mu H'->SR F' bL δ' σ H'->qm F' bL it J->R J H')
meta def zF(n:Nat):Option DV->Option DV->Option DV
 |none,_=>η
 |some _,some (.o k)=>if k<n then ζ (.o k) else η
 |some _,some (.t d k)=>if k<n then ζ (.t d k) else η
 |some _,s=>s
meta def hU(n:Nat):-(Option DV)->-(Option DV)->-(Option DV)
 |a::b,s::r=>zF n a s::hU n b r
 |[],_::r=>η::hU n [] r
 |_,[]=>[]
meta def aO.trim(a b:aO):aO:=⟨hU ↑a.mu a.sl b.sl,b.mu.take ↑a.mu⟩
theorem zG{n}:∀a l,↑(hU n a l)=↑l
 |_::b,_::r=>by rw[hU,Ge,Ge,zG b r]
 |[],_::r=>by rw[hU,Ge,Ge,zG [] r]
 |[],[]=>Y
 |_::_,[]=>Y
theorem zH{n}:∀{b l}{i:Nat}{x},(hU n b l)[i]?=ζ (ζ x)->l[i]?=ζ (ζ x)/\∀k,x=.o k\/(∃d,x=.t d k)->k<n
 |a::f,s::r,0,x,h=>by
  let h:=by simpa[hU] using h
  match a,s,h with
  |none,_,h=>cases h
  |some _,none,h=>cases h
  |some _,some (.p d),h=>cases(h);exact⟨Y,λk e=>by rcases e with e|⟨_,e⟩<;>cases e⟩
  |some _,some (.w d),h=>cases(h);exact⟨Y,λk e=>by rcases e with e|⟨_,e⟩<;>cases e⟩
  |some _,some (.u t d),h=>cases(h);exact⟨Y,λk e=>by rcases e with e|⟨_,e⟩<;>cases e⟩
  |some _,some (.t d k),h =>
   let h:(if k<n then ζ (DV.t d k) else η)=ζ x:=h
   by_cases c:k<n
   .rw[ZF c] at h;cases h;exact⟨Y,λk' e=>by rcases e with e|⟨_,e⟩<;>cases e;calc c⟩
   .rw[Zx c] at h;cases h
  |some _,some (.o k),h =>
   let h:(if k<n then ζ (DV.o k) else η)=ζ x:=h
   by_cases c:k<n
   .rw[ZF c] at h;cases h;exact⟨Y,λk' e=>by rcases e with e|⟨_,e⟩<;>cases e;calc c⟩
   .rw[Zx c] at h;cases h
 |a::f,s::r,i+1,x,h=>by
  let h:=by simpa[hU] using h
  simpa using zH h
 |[],s::r,0,x,h=>by simp[hU] at h
 |[],s::r,i+1,x,h=>by
  let h:=by simpa[hU] using h
  simpa using zH h
 |[],[],i,x,h=>by simp[hU] at h
 |_::_,[],i,x,h=>by simp[hU] at h
section
variable{F F' H H':Hp}{ad bL:-O}{δ δ' δ0:aO}{σ σ' τ:St}{mu fm:-(Option OV)}{l:O}{o:HO}
theorem Lv.take{n a}(h:Lv (ad.take n) (mu.take n) a):Lv ad mu a:=by
 let⟨k,d,b,c⟩:21:=h
 let e:k<n:=by
  let:=(ri.mp b).1;rw[ZH] at this;symm
 rw[Z2 e] at b c;calc(zI2 k d ⟨b,c⟩)
theorem SR.trim(S:SR F ad δ σ H):SR F (ad.take ↑δ0.mu) (δ0.trim δ) σ H:=by
 let g:∀{k a},(ad.take ↑δ0.mu)[k]?=ζ a->k<↑δ0.mu/\ad[k]?=ζ a:=λ{k a} e=>by
  let b:k<↑δ0.mu:=by
   let:=(ri.mp e).1;rw[ZH] at this;symm
  rw[Z2 b] at e;exact⟨b,e⟩
 let f:∀{k w},(δ.mu.take ↑δ0.mu)[k]?=ζ w->k<↑δ0.mu/\δ.mu[k]?=ζ w:=λ{k w} e=>by
  let b:k<↑δ0.mu:=by
   let:=(ri.mp e).1;rw[ZH] at this;symm
  rw[Z2 b] at e;exact⟨b,e⟩
 refine⟨S.sub,λa x=>S.off a x.take,?_,λk l a w j c d m n=>S.inj k l a w j (g c).2 (g d).2 (f m).2 (f n).2,λk p e=>?_,λi x e=>?_,?_,S.tab,S.nt⟩
 .show ↑(ad.take _)=↑(δ.mu.take _)
  rw[ZH,ZH,S.cD]
 .let⟨a,o,c,d,h⟩:22:=S.mu k p (f e).2
  exact(zI2 a o ⟨by rw[Z2 (f e).1];calc c,d,h⟩)
 .let⟨c,d⟩:=zH e
  let⟨v,q,r⟩:=S.sl i x c;exact⟨v,q,r.pre λk a s z=>by rw[Z2 (d k z)];calc s⟩
 .show ↑σ=↑(hU _ _ _)
  rw[zG];calc S.len
theorem Ext.trim{n}(e:Ext F ad mu H F' bL fm H')(hn:↑ad=n):Ext F ad mu H F' (bL.take n) (fm.take n) H' :=
 ⟨e.same,e.new,e.keep,λk a h=>by rw[Z2 (by rw[<-hn];calc(ri.mp h).1)];calc e.pre k a h,λa x=>e.cy a x.take,e.iE⟩
theorem SR.other(S:SR F ad δ σ H)(d:F l=η)(f:¬ Lv ad δ.mu l)(tk:aM.ok (upd H l o)):SR F ad δ σ (upd H l o):=by
 refine⟨λa u e=>?_,S.off,S.cD,S.inj,λk b e=>?_,S.sl,S.len,tk,S.nt⟩
 .rw[aQ (cW e d)];exact S.sub a u e
 .let⟨a,u,c,g,h⟩:22:=S.mu k b e
  calc(zI2 a u ⟨c,by rw[aQ λz=>f (by subst z;calc(zI2 k b ⟨c,e⟩))];calc g,h⟩)
theorem Ext.other(e:Ext F ad mu H F' bL fm H')(b:H l=η):Ext F ad mu H F' bL fm (upd H' l o) :=
 ⟨e.same,e.new,λa u h n t=>by rw[aQ (cW h b)];calc e.keep a u h n t,e.pre,e.cy,λa u h=>by rw[aQ (cW h b)];calc e.iE a u h⟩
theorem SR.adopt(S:SR F ad δ σ H)(j:F l=η)(f:H l=ζ o)(m:¬ Lv ad δ.mu l)(p:∀ps,o≠.tbl ps:=by ext _ z;cases z):SR (upd F l o) ad δ σ H:=by
 let b:aI F (upd F l o):=cK j
 refine⟨λa u e=>?_,λa x=>?_,S.cD,S.inj,λk r e=>?_,λi x e=>?_,S.len,S.tab,S.nt.up b λa g=>by
  let⟨n,q⟩:=aM.tb S.tab g;rw[aQ λz=>by subst z;rw[f] at q;calc p n (ZX q)]
  calc S.nt a g⟩
 .by_cases c:a=l
  .subst c;rw[bN] at e;cases e;exact f
  .rw[aQ c] at e;exact S.sub a u e
 .rw[aQ λz=>m (by subst z;calc x)];exact S.off a x
 .let⟨a,u,d,s,h⟩:22:=S.mu k r e
  exact(zI2 a u ⟨d,s,h.same b⟩)
 .let⟨v,d,h⟩:=S.sl i x e
  calc⟨v,d,h.same b⟩
theorem Ext.adopt(e:Ext F ad mu H F' bL fm H')(b:H l=η)(d:F' l=η):Ext F ad mu H (upd F' l o) bL fm H' :=
 ⟨e.same.trans (cK d),λa u h=>by
  by_cases c:a=l
  .subst c;exact .inr (.inl b)
  .rw[aQ c] at h;calc e.new a u h,e.keep,e.pre,e.cy,e.iE⟩
theorem SR.cE{ov}(S:SR F ad δ σ H)(A:F l=η)(B:H l=ζ o)(p:¬ Lv ad δ.mu l)(h:fM F l ov o):SR F (ad++[l]) ⟨δ.sl,δ.mu++[ζ ov]⟩ σ H:=by
 let g:∀{k w},(δ.mu++[ζ ov])[k]?=ζ (ζ w)->(k<↑δ.mu/\δ.mu[k]?=ζ (ζ w))\/(k=↑δ.mu/\w=ov):=λ{k w} e=>by
  by_cases c:k<↑δ.mu
  .rw[OO c] at e;exact .inl ⟨c,e⟩
  .let p:=(ri.mp e).1
   rw[My,Z8] at p;let C:k=↑δ.mu:=by symm
   subst C;exact .inr ⟨Y,by simpa using e.symm⟩
 let j:∀{k},k<↑δ.mu->(ad++[l])[k]?=ad[k]?:=λ{k} c=>OO (by rw[S.cD];calc c);let b:(ad++[l])[↑δ.mu]?=ζ l:=by rw[<-S.cD,YD (tm _),q0O];rfl
 refine⟨S.sub,λa x=>?_,by rw[My,My,S.cD];rfl,λk t a w y d f r z=>?_,λk w e=>?_,λi x e=>?_,S.len,S.tab,S.nt⟩
 .let⟨k,w,d,f⟩:21:=x
  rcases g f with⟨c,r⟩|⟨c,r⟩
  .rw[j c] at d;exact S.off a ⟨k,w,d,r⟩
  .subst c;rw[b] at d;cases d;exact A
 .rcases g r with⟨c,q⟩|⟨c,q⟩
  .rw[j c] at d
   rcases g z with⟨m,n⟩|⟨m,n⟩
   .rw[j m] at f;exact S.inj k t a w y d f q n
   .subst m;rw[b] at f;cases f;exact absurd ⟨k,w,d,q⟩ p
  .subst c;rw[b] at d;cases d
   rcases g z with⟨m,n⟩|⟨m,n⟩
   .rw[j m] at f;exact absurd ⟨t,y,f,n⟩ p
   .exact m.symm
 .rcases g e with⟨c,q⟩|⟨c,q⟩
  .let⟨a,u,d,f,s⟩:22:=S.mu k w q
   exact(zI2 a u ⟨by rw[j c];calc d,f,s⟩)
  .subst c q;exact(zI2 l o ⟨b,B,h⟩)
 .let⟨v,d,s⟩:=S.sl i x e
  calc⟨v,d,s.pre λk a f _=>by rw[OO (ri.mp f).1];calc f⟩
theorem Ext.cE{ov:OV}(e:Ext F ad mu H F' bL fm H')(g:H l=η)(i:↑bL=↑fm):Ext F ad mu H F' (bL++[l]) (fm++[ζ ov]) H' :=
 ⟨e.same,e.new,e.keep,λk a h=>by rw[OO (ri.mp (e.pre k a h)).1];calc e.pre k a h,λa x=>by
  let⟨k,w,b,d⟩:21:=x
  by_cases c:k<↑fm
  .rw[OO c] at d
   rw[OO (by rw[i];calc c)] at b;exact e.cy a (zI2 k w ⟨b,d⟩)
  .let f:=(ri.mp d).1
   rw[My,Z8] at f;let j:k=↑bL:=by symm
   subst j;let:=by simpa using b
   subst this;calc .inr g,e.iE⟩
theorem SR.back{b}(a:SR F ad δ σ H)(e:Ext F ad δ.mu H F' bL fm H')(S:SR F' bL ⟨b,fm⟩ τ H'):SR F' bL ⟨δ.sl,fm⟩ σ H' :=
 ⟨S.sub,S.off,S.cD,S.inj,S.mu,λi x q=>let⟨v,c,d⟩:=a.sl i x q;⟨v,c,d.ext e⟩,a.len,S.tab,S.nt⟩
meta def fu(cp:-(Option Nat))(a:-(Option DV)):-(Option DV):=cp.map λo=>match o with
 |some i=>(a[i]?).join
 |none=>η
theorem SR.tW{cp:-(Option Nat)}(S:SR F ad δ σ H):SR F ad ⟨fu cp δ.sl,δ.mu⟩ (j5 cp σ) H:=by
 calc⟨S.sub,S.off,S.cD,S.inj,S.mu,λj x e=>?_,by unfold j5 fu;rw[qa,qa],S.tab,S.nt⟩;unfold fu at e;rw[OS] at e;let⟨o,b,a⟩:=YE.mp e
 match o,a with
 |none,a=>cases a
 |some i,a =>
  let a:(δ.sl[i]?).join=ζ x:=a
  cases q:δ.sl[i]? with
  |none=>rw[q] at a;cases a
  |some z =>
   rw[q] at a;subst a;let⟨v,c,d⟩:=S.sl i x q;calc⟨v,?_,d⟩;unfold j5;rw[OS,b];show ζ ((σ[i]?).join)=ζ (ζ v);rw[c];rfl
end
def kG(a:aO)(c:aO->Prop)(g:WG)(b:WS)(K:KS):-D->aO->Prop
 |[],f=>c f/\K.nx f
 |d::r,f=>c f/\g (.p d) f λh=>b {nx:=λe=>kG a c g b K r (a.trim e),ct:=λe=>kG a c g b K r (a.trim e),bk:=K.nx,rt:=K.rt} h
def eo(w:WI)(g:WG)(b:WS):WS:=λK d=>w d λc a=>kG a c.ft g b K c.items a
def jR(c:aO)(h:aO->Prop)(g:WG)(t:WT)(f:WE)(K:-D->aO->Prop):-D->-D->aO->Prop
 |[],a,i=>h i/\K a i
 |d::r,a,i=>h i/\g (.p d) i λk=>t k λb j=>if b=θ then f j λx l=>nq x l λe m=>↑a<1000/\jR c h g t f K r (a++[e]) (c.trim m) else jR c h g t f K r a (c.trim j)
def gC(w:WI)(cp:-(Option Nat))(g:WG)(t:WT)(f:WE):WE:=λe K=>w e λd a=>jR ⟨fu cp a.sl,a.mu⟩ d.ft g t f (λb c=>K (.p (.lst b)) ⟨a.sl,c.mu⟩) d.items [] ⟨fu cp a.sl,a.mu⟩
def nA(w:WI)(cp:-(Option Nat))(g:WG)(t:WT)(f:WE):WE:=λe K=>w e λd a=>jR ⟨fu cp a.sl,a.mu⟩ d.ft g t f (λc b=>K (.o ↑b.mu) ⟨a.sl,b.mu++[ζ (.lst c)]⟩) d.items [] ⟨fu cp a.sl,a.mu⟩
section
variable{X:Cx}{tg iter elt:υ}{body:-χ}{w:WI}{g:WG}{b:WS}{pos:Δ}{ifs:-υ}{t:WT}{f:WE}{scope:Γ}
theorem qo[cj](hp:PassesOwn (ς X.prog X.w) X.A X.env X.xe)(hc:X.calm=θ)(hi:JI X tg iter (jQ w))(hg:JG X tg (jP g))(hb:cV X body (dc b))(hs:‹∀x,foldedSetIterable iter X.env x=pure x›):
  JS X (.For tg iter body [] pos) (dc (eo w g b)):=(Fj hp hc hi hg hb hs).weak λD σ H ⟨F,ad,δ,K,S,q,k⟩=>by
 calc⟨F,ad,δ,_,S,q,λn d h1 J L o Z E1 M I1=>?_⟩;let G:=k.ext E1;calc⟨λi m j s=>∃t c a,i+m=↑n.items/\Ext L o d.mu Z t c a.mu s/\SR t c a j s/\kG d n.ft g b K (n.items.drop i) a,(zI4 ↑n.items L o d ⟨⋯,.refl,M,h1⟩),?_⟩;ext i m j s u;let⟨t,c,a,hm,r,v,h⟩:33:=u
 by_cases z:i<↑n.items
 .rw[q0y z] at h
  let⟨N,h⟩:=h;let⟨go,yl⟩:=(I1 t c a j s r.same r.pre v N).2 i _ (p_ z);calc .inr ⟨go,λB C=>∃I l e,Ext L o d.mu Z I l e.mu C/\SR I l e B C/\kG d n.ft g b K (n.items.drop (i+1)) e,λB C E=>by let⟨I,l,e,e1,e2,e3⟩:32:=E;calc⟨m-1,⋯,I,l,e,⋯,e1,e2,e3⟩,λx C y=>?_⟩;let⟨sm,is⟩:01:=yl x C y;let E2:=r.trans (Ext.al v sm);calc⟨_,c,a,.p _,_,v.al sm,is,h,λO h3 F3 P σ3 H3 E3 S3=>?_⟩;let f:=E2.trans E3;refine⟨F3,P,O,_,S3,h3,⟨λQ R T U V H4 W Y=>⟨T,_,_,(f.trans W).trim M.cD,Y.trim,R⟩,G.nx.ext f,λQ R T U V H4 W Y=>⟨T,_,_,(f.trans W).trim M.cD,Y.trim,R⟩,(G.ext f).rt,(G.ext f).kp⟩⟩
 .let ei:i=↑n.items:=by symm
  subst ei;rw[q2I (tm _)] at h;let⟨N,h⟩:=h;calc .inl ⟨(I1 t c a j s r.same r.pre v N).1,G.nx _ h _ _ _ _ r v⟩
def fz:WT:=λa K=>K θ a
theorem JF.weak{a:-υ}{t t':TT}(h:JF X a t)(k:∀b H Q,t' b H Q->t b H Q):JF X a t':=⟨λc s b H Q I q=>h c s b H Q I (k b H Q q)⟩
theorem v8:JF X [] (dm fz):=qf.weak λa H Q ⟨F,b,c,K,S,q,k⟩↦k _ _ q _ _ _ .refl S
theorem zI{c:υ}(h:JT X c (dm t)):JF X [c] (dm t):=OX h
theorem G7{J l H n c σ U C cp Q K}(N:SR H n c σ U)(I1:qm H n C J)(O:U l=η)
  (h:jR ⟨fu cp c.sl,c.mu⟩ C.ft g t f K C.items [] ⟨fu cp c.sl,c.mu⟩)
  (fin:∀acc b F' d V H' ys,K acc b->Ext H n c.mu U F' d b.mu H'->SR F' d b V H'->H' l=ζ (.lst ys)->F' l=η->¬ Lv d b.mu l->aq F' acc ys->Q (.ref l) H') :
  Gk J (jP g) (dm t) (tD f) l (j5 cp σ) (upd U l (.lst [])) Q:=by
 let f1:H l=η:=by
  cases q:H l with
  |none=>rfl
  |some u=>rw[N.sub l u q] at O;cases O
 let l1:¬ Lv n c.mu l:=λ⟨k,ov,e1,e2⟩↦by
  let⟨a,o,e3,e4,_⟩:22:=N.mu k ov e2;rw[e1] at e3;cases e3;rw[O] at e4;cases e4
 calc⟨λi m V P=>∃I d b w L,i+m=↑C.items/\Ext H n c.mu U I d b.mu P/\SR I d b V P/\P l=ζ (.lst L)/\I l=η/\¬ Lv d b.mu l/\aq I w L/\jR ⟨fu cp c.sl,c.mu⟩ C.ft g t f K (C.items.drop i) w b,(zI6 ↑C.items H n _ [] [] ⟨⋯,Ext.refl.other O,(N.tW.other f1 l1 (aM.same N.tab (cK O))),bN,f1,l1,.nil,h⟩),?_⟩;ext i m V P W;let⟨I,d,b,w,L,hm,R,X,E,Y,F,ia,h⟩:57:=W
 by_cases Z:i<↑C.items
 .rw[q0y Z] at h
  let⟨ck,h⟩:=h;let⟨go,yl⟩:01:=(I1 I d b V P R.same R.pre X ck).2 i _ (p_ Z)
  let M:∀{B j S D},Ext I d b.mu P B j S D->D l=ζ (.lst L)/\B l=η/\¬ Lv j S l/\aq B w L:=λ{B j S D} e=>by
   refine⟨e.keep _ _ E F (λz=>by let⟨ps,q⟩:=aM.tb N.tab z;rw[O] at q;cases q),?_,λz=>?_,ia.same e.same⟩
   .cases q:B l with
    |none=>rfl
    |some u =>
     rcases e.new l u q with z|z|z
     .rw[Y] at z;cases z
     .rw[E] at z;cases z
     .exact absurd z F
   .rcases e.cy l z with z|z
    .exact F z
    .rw[E] at z;cases z
  refine .inr ⟨go,fun τ2 D=>∃B j A s G,Ext H n c.mu U B j A.mu D/\SR B j A τ2 D/\D l=ζ (.lst G)/\B l=η/\¬ Lv j A.mu l/\aq B s G/\jR ⟨fu cp c.sl,c.mu⟩ C.ft g t f K (C.items.drop (i+1)) s A,
   fun τ2 D qp=>by let⟨B,j,A,s,G,r⟩:5:=qp;calc⟨m-1,⋯,B,j,A,s,G,⋯,r⟩,λx D y=>?_⟩
  let⟨sm,is⟩:01:=yl x D y;let X2:=Ext.al X sm;calc⟨_,d,b,.p _,_,X.al sm,is,h,fun δ3 h3 F3 Qn σ3 H3 X3 S3=>⟨F3,Qn,δ3,_,S3,h3,λbb δ4 h4 F4 G8 H4 X4 S4=>?_⟩⟩;let T:=(X2.trans X3).trans X4
  cases bb with
  |false =>
   let⟨a1,a2,a3,a4⟩:03:=M T;exact(zI5 F4 _ _ w L ⟨(R.trans T).trim N.cD,S4.trim,a1,a2,λz=>a3 z.take,a4,h4⟩)
  |true =>
   calc⟨F4,G8,δ4,_,S4,h4,λy δ5 h5 v F5 YI H5 X5 S5 V5=>?_⟩;let⟨e,δ6,F6,⟨hlen,h6⟩,X6,S6,i6⟩:33:=tQ S5 V5 h5;let G9:=(T.trans X5).trans X6;let⟨a1,a2,a3,a4⟩:03:=M G9;exact⟨L,a1,qd (by rw[↑a4];symm),F6,_,_,w++[e],L++[v],((R.trans G9).other O).trim N.cD,(S6.other a2 a3 (aM.put S6.tab a1 (.inl ⟨_,rfl⟩))).trim ,bN,a2,λz=>a3 z.take,a4.snoc i6,h6⟩
 .let ei:i=↑C.items:=by symm
  subst ei;rw[q2I (tm _)] at h;let⟨ck,h⟩:=h;calc .inl ⟨(I1 I d b V P R.same R.pre X ck).1,fin _ _ _ _ _ _ _ h R X E Y F ia⟩
theorem G_{cp:-(Option Nat)}:∀b H Q,tD (gC w cp g t f) b H Q->tw (jQ w) cp (λ_=>jP g) (λ_=>dm t) (λ_=>tD f) b H Q:=λb H Q ⟨F,m,n,K,S,q,k⟩↦by
 calc⟨F,m,n,_,S,q,λD o p J E r G s i u=>λd l c=>G7 i u c p λv x I y L M z A j B e a h C=>k _ _ A _ _ _ _ (s.trans (j.adopt c a)) (SR.back  i (j.adopt c a) (B.adopt a e h)) (zI2 l z ⟨Y,bN,C.same (cK a)⟩)⟩
theorem Qo{cp:-(Option Nat)}:∀b H Q,tD (nA w cp g t f) b H Q->tw (jQ w) cp (λ_=>jP g) (λ_=>dm t) (λ_=>tD f) b H Q:=λb H Q ⟨F,o,p,K,S,q,k⟩=>by
 calc⟨F,o,p,_,S,q,λG r s J I u L v j x=>λd l m=>G7 j x m s λa y M z N O A B C c e h i D=>?_⟩;let E:=c.cE (ov:=.lst a) h e i ⟨A,Y,D⟩;let n:=C.cE (ov:=.lst a) m c.cD;calc k _ _ B _ _ _ _ (v.trans n) (SR.back  j n E) ⟨l,?_,Y⟩;rw[<-c.cD,YD (tm _),q0O];rfl
theorem tX(cp:-(Option Nat))(Nb:-Z)(a:X.calm=θ)(b:JI X tg iter (jQ w))(c:∀d,JG (cZ X scope Nb d) tg (jP g))(e:∀d,JF (cZ X scope Nb d) ifs (dm t))(he:∀d,JE (cZ X scope Nb d) elt (tD f))
  (h:‹scope.kind=.function›) (i:autoParam (k6 X.N X.env.scope scope Nb cp=θ) qz2._auto_1) (j:‹∀x,foldedSetIterable iter X.env x=pure x›) :
  JE X (.ListComp elt [⟨tg,iter,ifs,0⟩] scope pos) (tD (gC w cp g t f)):=(Gn cp Nb a b c e he h i j).weak G_
theorem Ha(cp:-(Option Nat))(Nb:-Z)(a:X.calm=θ)(b:JI X tg iter (jQ w))(c:∀d,JG (cZ X scope Nb d) tg (jP g))(e:∀d,JF (cZ X scope Nb d) ifs (dm t))(he:∀d,JE (cZ X scope Nb d) elt (tD f))
  (h:‹scope.kind=.function›) (i:autoParam (k6 X.N X.env.scope scope Nb cp=θ) qz2._auto_1) (j:‹∀x,foldedSetIterable iter X.env x=pure x›) :
  JE X (.ListComp elt [⟨tg,iter,ifs,0⟩] scope pos) (tD (nA w cp g t f)):=(Gn cp Nb a b c e he h i j).weak Qo
theorem Qp[cj](cp:-(Option Nat))(Nb:-Z){i:Nat}{x:Z}{a b:Δ}(j:X.N.Nodup)(l:X.N[i]?=ζ x)(m:Loc X.env.scope x)(n:X.calm=θ)(c:JI X tg iter (jQ w))(o:∀d,JG (cZ X scope Nb d) tg (jP g))(p:∀d,JF (cZ X scope Nb d) ifs (dm t))(he:∀d,JE (cZ X scope Nb d) elt (tD f))
  (r:‹scope.kind=.function›) (s:autoParam (k6 X.N X.env.scope scope Nb cp=θ) qz2._auto_1) (u:‹∀x,foldedSetIterable iter X.env x=pure x›)
  (e:‹swapsWith (.ListComp elt [⟨tg,iter,ifs,0⟩] scope pos) (ζ (.Name x a)) b.line X.env=pure θ›)
  (h:autoParam (fK X x) qz1._auto_1) :
  JS X (.Assign [.Name x a] (.ListComp elt [⟨tg,iter,ifs,0⟩] scope pos) b) (dc (aK i (gC w cp g t f))) :=
 (O8 cp Nb j l m n c o p he r s u e h).weak λD y H ⟨F,z,A,K,S,q,k⟩↦G_ y H _ ⟨F,z,A,_,S,q,λx B C v L E M G I J=>k.nx _ C _ _ _ _ G (I.set J)⟩
end
inductive RV where
 |p (d:D)|n (ds:-D)|a (j:Nat)|t (d:D) (ds:-D)
def qq(F' H H':Hp)(d:D)(ds:-D)(v:V):Prop:=∃a b u c,v=.ref a/\F' a=ζ (.tup [u,.ref b])/\Is F' d u/\H b=η/\H' b=ζ (.lst c)/\F' b=η/\aq F' ds c
abbrev GD:=-DV->-OV->(RV->-OV->Prop)->Prop
structure zJ(F:Hp)(ad:-O)(H:Hp)(r:RV)(ows:-OV)(v:V)(F' H':Hp):Prop where
 sub:aI F' H'
 same:aI F F'
 new:∀a o,F' a=ζ o->F a=ζ o\/H a=η
 keep:∀a o,H a=ζ o->a∉ad->a∉aM.ad->H' a=ζ o
 tab:aM.ok H'
 nt:NT F'
 len:↑ows=↑ad
 own:∀(j:Nat)(ow:OV),ows[j]?=ζ ow->∃a o,ad[j]?=ζ a/\H' a=ζ o/\fM F' a ow o
 off:∀a∈ad,F' a=η
 res:match r with
  |.p d=>Is F' d v
  |.n ds=>∃a vs,v=.ref a/\H a=η/\H' a=ζ (.lst vs)/\F' a=η/\aq F' ds vs
  |.a j=>∃a,ad[j]?=ζ a/\v=.ref a
  |.t d ds=>qq F' H H' d ds v
inductive mf (G:GD) (n:Nat) (vs:-V) (H:Hp) (Q:VK) (q:XK):Prop
 |mk (hl:↑vs=n) (F:Hp) (ad:-O) (ys:-DV) (aW:-OV) (K:RV->-OV->Prop) (S:SR F ad ⟨ys.map ζ,aW.map ζ⟩ (vs.map ζ) H) (g:G ys aW K) (k:∀r ows,K r ows->∀v F' H',zJ F ad H r ows v F' H'->Q v H')
def gD(n:Nat)(K:RV->-OV->Prop)(x:DV)(e:aO):Prop:=∃b,e.mu.take n=b.map ζ/\↑b=n/\match x with
 |.p d=>K (.p d) b
 |.o k=>if k<n then K (.a k) b else match e.mu[k]? with
  |some (some (.lst c))=>K (.n c) b\/K (.p (.lst c)) b
  |_=>False
 |.w _=>False
 |.u _ _=>False
 |.t d k=>n<=k/\match e.mu[k]? with
  |some (some (.lst c))=>K (.t d c) b
  |_=>False
meta def iU(n:Nat)(K:RV->-OV->Prop):KS where
 nx:=gD n K (.p .non)
 rt:=gD n K
section
variable{F F' H H':Hp}{ad bL:-O}{σ σ':St}
theorem tY{a:Type}{l:-a}{i:Nat}{x}(h:(l.map ζ)[i]?=ζ (ζ x)):l[i]?=ζ x:=by
 rw[OS] at h;let⟨y,e,q⟩:11:=YE.mp h;cases q;calc e
theorem tZ{a:Type}{l:-a}{i:Nat}{x}(h:l[i]?=ζ x):(l.map ζ)[i]?=ζ (ζ x):=by
 rw[OS,h];rfl
theorem SR.start{ys:-DV}{mu vs N}(S:SR F ad ⟨ys.map ζ,mu⟩ (vs.map ζ) H):SR F ad ⟨ys.map ζ++Gg (↑N-↑vs) η,mu⟩ (start N vs) H:=by
 let a:↑vs=↑ys:=by
  let:=S.len;rw[qa] at this;rw[this,qa]
 refine⟨S.sub,S.off,S.cD,S.inj,S.mu,λi x e=>?_,?_,S.tab,S.nt⟩
 .let b:i<↑ys:=by
   by_cases c:i<↑ys
   .exact c
   .rw[YD (by rw[qa];symm),q1N] at e
    split at e
    .cases e
    .cases e
  rw[OO (by rw[qa];calc b)] at e;let⟨v,d,f⟩:=S.sl i x e;exact⟨v,by unfold L2.start;rw[OO (by rw[qa,a];calc b)];calc d,f⟩
 .unfold L2.start
  rw[My,My,q0_,q0_,qa,qa,a]
theorem rE{g:-OV}{J:aO}{x:DV}{v:V}{K:RV->-OV->Prop}{Q:VK}{sl:-(Option DV)}{τ:St}(S0:SR F ad ⟨sl,g.map ζ⟩ τ H)(E:Ext F ad (g.map ζ) H F' bL J.mu H')(S:SR F' bL J σ' H')(V:dB F' bL x v)
  (h:gD ↑g K x J) (k:∀r s,K r s->∀v F' H',zJ F ad H r s v F' H'->Q v H'):Q v H':=by
 let⟨s,tk,T,h⟩:12:=h;let L:↑ad=↑g:=by let:=S0.cD;rwa [qa] at this
 let Y:∀(j:Nat)(a:ξ),ad[j]?=ζ a->∃W,s[j]?=ζ W/\J.mu[j]?=ζ (ζ W)/\Lv bL J.mu a:=λj a e=>by
  let G:j<↑g:=by rw[<-L];exact(ri.mp e).1
  let X:(J.mu.take ↑g)[j]?=ζ (ζ (s[j]'(by rw[T];calc G))):=by
   rw[tk,OS,p_ (by rw[T];calc G)];rfl
  rw[Z2 G] at X;exact⟨_,p_ (by rw[T];calc G),X,j,_,E.pre j a e,X⟩
 let f:∀a∈ad,F' a=η:=λa M=>by
  let⟨j,e⟩:=ZD.mp M;let⟨_,_,_,l⟩:12:=Y j a e;exact S.off a l
 let m:∀{F2:Hp},aI F' F2->aI F2 H'->(∀a o,F2 a=ζ o->F' a=ζ o\/(H a=η/\¬ a∈ad))->(∀a∈ad,F2 a=η)->NT F2->∀{r},(match r with
   |.p d=>Is F2 d v
   |.n D=>∃a y,v=.ref a/\H a=η/\H' a=ζ (.lst y)/\F2 a=η/\aq F2 D y
   |.a j=>∃a,ad[j]?=ζ a/\v=.ref a
   |.t d D=>qq F2 H H' d D v)->zJ F ad H r s v F2 H':=λ{F2} s1 s2 n2 o2 Z {r} res=>by
  refine⟨s2,E.same.trans s1,λa o e=>?_,λa o e n t=>?_,S.tab,Z,by rw[T,L],λj ow e=>?_,o2,res⟩
  .rcases n2 a o e with e|⟨e,_⟩
   .rcases E.new a o e with z|z|⟨j,ov,z,_⟩
    .exact .inl z
    .exact .inr z
    .rw[f a (ZD.mpr ⟨j,z⟩)] at e;cases e
   .exact .inr e
  .exact E.keep a o e (λz'=>by let⟨j,ov,z,_⟩:21:=z';calc n (ZD.mpr ⟨j,z⟩)) t
  .let G:j<↑ad:=by rw[L,<-T];exact(ri.mp e).1
   let⟨Qq,A,N,_⟩:12:=Y j _ (p_ G);rw[e] at A;cases A;let⟨a,o,C,e4,h5⟩:22:=S.mu j _ N;rw[E.pre j _ (p_ G)] at C;cases C
   exact(zI2 _ o ⟨p_ G,e4,h5.same s1⟩)
 let B:∀{i D a},¬ i<↑g->bL[i]?=ζ a->J.mu[i]?=ζ (ζ (.lst D))->∃y,H' a=ζ (.lst y)/\aq F' D y/\a∉ad/\F' a=η/\H a=η:=λ{i D a} c A I=>by
  let⟨a',o,N,C,y,rfl,O⟩:2211:=S.mu i _ I;rw[A] at N;cases N
  let P:a∉ad:=λz=>by
   let⟨j,e⟩:=ZD.mp z;let⟨W,_,e5,_⟩:12:=Y j a e;let:=S.inj i j a _ _ A (E.pre j a e) I e5;subst this;exact c (by rw[<-L];calc(ri.mp e).1)
  calc⟨y,C,O,P,S.off a ⟨i,_,A,I⟩,?_⟩;rcases E.cy a ⟨i,_,A,I⟩ with⟨j,ov,z,_⟩|z
  .exact absurd (ZD.mpr ⟨j,z⟩) P
  .exact z
 cases x with
 |p d=>exact k _ _ h _ _ _ (m  (λ_ _ e=>e) S.sub (λ_ _ e=>.inl e) f S.nt V)
 |w _=>exact h.elim
 |u _ _=>exact h.elim
 |t d i =>
  let⟨a,b,u,rfl,e0,N,A⟩:33:=V;let⟨c,h⟩:=h;split at h
  .rename_i D I
   let⟨y,C,O,P,R,M⟩:14:=B ⋯ A I;exact k _ _ h _ _ _ (m  (λ_ _ e=>e) S.sub (λ_ _ e=>.inl e) f S.nt (zI4 a b u y ⟨rfl,e0,N,M,C,R,O⟩))
  .exact h.elim
 |o i =>
  dsimp only at h;let⟨a,A,rfl⟩:=V
  by_cases c:i<↑g
  .rw[ZF c] at h
   let ei:ad[i]?=ζ a:=by
    let:=E.pre i _ (p_ (by rw[L];calc c));rw[A] at this;rw[p_ (by rw[L];calc c)];exact this.symm
   exact k _ _ h _ _ _ (m  (λ_ _ e=>e) S.sub (λ_ _ e=>.inl e) f S.nt ⟨a,ei,rfl⟩)
  .rw[Zx c] at h
   split at h
   .rename_i D I
    let⟨y,C,O,P,R,M⟩:14:=B c A I;rcases h with h|h
    .exact k _ _ h _ _ _ (m  (λ_ _ e=>e) S.sub (λ_ _ e=>.inl e) f S.nt (zI2 a y ⟨rfl,M,C,R,O⟩))
    .refine k _ _ h _ _ _ (m (F2:=upd F' a (.lst y)) (cK R) (λb o e=>?_) (λb o e=>?_) (λb U=>?_) (S.nt.up (cK R) λb U=>?_) ?_)
     .by_cases z:b=a
      .subst z;rw[bN] at e;cases e;exact C
      .rw[aQ z] at e;exact S.sub b o e
     .by_cases z:b=a
      .subst z;exact .inr ⟨M,P⟩
      .rw[aQ z] at e;exact .inl e
     .rw[aQ λz=>P (by subst z;calc U)];exact f b U
     .let⟨ps,q⟩:=aM.tb S.tab U
      rw[aQ λz=>by subst z;rw[C] at q;cases q];exact S.nt b U
     .exact (zI2 a y ⟨rfl,bN,O.same (cK R)⟩)
   .calc h.elim
end
theorem e7.Qr{P w K u e x c st f z N ps k G}(F:e7 K x c st f z)(S:kZ N ps (bX st))
  (i:∀d A a s H E,aX k (A.deeper (envOfC c (bX st) ⇑s f d)) →
   ∃B:WS,cV (bt d7 P w K u e N c (bX st) f d A a s H E).jZ (dA st) (dc B)/\∀ys b l,↑ys=↑ps->G ys b l->B (iU ↑b l) ⟨ys.map ζ++Gg (↑N-↑ps) η,b.map ζ⟩) :
  bH P w K u e d7 (k+1) f z ps (mf G ↑ps) :=
 F.rk S (λI H Q E h=>h.1) λd A a s H I Q E J h=>by
  let⟨C,L,M,n,b,l,m,g,D⟩:=h;let⟨B,O,R⟩:=i d A a s H E J
  let T:↑n=↑ps:=by
   let:=m.len;rw[qa] at this;rw[<-C,this,qa]
  refine⟨_,O,L,M,⟨n.map ζ++Gg (↑N-↑ps) η,b.map ζ⟩,iU ↑b l,by rw[<-C];calc m.start,R n b l T g,⟨λj h U o q W r t=>?_,λj h=>h.elim,λj h=>h.elim,λy j h v U o q W r t V=>?_,trivial⟩⟩
  .exact rE  m r t (x:=.p .non)  Y h D
  .calc rE  m r t V h D
meta def passes(mu:-(Option OV)):-DV->Nat->Option (-DV×-(Nat×OV))
 |[],_=>ζ ([],[])
 |.p d::b,j=>match passes mu b j with
  |some r=>ζ (.p d::r.1,r.2)
  |none=>η
 |.o k::b,j=>match mu[k]? with
  |some (some c)=>match passes mu b (j+1) with
   |some r=>ζ (.o j::r.1,(k,c)::r.2)
   |none=>η
  |_=>η
 |.w a::b,j=>match passes mu b j with
  |some r=>ζ (.w a::r.1,r.2)
  |none=>η
 |.u _ _::_,_=>η
 |.t _ _::_,_=>η
meta def df(mu:-(Option OV)):-(Nat×OV)->-OV->-(Option OV)
 |(k,_)::r,b::a=>df (mu.set k (ζ b)) r a
 |_,_=>mu
meta def jw:-(Nat×OV)->Bool
 |[]=>θ
 |(k,_)::r => !(r.any λe=>e.1==k)&&jw r
def nB(e:aO)(b:-(Nat×OV))(K:DV->aO->Prop)(r:RV)(c:-OV):Prop:=match r with
 |.p d=>K (.p d) ⟨e.sl,df e.mu b c⟩
 |.n f=>K (.p (.lst f)) ⟨e.sl,df e.mu b c⟩
 |.t d f=>K (.p (.tup [d,.lst f])) ⟨e.sl,df e.mu b c⟩
 |.a j=>match b[j]? with
  |some g=>K (.o g.1) ⟨e.sl,df e.mu b c⟩
  |none=>False
def t5(c:aO)(a:-(Nat×OV))(K:DV->aO->Prop)(r:RV)(b:-OV):Prop:=match r with
 |.n d=>K (.o ↑(df c.mu a b)) ⟨c.sl,df c.mu a b++[ζ (.lst d)]⟩
 |_=>False
def au(n:Nat)(G:GD)(b:WA):WE:=λc K=>b c λd a=>match passes a.mu d 0 with
 |some r=>(jw r.2=θ/\↑r.1=n)/\G r.1 (r.2.map (·.2)) (nB a r.2 K)
 |none=>False
def t6(n:Nat)(G:GD)(b:WA):WE:=λc K=>b c λd a=>match passes a.mu d 0 with
 |some r=>(jw r.2=θ/\↑r.1=n)/\G r.1 (r.2.map (·.2)) (t5 a r.2 K)
 |none=>False
section
variable{F F' H H':Hp}{ad bL:-O}{δ:aO}{σ σ':St}
theorem rF{mu:-(Option OV)}(A:∀(k:Nat) (ov:OV),mu[k]?=ζ (ζ ov)->∃a o,ad[k]?=ζ a/\H a=ζ o/\fM F a ov o):∀{xs:-DV}{vs:-V}{j:Nat}{r:-DV×-(Nat×OV)},passes mu xs j=ζ r->cY F ad xs vs →
  ∃as:-ξ,↑as=↑r.2/\(∀(i:Nat)(m:Nat×OV),r.2[i]?=ζ m->mu[m.1]?=ζ (ζ m.2)/\∃a o,as[i]?=ζ a/\ad[m.1]?=ζ a/\H a=ζ o/\fM F a m.2 o) ∧
   ∀(f:-ξ),↑f=j->∃_u:Unit,↑vs=↑r.1/\∀(i:Nat)(y:DV),r.1[i]?=ζ y->∃v,vs[i]?=ζ v/\dB F (f++as) y v
 |[],K,j,r,h,L=>by
  cases h
  let:K=[]:=L;subst this;exact⟨[],Y,λi m e=>by simp at e,λf _=>⟨(),Y,λi y e=>by simp at e⟩⟩
 |.p d::B,_,j,r,h,⟨v,t,e,q,s⟩=>by
  subst e;unfold passes at h;split at h
  .rename_i C u
   cases h
   let⟨n,l,b,c⟩:=rF A u s;refine⟨n,l,b,λf g=>⟨(),?_,λi y e=>?_⟩⟩
   .let⟨_,x,_⟩:=c f g
    rw[Ge,Ge,x]
   .let⟨_,_,z⟩:=c f g
    cases i with
    |zero=>cases e⁻¹;exact⟨v,Y,q⟩
    |succ i=>simpa using z i y e⁻¹
  .cases h
 |.w d::B,_,j,r,h,⟨v,t,e,q,s⟩=>by
  subst e;unfold passes at h;split at h
  .rename_i C u
   cases h
   let⟨n,l,b,c⟩:=rF A u s;refine⟨n,l,b,λf g=>⟨(),?_,λi y e=>?_⟩⟩
   .let⟨_,x,_⟩:=c f g
    rw[Ge,Ge,x]
   .let⟨_,_,z⟩:=c f g
    cases i with
    |zero=>cases e⁻¹;exact⟨v,Y,q⟩
    |succ i=>simpa using z i y e⁻¹
  .cases h
 |.o k::B,_,j,r,h,⟨v,t,e,q,s⟩=>by
  subst e;unfold passes at h;split at h
  .rename_i J D
   split at h
   .rename_i C u
    cases h
    let⟨n,l,b,c⟩:12:=rF A u s;let⟨a,E,rfl⟩:11:=q;let⟨a',o,G,M,N⟩:22:=A k J D;rw[E] at G;cases G;refine⟨a::n,by rw[Ge,Ge,l],λi m e=>?_,λf g=>⟨(),?_,λi y e=>?_⟩⟩
    .cases i with
     |zero=>cases e⁻¹;exact⟨D,a,o,Y,E,M,N⟩
     |succ i=>simpa using b i m e⁻¹
    .let⟨_,x,_⟩:=c (f++[a]) (by rw[My,g];rfl)
     rw[Ge,Ge,x]
    .let⟨_,_,z⟩:11:=c (f++[a]) (by rw[My,g];rfl)
     cases i with
     |zero =>
      cases e⁻¹
      calc⟨_,Y,a,?_,Y⟩;rw[YD ⋯,g,q0O];rfl
     |succ i =>
      let⟨O,P,I⟩:=z i y e⁻¹;exact⟨O,by simpa using P,by rw[q00] at I;calc I⟩
   .cases h
  .cases h
theorem zK:∀{d},jw d=θ->∀(i j:Nat) k a b,d[i]?=ζ (k,a)->d[j]?=ζ (k,b)->i=j
 |[],_,i,j,k,a,b,e,_=>by simp at e
 |(k',ov)::r,h,i,j,k,a,b,f,g=>by
  unfold jw at h;erw[ZK,q2K] at h
  let l:∀m c,r[m]?=ζ (k',c)->False:=λm c e=>by
   let:=q1g.mp h.1 _ (ZD.mpr ⟨m,e⟩);exact this (by simp)
  cases i with
  |zero =>
   cases(show ζ (k',ov)=ζ (k,a) by simpa using f)
   cases j with
   |zero=>rfl
   |succ j=>exact(l j b g⁻¹).elim
  |succ i =>
   cases j with
   |zero=>cases(show ζ (k',ov)=ζ (k,b) by simpa using g);exact(l i a f⁻¹).elim
   |succ j=>rw[zK h.2 i j k a b f⁻¹ g⁻¹]
theorem zL:∀b a mu,↑(df mu b a)=↑mu
 |(k,_)::r,d::a,c=>by rw[df,zL r a,q0o]
 |[],_,_=>Y
 |_::_,[],_=>Y
theorem t7:∀(b:-(Nat×OV))(a:-OV)(mu:-(Option OV))(l:Nat),(∀c∈b,c.1≠l)->(df mu b a)[l]?=mu[l]?
 |(k,_)::r,f::a,e,l,h=>by
  rw[df,t7 r a _ l λc d=>h c (Yz _ d),q0i (h _ YB)]
 |[],_,_,_,_=>Y
 |_::_,[],_,_,_=>Y
theorem zM:∀{b:-(Nat×OV)}{a:-OV}{mu:-(Option OV)}{i:Nat}{c:Nat×OV}{f:OV},jw b=θ->b[i]?=ζ c->a[i]?=ζ f->c.1<↑mu->(df mu b a)[c.1]?=ζ (ζ f)
 |(k,l)::r,Qq::a,j,0,c,ow,h,d,e,g=>by
  cases d⁻¹
  cases e⁻¹
  unfold jw at h;erw[ZK,q2K] at h;rw[df,t7 r a _ k λc m z=>absurd z⁻¹ (q1g.mp h.1 c m),q0a g]
 |(k,l)::r,n::a,j,i+1,c,f,h,d,e,g=>by
  unfold jw at h;erw[ZK,q2K] at h;rw[df];exact zM h.2 d⁻¹ e⁻¹ (by rw[q0o];calc g)
 |[],_,_,i,_,_,_,d,_,_=>by simp at d
 |_::_,[],_,i,_,_,_,_,e,_=>by simp at e
theorem Hb{xs:-DV}{vs:-V}{r:-DV×-(Nat×OV)}{G:GD}{n:Nat}{Q:VK}{E:XK}{K:RV->-OV->Prop}(S:SR F ad δ σ H)(V:cY F ad xs vs)(hn:↑vs=n)(hp:passes δ.mu xs 0=ζ r)(nd:jw r.2=θ)(g:G r.1 (r.2.map (·.2)) K)
  (fin:∀J x v F' H',K J x->Ext F ad δ.mu H F' ad (df δ.mu r.2 x) H'->SR F' ad ⟨δ.sl,df δ.mu r.2 x⟩ σ H'->(match J with
   |.p d=>Is F' d v
   |.n ds=>∃a vs,v=.ref a/\H a=η/\H' a=ζ (.lst vs)/\F' a=η/\aq F' ds vs
   |.a j=>∃f a,r.2[j]?=ζ f/\ad[f.1]?=ζ a/\v=.ref a
   |.t d ds=>qq F' H H' d ds v)->Q v H'):mf G n vs H Q E:=by
 let⟨R,al,b,c⟩:12:=rF S.mu hp V;let⟨_,c1,c2⟩:=c [] rfl
 let I:∀(i:Nat)(a:ξ),R[i]?=ζ a->Lv ad δ.mu a/\∃f,r.2[i]?=ζ f/\ad[f.1]?=ζ a/\δ.mu[f.1]?=ζ (ζ f.2):=λi a e=>by
  let B:i<↑r.2:=by rw[<-al];exact(ri.mp e).1
  let⟨m1,a',o,m,s,_,_⟩:0123:=b i _ (p_ B);rw[e] at m;cases m;exact⟨(zI2 _ _ ⟨s,m1⟩),_,p_ B,s,m1⟩
 refine⟨hn,F,R,r.1,r.2.map (·.2),K,⟨S.sub,λa C=>by let⟨i,O,m,s⟩:21:=C;calc S.off a (I i a m).1,by rw[al];rw[qa,qa],λi j a O A m s _ _=>?_,λi O e=>?_,λi y e=>?_,?_,S.tab,S.nt⟩,g,λJ x T v F' H' P=>?_⟩
 .let⟨_,f,U,W,k3⟩:0112:=I i a m
  let⟨_,kp,p1,p2,p3⟩:0112:=I j a s;let:f.1=kp.1:=S.inj _ _ a _ _ W p2 k3 p3;exact zK nd i j f.1 f.2 kp.2 U (by rw[this];calc p1)
 .let e:=tY e
  rw[OS] at e;let⟨f,m,rfl⟩:=YE.mp e;let⟨_,a,o,s,_,N,e5⟩:0123:=b i f m;exact(zI2 a o ⟨s,N,e5⟩)
 .let⟨v,m,s⟩:=c2 i y (tY e)
  exact⟨v,tZ m,by simpa using s⟩
 .rw[qa,qa,c1]
 .let ol:↑x=↑r.2:=by rw[P.len,al]
  let M:∀l A,(df δ.mu r.2 x)[l]?=ζ (ζ A)->(∃(i:Nat)(f:Nat×OV),r.2[i]?=ζ f/\f.1=l/\x[i]?=ζ A)\/((∀f∈r.2,f.1≠l)/\δ.mu[l]?=ζ (ζ A)):=λl A e=>by
   by_cases z:∃f∈r.2,f.1=l
   .let⟨f,T,rfl⟩:=z
    let⟨i,B⟩:=ZD.mp T;let X:i<↑x:=by rw[ol];exact(ri.mp B).1
    let:=zM  nd B (p_ X) (ri.mp (b i f B).1).1;rw[e] at this;cases this
    exact .inl (zI2 i f ⟨B,rfl,p_ X⟩)
   .let z':=λf T q=>z ⟨f,T,q⟩
    rw[t7 _ _ _ _ z'] at e;exact .inr ⟨z',e⟩
  let Y:∀l A a,ad[l]?=ζ a->(df δ.mu r.2 x)[l]?=ζ (ζ A)->Lv ad δ.mu a:=λl A a m s=>by
   rcases M l A s with⟨i,f,B,rfl,_⟩|⟨_,q⟩
   .exact⟨_,_,m,(b i f B).1⟩
   .exact⟨_,_,m,q⟩
  let t8:∀a,a∈R->Lv ad δ.mu a:=λa ha=>by
   let⟨i,e⟩:=ZD.mp ha;exact(I i a e).1
  let ex:Ext F ad δ.mu H F' ad (df δ.mu r.2 x) H':=by
   refine⟨P.same,λa o e=>?_,λa o e n t=>P.keep a o e (λz=>n (t8 a z)) t,λ_ _ e=>e,λa C=>by let⟨l,A,m,s⟩:21:=C;calc .inl (Y l A a m s),λa o e=>?_⟩
   .rcases P.new a o e with z|z
    .exact .inl z
    .exact .inr (.inl z)
   .by_cases z:a∈R
    .let⟨i,m⟩:=ZD.mp z
     let B:i<↑x:=by rw[P.len];exact(ri.mp m).1
     let⟨a',o',s,L,_⟩:22:=P.own i _ (p_ B);rw[m] at s;cases s;exact⟨o',L⟩
    .by_cases t:a∈aM.ad
     .let⟨ps,q⟩:=aM.tb P.tab t
      exact⟨_,q⟩
     .exact⟨o,P.keep a o e z t⟩
  let Z:=λa l=>by
   by_cases z:a∈R
   .exact P.off a z
   .cases q:F' a with
    |none=>rfl
    |some u =>
     rcases P.new a u q with y|y
     .rw[S.off a l] at y;cases y
     .let⟨k,O,m,s⟩:21:=l
      let⟨a',o,L,N,_⟩:22:=S.mu k O s;rw[m] at L;cases L;rw[y] at N;cases N
  let sr:SR F' ad ⟨δ.sl,df δ.mu r.2 x⟩ σ H':=by
   refine⟨P.sub,λa C=>by let⟨l,A,m,s⟩:21:=C;calc Z a (Y l A a m s),by rw[S.cD];calc(zL _ _ _).symm,λk l a O A m s L N=>?_,λl A e=>?_,λi y e=>?_,S.len,P.tab,P.nt⟩
   .let h3:∃w,δ.mu[k]?=ζ (ζ w):=by
     rcases M k O L with⟨i,f,B,rfl,_⟩|⟨_,q⟩
     .exact⟨_,(b i f B).1⟩
     .exact⟨_,q⟩
    let h4:∃w,δ.mu[l]?=ζ (ζ w):=by
     rcases M l A N with⟨i,f,B,rfl,_⟩|⟨_,q⟩
     .exact⟨_,(b i f B).1⟩
     .exact⟨_,q⟩
    let⟨_,h3⟩:=h3;let⟨_,h4⟩:=h4;exact S.inj k l a _ _ m s h3 h4
   .rcases M l A e with⟨i,f,B,rfl,ho⟩|⟨z,q⟩
    .let⟨_,a,o,m,s,_,_⟩:=b i f B
     let⟨a',o',L,N,h5⟩:=P.own i A ho;rw[m] at L;cases L;exact⟨a,o',s,N,h5⟩
    .let⟨a,o,m,s,h⟩:=S.mu l A q
     refine⟨a,o,m,P.keep a o s (λy=>?_) (λt=>?_),h.same P.same⟩
     .let⟨i,L⟩:=ZD.mp y
      let⟨_,f,U,W,k3⟩:=I i a L;exact z f (ZD.mpr ⟨i,U⟩) (S.inj _ _ a _ _ W m k3 q)
     .let⟨ps,q2⟩:=aM.tb S.tab t
      rw[s] at q2;cases q2
      exact h.kind ps rfl
   .let⟨v,m,h⟩:=S.sl i y e
    exact⟨v,m,h.ext ex⟩
  calc fin J x v F' H' T ex sr ?_;let D:=P.res
  cases J with
  |p d=>exact D
  |n ds=>exact D
  |t d ds=>exact D
  |a j =>
   let⟨a,m,s⟩:=D;let⟨_,f,U,W,_⟩:=I j a m;calc⟨f,a,U,W,s⟩
end
section
variable{X:Cx}{fa:WA}{G:GD}{pos:Δ}
theorem zN{l F2 m H2:Hp}{e:-O}{d:aO}{v:St}{xs:-DV}{vs:-V}{r:-DV×-(Nat×OV)}{h:-OV}{a:O}(n:SR l e d v m)(w:cY l e xs vs)(x:passes d.mu xs 0=ζ r)(z:m a=η):¬ Lv e (df d.mu r.2 h) a:=λ⟨k,p,A,s⟩↦by
 let c:∃p,d.mu[k]?=ζ (ζ p):=by
  by_cases y:∃g∈r.2,g.1=k
  .let⟨g,f,rfl⟩:=y
   let⟨C,_,b,_⟩:12:=rF n.mu x w;let⟨i,B⟩:=ZD.mp f;exact⟨_,(b i g B).1⟩
  .rw[t7 _ _ _ _ λg f q=>y ⟨g,f,q⟩] at s
   exact⟨_,s⟩
 let⟨j,c⟩:=c;let⟨a',o,t,u,_⟩:22:=n.mu k j c;rw[A] at t;cases t;rw[z] at u;cases u
theorem cY.length{F:Hp}{a:-O}:∀{xs:-DV}{vs:-V},cY F a xs vs->↑vs=↑xs
 |[],b,h=>by rw[h];rfl
 |x::d,b,⟨v,r,e,_,c⟩=>by rw[e,Ge,Ge,cY.length c]
theorem qr{mu}:∀{xs j}{r:-DV×-(Nat×OV)},passes mu xs j=ζ r->↑r.1=↑xs
 |[],j,r,h=>by cases h;rfl
 |.p d::b,j,r,h=>by
  unfold passes at h;split at h
  .rename_i c a;cases h;rw[Ge,Ge,qr a]
  .cases h
 |.w d::b,j,r,h=>by
  unfold passes at h;split at h
  .rename_i c a;cases h;rw[Ge,Ge,qr a]
  .cases h
 |.o k::b,j,r,h=>by
  unfold passes at h;split at h
  .split at h
   .rename_i c a;cases h;rw[Ge,Ge,qr a]
   .cases h
  .cases h
section
variable{k:Nat}{f:O}{fd:FuncData}{ps:-Z}{x:Z}{p:Δ}{e:υ}{es:-υ}{n:Nat}
theorem Hc{E:XK}{F A H B:Hp}{M f:-ξ}{N e:aO}{O:St}{K:DV->aO->Prop}{Q:VK}{xs:-DV}{vs:-V}(kk:∀x g,K x g->∀v F' h H',Ext F M N.mu H F' h g.mu H'->SR F' h g O H'->dB F' h x v->Q v H')(i:match passes e.mu xs 0 with
 |some r=>(jw r.2=θ/\↑r.1=n)/\G r.1 (r.2.map (·.2)) (nB e r.2 K)
 |none=>False)(o:Ext F M N.mu H A f e.mu B)(C:SR A f e O B)(q:cY A f xs vs):mf G n (vs++[]) B Q E:=by
 split at i
 .rename_i r s
  let⟨⟨P,R⟩,i⟩:=i;rw[dV];calc Hb C q (by rw[↑q,<-qr s,R]) s P i λD S v F2 H2 k w y c=>?_;unfold nB at k
  cases D with
  |p d=>exact kk _ _ k _ _ _ _ (o.trans w) y c
  |n T =>
   let⟨a,z,rfl,m,I,l,J⟩:24:=c;exact kk _ _ k _ _ _ _ (o.trans (w.adopt  m l)) (y.adopt l I (zN (F2:=F2) (H2:=H2) C q s m)) (zI2 a z ⟨rfl,bN,J.same (cK l)⟩)
  |t d T =>
   let⟨a,b,u,z,rfl,U,W,m,I,l,J⟩:46:=c;calc kk _ _ k _ _ _ _ (o.trans (w.adopt  m l)) (y.adopt l I (zN (F2:=F2) (H2:=H2) C q s m)) ?_;let L:aI F2 (upd F2 b (.lst z)):=cK l;exact(zI2 a _ ⟨rfl,L _ _ U,u,_,rfl,W.same L,.ref b,_,rfl,(zI2 b z ⟨rfl,bN,J.same L⟩),rfl⟩)
  |a j =>
   let⟨Z,a,i,X,Y⟩:22:=c;dsimp only at k;rw[i] at k;exact kk _ _ k _ _ _ _ (o.trans w) y ⟨a,X,Y⟩
 .calc i.elim
theorem Qs{E:XK}:∀a H Q,tD (au n G fa) a H Q->sV (mf G n) [] E (b_ fa) a H Q:=λa H Q ⟨F,b,c,K,S,q,d⟩ ↦
 ⟨F,b,c,_,S,q,λk e f l m g o h i j=>Hc d f h i j⟩
theorem Qt{E:XK}:∀f H Q,tD (t6 n G fa) f H Q->sV (mf G n) [] E (b_ fa) f H Q:=λf H Q ⟨F,w,x,K,S,q,y⟩=>by
 calc⟨F,w,x,_,S,q,λP z b R T A U B l g=>?_⟩;split at b
 .rename_i r h
  let⟨⟨C,D⟩,b⟩:=b;rw[dV];refine Hb l g (by rw[↑g,<-qr h,D]) h C b λi I v F2 H2 e J k c=>?_
  cases i with
  |p d=>exact e.elim
  |n m =>
   let⟨a,o,rfl,s,L,M,N⟩:24:=c;let O:∀{u},fM F2 u (.lst m) (.lst o):=λ{u}=>⟨o,Y,N⟩;calc y _ _ e _ _ _ _ (B.trans (J.cE  s k.cD)) (k.cE M L (zN (F2:=F2) (H2:=H2) l g h s) O) ⟨a,?_,Y⟩;let:=k.cD;rw[<-this,YD (tm _),q0O];rfl
  |a j=>exact e.elim
  |t d m=>exact e.elim
 .calc b.elim
theorem Qu(c:bH X.prog X.w X.K X.mg X.base d7 k f fd ps (mf G n))(d:aX k X.A)(g:Gl X x)(h:X.mg x=ζ (.ref f))(i:Z3 X.K (.ref f)=θ)(j:Binds X.K fd ps [])
  (l:JA X (e::es) (b_ fa)) (a: ~~~(bF x)) (he:‹b7 X e es›) (b:‹cm X pos es›) :
  JE X (.Call (.Name x p) (e::es) [] pos) (tD (au n G fa)):=(oF c d g h i j .nil l_ l a he b).weak Qs
theorem Qv(c:bH X.prog X.w X.K X.mg X.base d7 k f fd ps (mf G n))(d:aX k X.A)(g:Gl X x)(h:X.mg x=ζ (.ref f))(i:Z3 X.K (.ref f)=θ)(j:Binds X.K fd ps [])
  (l:JA X (e::es) (b_ fa)) (a: ~~~(bF x)) (he:‹b7 X e es›) (b:‹cm X pos es›) :
  JE X (.Call (.Name x p) (e::es) [] pos) (tD (t6 n G fa)):=(oF c d g h i j .nil l_ l a he b).weak Qt
end
end
end L2
namespace PySem
open Sem (wp)
open AutoSeq1 (wpAny_loadPart')
theorem Qw(l:O)(items:Array ν)(n:Nat)(b:Option O)(j:Array (Option ν)):
  Meets (Builtin.«enumerate.__new__» ⟨[.type "enumerate",.ref l],[]⟩) (λ_ R s=>s.heap.get? l=ζ {cls:=.type "tuple",dict:=b,data:=.seq items n,slots:=j} ∧
   R (.ok (.ret (.ref (s.heap.push {cls:=.type "tuple_iterator",data:=.fields #[.ref l,.int 0 0]}).objs.size)))
    {s with heap:=(s.heap.push {cls:=.type "tuple_iterator",data:=.fields #[.ref l,.int 0 0]}).push {cls:=.type "enumerate",data:=.fields #[.none,.bool ι,.ref ⇑s,rawInt 0,.none,.none]}}) :=
 .of_wp λf w A R s h=>by
  let⟨k,g,d,m,o⟩:=s;let⟨a,h⟩:=h;let i:=sub_enumerate;let e:Heap.IsTuple (q55 ⟨k,g,d,m,o⟩) l items:=⟨_,a,Y,n,Y⟩
  wp_walk using q0S a
  calc wpAny_stack_any λp=>y9 ?_;split
  .rename_i c _ _ _ _ _
   cases(c==q2W "enumerate")
   .wp_walk using q0S a,q1V e
    exact⟨_,Y,h⟩
   .wp_walk using q0S a,q1V e
    exact⟨_,Y,h⟩
  .wp_walk using q0S a,q1V e
   calc⟨_,Y,h⟩
section
variable{prog:ψ}{w:ω}{A:Β}{E:br}{s:ο}
theorem Qx{l:O}{items:Array ν}{Q:br}(g:s.heap.IsTuple l items)
  (h:∀h',IsEnum h' (⇑s+1) ⇑s 0 .none->h'.IsTupleIter ⇑s l 0->h'.objs.size=⇑s+2 →
   (∀b o,s.heap.get? b=ζ o->h'.get? b=ζ o)->Q (.ref (⇑s+1)) {s with heap:=h'}) :
  ρ (ς prog w) A (call (.type "enumerate") [.ref l]) Q E s:=by
 let⟨⟨c,a,p,i⟩,j,k,n,m⟩:121:=g;subst k m
 refine callType_new F.called_enumerate (by decide) (F.typeCall_enumerate_1 _) (F.newCall_enumerate_1 _) (λd=>F.args_object_init_2 d _) F.entry_enumerate_new
  (Qw l items n a i) ⟨j,?_⟩
 let e:(s.heap.push {cls:=.type "tuple_iterator",data:=.fields #[.ref l,.int 0 0]}).objs.size=⇑s+1:=q0z ..;rw[e]
 let f:=by
  let:=YA (s.heap.push {cls:=.type "tuple_iterator",data:=.fields #[.ref l,.int 0 0]})
   (o:={cls:=.type "enumerate",data:=.fields #[.none,.bool ι,.ref ⇑s,rawInt 0,.none,.none]}) Y
  rw[e] at this;exact this
 calc⟨⟨_,f,Y⟩,h _ f ⟨_,qc _ (YA _ Y),Y,Y⟩ (by rw[q0z,e]) λb o x=>qc _ (qc _ x)⟩
theorem Qy{b l:O}{i:Nat}{items:Array ν}{x:ν}{Q:br}(a:s.heap.IsTupleIter b l i)(g:s.heap.IsTuple l items)(h:items[i]?=ζ x)
  (j:∀h',h'.IsTupleIter b l (i+1)->q1T b s.heap h'->Q x {s with heap:=h'}):ρ (ς prog w) A (q1x (.ref b)) Q E s:=by
 let⟨o,d,k,c⟩:12:=id a;let⟨m,e,_,n,f⟩:121:=g;calc nh (q0L  a.typeIs q1t (q1r q1t a.typeIs q3f ?_ (q2_ _)));show ρ _ _ (field (.ref b) 0 >>= _) _ _ s;calc nh (q0r d c  Y (nh (q0r d c  Y (nh (q01 e f ?_)))));erw[q0b,h];calc nh (q3u d c (by simp) (y9 ⟨x,Y,y9 (j _ ⟨_,q0H _ d (q2P (q1W c _)),(Obj.cls_mapFields ..).trans k,?_⟩ (q0E ..))⟩));rw[q1W c];simp[rawInt]
theorem Qz{b l:O}{i:Nat}{items:Array ν}{Q:br}(hh:A.handled=η)(a:s.heap.IsTupleIter b l i)(h:s.heap.IsTuple l items)(j:items[i]?=η)
  (k:∀h' e,Heap.ExtBut b s.heap h'->(∃o,h'.get? e=ζ o/\o.cls=.type "StopIteration")->E (.ref e) {s with heap:=h'}):ρ (ς prog w) A (q1x (.ref b)) Q E s:=by
 let⟨o,c,n,d⟩:12:=id a;let⟨p,f,_,q,g⟩:121:=h;calc nh (q0L  a.typeIs q1t (q1r q1t a.typeIs q3f ?_ (q2_ _)));show ρ _ _ (field (.ref b) 0 >>= _) _ _ s;calc nh (q0r c d  Y (nh (q0r c d  Y (nh (q01 f g ?_)))));erw[q0b,j];refine nh (q34 (nh (q3u c d (by simp) (nh (nh (m:=firstArgMember _ _) (wpAny_of_eq  (by first|rfl|(erw[firstArgMember])) (q1C (nh (wpAny_handled ?_)) (by size_fits))))))))
 first|rw[hh]|rw[hh]
 calc nh (y9 (wpAny_throw (k _ _ (((q0E ..).extBut.push _).push _) ⟨_,YA _ Y,Y⟩)))
theorem zO(k:A.handled=η)(b l:O)(f:l≠b)(items:Array ν):Draws prog w A b [b,l] items.size (λi v=>items[i]?=ζ v) (λi h=>h.IsTupleIter b l i/\h.IsTuple l items) where
 live:=λ_ _ a=>let⟨o,m,_⟩:=a.1;⟨o,m⟩
 frame:=λ_ _ _ a g=>⟨a.1.at λo e=>g b (by simp) o e,a.2.at λo e=>g l (by simp) o e⟩
 item:=λi s Q E j a n=>Qy a.1 a.2 (x:=items[i]) (by simp[j]) λp c d=>n _ p s.toks (by simp[j]) ⟨c,a.2.extBut d.extBut f⟩ d
 done:=λs Q E a q=>Qz k a.1 a.2 (by simp) q
end
end PySem
namespace L2
open PySem PySem.Spec PyProof.Rows
section
meta def t_(K:vL)(a:O):It :=
 ⟨λi H=>∃b x,b9 K H a b/\b[i]?=ζ x,λi H x c=>∃T v,x=.ref T/\H T=η/\c=upd H T (.tup [.int (i:Nat),v])/\∀b,b9 K H a b->b[i]?=ζ v,λi H=>∃b,b9 K H a b/\↑b=i⟩
theorem QA{P:ψ}{w:ω}{K:vL}{t:-υ}{x1}{tp:Δ}(a e g:ξ)(n:e≠g)(N:a≠e)(B:a≠g):
  Turn P w K (.Tuple t x1 tp) (t_ K a) [e,g] e (λi h=>(∃c,IsEnum h e g (i:Nat) c)/\h.IsTupleIter g a i) where
 mem:=by simp
 obj:=λi h j b d=>by
  let⟨⟨c,f⟩,o,l,G,hd⟩:0112:=j;rcases OQ.mp d with rfl|d
  .exact⟨_,f,λv z=>by cases z⟩
  .let z:=by simpa using d
   subst z;exact⟨o,l,λv z=>by rw[hd] at z;cases z⟩
 keep:=λi h h' j k=>by
  let⟨⟨c,f⟩,l⟩:=j;exact⟨⟨c,k e (by simp) _ f⟩,l.at λo q=>k g (by simp) o q⟩
 item:=by
  ext X O R S G i C s σ H E I J j T;subst O R S;let⟨⟨c,f⟩,l⟩:=j;let⟨xs,x,L,M⟩:21:=T;let⟨m,U,p,hz⟩:12:=I.tuple L;let⟨u,hu,ru⟩:11:=U.get M;let D:=zO (prog:=X.prog) (w:=X.w) (A:=X.A.in1) (I.ok.hd G) g a B m.toArray;refine wpAny_pyNext_enum_itemD D f ⟨l,p⟩ ((ri.mp hu).1) n (by simp[n,q02 N]) λy h1 tk py V Y Z hsz hk=>⟨_,rfl,?_⟩
  let ey:y=u:=by
   rw[q0Q,hu] at py;cases py;rfl
  subst ey;refine q3q V λh2 QB r=>?_
  let k2:∀b o,b∉[e,g]->s.heap.get? b=ζ o->h2.get? b=ζ o:=λb o d q=>by
   let F:b≠e:=λz=>d (by simp[z]);exact(r.2 _ F).trans (hk b o F (λz=>d (by simp[z])) q)
  refine(zI2 (.ref ⇑s) (upd H ⇑s (.tup [.int i,x])) ⟨I.fZ   J k2 (tm _) ?_,rfl,(zI2 _ x ⟨rfl,(I.bc.fresh (tm _)),rfl,λys hy=>by rw[I.fh hy L];calc M⟩),⟨⟨y,?_⟩,?_⟩,λb d=>?_⟩)
  .exact⟨by show 2<=sizeLine;decide,[.int i tk,y],.cons ⟨_,rfl⟩ (.cons ru .nil),_,((r.2 _ (q1d (OP f))).trans Z),rfl,_,rfl⟩
  .exact QB
  .exact Y.1.at λo q=>(r.2 _ (q02 n)).trans q
  .let:b<⇑s:=by
    let⟨o,q,_⟩:=l;rcases OQ.mp d with rfl|d
    .exact OP f
    .let z:=by simpa using d
     subst z;exact OP q
   rw[aQ (Zy this)];exact(J b d).1
 done:=by
  ext X O R S G i C s σ H E I J j T;subst O R S;let⟨⟨c,f⟩,l⟩:=j;let⟨xs,L,M⟩:11:=T;let⟨m,U,p,hz⟩:12:=I.tuple L;let D:=zO (prog:=X.prog) (w:=X.w) (A:=X.A.in1) (I.ok.hd G) g a B m.toArray;let ua:m.toArray.size=i:=by rw[Gf,<-↑U];exact M
  calc wpAny_pyNext_enum_endD D f (by rw[ua];calc⟨l,p⟩) λh1 eb=>⟨rfl,?_⟩;let⟨f0,f1,f2,f3,f4,f5⟩:05:=J g (by simp);exact I.turned  (λb o d q=>eb b o d q) f0 f1 f3 f4 f5
 self:=λA i s Q E j h=>by
  let⟨⟨c,f⟩,l⟩:=j;calc q1h f h
section
variable{X:Cx}{elts:-υ}{x1:Nat}{tp:Δ}{tg:υ}
def QC(K:vL)(ta:TA):TI:=λd H R=>ta d H λe b=>∃a,e=[.ref a]/\(((∃c,bG K b a c)/\R (rm K a) b)\/((∃c,b9 K b a c)/\R (t_ K a) b))
theorem QD{a:υ}{ta:TA}{p pos:Δ}(C:Gl X "enumerate")(D:X.mg "enumerate" = η)(E:JA X [a] ta)(F:‹starEach [a] X.env=[(ι,eval a X.env)]›):
  JI X (.Tuple elts x1 tp) (.Call (.Name "enumerate" p) [a] [] pos) (QC X.K ta):=by
 calc⟨λc s m H R I h=>Call_ (mT I C D Gq (q0J (bu (E pos c s m H _ I h) λP d ⟨Q,g,f,G,J⟩=>?_) F Y))⟩;let⟨l,e,q⟩:=J;subst e;let⟨u,rfl,L⟩:=vals1 G;cases L
 let B:∀b∈[⇑d+1,⇑d],b3 X c g b:=λb n=>by
  let i:⇑d<=b:=by
   rcases OQ.mp n with rfl|n
   .exact q2u _
   .let z:=by simpa using n
    symm
  exact f.iL i (f.bc.fresh i)
 rcases q with⟨⟨M,r⟩,q⟩|⟨⟨M,r⟩,q⟩
 .let⟨t,N,p,O⟩:=f.list r
  calc q4R p.isList λv j w x y=>?_;let A:Inv X c m g {d with heap:=v}:=f.kept  y;exact q1h j ((zI5 _ _ _ _ g ⟨Y,A,Gp l (⇑d+1) ⇑d (q3T _),⟨⟨_,j⟩,w⟩,B,q⟩))
 .let⟨t,N,p,O⟩:12:=f.tuple r
  let k:l<⇑d:=by let⟨o,e,_⟩:=p;exact OP e
  calc Qx p λv j w x y=>?_;let A:Inv X c m g {d with heap:=v}:=f.kept  y;calc q1h j ((zI5 _ _ _ _ g ⟨Y,A,QA l (⇑d+1) ⇑d (q3T _) (Zy (q0I k)) (Zy k),⟨⟨_,j⟩,w⟩,B,q⟩))
def zP(K:vL)(d:TE):TI:=λe H R=>d e H λx b=>∃a,x=.ref a/\(((∃c,bG K b a c)/\R (Fg K a) b)\/((∃c,b9 K b a c)/\R (Fh K a) b))
theorem QE{l:υ}{k:TE}(n:JE X l k):JI X tg l (zP X.K k):=by
 calc⟨λc s r H R I h=>bu (n c s r H _ I h) ?_⟩;ext v f ⟨x,g,d,t,u⟩;let⟨a,e,q⟩:=u;subst e;cases t
 let m:∀b∈[⇑f],b3 X c g b:=λb w=>by
  let e:=by simpa using w
  subst e;exact d.iL (tm _) (d.bc.fresh (tm _))
 rcases q with⟨⟨y,i⟩,q⟩|⟨⟨y,i⟩,q⟩
 .let⟨j,z,p,A⟩:=d.list i
  exact q1D p.isList (zI5 ⇑f [⇑f] _ _ g ⟨Y,d.kept  λb o e=>qc _ e,Nk a _,⟨_,YA _ Y,Y,Y⟩,m,q⟩)
 .let⟨j,z,p,A⟩:=d.tuple i
  calc q1V (p) (zI5 ⇑f [⇑f] _ _ g ⟨Y,d.kept  λb o e=>qc _ e,Nl a _,⟨_,YA _ Y,Y,Y⟩,m,q⟩)
end
variable[zt:aM]
meta def dO(a:Int)(n:Nat):-D:=(Z1 n).map λi:Nat=>D.int (a+i)
meta def nC:Nat->-D->-D
 |_,[]=>[]
 |i,d::r=>.tup [.int i,d]::nC (i+1) r
meta def dZ:-D->-D->-D
 |a::r,b::s=>.tup [a,b]::dZ r s
 |_,_=>[]
def oN(x:DV)(d:aO)(K:rD->Prop):Prop:=match x with
 |.p (.lst b)=>K ⟨b,λ_=>True⟩
 |.p (.tup b)=>K ⟨b,λ_=>True⟩
 |.o k=>match d.mu[k]? with
  |some (some (.lst b))=>K ⟨b,λc=>c.mu[k]?=ζ (ζ (.lst b))⟩
  |some (some (.al a b))=>K ⟨b,λc=>c.mu[k]?=ζ (ζ (.al a b))⟩
  |_=>False
 |_=>False
def cN(f:WE):WI:=λb K=>f b λx a=>oN x a λc=>K c a
def mi(b:WA):WI:=λc K=>b c λd a=>match d with
 |[.p (.int j)]=>(-(2 ^ 62)<=j/\j<2 ^ 62)/\K ⟨dO 0 j.toNat,λ_=>True⟩ a
 |_=>False
def zQ(b:WA):WI:=λc K=>b c λd a=>match d with
 |[.p (.int i),.p (.int j)]=>(-(2 ^ 62)<=i/\i<2 ^ 62 /\ -(2 ^ 62)<=j/\j<2 ^ 62)/\K ⟨dO i (j-i).toNat,λ_=>True⟩ a
 |_=>False
def qt(c:WA):WI:=λd K=>c d λe a=>match e with
 |[x]=>oN x a λb=>K ⟨nC 0 b.items,b.ft⟩ a
 |_=>False
def zR(x:DV)(d:aO)(K:rD->Prop):Prop:=match x with
 |.p (.lst b)=>K ⟨b,λ_=>True⟩
 |.o k=>match d.mu[k]? with
  |some (some (.lst b))=>K ⟨b,λc=>c.mu[k]?=ζ (ζ (.lst b))⟩
  |some (some (.al a b))=>K ⟨b,λc=>c.mu[k]?=ζ (ζ (.al a b))⟩
  |_=>False
 |_=>False
theorem mj{b n i d}(h:(dO b n)[i]?=ζ d):i<n/\d=.int (b+i):=by
 unfold dO at h;rw[OS] at h;let⟨j,e,rfl⟩:=YE.mp h;let a:=(ri.mp e).1;rw[q0u] at a;rw[q0C a] at e;cases e
 calc⟨a,Y⟩
theorem kH a n:↑(dO a n)=n:=by unfold dO;rw[qa,q0u]
theorem zS:∀ds i,↑(nC i ds)=↑ds
 |[],_=>Y
 |d::r,i=>by rw[nC,Ge,Ge,zS r]
theorem v9:∀{ds}{k i:Nat}{d},(nC k ds)[i]?=ζ d->∃e,ds[i]?=ζ e/\d=.tup [.int ((k+i:Nat):Int),e]
 |[],k,i,d,h=>by simp[nC] at h
 |e::r,k,0,d,h=>by
  cases(by simpa[nC] using h)
  exact⟨e,Y,Y⟩
 |e::r,k,i+1,d,h=>by
  let⟨a,b,c⟩:=v9     (by simpa[nC] using h);calc⟨a,by simpa using b,by rw[c];congr 4;symm⟩
theorem Hd:∀{as c}{i:Nat}{d},(dZ as c)[i]?=ζ d->∃a b,as[i]?=ζ a/\c[i]?=ζ b/\d=.tup [a,b]
 |[],_,i,d,h=>by simp[dZ] at h
 |_::_,[],i,d,h=>by simp[dZ] at h
 |a::r,b::s,0,d,h=>by
  cases(by simpa[dZ] using h)
  exact(zI2 a b ⟨Y,Y,Y⟩)
 |a::r,b::s,i+1,d,h=>by
  let⟨x,y,e,f,g⟩:22:=Hd     (by simpa[dZ] using h);calc(zI2 x y ⟨by simpa using e,by simpa using f,g⟩)
theorem v_:∀as c,↑(dZ as c)=min ↑as ↑c
 |[],_=>by simp[dZ]
 |_::_,[]=>by simp[dZ]
 |a::r,b::s=>by rw[dZ,Ge,Ge,Ge,v_ r s];symm
section
variable{X:Cx}{tg l a b:υ}{f:WE}{fa:WA}{F H:Hp}{ad:-O}{δ:aO}{σ:St}
theorem JI.weak{a w d}(h:JI X tg a w)(k:∀b H R,d b H R->w b H R):JI X tg a d:=⟨λc s b H R I q=>h c s b H R I (k b H R q)⟩
theorem nD{ds vs}(h:aq F ds vs){i:Nat}{d}(e:ds[i]?=ζ d):∃v,vs[i]?=ζ v/\Is F d v:=by
 let a:i<↑vs:=by rw[↑h];exact(ri.mp e).1
 let⟨d',b,c⟩:=h.get (p_ a);rw[e] at b;cases b;calc⟨_,p_ a,c⟩
theorem He{x v K}(S:SR F ad δ σ H)(p:dB F ad x v)(h:zR x δ K):∃a q,v=.ref a/\K q/\(∃vs,H a=ζ (.lst vs)) ∧
  ∀F' c d f H',aI F F'->(∀(k:Nat) a,ad[k]?=ζ a->c[k]?=ζ a)->SR F' c d f H'->q.ft d->∃vs,H' a=ζ (.lst vs)/\aq F' q.items vs:=by
 unfold zR at h;split at h
 .let⟨a,i,rfl,C,D⟩:22:=p
  exact(zI2 a _ ⟨Y,h,⟨i,S.sub _ _ C⟩,λA c d f B s _ j _=>⟨i,j.sub _ _ (s _ _ C),D.same s⟩⟩)
 .rename_i k
  split at h
  .rename_i E e
   let⟨a,l,rfl⟩:11:=p;let⟨a',o,m,r,i,rfl,G⟩:2211:=S.mu k _ e;rw[l] at m;cases m;calc(zI2 a _ ⟨Y,h,⟨i,r⟩,λA c d f B _ g j t=>?_⟩);let⟨QF,o,n,u,w,rfl,y⟩:2211:=j.mu k _ t;rw[g k a l] at n;cases n;exact⟨w,u,y⟩
  .rename_i b E e
   let⟨a,l,rfl⟩:=p;let⟨a',o,m,r,z,i,rfl,G⟩:2311:=S.mu k _ e;rw[l] at m;cases m;calc(zI2 a _ ⟨Y,h,⟨i,r⟩,λA c d f B _ g j t=>?_⟩);let⟨QF,o,n,u,_,w,rfl,y⟩:2311:=j.mu k _ t;rw[g k a l] at n;cases n;exact⟨w,u,y⟩
  .exact h.elim
 .calc h.elim
theorem zT{x v K}(S:SR F ad δ σ H)(g:dB F ad x v)(h:oN x δ K):∃a d,v=.ref a/\K d ∧
  (((∃vs,H a=ζ (.lst vs))/\∀F' b c f H',aI F F'->(∀(k:Nat) a,ad[k]?=ζ a->b[k]?=ζ a)->SR F' b c f H'->d.ft c->∃vs,H' a=ζ (.lst vs)/\aq F' d.items vs) ∨
  ((∃vs,H a=ζ (.tup vs))/\∀F' b c f H',aI F F'->(∀(k:Nat) a,ad[k]?=ζ a->b[k]?=ζ a)->SR F' b c f H'->d.ft c->∃vs,H' a=ζ (.tup vs)/\aq F' d.items vs)):=by
 unfold oN at h;split at h
 .let⟨a,d,e,k,r⟩:=He  S g h
  exact⟨a,d,e,k,.inl r⟩
 .let⟨a,i,rfl,j,l⟩:=g
  exact⟨a,_,Y,h,.inr ⟨⟨i,S.sub _ _ j⟩,λn b c f o s _ m _=>⟨i,m.sub _ _ (s _ _ j),l.same s⟩⟩⟩
 .let⟨a,d,e,k,r⟩:=He  S g h
  exact⟨a,d,e,k,.inl r⟩
 .calc h.elim
theorem oO(M:JE X l (tD f)):JI X tg l (jQ (cN f)):=(QE M).weak λV H R ⟨F,N,O,K,S,q,k⟩=>⟨F,N,O,_,S,q,λx P Q v W T Y J t U=>by
 let⟨a,Z,rfl,L,r⟩:22:=zT t U Q;calc⟨a,rfl,?_⟩;rcases r with⟨⟨u,e⟩,r⟩|⟨⟨u,e⟩,r⟩
 .refine .inl ⟨⟨u,bG.of e⟩,k _ _ L _ _ _ _ J t λz b c g A s h n B=>?_⟩
  let⟨j,m,o⟩:=r z b c g A s h n B;calc⟨⟨j,bG.of m,by rw[↑o];calc tm _⟩,λi d C=>?_⟩;let⟨w,p,D⟩:=nD o C;calc⟨⟨j,w,bG.of m,p⟩,?_⟩;ext y E ⟨G,I⟩;subst G;calc⟨λ_ _ e=>e,?_⟩;let:=I j (bG.of m);rw[p] at this;cases this;rw[Nw.refl n.sub];exact D
 .refine .inr ⟨⟨u,b9.of e⟩,k _ _ L _ _ _ _ J t λz b c g A s h n B=>?_⟩
  let⟨j,m,o⟩:=r z b c g A s h n B;calc⟨⟨j,b9.of m,by rw[↑o];calc tm _⟩,λi d C=>?_⟩;let⟨w,p,D⟩:=nD o C;calc⟨⟨j,w,b9.of m,p⟩,?_⟩;ext y E ⟨G,I⟩;subst G;calc⟨λ_ _ e=>e,?_⟩;let:=I j (b9.of m);rw[p] at this;cases this
  rw[Nw.refl n.sub];calc D⟩
theorem zU{F H T d e x y}(s:aI F H)(a:H T=η)(c:Is F d x)(f:Is F e y):Is (Nw F H (upd H T (.tup [x,y]))) (.tup [d,e]) (.ref T):=by
 rw[Nw.upd s a]
 let g:F T=η:=by
  cases q:F T with
  |none=>rfl
  |some u=>rw[s T u q] at a;cases a
 let b:aI F (upd F T (.tup [x,y])):=cK g;calc(zI2 T _ ⟨Y,bN,.cons (c.same b) (.cons (f.same b) .nil)⟩)
theorem QG{m:-υ}{Q:Nat}{U p pos:Δ}(V:Gl X "enumerate")(W:X.mg "enumerate" = η)(Y:JA X [a] (b_ fa))(Z:‹starEach [a] X.env=[(ι,eval a X.env)]›):
  JI X (.Tuple m Q U) (.Call (.Name "enumerate" p) [a] [] pos) (jQ (qt fa)):=(QD V W Y Z).weak fun σ H R ⟨F,ad,δ,K,S,q,k⟩=>⟨F,ad,δ,_,S,q,λxs δ1 n A F1 ml H1 O B V1=>by
 match xs,n,V1 with
 |[x],g1,⟨v,r,e,W1,W2⟩ =>
  subst e W2;let⟨a,it,rfl,P,r⟩:22:=zT B W1 g1;calc⟨a,rfl,?_⟩;rcases r with⟨⟨A,e⟩,r⟩|⟨⟨A,e⟩,r⟩
  .refine .inl ⟨⟨A,bG.of e⟩,k _ _ P _ _ _ _ O B λC b c f D s g o E=>?_⟩
   let⟨h,j,t⟩:=r C b c f D s g o E;calc⟨⟨h,bG.of j,by rw[↑t,zS];calc tm _⟩,λi d G=>?_⟩;let⟨d',l,rfl⟩:=v9 G;let⟨w,u,I⟩:=nD t l;calc⟨⟨h,w,bG.of j,u⟩,?_⟩;ext y J ⟨T,v,L,z,M,N⟩;subst M L;let:=N h (bG.of j);rw[u] at this;cases this;calc⟨cK z,?_⟩;rw[q0p];exact zU o.sub z rfl I
  .refine .inr ⟨⟨A,b9.of e⟩,k _ _ P _ _ _ _ O B λC b c f D s g o E=>?_⟩
   let⟨h,j,t⟩:=r C b c f D s g o E;calc⟨⟨h,b9.of j,by rw[↑t,zS]⟩,λi d G=>?_⟩;let⟨d',l,rfl⟩:=v9 G;let⟨w,u,I⟩:=nD t l;calc⟨⟨h,w,b9.of j,u⟩,?_⟩;ext y J ⟨T,v,L,z,M,N⟩;subst M L;let:=N h (b9.of j);rw[u] at this;cases this;calc⟨cK z,?_⟩;rw[q0p];exact zU o.sub z rfl I
 |[],n,_=>exact n.elim
 |_::_::_,n,_=>calc n.elim⟩
theorem Hf{c:Hp}{a:-O}{b:Int}{n:Nat}:qm c a ⟨dO b n,λ_=>True⟩ (sQ b n):=λq f g h r s j t _=>by
 calc⟨by rw[kH];calc tm _,λi d k=>?_⟩;let⟨l,rfl⟩:01:=mj k;calc⟨l,?_⟩;ext x m ⟨o,p⟩;subst o p;calc⟨λ_ _ e=>e,Y⟩
theorem wa{p pos:Δ}(d:Gl X "range")(f:X.mg "range" = η)(g:JA X [a] (b_ fa))(h:‹starEach [a] X.env=[(ι,eval a X.env)]›):JI X tg (.Call (.Name "range" p) [a] [] pos) (jQ (mi fa)) :=
 (Nq d f g h).weak λu H R ⟨F,i,l,K,S,q,k⟩↦⟨F,i,l,_,S,q,λw m b x y n z o s c=>by
  split at b
  .rename_i j
   let⟨v,r,e,c,t⟩:22:=c;subst t c e;exact⟨j,Y,b.1.1,b.1.2,k _ _ b.2 _ _ _ _ o s Hf⟩
  .calc b.elim⟩
theorem QH{p pos:Δ}(g:Gl X "range")(h:X.mg "range" = η)(l:JA X [a,b] (b_ fa))(m:‹starEach [a,b] X.env=[(ι,eval a X.env),(ι,eval b X.env)]›)(d:‹starEach [b] X.env=[(ι,eval b X.env)]›):
  JI X tg (.Call (.Name "range" p) [a,b] [] pos) (jQ (zQ fa)) :=
 (Nr g h l m d).weak λB H R ⟨F,n,o,K,S,q,k⟩↦⟨F,n,o,_,S,q,λC s c D E t G u x f=>by
  split at c
  .rename_i i j
   let⟨v,r,e,f,w,I,y,z,A⟩:2222:=f;subst A f z y e;exact(zI2 i j ⟨Y,c.1,k _ _ c.2 _ _ _ _ u x Hf⟩)
  .calc c.elim⟩
end
end
section
mutual
noncomputable def aE (d e:D):Bool:=match d with
 |.non=>(match e with|.non=>θ|_=>ι)
 |.bl a=>(match e with|.bl b=>a==b|.int b=>(if a then 1 else 0)==b|_=>ι)
 |.int a=>(match e with|.bl b=>a==(if b then 1 else 0)|.int b=>a==b|_=>ι)
 |.str a=>(match e with|.str b=>a==b|_=>ι)
 |.tup a=>(match e with|.tup b=>dq a b|_=>ι)
 |.lst a=>(match e with|.lst b=>dq a b|_=>ι)
noncomputable def dq:-D->-D->Bool
 |[],[]=>θ
 |a::r,b::s=>aE a b&&dq r s
 |_,_=>ι
end
mutual
theorem e8:∀d:D,aE d d=θ
 |.non=>by simp[aE]
 |.bl a=>by simp[aE]
 |.int a=>by simp[aE]
 |.str a=>by simp[aE]
 |.tup a=>by erw[aE];exact zV a
 |.lst a=>by erw[aE];calc zV a
theorem zV:∀ds:-D,dq ds ds=θ
 |[]=>by simp[dq]
 |d::r=>by erw[dq,e8 d,zV r,q3K]
end
mutual
theorem Is.inj {H:Hp}:∀{d e:D}{v:V},Is H d v->Is H e v->d=e
 |.non,e,v,h,q=>by cases e<;>erw[Is] at h q<;>first|rfl|(subst h;first|(let⟨_,_,z,_⟩:=q;cases z;done)|(cases q;done)|(cases q;rfl))
 |.bl a,e,v,h,q=>by cases e<;>erw[Is] at h q<;>(subst h;first|(let⟨_,_,z,_⟩:=q;cases z;done)|(cases q;done)|(cases q;rfl))
 |.int a,e,v,h,q=>by cases e<;>erw[Is] at h q<;>(subst h;first|(let⟨_,_,z,_⟩:=q;cases z;done)|(cases q;done)|(cases q;rfl))
 |.str a,e,v,h,q=>by cases e<;>erw[Is] at h q<;>(subst h;first|(let⟨_,_,z,_⟩:=q;cases z;done)|(cases q;done)|(cases q;rfl))
 |.tup a,e,v,h,q=>by
  erw[Is] at h;let⟨p,vs,rfl,f,i⟩:=h
  cases e with
  |tup b =>
   erw[Is] at q;let⟨p',ws,z,c,g⟩:=q;cases z
   rw[f] at c;cases c;rw[aq.inj i g]
  |lst b =>
   erw[Is] at q;let⟨p',ws,z,c,g⟩:=q;cases z
   rw[f] at c;cases c
  |non=>erw[Is] at q;cases q
  |bl _=>erw[Is] at q;cases q
  |int _=>erw[Is] at q;cases q
  |str _=>erw[Is] at q;cases q
 |.lst a,e,v,h,q=>by
  erw[Is] at h;let⟨p,vs,rfl,f,i⟩:=h
  cases e with
  |lst b =>
   erw[Is] at q;let⟨p',ws,z,c,g⟩:=q;cases z
   rw[f] at c;cases c;rw[aq.inj i g]
  |tup b =>
   erw[Is] at q;let⟨p',ws,z,c,g⟩:=q;cases z
   rw[f] at c;cases c
  |non=>erw[Is] at q;cases q
  |bl _=>erw[Is] at q;cases q
  |int _=>erw[Is] at q;cases q
  |str _=>erw[Is] at q;cases q
theorem aq.inj {H:Hp}:∀{ds es:-D}{vs:-V},aq H ds vs->aq H es vs->ds=es
 |[],es,vs,h,q=>by
  erw[aq] at h;subst h
  cases es with
  |nil=>rfl
  |cons _ _=>erw[aq] at q;let⟨_,_,z,_⟩:=q;cases z
 |d::ds,es,vs,h,q=>by
  erw[aq] at h;let⟨v,r,rfl,f,i⟩:=h
  cases es with
  |nil=>erw[aq] at q;cases q
  |cons e es =>
   erw[aq] at q;let⟨v',r',z,c,g⟩:=q;cases z
   rw[Is.inj f c,aq.inj i g]
end
theorem ub:∀{ds es},↑ds≠↑es->dq ds es=ι
 |[],[],h=>absurd Y h
 |[],_::_,_=>by simp[dq]
 |_::_,[],_=>by simp[dq]
 |d::r,e::s,h=>by erw[dq];rw[ub (λz=>h (by rw[Ge,Ge,z])),q2H]
meta def qu(ds es:-D)(j:Nat):Bool:=match ds[j]?,es[j]? with
 |some a,some b=>aE a b
 |_,_=>θ
theorem uc:∀{ds es},↑ds=↑es->(Z1 ↑ds).all (qu ds es)=dq ds es
 |[],[],_=>by simp[dq]
 |[],_::_,h=>by simp at h
 |_::_,[],h=>by simp at h
 |d::r,e::s,h=>by
  rw[Ge,List.range_succ_eq_map,q3H,q7x];erw[dq];rw[<-(uc   h⁻¹)];rfl
section
variable{X:Cx}{pins:aF}{σ:St}{H:Hp}{s:ο}
theorem wc{vs a}(r:Vals vs a){j:Nat} h:∃v,vs[j]?=ζ v/\RelV v a.toArray[j]:=by
 let c:=by simpa using h
 let b:j<↑vs:=by rw[↑r];exact c
 let⟨u,e,d⟩:=r.get (p_ b)
 let:a.toArray[j]=u:=by
  let:=(ri.mp e).2;simpa using this
 rw[this];calc⟨_,p_ b,d⟩
theorem d3(I:Inv X pins σ H s){a vs}(h:H a=ζ (.lst vs)):∃b:-ν,Vals vs b/\s.heap.IsList a b.toArray:=by
 let⟨b,r,p,_⟩:12:=I.list (bG.of h);calc⟨b,r,p.isList⟩
theorem d4(I:Inv X pins σ H s){a vs}(h:H a=ζ (.tup vs)):∃b:-ν,Vals vs b/\s.heap.IsTuple a b.toArray:=by
 let⟨b,r,p,_⟩:12:=I.tuple (b9.of h);calc⟨b,r,p⟩
theorem in1_units(A:Β):A.in1.units=A.units+1:=rfl
theorem zW(I:Inv X pins σ H s):∀(n:Nat){A:Β}{d e:D}{v u:V}{x y:ν},dep d<=n->A.units+n<cLine->Is H d v->Is H e u->RelV v x->RelV u y->q2U A s x y (aE d e)/\q6x A s x y (aE d e):=by
 ext n
 induction n with
 |zero =>
  ext A d e v u x y P Y r h z f;let g:A.units<cLine:=by symm
  cases d with
  |tup o=>simp[dep] at P
  |lst o=>simp[dep] at P
  |non =>
   cases(show v=.non from r);cases z
   cases e with
   |non=>cases(show u=.non from h);cases f;erw[aE];exact⟨q29 _,SeqAt.RcAt.none_none⟩
   |bl b=>cases(show u=.bl b from h);cases f;erw[aE];exact⟨q4w _,SeqAt.RcAt.none_bool _⟩
   |int b=>cases(show u=.int b from h);let⟨t,rfl⟩:=f;erw[aE];exact⟨q4J _ _,SeqAt.RcAt.none_int _ _⟩
   |str b=>cases(show u=.str b from h);let⟨t,rfl⟩:=f;erw[aE];exact⟨q4K _ _,SeqAt.RcAt.none_str _ _⟩
   |tup k=>erw[Is] at h;let⟨a,w,rfl,m,_⟩:=h;cases f;let⟨_,_,p⟩:=d4 I m;erw[aE];exact⟨SeqAt.EqAt.none_tuple p g,SeqAt.RcAt.none_tuple p g⟩
   |lst k=>erw[Is] at h;let⟨a,w,rfl,m,_⟩:=h;cases f;let⟨_,_,p⟩:=d3 I m;erw[aE];exact⟨SeqAt.EqAt.none_list p g,SeqAt.RcAt.none_list p g⟩
  |bl G =>
   cases(show v=.bl G from r);cases z
   cases e with
   |non=>cases(show u=.non from h);cases f;erw[aE];exact⟨q4x _,SeqAt.RcAt.bool_none _⟩
   |bl b=>cases(show u=.bl b from h);cases f;erw[aE];exact⟨q4y _ _,SeqAt.RcAt.bool_bool _ _⟩
   |int b=>cases(show u=.int b from h);let⟨t,rfl⟩:=f;erw[aE];exact⟨q4L _ _ _,SeqAt.RcAt.bool_int _ _ _⟩
   |str b=>cases(show u=.str b from h);let⟨t,rfl⟩:=f;erw[aE];exact⟨q4M _ _ _,SeqAt.RcAt.bool_str _ _ _⟩
   |tup k=>erw[Is] at h;let⟨a,w,rfl,m,_⟩:=h;cases f;let⟨_,_,p⟩:=d4 I m;erw[aE];exact⟨SeqAt.EqAt.bool_tuple _ p g,SeqAt.RcAt.bool_tuple _ p g⟩
   |lst k=>erw[Is] at h;let⟨a,w,rfl,m,_⟩:=h;cases f;let⟨_,_,p⟩:=d3 I m;erw[aE];exact⟨SeqAt.EqAt.bool_list _ p g,SeqAt.RcAt.bool_list _ p g⟩
  |int G =>
   cases(show v=.int G from r);let⟨Z,rfl⟩:=z
   cases e with
   |non=>cases(show u=.non from h);cases f;erw[aE];exact⟨q4N _ _,SeqAt.RcAt.int_none _ _⟩
   |bl b=>cases(show u=.bl b from h);cases f;erw[aE];exact⟨q4O _ _ _,SeqAt.RcAt.int_bool _ _ _⟩
   |int b=>cases(show u=.int b from h);let⟨t,rfl⟩:=f;erw[aE];exact⟨q3n _ _ _ _,SeqAt.RcAt.int_int _ _ _ _⟩
   |str b=>cases(show u=.str b from h);let⟨t,rfl⟩:=f;erw[aE];exact⟨q3j _ _ _ _,SeqAt.RcAt.int_str _ _ _ _⟩
   |tup k=>erw[Is] at h;let⟨a,w,rfl,m,_⟩:=h;cases f;let⟨_,_,p⟩:=d4 I m;erw[aE];exact⟨SeqAt.EqAt.int_tuple _ _ p g,SeqAt.RcAt.int_tuple _ _ p g⟩
   |lst k=>erw[Is] at h;let⟨a,w,rfl,m,_⟩:=h;cases f;let⟨_,_,p⟩:=d3 I m;erw[aE];exact⟨SeqAt.EqAt.int_list _ _ p g,SeqAt.RcAt.int_list _ _ p g⟩
  |str G =>
   cases(show v=.str G from r);let⟨Z,rfl⟩:=z
   cases e with
   |non=>cases(show u=.non from h);cases f;erw[aE];exact⟨q4P _ _,SeqAt.RcAt.str_none _ _⟩
   |bl b=>cases(show u=.bl b from h);cases f;erw[aE];exact⟨q4Q _ _ _,SeqAt.RcAt.str_bool _ _ _⟩
   |int b=>cases(show u=.int b from h);let⟨t,rfl⟩:=f;erw[aE];exact⟨q3k _ _ _ _,SeqAt.RcAt.str_int _ _ _ _⟩
   |str b=>cases(show u=.str b from h);let⟨t,rfl⟩:=f;erw[aE];exact⟨q5c _ _ _ _,SeqAt.RcAt.str_str _ _ _ _⟩
   |tup k=>erw[Is] at h;let⟨a,w,rfl,m,_⟩:=h;cases f;let⟨_,_,p⟩:=d4 I m;erw[aE];exact⟨SeqAt.EqAt.str_tuple _ _ p g,SeqAt.RcAt.str_tuple _ _ p g⟩
   |lst k=>erw[Is] at h;let⟨a,w,rfl,m,_⟩:=h;cases f;let⟨_,_,p⟩:=d3 I m;erw[aE];exact⟨SeqAt.EqAt.str_list _ _ p g,SeqAt.RcAt.str_list _ _ p g⟩
 |succ n Q =>
  ext A d e v u x y P Y r hw z f;let g:A.units<cLine:=by symm
  let K:∀{o k:-D}{w L:-V}{q i:-ν}(J:Vals w q)(B:Vals L i),bo o<=n->aq H o w->aq H k L →
    ∀(j:Nat)(m:j<q.toArray.size)(C:j<i.toArray.size),q2U A.in1 s q.toArray[j] i.toArray[j] (qu o k j):=λ{o k w L q i} J B R M F j m C=>by
   let⟨v1,e1,q1⟩:11:=wc J m;let⟨v2,e2,q2⟩:=wc B C;let⟨d1,W,g1⟩:=M.get e1;let⟨d2,f2,g2⟩:=F.get e2;unfold qu;rw[W,f2];exact(Q (Z0 (zq W) R) (by rw[in1_units];symm) g1 g2 q1 q2).1
  cases d with
  |tup o =>
   let R:bo o<=n:=by erw[dep] at P;symm
   let N:=r;erw[Is] at r;let⟨a,w,rfl,m,M⟩:=r;cases z
   let⟨q,J,l⟩:=d4 I m
   cases e with
   |tup k =>
    let O:=hw;erw[Is] at hw;let⟨b,L,rfl,C,F⟩:=hw;cases f
    let⟨i,B,E⟩:=d4 I C
    let S:q6x A s (.ref a) (.ref b) (aE (.tup o) (.tup k)):=by
     let:=SeqAt.RcAt.tuples l E g (K J B R M F);let T:q.toArray.size=↑o:=by rw[Gf,<-↑J,↑M]
     let U:i.toArray.size=k.length:=by rw[Gf,<-↑B,↑F]
     rw[T,U] at this
     let eb:((Z1 (min ↑o k.length)).all (qu o k)&&↑o==k.length)=aE (.tup o) (.tup k):=by
      erw[aE]
      by_cases c:↑o=k.length
      .rw[<-c,q35,uc c];simp
      .rw[ub c];simp[c]
     rw[eb] at this;exact this
    refine⟨?_,S⟩
    by_cases c:a=b
    .subst c
     let:=Is.inj N O;rw[this,e8];exact q29 _
    .exact q5h c S
   |lst k =>
    erw[Is] at hw;let⟨b,L,rfl,C,F⟩:=hw;cases f
    let⟨i,B,E⟩:=d3 I C;erw[aE];exact⟨SeqAt.EqAt.tuple_list l E g,SeqAt.RcAt.tuple_list l E g⟩
   |non=>cases(show u=.non from hw);cases f;erw[aE];exact⟨SeqAt.EqAt.tuple_none l g,SeqAt.RcAt.tuple_none l g⟩
   |bl b=>cases(show u=.bl b from hw);cases f;erw[aE];exact⟨SeqAt.EqAt.tuple_bool _ l g,SeqAt.RcAt.tuple_bool _ l g⟩
   |int b=>cases(show u=.int b from hw);let⟨t,rfl⟩:=f;erw[aE];exact⟨SeqAt.EqAt.tuple_int _ _ l g,SeqAt.RcAt.tuple_int _ _ l g⟩
   |str b=>cases(show u=.str b from hw);let⟨t,rfl⟩:=f;erw[aE];exact⟨SeqAt.EqAt.tuple_str _ _ l g,SeqAt.RcAt.tuple_str _ _ l g⟩
  |lst o =>
   let R:bo o<=n:=by erw[dep] at P;symm
   let N:=r;erw[Is] at r;let⟨a,w,rfl,m,M⟩:=r;cases z
   let⟨q,J,l⟩:=d3 I m
   cases e with
   |lst k =>
    let O:=hw;erw[Is] at hw;let⟨b,L,rfl,C,F⟩:=hw;cases f
    let⟨i,B,E⟩:=d3 I C;let T:q.toArray.size=↑o:=by rw[Gf,<-↑J,↑M]
    let U:i.toArray.size=k.length:=by rw[Gf,<-↑B,↑F]
    let S:q6x A s (.ref a) (.ref b) (aE (.lst o) (.lst k)):=by
     by_cases c:↑o=k.length
     .let:=SeqAt.RcAt.lists l E (by rw[T,U];calc c) g (K J B R M F)
      rw[T,uc c] at this;erw[aE];exact this
     .erw[aE];rw[ub c]
      exact SeqAt.RcAt.lists_lengths l E (by rw[T,U];simpa using c) g
    refine⟨?_,S⟩
    by_cases c:a=b
    .subst c
     let:=Is.inj N O;rw[this,e8];exact q29 _
    .exact q5h c S
   |tup k =>
    erw[Is] at hw;let⟨b,L,rfl,C,F⟩:=hw;cases f
    let⟨i,B,E⟩:=d4 I C;erw[aE];exact⟨SeqAt.EqAt.list_tuple l E g,SeqAt.RcAt.list_tuple l E g⟩
   |non=>cases(show u=.non from hw);cases f;erw[aE];exact⟨SeqAt.EqAt.list_none l g,SeqAt.RcAt.list_none l g⟩
   |bl b=>cases(show u=.bl b from hw);cases f;erw[aE];exact⟨SeqAt.EqAt.list_bool _ l g,SeqAt.RcAt.list_bool _ l g⟩
   |int b=>cases(show u=.int b from hw);let⟨t,rfl⟩:=f;exact⟨SeqAt.EqAt.list_int _ _ l g,SeqAt.RcAt.list_int _ _ l g⟩
   |str b=>cases(hw);let⟨t,rfl⟩:=f;exact⟨SeqAt.EqAt.list_str _ _ l g,SeqAt.RcAt.list_str _ _ l g⟩
  |non=>exact Q (by simp[dep]) ⋯ r hw z f
  |bl G=>exact Q (by simp[dep]) ⋯ r hw z f
  |int G=>exact Q (by simp[dep]) ⋯ r hw z f
  |str G=>calc Q (by simp[dep]) ⋯ r hw z f
theorem QI(I:Inv X pins σ H s){A:Β}{d e:D}{v u:V}{x y:ν}(hd:dep d<=60)(hu:A.units+61<cLine)(z:Is H d v)(hw:Is H e u)(J:RelV v x)(f:RelV u y):SeqAt.RcNeAt A s x y (!aE d e):=by
 let k:A.units<cLine:=by symm
 let C:∀{m h:-D}{o F:-V}{l g:-ν}(B:Vals o l)(q:Vals F g),bo m<=59->aq H m o->aq H h F →
   ∀(j:Nat)(i:j<l.toArray.size)(r:j<g.toArray.size),q2U A.in1 s l.toArray[j] g.toArray[j] (qu m h j):=λ{m h o F l g} B q K G w j i r=>by
  let⟨v1,P,Q⟩:11:=wc B i;let⟨v2,R,S⟩:=wc q r;let⟨d1,O,T⟩:=G.get P;let⟨d2,U,W⟩:=w.get R;unfold qu;rw[O,U];exact(zW I 59 (Z0 (zq O) K) (by rw[in1_units];symm) T W Q S).1
 cases d with
 |tup m =>
  let K:bo m<=59:=by erw[dep] at hd;symm
  erw[Is] at z;let⟨a,o,rfl,i,G⟩:=z;cases J
  let⟨l,B,n⟩:=d4 I i
  cases e with
  |tup h =>
   erw[Is] at hw;let⟨b,F,rfl,r,w⟩:=hw;cases f
   let⟨g,q,E⟩:=d4 I r;let:=SeqAt.RcNeAt.tuples n E k (C B q K G w);let L:l.toArray.size=↑m:=by rw[Gf,<-↑B,↑G]
   let N:g.toArray.size=↑h:=by rw[Gf,<-↑q,↑w]
   rw[L,N] at this
   let Y:((Z1 (min ↑m ↑h)).all (qu m h)&&↑m==↑h)=aE (.tup m) (.tup h):=by
    erw[aE]
    by_cases c:↑m=↑h
    .rw[<-c,q35,uc c];simp
    .rw[ub c];simp[c]
   rw[Y] at this;exact this
  |lst h=>erw[Is] at hw;let⟨b,F,rfl,r,w⟩:=hw;cases f;let⟨g,q,E⟩:=d3 I r;erw[aE];exact SeqAt.RcNeAt.tuple_list n E k
  |non=>cases(show u=.non from hw);cases f;erw[aE];exact SeqAt.RcNeAt.tuple_none n k
  |bl b=>cases(show u=.bl b from hw);cases f;erw[aE];exact SeqAt.RcNeAt.tuple_bool _ n k
  |int b=>cases(show u=.int b from hw);let⟨t,rfl⟩:=f;erw[aE];exact SeqAt.RcNeAt.tuple_int _ _ n k
  |str b=>cases(show u=.str b from hw);let⟨t,rfl⟩:=f;erw[aE];exact SeqAt.RcNeAt.tuple_str _ _ n k
 |lst m =>
  let K:bo m<=59:=by erw[dep] at hd;symm
  erw[Is] at z;let⟨a,o,rfl,i,G⟩:=z;cases J
  let⟨l,B,n⟩:=d3 I i
  cases e with
  |lst h =>
   erw[Is] at hw;let⟨b,F,rfl,r,w⟩:=hw;cases f
   let⟨g,q,E⟩:=d3 I r;let L:l.toArray.size=↑m:=by rw[Gf,<-↑B,↑G]
   let N:g.toArray.size=↑h:=by rw[Gf,<-↑q,↑w]
   by_cases c:↑m=↑h
   .let:=SeqAt.RcNeAt.lists n E (by rw[L,N];calc c) k (C B q K G w)
    rw[L,uc c] at this;erw[aE];exact this
   .erw[aE];rw[ub c]
    exact SeqAt.RcNeAt.lists_lengths n E (by rw[L,N];simpa using c) k
  |tup h=>erw[Is] at hw;let⟨b,F,rfl,r,w⟩:=hw;cases f;let⟨g,q,E⟩:=d4 I r;erw[aE];exact SeqAt.RcNeAt.list_tuple n E k
  |non=>cases(show u=.non from hw);cases f;erw[aE];exact SeqAt.RcNeAt.list_none n k
  |bl b=>cases(show u=.bl b from hw);cases f;erw[aE];exact SeqAt.RcNeAt.list_bool _ n k
  |int b=>cases(show u=.int b from hw);let⟨t,rfl⟩:=f;erw[aE];exact SeqAt.RcNeAt.list_int _ _ n k
  |str b=>cases(show u=.str b from hw);let⟨t,rfl⟩:=f;erw[aE];exact SeqAt.RcNeAt.list_str _ _ n k
 |non =>
  cases(show v=.non from z);cases J
  cases e with
  |non=>cases(show u=.non from hw);cases f;erw[aE];exact SeqAt.RcNeAt.none_none
  |bl b=>cases(show u=.bl b from hw);cases f;erw[aE];exact SeqAt.RcNeAt.none_bool _
  |int b=>cases(show u=.int b from hw);let⟨t,rfl⟩:=f;erw[aE];exact SeqAt.RcNeAt.none_int _ _
  |str b=>cases(show u=.str b from hw);let⟨t,rfl⟩:=f;erw[aE];exact SeqAt.RcNeAt.none_str _ _
  |tup h=>erw[Is] at hw;let⟨a,o,rfl,i,_⟩:=hw;cases f;let⟨_,_,p⟩:=d4 I i;erw[aE];exact SeqAt.RcNeAt.none_tuple p k
  |lst h=>erw[Is] at hw;let⟨a,o,rfl,i,_⟩:=hw;cases f;let⟨_,_,p⟩:=d3 I i;erw[aE];exact SeqAt.RcNeAt.none_list p k
 |bl M =>
  cases(show v=.bl M from z);cases J
  cases e with
  |non=>cases(show u=.non from hw);cases f;erw[aE];exact SeqAt.RcNeAt.bool_none _
  |bl b=>cases(show u=.bl b from hw);cases f;erw[aE];exact SeqAt.RcNeAt.bool_bool _ _
  |int b=>cases(show u=.int b from hw);let⟨t,rfl⟩:=f;erw[aE];exact SeqAt.RcNeAt.bool_int _ _ _
  |str b=>cases(show u=.str b from hw);let⟨t,rfl⟩:=f;erw[aE];exact SeqAt.RcNeAt.bool_str _ _ _
  |tup h=>erw[Is] at hw;let⟨a,o,rfl,i,_⟩:=hw;cases f;let⟨_,_,p⟩:=d4 I i;erw[aE];exact SeqAt.RcNeAt.bool_tuple _ p k
  |lst h=>erw[Is] at hw;let⟨a,o,rfl,i,_⟩:=hw;cases f;let⟨_,_,p⟩:=d3 I i;erw[aE];exact SeqAt.RcNeAt.bool_list _ p k
 |int M =>
  cases(show v=.int M from z);let⟨Z,rfl⟩:=J
  cases e with
  |non=>cases(show u=.non from hw);cases f;erw[aE];exact SeqAt.RcNeAt.int_none _ _
  |bl b=>cases(show u=.bl b from hw);cases f;erw[aE];exact SeqAt.RcNeAt.int_bool _ _ _
  |int b=>cases(show u=.int b from hw);let⟨t,rfl⟩:=f;erw[aE];exact SeqAt.RcNeAt.int_int _ _ _ _
  |str b=>cases(show u=.str b from hw);let⟨t,rfl⟩:=f;erw[aE];exact SeqAt.RcNeAt.int_str _ _ _ _
  |tup h=>erw[Is] at hw;let⟨a,o,rfl,i,_⟩:=hw;cases f;let⟨_,_,p⟩:=d4 I i;erw[aE];exact SeqAt.RcNeAt.int_tuple _ _ p k
  |lst h=>erw[Is] at hw;let⟨a,o,rfl,i,_⟩:=hw;cases f;let⟨_,_,p⟩:=d3 I i;erw[aE];exact SeqAt.RcNeAt.int_list _ _ p k
 |str M =>
  cases(show v=.str M from z);let⟨Z,rfl⟩:=J
  cases e with
  |non=>cases(show u=.non from hw);cases f;erw[aE];exact SeqAt.RcNeAt.str_none _ _
  |bl b=>cases(show u=.bl b from hw);cases f;erw[aE];exact SeqAt.RcNeAt.str_bool _ _ _
  |int b=>cases(hw);let⟨t,rfl⟩:=f;exact SeqAt.RcNeAt.str_int _ _ _ _
  |str b=>cases(hw);let⟨t,rfl⟩:=f;exact SeqAt.RcNeAt.str_str _ _ _ _
  |tup h=>let⟨a,o,rfl,i,_⟩:=hw;cases f;let⟨_,_,p⟩:=d4 I i;exact SeqAt.RcNeAt.str_tuple _ _ p k
  |lst h=>let⟨a,o,rfl,i,_⟩:=hw;cases f;let⟨_,_,p⟩:=d3 I i;calc SeqAt.RcNeAt.str_list _ _ p k
end
variable[zt:aM]
meta def intsOf:-D->Option (-Int)
 |[]=>ζ []
 |.int i::r=>match intsOf r with
  |some a=>ζ (i::a)
  |none=>η
 |_=>η
theorem ud:∀ns:-Int,intsOf (ns.map D.int)=ζ ns
 |[]=>Y
 |n::r=>by show(match intsOf (r.map D.int) with|some a=>ζ (n::a)|none=>η)=_;rw[ud r]
theorem rG:∀{ds ns},intsOf ds=ζ ns->ds=ns.map D.int
 |[],a,h=>by cases h;rfl
 |.int i::r,a,h=>by
  unfold intsOf at h;split at h
  .rename_i b e;cases h;rw[ZW,rG e]
  .cases h
 |.non::r,a,h=>by cases h
 |.bl _::r,a,h=>by cases h
 |.str _::r,a,h=>by cases h
 |.tup _::r,a,h=>by cases h
 |.lst _::r,a,h=>by cases h
theorem qv{F}:∀{ns:-Int}{vs},aq F (ns.map D.int) vs->vs=ns.map V.int
 |[],a,h=>h
 |n::r,a,h=>by
  let⟨v,t,rfl,b,c⟩:22:=h;rw[qv c,b];rfl
theorem rH{F}:∀{ns:-Int},aq F (ns.map D.int) (ns.map V.int)
 |[]=>.nil
 |n::r=>.cons (Y) rH
theorem rJ{F}:∀{as b us vs},aq F as us->aq F b vs->aq F (as++b) (us++vs)
 |[],b,c,d,h,q=>by subst h;exact q
 |a::r,b,c,d,h,q=>by
  let⟨v,t,rfl,e,f⟩:22:=h;calc .cons e (rJ f q)
theorem zX{F}:∀{as us} n,aq F as us->aq F (as.take n) (us.take n)
 |e,b,0,_=>.nil
 |[],b,n+1,h=>by subst h;exact .nil
 |a::r,b,n+1,h=>by
  let⟨v,t,rfl,c,d⟩:22:=h;calc .cons c (zX n d)
theorem Hg{F}:∀{as us} n,aq F as us->aq F (as.drop n) (us.drop n)
 |d,b,0,h=>h
 |[],b,n+1,h=>by subst h;exact .nil
 |a::r,b,n+1,h=>by
  let⟨v,t,rfl,e,c⟩:22:=h;calc Hg n c
theorem zY{F}:∀{as us},aq F as us->aq F as.reverse us.reverse
 |[],b,h=>by subst h;exact .nil
 |a::r,b,h=>by
  let⟨v,t,rfl,c,d⟩:22:=h;rw[q2J,q2J];calc(zY d).snoc c
theorem Hh{F}:∀{as us} n {d v},aq F as us->Is F d v->aq F (as.set n d) (us.set n v)
 |[],c,n,d,v,h,_=>by subst h;exact .nil
 |a::r,c,0,d,v,h,q=>by
  let⟨w,t,rfl,e,b⟩:22:=h;exact .cons q b
 |a::r,c,n+1,d,v,h,q=>by
  let⟨w,t,rfl,e,b⟩:22:=h;calc .cons e (Hh n b q)
theorem Hi{F}:∀{as us} n,aq F as us->aq F (as.eraseIdx n) (us.eraseIdx n)
 |[],c,n,h=>by subst h;exact .nil
 |a::r,c,0,h=>by
  let⟨w,t,rfl,d,b⟩:22:=h;exact b
 |a::r,c,n+1,h=>by
  let⟨w,t,rfl,d,b⟩:22:=h;calc .cons d (Hi n b)
theorem oP{F H p ds vs}(s:aI F H)(a:H p=η)(h:aq F ds vs):Is (Nw F H (upd H p (.lst vs))) (.lst ds) (.ref p):=by
 rw[Nw.upd s a];calc(zI2 p vs ⟨Y,bN,h.same (cK (s.free a))⟩)
theorem wd{F H p ds vs}(s:aI F H)(a:H p=η)(h:aq F ds vs):Is (Nw F H (upd H p (.tup vs))) (.tup ds) (.ref p):=by
 rw[Nw.upd s a];calc(zI2 p vs ⟨Y,bN,h.same (cK (s.free a))⟩)
theorem ue{F H d v}(s:aI F H)(h:Is F d v):Is (Nw F H H) d v:=by rw[Nw.refl s];calc h
def uf(d e:D)(K:D->Prop):Prop:=match d with
 |.int i=>(match e with|.int j=>K (.int (i+j))|_=>False)
 |.lst a=>(match e with|.lst b=>↑a+↑b<=1000/\K (.lst (a++b))|_=>False)
 |.tup a=>(match e with|.tup b=>(a≠[]/\↑a+↑b<=1000)/\K (.tup (a++b))|_=>False)
 |.str a=>(match e with|.str b=>↑a+↑b<=1000/\K (.str (a++b))|_=>False)
 |_=>False
def oI(f:Int->Int->D)(d e:D)(K:D->Prop):Prop:=match d with
 |.int i=>(match e with|.int j=>K (f i j)|_=>False)
 |_=>False
def di(C:Int->Int->Prop)(f:Int->Int->D)(d e:D)(K:D->Prop):Prop:=match d with
 |.int i=>(match e with|.int j=>C i j/\K (f i j)|_=>False)
 |_=>False
def f9(d e:D)(K:D->Prop):Prop:=match e with
 |.int j=>(match d with
  |.int i=>mX i j/\K (.int (i*j))
  |.lst a=>(-(2 ^ 63)<=j/\j<2 ^ 63/\↑a*j.toNat<=1000)/\K (.lst (Gg j.toNat a).flatten)
  |_=>False)
 |_=>False
section
variable{X:Cx}
theorem we{f:ν->ν->Sem ν}{g h}(op:eJ X f (mV g))(b:∀F i j,Is F (h i j) (g i j)):fX X f (oI h):=by
 ext a s c H x y v u Q I k l ⟨F,d,e,K,m,n,o,q,p⟩;cases d<;>cases e<;>first|exact ZQ q|rename_i i j
 .calc op a s c H x y v u Q I k l (zI2 i j ⟨n,o,p _ _ _ q (λ_ _ e=>e) (b _ i j)⟩)
theorem zZ{f:ν->ν->Sem ν}{C g h}(op:eJ X f (rI C g))(b:∀F i j,Is F (h i j) (g i j)):fX X f (di C h):=by
 ext a s c H x y v u Q I k l ⟨F,d,e,K,m,n,o,q,p⟩;cases d<;>cases e<;>first|exact ZQ q|rename_i i j
 .calc op a s c H x y v u Q I k l (zI2 i j ⟨n,o,q.1,p _ _ _ q.2 (λ_ _ e=>e) (b _ i j)⟩)
theorem wh:fX X (binaryOp .Add) uf:=by
 ext c s n H x y v u Q I o r ⟨F,d,e,K,f,k,t,q,l⟩;cases d<;>cases e<;>first|exact ZQ q|rename_i i j
 .exact Fm c s n H x y v u Q I o r (zI2 i j ⟨k,t,l _ _ _ q (λ_ _ e=>e) Y⟩)
 .cases k;cases t
  exact NQ c s n H _ _ v u Q I o r (zI2 i j ⟨Y,Y,lj q.1,l _ _ _ q.2 (λ_ _ e=>e) Y⟩)
 .let w:=k
  let⟨a,A,rfl,B,g⟩:22:=w;let⟨b,C,rfl,D,h⟩:=t;calc OC c s n H _ _ v u Q I o r (zI4 a b A C ⟨Y,Y,b9.of (f _ _ B),b9.of (f _ _ D),(λz=>q.1.1 (q1i.mp (by rw[<-↑g,z];rfl))),lj (by rw[↑g,↑h];calc q.1.2),λz=>?_,λz p m=>l _ _ _ q.2 (cK m) (wd f m (rJ g h))⟩);let:=q1i.mp (by rw[<-↑h,z];rfl);subst this;calc l _ _ _ q.2 (λ_ _ e=>e) (ue f ?_);rw[dV];exact k
 .let⟨a,A,rfl,B,g⟩:=k
  let⟨b,C,rfl,D,h⟩:=t;calc vK c s n H _ _ v u Q I o r (zI4 a b A C ⟨Y,Y,B,D,lj (by rw[↑g,↑h];calc q.1),λp m=>l _ _ _ q.2 (cK m) (oP f m (rJ g h))⟩)
theorem mm:fX X (binaryOp .Sub) (oI λi j=>.int (i-j)):=we Nx λ_ _ _=>Y
theorem z5:fX X (binaryOp .Mult) f9:=by
 ext b s f H x y v u Q I g h ⟨F,d,e,K,c,l,m,q,n⟩;cases d<;>cases e<;>first|exact ZQ q|rename_i i j
 .exact Ny b s f H x y v u Q I g h (zI2 i j ⟨l,m,q.1,n _ _ _ q.2 (λ_ _ e=>e) Y⟩)
 .let⟨a,o,rfl,w,r⟩:22:=l
  refine ON b s f H _ _ v u Q I g h (zI3 a j o ⟨Y,m,w,q.1.1,q.1.2.1,lj (by rw[↑r];calc q.1.2.2),λp t=>n _ _ _ q.2 (cK t) (oP c t ?_)⟩)
  let:∀k ,aq F (Gg k i).flatten (Gg k o).flatten:=λk=>by
   induction k with
   |zero=>exact .nil
   |succ k z=>exact rJ r z
  calc this _
theorem z6:fX X (binaryOp .Mod) (di (λ_ j=>0<j) λi j=>.int (i%j)):=zZ yA λ_ _ _=>Y
theorem rK:fX X (binaryOp .Pow) (di cI λi j=>.int (i ^ j.toNat)):=zZ Nz λ_ _ _=>Y
def oEq:D->D->(D->Prop)->Prop:=λd e K=>dep d<=60/\K (.bl (aE d e))
def iV:D->D->(D->Prop)->Prop:=λd e K=>dep d<=60/\K (.bl (!aE d e))
theorem iI(j:X.A.units+64<cLine):fX X (compareOp .Eq) oEq:=by
 calcλb s k H x y v u Q I c f ⟨F,d,e,K,a,g,h,q,i⟩↦(zW I 60 q.1 ⋯ (g.is a) (h.is a) c f).2 _ _ _ _ ⟨.bl _,H,I,Y,i _ _ _ q.2 (λ_ _ e=>e) Y⟩
theorem kI(j:X.A.units+64<cLine):fX X (compareOp .NotEq) iV:=by
 calcλb s k H x y v u Q I c f ⟨F,d,e,K,a,g,h,q,i⟩↦QI I q.1 ⋯ (g.is a) (h.is a) c f _ _ _ _ ⟨.bl _,H,I,Y,i _ _ _ q.2 (λ_ _ e=>e) Y⟩
def oLt:D->D->(D->Prop)->Prop
 |.int i,.int j,K=>K (.bl (μ (i<j)))
 |.tup a,.tup b,K=>match intsOf a,intsOf b with
  |some c,some d=>K (.bl (HT.lexLt c d))
  |_,_=>False
 |_,_,_=>False
theorem Hj(D:X.A.units+64<cLine):fX X (compareOp .Lt) oLt:=by
 ext c s k H x y v u Q I l m ⟨F,d,e,K,f,g,h,q,n⟩;unfold oLt at q;split at q
 .rename_i i j
  exact Fs c s k H x y v u Q I l m (zI2 i j ⟨g,h,n _ _ _ q (λ_ _ e=>e) Y⟩)
 .split at q
  .rename_i z w t r
   rw[rG t] at g;rw[rG r] at h;let⟨a,E,rfl,o,B⟩:22:=g;let⟨b,G,rfl,p,C⟩:22:=h;rw[qv B] at o;rw[qv C] at p;exact OA ⋯ c s k H _ _ v u Q I l m (zI4 a b z w ⟨Y,Y,b9.of (f _ _ o),b9.of (f _ _ p),n _ _ _ q (λ_ _ e=>e) Y⟩)
  .exact q.elim
 .calc q.elim
theorem Hk:fX X (compareOp .LtE) (oI λi j=>.bl (μ (i<=j))):=we NI λ_ _ _=>Y
theorem ug:fX X (compareOp .Gt) (oI λi j=>.bl (μ (j<i))):=we NJ λ_ _ _=>Y
theorem QJ:fX X (compareOp .GtE) (oI λi j=>.bl (μ (j<=i))):=we NK λ_ _ _=>Y
def nE(d e:D)(K:D->Prop):Prop:=match e with
 |.non=>(match d with
  |.non=>K (.bl θ)
  |.bl _=>K (.bl ι)
  |.int _=>K (.bl ι)
  |.str _=>K (.bl ι)
  |.tup _=>K (.bl ι)
  |.lst _=>K (.bl ι))
 |_=>False
theorem QK{F H d e x y K}(b:jL F H d x)(c:jL F H e y)(q:nE d e K):y=.non/\K (.bl (μ (x=.non))):=by
 cases e<;>first|exact ZQ q|skip
 refine⟨c,?_⟩
 cases d with
 |tup=>let⟨a,_,rfl,_⟩:=b;exact q
 |lst=>let⟨a,_,rfl,_⟩:=b;exact q
 |_=>let:=b;subst this;calc q
theorem QL:fX X (compareOp .Is) nE:=by
 ext a s b H x y v u Q I c f ⟨F,d,e,K,g,h,i,q,j⟩;let⟨k,l⟩:=QK h i q;calc NL a s b H x y v u Q I c f ⟨k,j _ _ _ l (λ_ _ e=>e) Y⟩
def jc(b:Bool):D->D->(D->Prop)->Prop
 |d,.lst a,K=>bo a<=55/\K (.bl (if b then !(a.any λe=>aE e d) else a.any λe=>aE e d))
 |d,.tup a,K=>bo a<=55/\K (.bl (if b then !(a.any λe=>aE e d) else a.any λe=>aE e d))
 |_,_,_=>False
meta def jd(H:Hp)(d:D)(u:ν):Bool:=by
 classical calc if ∃e v,Is H e v/\RelV v u/\aE e d=θ then θ else ι
theorem Hl{H d e v u}(h:Is H e v)(r:RelV v u):jd H d u=aE e d:=by
 unfold jd;split
 .rename_i z
  let⟨c,f,a,b,q⟩:22:=z;let:=b.inj r;subst this;rw[Is.inj h a];exact q.symm
 .rename_i z
  cases q:aE e d with
  |false=>rfl
  |true=>calc absurd ⟨e,v,h,r,q⟩ z
theorem uh{H d}:∀{es vs us},aq H es vs->Vals vs us->us.any (jd H d)=es.any λe=>aE e d
 |[],a,b,h,r=>by subst h;cases r;rfl
 |e::j,a,b,h,r=>by
  let⟨v,t,rfl,c,f⟩:22:=h
  cases r with
  |cons g i=>rw[q1o,q1o,Hl c g,uh f i]
theorem ui{b}{j:St}{H s}(I:Inv X b j H s){A}(c:A.units+60<cLine){d x w}(hd:Is H d x)(f:RelV x w):∀{es vs us},bo es<=55->aq H es vs->Vals vs us->∀u∈us,q2U A s u w (jd H d u)
 |[],k,l,_,h,r=>by subst h;cases r;ext u c;cases c
 |e::p,k,l,m,h,r=>by
  let⟨v,t,rfl,g,n⟩:22:=h;erw[bo] at m
  cases r with
  |cons i o =>
   ext u a;rcases OQ.mp a with rfl|a
   .rw[Hl g i];exact(zW I 55 ⋯ ⋯ g hd i f).1
   .calc ui I c hd f ⋯ n o u a
theorem wj(z:X.A.units+64<cLine):fX X (compareOp .In) (jc ι):=by
 ext j s B H x y v u Q I k l ⟨F,d,e,K,b,m,n,q,o⟩;unfold jc at q;split at q
 .let⟨a,t,rfl,g,h⟩:=n
  cases l
  let⟨c,r,p⟩:=d3 I g;let f:=h.same b;calc SeqAt.in_listAt (jd H d) p (λw i=>ui I (by rw[in1_units];symm) (m.is b) k q.1 f r w i⁻¹) ⟨.bl _,H,I,Y,?_⟩;rw[show c.toArray.any (jd H d)=c.any (jd H d) by simp,uh f r];exact o _ _ _ q.2 (λ_ _ e=>e) Y
 .let⟨a,t,rfl,g,h⟩:=n
  cases l
  let⟨c,r,p⟩:=d4 I (b _ _ g);let f:=h.same b;calc SeqAt.in_tupleAt (jd H d) p (λw i=>ui I (by rw[in1_units];symm) (m.is b) k q.1 f r w i⁻¹) ⟨.bl _,H,I,Y,?_⟩;rw[show c.toArray.any (jd H d)=c.any (jd H d) by simp,uh f r];exact o _ _ _ q.2 (λ_ _ e=>e) Y
 .calc q.elim
theorem wk(z:X.A.units+64<cLine):fX X (compareOp .NotIn) (jc θ):=by
 ext j s B H x y v u Q I k l ⟨F,d,e,K,b,m,n,q,o⟩;unfold jc at q;split at q
 .rename_i C
  let⟨a,t,rfl,g,h⟩:=n;cases l
  let⟨c,r,p⟩:=d3 I g;let f:=h.same b;calc SeqAt.notIn_listAt (jd H d) p (λw i=>ui I (by rw[in1_units];symm) (m.is b) k q.1 f r w i⁻¹) ⟨.bl _,H,I,Y,?_⟩;rw[show c.toArray.any (jd H d)=c.any (jd H d) by simp,uh f r];exact o _ _ _ q.2 (λ_ _ e=>e) Y
 .let⟨a,t,rfl,g,h⟩:=n
  cases l
  let⟨c,r,p⟩:=d4 I (b _ _ g);let f:=h.same b;calc SeqAt.notIn_tupleAt (jd H d) p (λw i=>ui I (by rw[in1_units];symm) (m.is b) k q.1 f r w i⁻¹) ⟨.bl _,H,I,Y,?_⟩;rw[show c.toArray.any (jd H d)=c.any (jd H d) by simp,uh f r];exact o _ _ _ q.2 (λ_ _ e=>e) Y
 .calc q.elim
def aS(d e:D)(K:D->Prop):Prop:=match e with
 |.int i=>(match d with
  |.lst a=>(match eM a i with|some d=>K d|none=>False)
  |.tup a=>(match eM a i with|some d=>K d|none=>False)
  |.str z=>↑z<=1000/\(match eM z.cps.toList i with|some c=>K (.str ⟨#[c]⟩)|none=>False)
  |_=>False)
 |_=>False
theorem Hm{F ds vs i d}(h:aq F ds vs)(e:eM ds i=ζ d):∃v,eM vs i=ζ v/\Is F d v:=by
 unfold eM at e ⊢;rw[↑h]
 cases q:iD ↑ds i with
 |none=>rw[q] at e;cases e
 |some j =>
  rw[q] at e;calc nD h (e)
theorem dP:G4 X aS:=by
 ext b f g s k H x y v u Q I l m ⟨F,d,e,K,h,n,o,q,p⟩ r;cases d<;>cases e<;>first|exact ZQ q|rename_i D i
 .let⟨E,q⟩:=q
  split at q
  .rename_i c j
   cases n
   exact OE b f g s k H _ _ v u Q I l m (zI3 D i c ⟨Y,o,lj E,j,p _ _ _ q (λ_ _ e=>e) Y⟩) r
  .exact q.elim
 .dsimp only [aS] at q
  split at q
  .rename_i G j
   let⟨a,t,rfl,z,A⟩:=n;let⟨w,B,C⟩:=Hm A j;exact OD b f g s k H _ _ v u Q I l m (zI4 a t i w ⟨Y,o,b9.of (h _ _ z),B,p _ _ _ q (λ_ _ e=>e) (ue h C)⟩) r
  .exact q.elim
 .dsimp only [aS] at q
  split at q
  .rename_i G j
   let⟨a,t,rfl,z,A⟩:=n;let⟨w,B,C⟩:=Hm A j;exact vI b f g s k H _ _ v u Q I l m (zI4 a t i w ⟨Y,o,bG.of z,B,p _ _ _ q (λ_ _ e=>e) (ue h C)⟩) r
  .calc q.elim
meta def cutD(ds:-D)(a b:Option Int):-D:=(ds.drop (HT.bK ↑ds 0 a)).take (HT.bK ↑ds ↑ds b-HT.bK ↑ds 0 a)
theorem Hn{F ds vs}(h:aq F ds vs) a b:aq F (cutD ds a b) (en vs a b):=by
 unfold cutD en;rw[↑h];calc zX _ (Hg _ h)
abbrev WO:=aO->(Option Int->aO->Prop)->Prop
def wm(f:WO):TO:=λe H Q=>∃F g c K,SR F g c e H/\f c K/\∀o a,K o a->∀h b d,Ext F g c.mu H h b a.mu d->SR h b a e d->Q o d
def dQ:WO:=λa K=>K η a
def hV(f:WE):WO:=λb K=>f b λx a=>match x with
 |.p (.int i)=>K (ζ i) a
 |_=>False
theorem qw:PO X η (wm dQ):=λa s c H Q I b=>by let⟨F,d,e,K,S,q,k⟩:42:=b;calc FP a s c H Q I (k _ _ q _ _ _ .refl S)
theorem nF{e f}(h:JE X e (tD f)):PO X (ζ e) (wm (hV f)):=λa s d H Q I b=>by let⟨F,g,j,K,S,q,k⟩:42:=b;exact vG h a s d H Q I ⟨F,g,j,_,S,q,λx l c v r m t n o p=>by
 split at c
 .rename_i i
  exact⟨i,p,k _ _ c _ _ _ n o⟩
 .calc c.elim⟩
def f_:D->(D->Prop)->Prop
 |.int i,K=>K (.int (-(i:Int)))
 |_,_=>False
theorem uj{e f pos}(he:JE X e (tD f)):JE X (.UnaryOp .USub e pos) (tD (d1 f f_)) :=
 (Fl Fp he).weak λp H Q ⟨F,c,g,K,S,q,k⟩↦⟨F,c,g,_,S,q,λx h j v r l s m b n=>by
  let⟨d,a,o⟩:=jM b n j;unfold f_ at a;split at a
  .rename_i i
   exact⟨i,o,k _ _ a _ _ _ _ m b Y⟩
  .calc a.elim⟩
def wo(f g h:WE)(o o':D->D->(D->Prop)->Prop):WE:=λj K=>f j λx i=>g i λy a=>iF x a λd=>iF y a λe=>o d e λz=>match z with
 |.bl true=>h a λw b=>iF y b λk=>iF w b λc=>o' k c λl=>K (.p l) b
 |.bl false=>K (.p (.bl ι)) a
 |_=>False
theorem QM{a b c f g h op i}{o o':D->D->(D->Prop)->Prop}{pos}(N:fX X (compareOp op) o)(r:fX X (compareOp i) o')(O:JE X a (tD f))(P:JE X b (tD g))(R:JE X c (tD h))
  (T:autoParam (lastMarks [op,i] [b,c]=ι) qz6._auto_1):JE X (.Compare a [op,i] [b,c] pos) (tD (wo f g h o o')) :=
 (NP N r O P R T).weak fun σ H Q ⟨F,U,V,K,S,q,k⟩=>by
  calc⟨F,U,V,_,S,q,λx s W v1 Y t H1 I Z V1=>⟨Y,t,s,_,Z,W,λy u h2 v2 F2 A H2 B l J=>?_⟩⟩;let⟨d,h3,rd⟩:=jM l (V1.ext B) h2;let⟨e,h4,re⟩:=jM l J h3;calc⟨F2,d,e,_,l.sub,rd,re,h4,λz v H' j m p=>?_⟩;let L:=l.al m;let C:=Ext.al l m;split at j
  .refine⟨θ,p,⟨_,A,u,_,L,j,λw δ4 h5 v4 F4 G8 H4 M n V4=>?_⟩⟩
   let⟨d',h6,E⟩:=jM n ((J.ext C).ext M) h5;let⟨e',h7,G⟩:=jM n V4 h6;exact⟨F4,d',e',_,n.sub,E,G,h7,λz v H' j m p=>k _ _ j _ _ _ _ ((((I.trans B).trans C).trans M).trans (Ext.al n m)) (n.al m) p⟩
  .exact⟨ι,p,k _ _ j _ _ _ _ ((I.trans B).trans C) L rfl⟩
  .calc j.elim
end
meta def sortI(ns:-Int):-Int:=ns.mergeSort λa b=>μ (a<=b)
theorem sortI_perm ns:(sortI ns).Perm ns:=List.mergeSort_perm ns _
theorem Ho ns:(sortI ns).Pairwise (· <= ·):=by
 let:=List.pairwise_mergeSort (le:=λa b  => μ (a<=b)) (λa b c d e=>by simp at *;symm) (λa b=>by simp;symm) ns;calc this.imp λh=>by simpa using h
theorem Hq:∀{as c:-Int},as.Perm c->as.Pairwise (· <= ·)->c.Pairwise (· <= ·)->as=c
 |[],c,p,_,_=>p.nil_eq
 |a::d,[],p,_,_=>absurd p.length_eq (by simp)
 |a::d,b::c,p,s,t=>by
  let e:a=b:=by
   let f:a<=b:=by
    rcases OQ.mp (p.mem_iff.mpr (YB ..)) with h|h
    .omega
    .exact (q1a.mp s).1 b h
   let g:b<=a:=by
    rcases OQ.mp (p.mem_iff.mp (YB ..)) with h|h
    .omega
    .exact (q1a.mp t).1 a h
   symm
  subst e;rw[Hq (List.perm_cons a |>.mp p) (q1a.mp s).2 (q1a.mp t).2]
theorem Hr{as a}(p:as.Perm a)(s:as.Pairwise (· <= ·)):as=sortI a:=Hq (p.trans (sortI_perm a).symm) s (Ho a)
theorem QN ns:↑(sortI ns)=ns.length:=(sortI_perm ns).length_eq
def bT(ds:-D)(K:D->Prop):Prop:=match ds with
 |[d]=>(match d with
  |.lst a=>K (.int ↑a)
  |.tup a=>K (.int ↑a)
  |.str z=>↑z<=1000/\K (.int ↑z)
  |_=>False)
 |_=>False
def z8(ds:-D)(K:D->Prop):Prop:=match ds with
 |[d]=>(match d with
  |.lst a=>K (.lst a)
  |.tup a=>K (.lst a)
  |_=>False)
 |_=>False
def wq(ds:-D)(K:D->Prop):Prop:=match ds with
 |[d]=>(match d with
  |.lst a=>K (.tup a)
  |.tup a=>K (.tup a)
  |_=>False)
 |_=>False
def qx:-D->(D->Prop)->Prop
 |[.lst b],K=>match intsOf b with
  |some a=>↑a<64/\K (.lst ((sortI a).map D.int))
  |none=>False
 |_,_=>False
def nG:-D->(D->Prop)->Prop
 |[.lst b],K=>match intsOf b with
  |some a=>((∀x∈a,0<=x/\x<=1000000000)/\↑a<=1000)/\K (.int a.sum)
  |none=>False
 |_,_=>False
meta def qy:-D->Option (-Bool)
 |[]=>ζ []
 |.bl b::r=>match qy r with
  |some a=>ζ (b::a)
  |none=>η
 |_=>η
theorem Hs:∀a:-Bool,qy (a.map D.bl)=ζ a
 |[]=>Y
 |n::r=>by show(match qy (r.map D.bl) with|some b=>ζ (n::b)|none=>η)=_;rw[Hs r]
theorem Ht:∀{ds b},qy ds=ζ b->ds=b.map D.bl
 |[],a,h=>by cases h;rfl
 |.bl i::r,a,h=>by
  unfold qy at h;split at h
  .rename_i c e;cases h;rw[ZW,Ht e]
  .cases h
 |.non::r,a,h=>by cases h
 |.int _::r,a,h=>by cases h
 |.str _::r,a,h=>by cases h
 |.tup _::r,a,h=>by cases h
 |.lst _::r,a,h=>by cases h
theorem Hu{F}:∀{a:-Bool}{vs},aq F (a.map D.bl) vs->vs=a.map V.bl
 |[],b,h=>h
 |n::r,b,h=>by
  let⟨v,t,rfl,c,d⟩:22:=h;rw[Hu d,c];rfl
def nH:-D->(D->Prop)->Prop
 |[.lst a],K=>match qy a with
  |some b=>K (.bl (b.all id))
  |none=>False
 |_,_=>False
def uk(ds:-D)(K:D->Prop):Prop:=match ds with
 |[d,e]=>(match d with|.int i=>(match e with|.int j=>K (.int (min i j))|_=>False)|_=>False)
 |_=>False
def wt(ds:-D)(K:D->Prop):Prop:=match ds with
 |[d,e]=>(match d with|.int i=>(match e with|.int j=>K (.int (max i j))|_=>False)|_=>False)
 |_=>False
section
variable{X:Cx}
theorem je{F H d xs}(h:jq F H [d] xs):∃v,xs=[v]/\jL F H d v:=by
 let⟨v,r,rfl,a,b⟩:22:=h;subst b;calc⟨v,Y,a⟩
theorem Hv{F H d e xs}(h:jq F H [d,e] xs):∃v w,xs=[v,w]/\jL F H d v/\jL F H e w:=by
 let⟨v,r,rfl,a,b⟩:22:=h;let⟨w,rfl,c⟩:=je b;calc(zI2 v w ⟨Y,a,c⟩)
theorem kJ:dJ X (.builtin "len") bT:=by
 ext b s c H p f Q I r ⟨F,n,K,g,i,q,j⟩;rcases n with _|⟨d,_|⟨t,r⟩⟩<;>try exact ZQ q
 cases d<;>first|exact ZQ q|rename_i o
 .let⟨v,rfl,h⟩:=je i
  subst h;exact OJ b s c H _ f Q I r ⟨o,Y,lj q.1,j _ _ _ q.2 (λ_ _ e=>e) Y⟩
 .let⟨v,rfl,h⟩:=je i
  let⟨a,k,rfl,l,m⟩:=h;exact FX b s c H _ f Q I r ⟨a,k,Y,.inr (b9.of (g _ _ l)),by rw[↑m];calc j _ _ _ q (λ_ _ e=>e) Y⟩
 .let⟨v,rfl,a,k,rfl,l,m⟩:=je i
  calc FX b s c H _ f Q I r ⟨a,k,Y,.inl (bG.of l),by rw[↑m];calc j _ _ _ q (λ_ _ e=>e) Y⟩
theorem QO:dJ X (.type "list") z8:=by
 ext b s j H p k Q I r ⟨F,o,K,c,m,q,n⟩;rcases o with _|⟨d,_|⟨t,r⟩⟩<;>try exact ZQ q
 cases d<;>first|exact ZQ q|rename_i u
 .let⟨v,rfl,h⟩:=je m
  let⟨a,f,rfl,g,i⟩:=h;exact ti b s j H _ k Q I r ⟨a,f,Y,.inr (b9.of (c _ _ g)),λl e=>n _ _ _ q (cK e) (oP c e i)⟩
 .let⟨v,rfl,a,f,rfl,g,i⟩:=je m
  calc ti b s j H _ k Q I r ⟨a,f,Y,.inl (bG.of g),λl e=>n _ _ _ q (cK e) (oP c e i)⟩
theorem QP:dJ X (.type "tuple") wq:=by
 ext b s i H u j Q I r ⟨F,p,K,c,k,q,m⟩;rcases p with _|⟨d,_|⟨w,r⟩⟩<;>try exact ZQ q
 cases d<;>first|exact ZQ q|rename_i x
 .let⟨v,rfl,h⟩:=je k
  let t:=h;let⟨a,f,rfl,g,n⟩:22:=h;exact FY b s i H _ j Q I r (zI2 a f ⟨Y,.inr ⟨b9.of (c _ _ g),m _ _ _ q (λ_ _ e=>e) (ue c t)⟩⟩)
 .let⟨v,rfl,a,f,rfl,g,n⟩:=je k
  calc FY b s i H _ j Q I r (zI2 a f ⟨Y,.inl ⟨bG.of g,λl o=>m _ _ _ q (cK o) (wd c o n)⟩⟩)
theorem z9:dJ X (.builtin "sorted") qx:=by
 ext b s h H t i Q I r ⟨F,u,K,c,j,q,k⟩;unfold qx at q;split at q
 .split at q
  .rename_i m e
   let⟨v,rfl,a,w,rfl,d,f⟩:1122:=je j;rw[rG e] at f;rw[qv f] at d;calc G0 b s h H _ i Q I r (zI2 a m ⟨Y,bG.of d,q.1,λl n o p g=>?_⟩);rw[Hr o p];exact k _ _ _ q.2 (cK g) (oP c g rH)
  .exact q.elim
 .calc q.elim
theorem QQ(f:X.calm=θ):dJ X (.builtin "sum") nG:=by
 ext b s g H m h Q I r ⟨F,n,K,i,j,q,k⟩;unfold nG at q;split at q
 .split at q
  .rename_i l e
   let⟨v,rfl,a,o,rfl,c,d⟩:1122:=je j;rw[rG e] at d;rw[qv d] at c;exact Qb f b s g H _ h Q I r (zI2 a l ⟨Y,bG.of c,q.1.1,q.1.2,k _ _ _ q.2 (λ_ _ e=>e) Y⟩)
  .exact q.elim
 .calc q.elim
theorem QR(f:X.calm=θ):dJ X (.builtin "all") nH:=by
 ext b s g H m h Q I r ⟨F,n,K,i,j,q,k⟩;unfold nH at q;split at q
 .split at q
  .rename_i l e
   let⟨v,rfl,a,o,rfl,c,d⟩:1122:=je j;rw[Ht e] at d;rw[Hu d] at c;exact P0 f b s g H _ h Q I r (zI2 a l ⟨Y,bG.of c,k _ _ _ q (λ_ _ e=>e) Y⟩)
  .exact q.elim
 .calc q.elim
theorem QS(b:X.calm=θ):dJ X (.builtin "min") uk:=by
 ext a s c H o f Q I r ⟨F,g,K,h,k,q,l⟩;rcases g with _|⟨d,_|⟨e,_|⟨p,r⟩⟩⟩<;>try exact ZQ q
 cases d<;>try exact ZQ q
 cases e<;>first|exact ZQ q|rename_i i j
 .let⟨v,w,rfl,m,n⟩:22:=Hv k
  subst m n;calc NS b a s c H _ f Q I r (zI2 i j ⟨Y,?_⟩);let:(if j<i then j else i)=min i j:=by split<;>symm
  rw[this];calc l _ _ _ q (λ_ _ e=>e) Y
theorem Hw(b:X.calm=θ):dJ X (.builtin "max") wt:=by
 ext a s c H o f Q I r ⟨F,g,K,h,k,q,l⟩;rcases g with _|⟨d,_|⟨e,_|⟨p,r⟩⟩⟩<;>try exact ZQ q
 cases d<;>try exact ZQ q
 cases e<;>first|exact ZQ q|rename_i i j
 .let⟨v,w,rfl,m,n⟩:22:=Hv k
  subst m n;calc NR b a s c H _ f Q I r (zI2 i j ⟨Y,?_⟩);let:(if j>i then j else i)=max i j:=by split<;>symm
  rw[this];calc l _ _ _ q (λ_ _ e=>e) Y
def wu(b:WA):WE:=λc K=>b c λd a=>match d with
 |[.p (.int j)]=>(0<=j/\j<=1000)/\K (.p (.lst (dO 0 j.toNat))) a
 |_=>False
theorem um n:dO 0 n=(cC n).map D.int:=by
 unfold dO cC;rw[Z7];calc q08 λi _=>?_;show D.int (0+i)=D.int i;rw[q5C]
theorem Hx{a t x g y h}(z:X.calm=θ)(i:Gl X "list")(c:X.mg "list" = η)(m:bootBuiltins "list" = ζ (.type "list"))(n:Gl X "range")(A:X.mg "range" = η)(o:bootBuiltins "range" = ζ (.type "range"))(B:JA X [a] (b_ t))
  (he:‹starEach [a] X.env=[(ι,eval a X.env)]›) (C:‹starEach [.Call (.Name "range" g) [a] [] h] X.env=[(ι,eval (.Call (.Name "range" g) [a] [] h) X.env)]›):JE X (.Call (.Name "list" x) [.Call (.Name "range" g) [a] [] h] [] y) (tD (wu t)) :=
 (pY (Qa z) i c m (k_ (pY GX n A o B (he:=he)) bj)).weak λR H Q ⟨F,E,G,K,S,q,k⟩=>⟨F,E,G,_,S,q,λT I f U J L b M u N=>by
  split at f
  .rename_i j
   let⟨v,r,e,O,P⟩:22:=N;subst P O e;calc⟨j,Y,λd p=>(zI2 d j.toNat ⟨Y,by rw[bN,Int.toNat_of_nonneg f.1.1],⋯,λl c=>?_⟩)⟩;let w:aI b (upd b d (.rng 0 j)):=cK p;let s:=u.al w;calc k _ _ f.2 _ _ _ _ ((M.trans (Ext.al u w)).trans (Ext.al s (cK c))) (s.al (cK c)) ?_;let:Is (Nw (Nw J b (upd b d (.rng 0 j))) (upd b d (.rng 0 j)) (upd (upd b d (.rng 0 j)) l (.lst ((cC j.toNat).map V.int)))) (.lst ((cC j.toNat).map D.int)) (.ref l):=oP s.sub c rH;rw[um];exact this
  .calc f.elim⟩
def cn(T:String):D->(D->Prop)->Prop:=λd K=>K (.bl (aZ (cJ d) T))
theorem iJ{T t a f p b pos}(l:∀d:D,ZN X.K (.type (cJ d)) (.type T)=ζ (aZ (cJ d) T))(m:Gl X "isinstance")(n:X.mg "isinstance" = η)(c:Gl X t)(e:X.mg t=η)(g:bootBuiltins t=ζ (.type T))(o:JE X a (tD f))
  (h:t≠"__name__" := by decide) (i: ~~~(bF t)) (he:‹starEach [a,.Name t b] X.env=(ι,eval a X.env)::starEach [.Name t b] X.env›):JE X (.Call (.Name "isinstance" p) [a,.Name t b] [] pos) (tD (d1 f (cn T))) :=
 (sX Pu m n q3a (jH o (jm (E7 c e g (v:=.ty T) Y h i) bj) he) (he:=he)).weak λE H Q ⟨F,r,s,K,S,q,k⟩↦⟨F,r,s,_,S,q,λx u w v G y I z j A=>by
  let⟨d,B,C⟩:=jM j A w
  calc(zI5 v (.ty T) (.type T) (.type (cJ d)) _ ⟨Y,Y,Is.ty (C.is j.sub),l d,k _ _ B _ _ _ _ z j Y⟩)⟩
theorem z_{K}:∀d:D,ZN K (.type (cJ d)) (.type "int")=ζ (aZ (cJ d) "int"):=λd=>PD _ (tH d)
theorem uo{K}:∀d:D,ZN K (.type (cJ d)) (.type "bool")=ζ (aZ (cJ d) "bool"):=λd=>PC _ (tH d)
theorem Hy{K}:∀d:D,ZN K (.type (cJ d)) (.type "str")=ζ (aZ (cJ d) "str"):=λd=>PE _ (tH d)
theorem uq{K}:∀d:D,ZN K (.type (cJ d)) (.type "tuple")=ζ (aZ (cJ d) "tuple"):=λd=>kit_tuple _ (tH d)
theorem Aa{K}:∀d:D,ZN K (.type (cJ d)) (.type "list")=ζ (aZ (cJ d) "list"):=λd=>PF _ (tH d)
def gb(x:DV)(c:aO)(K:Nat->(-D->OV)->-D->Prop):Prop:=match x with
 |.o k=>match c.mu[k]? with
  |some (some (.lst b))=>K k OV.lst b
  |some (some (.al a b))=>K k (OV.al a) b
  |_=>False
 |_=>False
theorem oQ{F H f g q x v}{K:Nat->(-D->OV)->-D->Prop}(S:SR F f g q H)(p:dB F f x v)(h:gb x g K):∃k B ds a vs,x=.o k/\K k B ds/\v=.ref a/\f[k]?=ζ a/\H a=ζ (.lst vs)/\aq F ds vs/\g.mu[k]?=ζ (ζ (B ds))/\∀{F' es us},aq F' es us->fM F' a (B es) (.lst us):=by
 unfold gb at h;split at h
 .rename_i k
  split at h
  .rename_i j e
   let⟨a,c,rfl⟩:11:=p;let⟨a',o,d,m,l,rfl,n⟩:2211:=S.mu k _ e;rw[c] at d;cases d;exact(zI5 k _ j a l ⟨Y,h,Y,c,m,n,e,λi=>⟨_,Y,i⟩⟩)
  .rename_i b j e
   let⟨a,c,rfl⟩:=p;let⟨a',o,d,m,z,l,rfl,n⟩:2311:=S.mu k _ e;rw[c] at d;cases d;exact(zI5 k _ j a l ⟨Y,h,Y,c,m,n,e,λi=>⟨z,_,Y,i⟩⟩)
  .exact h.elim
 .calc h.elim
def kc(f:WE)(g:WA):WE:=λh K=>f h λx b=>gb x b λ_ _ _=>g b λi c=>match i with
 |[y]=>nq y c λd a=>gb x a λk B e=>↑e<1000/\K (.p .non) ⟨a.sl,a.mu.set k (ζ (B (e++[d])))⟩
 |_=>False
theorem Hz{f n C}:∀g H Q,tD (kc f n) g H Q->vJ C "list" F9 (tD f) (b_ n) g H Q:=λg H Q ⟨F,D,E,K,S,q,k⟩=>⟨F,D,E,_,S,q,λx h G v I i H1 J o p=>by
 let⟨k0,B0,L,a,M,rfl,N,rfl,e1,O,i1,m1,P⟩:57:=oQ o p G;refine⟨.inl ⟨rfl,M,bG.of O⟩,I,i,h,_,o,N,λR T U us F2 V H2 s W X=>?_⟩
 match R,U,X with
 |[y],c,⟨u,r,e,Y,Z⟩ =>
  subst Z e;let⟨d,δ3,F3,h4,t,j,i3⟩:33:=tQ W Y c;let⟨k1,B,ds,b,ws,ek,h5,eb,w,e4,z,A,l⟩:57:=oQ  j ((p.ext s).ext t) h4;let m:=by injection eb
  subst m;exact(zI3 a ws u ⟨rfl,rfl,e4,qd (by rw[↑z];symm),k _ _ h5.2 _ _ _ _ (((J.trans s).trans t).trans (Ext.put j A w)) (j.put A w (l  (z.snoc i3))) rfl⟩)
 |[],c,_=>exact c.elim
 |_::_::_,c,_=>calc c.elim⟩
def qz(f:WE)(e:WA):WE:=λg K=>f g λx b=>gb x b λ_ _ _=>e b λh a=>match h with
 |[.p (.lst c)]=>gb x a λk B d=>↑d+↑c<=1000/\K (.p .non) ⟨a.sl,a.mu.set k (ζ (B (d++c)))⟩
 |_=>False
theorem QT{f m A}:∀d H Q,tD (qz f m) d H Q->vJ A "list" F_ (tD f) (b_ m) d H Q:=λd H Q ⟨F,C,D,K,S,q,k⟩=>⟨F,C,D,_,S,q,λx g E v G h H1 I n o=>by
 let⟨k0,B0,J,a,L,rfl,M,rfl,e1,N,i1,m1,O⟩:57:=oQ n o E;calc⟨.inl ⟨rfl,L,bG.of N⟩,G,h,g,_,n,M,λys P i us F2 R H2 p c T=>?_⟩;split at i
 .let⟨u,r,e,U,V⟩:22:=T
  let⟨b,W,rfl,X,s⟩:22:=U;subst V e;let⟨k1,B,ds,b',Y,ek,t,Z,w,e4,y,z,j⟩:57:=oQ  c (o.ext p) i;let l:=by injection Z
  subst l;exact(zI4 a b Y W ⟨rfl,rfl,e4,c.sub _ _ X,lj (by rw[↑y,↑s];calc t.1),k _ _ t.2 _ _ _ _ ((I.trans p).trans (Ext.put c z w)) (c.put z w (j  (rJ y s))) rfl⟩)
 .calc i.elim⟩
def Ab(f:WE)(e:WA):WE:=λg K=>f g λx b=>gb x b λ_ _ _=>e b λh a=>match h with
 |[.p (.int i)]=>gb x a λk B c=>(-(2 ^ 63)<=i/\i<2 ^ 63)/\match seqIndex? i ↑c with
  |some j=>match c[j]? with
   |some d=>K (.p d) ⟨a.sl,a.mu.set k (ζ (B (c.eraseIdx j)))⟩
   |none=>False
  |none=>False
 |_=>False
theorem QU{f s E}:∀c H Q,tD (Ab f s) c H Q->vJ E "list" Gb (tD f) (b_ s) c H Q:=λc H Q ⟨F,G,I,K,S,q,k⟩=>⟨F,G,I,_,S,q,λx g J v L h H1 M t y=>by
 let⟨k0,B0,N,a,O,rfl,P,rfl,e1,R,i1,m1,T⟩:57:=oQ t y J;calc⟨.inl ⟨rfl,O,bG.of R⟩,L,h,g,_,t,P,λys U l us F2 V H2 z m W=>?_⟩;split at l
 .rename_i i
  let⟨u,r,e,X,Y⟩:22:=W;subst Y X e;let⟨k1,B,ds,b',Z,ek,⟨A,b⟩,eb,C,e4,n,D,o⟩:57:=oQ  m (y.ext z) l;let p:=by injection eb
  subst p;split at b
  .rename_i j hj
   split at b
   .rename_i d hd
    let⟨w,g1,g2⟩:=nD n hd;exact(zI5 a Z i j w ⟨rfl,rfl,e4,A.1,A.2,by rw[↑n];calc hj,g1,k _ _ b _ _ _ _ ((M.trans z).trans (Ext.put m D C)) (m.put D C (o  (Hi j n))) g2⟩)
   .exact b.elim
  .exact b.elim
 .calc l.elim⟩
def nJ(f:WE):WE:=λc K=>f c λx a=>gb x a λk B b=>match b[↑b-1]? with
 |some d=>K (.p d) ⟨a.sl,a.mu.set k (ζ (B b.dropLast))⟩
 |none=>False
theorem QV{F ds vs}(h:aq F ds vs):aq F ds.dropLast vs.dropLast:=by
 rw[q4l,q4l,↑h];calc zX _ h
theorem HA{f n}:∀b H Q,tD (nJ f) b H Q->tj n "list" tq (tD f) b H Q:=λb H Q ⟨F,o,p,K,S,q,k⟩=>⟨F,o,p,_,S,q,λx r s v D t E u c y=>by
 let⟨G,B,I,a,i,rfl,e,rfl,j,l,g,m,h⟩:57:=oQ c y s;calc⟨.inl ⟨Y,i,bG.of l⟩,?_⟩;split at e
 .rename_i d z
  let⟨w,A,C⟩:=nD g z;exact(zI3 a i w ⟨Y,Y,l,by rw[↑g];calc A,k _ _ e _ _ _ _ (u.trans (Ext.put c m j)) (c.put m j (h  (QV g))) C⟩)
 .calc e.elim⟩
def lr(f h l:WE):WS:=λK n=>f n λx b=>h b λo c=>l c λi e=>nq x e λd a=>gb o a λk B g=>match i with
 |.p (.int j)=>match iD ↑g j with
  |some m=>K.nx ⟨a.sl,a.mu.set k (ζ (B (g.set m d)))⟩
  |none=>False
 |_=>False
theorem ur[cj]{f s t}:∀D c H,dc (lr f s t) D c H->eg (tD f) (sP (tD s) (tD t) FW) D c H:=λD c H ⟨F,C,E,K,S,q,k⟩↦⟨F,C,E,_,S,q,λx e G v I g H1 J L M=>⟨I,g,e,_,L,G,λo h N ov O l H2 u P Q=>⟨O,l,h,_,P,N,λi R T iv F3 U H3 n V W=>by
 let⟨d,X,F4,Y,w,p,Z⟩:33:=tQ V ((M.ext u).ext n) T;let⟨k0,B,ds,a,vs,rfl,b,rfl,y,e2,z,A,r⟩:57:=oQ p ((Q.ext n).ext w) Y;split at b
 .rename_i j
  split at b
  .rename_i m hm
   subst W;exact(zI4 a vs j m ⟨rfl,rfl,e2,by rw[↑z];calc hm,k.nx _ b _ _ _ _ ((((J.trans u).trans n).trans w).trans (Ext.put p A y)) (p.put A y (r  (Hh m z Z)))⟩)
  .exact b.elim
 .calc b.elim⟩⟩⟩
end
end
end L2
namespace L2
open PySem PySem.Spec PyProof.Rows PySem.W
abbrev LK:=-Int
def kle(a b:LK):Prop:=HT.lexLt b a=ι
theorem Ac:∀a:LK,HT.lexLt a a=ι
 |[]=>Y
 |x::r=>by rw[HT.rf,ZF Y];calc Ac r
theorem wx:∀{a b:LK},HT.lexLt a b=ι->HT.lexLt b a=ι->a=b
 |[],[],_,_=>Y
 |[],_::_,h,_=>by cases h
 |_::_,[],_,h=>by cases h
 |x::r,y::s,h,q=>by
  rw[HT.rf] at h q
  by_cases c:x=y
  .subst c
   rw[ZF Y] at h q;rw[wx h q]
  .rw[Zx c] at h
   rw[Zx (λz=>c z.symm)] at q;simp at h q;symm
theorem Ad:∀{a b c:LK},HT.lexLt a b=θ->HT.lexLt b c=θ->HT.lexLt a c=θ
 |[],[],_,h,_=>by cases h
 |[],_::_,[],_,q=>by cases q
 |[],_::_,_::_,_,_=>Y
 |_::_,[],_,h,_=>by cases h
 |_::_,_::_,[],_,q=>by cases q
 |x::r,y::s,z::t,h,q=>by
  rw[HT.rf] at h q ⊢
  by_cases e:x=y
  .subst e
   rw[ZF Y] at h
   by_cases d:x=z
   .subst d
    rw[ZF Y] at q ⊢;exact Ad h q
   .rw[Zx d] at q ⊢;exact q
  .rw[Zx e] at h
   by_cases d:y=z
   .subst d
    rw[Zx e];exact h
   .rw[Zx d] at q
    let f:=by simpa using h
    let g:=by simpa using q
    rw[Zx ⋯];simp;symm
theorem kle_refl(a:LK):kle a a:=Ac a
theorem wy{a b:LK}(h:HT.lexLt a b=θ):kle a b:=by
 unfold kle
 cases q:HT.lexLt b a with
 |false=>rfl
 |true=>let:=Ad h q;rw[Ac] at this;cases this
theorem kle_trans{a b c}(g:kle a b)(d:kle b c):kle a c:=by
 unfold kle at *
 cases q:HT.lexLt c a with
 |false=>rfl
 |true =>
  cases f:HT.lexLt a b with
  |true=>let:=Ad q f;rw[d] at this;cases this
  |false =>
   let e:=wx f g;subst e;rw[d] at q;cases q
theorem HB{a b}(c:kle a b)(d:kle b a):a=b:=wx d c
section
variable{n:Nat}{k:Nat->LK}{I:ο->Prop}{cmp:Nat->Nat->(Bool->ο->Prop)->ο->Prop}
def oR(n:Nat)(k:Nat->LK)(I:ο->Prop)(a:Nat->Nat->(Bool->ο->Prop)->ο->Prop):Prop :=
 ∀(i j:Nat)(C:Bool->ο->Prop)(s:ο),i<n->j<n->I s->(∀b,I b->C (HT.lexLt (k i) (k j)) b)->a i j C s
meta def KA(k:Nat->LK)(p:Array Nat)(i:Nat):LK:=k (p.getD i 0)
structure eD(n:Nat)(p:Array Nat):Prop where
 perm:p.Perm (Z1 n).toArray
theorem eD.size{p}(h:eD n p):p.size=n:=by let:=h.perm.size_eq;simpa using this
theorem eD.lt{p}(h:eD n p){i}(a:i<n):p.getD i 0<n:=by
 let b:=h.size;let e:p.getD i 0=p[i]:=by simp[q36,b,a]
 rw[e];let:p[i]∈(Z1 n).toArray:=(h.perm.mem_iff).mp (Array.getElem_mem _);simpa using this
theorem uu{p q:Array Nat}{i j}(h:p[i]?=q[j]?):p.getD i 0=q.getD j 0:=by
 rw[q0s,q0s,h]
theorem wz{p i j}(hj:j<=p.size) t:KA k (kas_rev p i j) t=if i<=t/\t<j then KA k p (i+j-1-t) else KA k p t:=by
 let e:=getElem?_mirror_all  (i:=i) hj t;unfold KA kas_rev
 by_cases c:i<=t/\t<j
 .rw[ZF c] at e ⊢;rw[uu e]
 .rw[Zx c] at e ⊢;rw[uu e]
theorem QW{p src d}(b:src<p.size)(hd:d<=src) t :
  KA k (bubble p src d) t=if t=src-d then KA k p src else if src-d<t/\t<=src then KA k p (t-1) else KA k p t:=by
 let e:=getElem?_bubble b d hd t;unfold KA
 by_cases c:t=src-d
 .rw[ZF c] at e ⊢;rw[uu e]
 .rw[Zx c] at e ⊢
  by_cases a:src-d<t/\t<=src
  .rw[ZF a] at e ⊢;rw[uu e]
  .rw[Zx a] at e ⊢;rw[uu e]
def Up(k:Nat->LK)(p:Array Nat)(m:Nat):Prop:=∀i j,i<=j->j<m->kle (KA k p i) (KA k p j)
def Dn(k:Nat->LK)(p:Array Nat)(m:Nat):Prop:=∀i j,i<=j->j<m->kle (KA k p j) (KA k p i)
theorem Up.snoc{p m}(h:Up k p m)(d:1<=m)(q:kle (KA k p (m-1)) (KA k p m)):Up k p (m+1):=λi j a f=>by
 by_cases c:j<m
 .exact h i j a c
 .let e:j=m:=by symm
  subst e
  by_cases b:i=j
  .subst b;exact kle_refl _
  .calc kle_trans (h i (j-1) ⋯ ⋯) q
theorem Dn.snoc{p m}(h:Dn k p m)(d:1<=m)(q:kle (KA k p m) (KA k p (m-1))):Dn k p (m+1):=λi j a f=>by
 by_cases c:j<m
 .exact h i j a c
 .let e:j=m:=by symm
  subst e
  by_cases b:i=j
  .subst b;exact kle_refl _
  .calc kle_trans q (h i (j-1) ⋯ ⋯)
theorem Up.one{p}:Up k p 1:=λi j a b=>by
 let:i=j:=by symm
 subst this;calc kle_refl _
theorem Dn.one{p}:Dn k p 1:=λi j a b=>by
 let:i=j:=by symm
 subst this;calc kle_refl _
theorem eD.rev{p}(h:eD n p) i j:eD n (kas_rev p i j):=⟨(mirror_perm _ _ _ _).trans h.perm⟩
theorem eD.QX{p}(h:eD n p) i j:eD n (bubble p i j):=⟨(bubble_perm _ _ _).trans h.perm⟩
theorem HC(r:oR n k I cmp){p}(j:eD n p):∀f m s Q,1<=m->m+f=n->Up k p m->I s →
  (∀g s',m<=g->g<=n->Up k p g->I s'->Q g s')->(kas_asc p f m).kasWp cmp Q s
 |0,m,s,Q,u,v,i,l,e=>e m s (tm _) ⋯ i l
 |f+1,m,s,Q,u,v,i,l,e=>by
  refine r _ _ _ s (j.lt ⋯) (j.lt ⋯) l λt h=>?_
  cases q:HT.lexLt (k (p.getD m 0)) (k (p.getD (m-1) 0)) with
  |true=>exact e m t (tm _) ⋯ i h
  |false =>
   calc HC r j f (m+1) t Q ⋯ ⋯ (i.snoc u q) h λg o a b c d=>e g o ⋯ b c d
def Ae(k:Nat->LK)(p:Array Nat)(m q:Nat):Prop:=∀t,m-(q+1)<=t->t<m->KA k p t=KA k p (m-1)
theorem HD{p m q}(a:m<=p.size)(b:q+1<=m)(e:Ae k p m q) t:KA k (kas_rev p (m-(q+1)) m) t=KA k p t:=by
 rw[wz a];split
 .rename_i c
  rw[e _ ⋯ ⋯,e t c.1 c.2]
 .rfl
theorem Dn.congr{p c m}(h:Dn k p m)(e:∀t,KA k c t=KA k p t):Dn k c m:=λi j a b=>by rw[e,e];calc h i j a b
theorem wA(x:oR n k I cmp):∀(f:Nat)(p:Array Nat)(m q:Nat)(s:ο)(Q:Array Nat×Nat×Nat->ο->Prop),eD n p->1<=m->m+f=n->q+1<=m->Dn k p m->Ae k p m q->I s →
  (∀r j u s',eD n r->m<=j->j<=n->u+1<=j->Dn k r j->Ae k r j u->I s'->Q (r,j,u) s')->(kas_desc f p m q).kasWp cmp Q s
 |0,p,m,q,s,Q,l,C,L,D,w,y,F,h=>h p m q s l (tm _) ⋯ D w y F
 |f+1,p,m,q,s,Q,l,C,L,D,w,y,F,h=>by
  calc x _ _ _ s (l.lt ⋯) (l.lt ⋯) F λE v=>?_;let N:=l.size
  cases G:HT.lexLt (k (p.getD m 0)) (k (p.getD (m-1) 0)) with
  |true =>
   let H:=wy G
   by_cases A:q>0
   .rw[ZF A]
    let e:=HD     ⋯ D y;calc wA x f _ (m+1) 0 E Q (l.rev _ _) ⋯ ⋯ ⋯ ((w.snoc C H).congr e) (λt a b=>?_) v λr j u o a b c d e g i=>h r j u o a ⋯ c d e g i;let:t=m+1-1:=by symm
    rw[this]
   .rw[Zx A]
    calc wA x f p (m+1) 0 E Q l ⋯ ⋯ ⋯ (w.snoc C H) (λt a b=>?_) v λr j u o a b c d e g i=>h r j u o a ⋯ c d e g i;let:t=m+1-1:=by symm
    rw[this]
  |false =>
   refine x _ _ _ E (l.lt ⋯) (l.lt ⋯) v λJ B=>?_
   cases M:HT.lexLt (k (p.getD (m-1) 0)) (k (p.getD m 0)) with
   |true=>exact h p m q J l (tm _) ⋯ D w y B
   |false =>
    let K:KA k p m=KA k p (m-1):=wx G M;calc wA x f p (m+1) (q+1) J Q l ⋯ ⋯ ⋯ (w.snoc C (by rw[K];calc kle_refl _)) (λt a b=>?_) B λr j u o a b c d e g i=>h r j u o a ⋯ c d e g i;show KA k p t=KA k p m
    by_cases z:t=m
    .rw[z]
    .rw[y t ⋯ ⋯,K]
theorem Dn.rev{p:Array Nat}{m:Nat}(h:Dn k p m)(a:m<=p.size):Up k (kas_rev p 0 m) m:=λi j b c=>by
 rw[wz a,wz a,ZF ⟨q0d _,⋯⟩,ZF ⟨q0d _,c⟩];calc h _ _ ⋯ ⋯
theorem HE(i:oR n k I cmp){p:Array Nat}(f:eD n p){m:Nat}{s:ο}{Q:Nat×Array Nat->ο->Prop}(j:1<=m)(r:m<=n)(l:Dn k p m)(o:I s)
  (h:∀g e s',eD n g->1<=e->e<=n->Up k g e->I s'->Q (e,g) s'):(kas_tail3 m n p).kasWp cmp Q s:=by
 unfold kas_tail3;rw[KasT.kasWp_bind];let t:=f.size;calc HC i (f.rev 0 m) (n-m) m s _ j ⋯ (l.rev ⋯) o λe q a b c d=>h _ e q (f.rev 0 m) ⋯ b c d
theorem HF(l:oR n k I cmp){p:Array Nat}(q:eD n p){m:Nat}{s:ο}{Q:Nat×Array Nat->ο->Prop}(w:1<=m)(x:m+1<=n)(r:Dn k p (m+1))(u:I s)
  (h:∀j f s',eD n j->1<=f->f<=n->Up k j f->I s'->Q (f,j) s'):(kas_descPart m n p).kasWp cmp Q s:=by
 unfold kas_descPart;rw[KasT.kasWp_bind];refine wA l (n-(m+1)) p (m+1) 0 s _ q ⋯ ⋯ ⋯ r (λt a b=>?_) u λj f v y a b c d e g i=>?_
 .let:t=m+1-1:=by symm
  rw[this]
 .let z:=a.size
  dsimp only
  by_cases o:v>0
  .rw[ZF o]
   exact HE l (a.rev _ _) ⋯ c (e.congr (HD ⋯ d g)) i h
  .rw[Zx o]
   calc HE l a ⋯ c e i h
theorem QY(y:oR n k I cmp){p:Array Nat}(o:eD n p){s:ο}{Q:Nat×Array Nat->ο->Prop}(O:1<=n)(v:I s)
  (g:∀C h s',eD n C->1<=h->h<=n->Up k C h->I s'->Q (h,C) s'):(kas_count n p).kasWp cmp Q s:=by
 unfold kas_count;rw[KasT.kasWp_bind];let P:=o.size
 let D:∀f m s w,1<=m->m+f=n->Up k p m->I s →
   (∀h u,m<=h->h<=n->Up k p h->(h<n->HT.lexLt (KA k p h) (KA k p (h-1))=θ)->I u->w h u)->(kas_asc p f m).kasWp cmp w s:=by
  ext f
  induction f with
  |zero=>ext m s w a b r v g;exact g m s (tm _) ⋯ r (λz=>absurd z ⋯) v
  |succ f H =>
   refineλm s w a b r v g=>y _ _ _ s (o.lt ⋯) (o.lt ⋯) v λu l=>?_
   cases q:HT.lexLt (k (p.getD m 0)) (k (p.getD (m-1) 0)) with
   |true=>exact g m u (tm _) ⋯ r (λ_=>q) l
   |false =>
    exact H (m+1) u w ⋯ ⋯ (r.snoc a q) l λh E a b c d e=>g h E ⋯ b c d e
 refine D (n-1) 1 s _ (tm _) ⋯ Up.one v λm u a b r A l=>?_
 by_cases G:m=n
 .subst G
  rw[ZF (by simp)];exact g p m u o a (tm _) r l
 .rw[Zx G⁻¹]
  let F:m<n:=by symm
  let A:=A F
  by_cases J:m>1
  .rw[ZF J]
   refine y _ _ _ u (o.lt ⋯) (o.lt ⋯) l λK x=>?_
   cases q:HT.lexLt (k (p.getD 0 0)) (k (p.getD (m-1) 0)) with
   |true=>exact g p m K o a b r x
   |false =>
    let B:=λt L=>by
     refine HB (r t (m-1) ⋯ ⋯) (kle_trans q (r 0 t (q0d _) L))
    let e:∀t,KA k (kas_rev p 0 m) t=KA k p t:=λt=>by
     rw[wz ⋯];split
     .rename_i c;rw[B _ ⋯,B t c.2]
     .rfl
    calc HF y (o.rev 0 m) ⋯ ⋯ (Dn.congr  (Dn.snoc (λi j M N=>?_) ⋯ (wy A)) e) x g;rw[B i ⋯,B j N];exact kle_refl _
  .let:m=1:=by symm
   subst this;calc HF y o ⋯ ⋯ (Dn.one.snoc (tm _) (wy A)) l g
theorem Af(v:oR n k I cmp){p:Array Nat}(h:eD n p){t:Nat}(w:t<n)(j:Up k p t):∀(f l r:Nat)(s:ο)(Q:Nat->ο->Prop),l<=r->r<=t->r-l<=f →
  (∀i,i<l->kle (KA k p i) (KA k p t))->(∀i,r<=i->i<t->kle (KA k p t) (KA k p i))->I s →
  (∀l' s',l'<=t->(∀i,i<l'->kle (KA k p i) (KA k p t))->(∀i,l'<=i->i<t->kle (KA k p t) (KA k p i))->I s'->Q l' s')->(kas_place p t f l r).kasWp cmp Q s
 |0,l,r,s,Q,y,m,z,o,e,u,d=>by
  let:l=r:=by symm
  subst this;exact d l s m o e u
 |f+1,l,r,s,Q,y,m,z,o,e,u,d=>by
  unfold kas_place
  by_cases c:l ≥ r
  .rw[ZF c]
   let:l=r:=by symm
   subst this;exact d l s m o e u
  .rw[Zx c]
   refine v _ _ _ s (h.lt w) (h.lt ⋯) u λx g=>?_
   cases q:HT.lexLt (k (p.getD t 0)) (k (p.getD ((l+r) / 2) 0)) with
   |true =>
    exact Af v h w j f l ((l+r) / 2) x Q ⋯ ⋯ ⋯ o (λi a b=>kle_trans (wy q) (j _ _ a b)) g d
   |false =>
    calc Af v h w j f ((l+r) / 2+1) r x Q ⋯ m ⋯ (λi a=>kle_trans (j i ((l+r) / 2) ⋯ ⋯) q) e g d
theorem HG(v:oR n k I cmp):∀(f:Nat)(p:Array Nat)(t:Nat)(s:ο)(Q:Array Nat->ο->Prop),eD n p->t+f=n->Up k p t->I s →
  (∀m s',eD n m->Up k m n->I s'->Q m s')->(kas_bin f p t).kasWp cmp Q s
 |0,p,t,s,Q,g,C,e,o,c=>by
  let:t=n:=by symm
  subst this;exact c p s g e o
 |f+1,p,t,s,Q,g,C,e,o,c=>by
  unfold kas_bin;rw[KasT.kasWp_bind];let F:=g.size;calc Af v g ⋯ e t 0 t s _ (q0d _) (tm _) ⋯ (λi a=>absurd a ⋯) (λi a b=>absurd b ⋯) o λl B G D q r=>HG v f _ (t+1) B Q (g.QX _ _) ⋯ (λi j u H=>?_) r c;let w:=λx=>QW (k:=k) (p:=p) (src:=t) (d:=t-l) ⋯ ⋯ x;let E:t-(t-l)=l:=by symm
  rw[w i,w j,E]
  by_cases y:i=l
  .subst y
   rw[ZF Y]
   by_cases h:j=i
   .rw[ZF h];exact kle_refl _
   .rw[Zx h,ZF ⟨⋯,⋯⟩]
    exact q (j-1) ⋯ ⋯
  .rw[Zx y]
   by_cases h:j=l
   .subst h
    rw[ZF Y,Zx ⋯];exact D i ⋯
   .rw[Zx h]
    by_cases z:l<i/\i<=t
    .rw[ZF z,ZF ⟨⋯,⋯⟩]
     exact e _ _ ⋯ ⋯
    .rw[Zx z]
     by_cases A:l<j/\j<=t
     .rw[ZF A];exact e _ _ ⋯ ⋯
     .rw[Zx A];calc e _ _ u ⋯
theorem QZ(g:oR n k I cmp){s:ο}{Q:Array Nat->ο->Prop}(i:1<=n)(j:I s)(f:∀p s',eD n p->Up k p n->I s'->Q p s'):(kas_sort n).kasWp cmp Q s:=by
 unfold kas_sort;rw[KasT.kasWp_bind];refine QY g ⟨q6d _⟩ i j λp m h a b c d e=>?_
 by_cases q:m<n
 .rw[ZF q]
  let:max m 1=m:=by symm
  rw[this];exact HG g (n-m) p m h Q a ⋯ d e f
 .rw[Zx q]
  let:m=n:=by symm
  subst this;calc f p h a d e
end
end L2
namespace L2
open PySem PySem.Spec PyProof.Rows
theorem HH{δ0:aO}{ft:aO->Prop}{g:WG}{b:WS}{K:KS}(I:Nat->aO->Prop):∀(items:-D)(i:Nat)(δ:aO),I i δ →
  (∀j d δ (L:aO->Prop),items[j]?=ζ d->I (i+j) δ->(∀δ',I (i+j+1) δ'->L δ')->ft δ/\g (.p d) δ fun δ1=>b {nx:=fun δ2=>L (δ0.trim δ2),ct:=fun δ2=>L (δ0.trim δ2),bk:=K.nx,rt:=K.rt} δ1) →
  (∀δ,I (i+↑items) δ->ft δ/\K.nx δ)->kG δ0 ft g b K items δ
 |[],i,δ,h,_,fin=>fin δ h
 |d::r,i,δ,h,st,fin=>by
  unfold kG;calc st 0 d δ (fun δ'=>kG δ0 ft g b K r δ') Y h fun δ' hi=>?_;refine HH I r (i+1) _ hi (λj e δ L hj hI hL=>?_) fun δ hI=>?_
  .let e:i+1+j=i+(j+1):=by symm
   rw[e] at hI hL;exact st (j+1) _ δ L hj⁻¹ hI hL
  .exact fin δ (by rw[Ge];let e:i+1+↑r=i+(↑r+1):=by symm
                   rw[e] at hI;calc hI)
theorem kK{c e g b K items a}(I:Nat->aO->Prop)(n:I 0 a)
  (st:∀j d a (L:aO->Prop),items[j]?=ζ d->I j a->(∀h,I (j+1) h->L h)->e a/\g (.p d) a λk=>b {nx:=λf=>L (c.trim f),ct:=λf=>L (c.trim f),bk:=K.nx,rt:=K.rt} k)
  (l:∀a,I ↑items a->e a/\K.nx a):kG c e g b K items a :=
 HH I items 0 a n (λj d a L o i m=>by rw[q0p] at i m;calc st j d a L o i m) λa i=>by rw[q0p] at i;calc l a i
def uv(a:aO)(h:aO->Prop)(g:WG)(t:WT)(f:WE)(d:D)(acc:-D)(l:aO)(L:-D->aO->Prop):Prop :=
 h l/\g (.p d) l λi=>t i λb c=>if b=θ then f c λx j=>nq x j λe k=>↑acc<1000/\L (acc++[e]) (a.trim k) else L acc (a.trim c)
theorem HI{δ0:aO}{ft:aO->Prop}{g:WG}{t:WT}{f:WE}{K:-D->aO->Prop}(I:Nat->-D->aO->Prop):∀(items:-D)(i:Nat)(acc:-D)(δ:aO),I i acc δ →
  (∀j d acc δ (L:-D->aO->Prop),items[j]?=ζ d->I (i+j) acc δ->(∀ke δ',I (i+j+1) ke δ'->L ke δ')->uv δ0 ft g t f d acc δ L) →
  (∀acc δ,I (i+↑items) acc δ->ft δ/\K acc δ)->jR δ0 ft g t f K items acc δ
 |[],i,acc,δ,h,_,fin=>fin acc δ h
 |d::r,i,acc,δ,h,st,fin=>by
  unfold jR;calc st 0 d acc δ (λke δ'=>jR δ0 ft g t f K r ke δ') Y h λke δ' hi=>?_;refine HI I r (i+1) ke _ hi (λj e acc δ L hj hI hL=>?_) λacc δ hI=>?_
  .let e:i+1+j=i+(j+1):=by symm
   rw[e] at hI hL;exact st (j+1) _ acc δ L hj⁻¹ hI hL
  .exact fin acc δ (by rw[Ge];let e:i+1+↑r=i+(↑r+1):=by symm
                       rw[e] at hI;calc hI)
theorem Ag{h c g t f K items a}(I:Nat->-D->aO->Prop)(n:I 0 [] a)
  (st:∀j d acc a L,items[j]?=ζ d->I j acc a->(∀b i,I (j+1) b i->L b i)->uv h c g t f d acc a L)
  (l:∀acc a,I ↑items acc a->c a/\K acc a):jR h c g t f K items [] a :=
 HI I items 0 [] a n (λj d e a L o k m=>by rw[q0p] at k m;calc st j d e a L o k m) λe a k=>by rw[q0p] at k;calc l e a k
theorem rL{a b g t f K items} p h (u:↑items<=1000) (o:b a)
  (st:∀d∈items,∀acc L,↑acc<1000->(p d=θ->L (acc++[h d]) a)->(p d=ι->L acc a)->uv a b g t f d acc a L)
  (k:K ((items.filter p).map h) a):jR a b g t f K items [] a:=by
 refine Ag (λi c l=>l=a/\c=((items.take i).filter p).map h) ⟨Y,Y⟩ ?_ ?_
 .ext j d c l L m ⟨rfl,rfl⟩ n
  let r:=(ri.mp m).1
  let s:↑(((items.take j).filter p).map h)<1000:=by
   rw[qa];let:=List.length_filter_le p (items.take j);rw[ZH] at this;symm
  let e:items.take (j+1)=items.take j++[d]:=by rw[q1u,m];rfl
  refine st d (ZZ m) _ L s (λq=>n _ _ ⟨Y,?_⟩) (λq=>n _ _ ⟨Y,?_⟩)
  .rw[e,q5i,ZM];simp[q8S,q]
  .rw[e,q5i,ZM];simp[q8S,q]
 .ext c l ⟨rfl,rfl⟩
  rw[Z_ (tm _)];calc⟨o,k⟩
theorem lu{a b g t f K items} c (j:↑items<=1000) (k:b a)
  (st:∀d∈items,∀acc L,↑acc<1000->L (acc++[c d]) a->uv a b g t f d acc a L)
  (i:K (items.map c) a):jR a b g t f K items [] a :=
 rL (λ_=>θ) c j k (λd l e L m h _=>st d l e L m (h Y)) (by rw[List.filter_eq_self.mpr λ_ _=>Y];calc i)
end L2
namespace LJ
open PySem L2
theorem Ah:bootBuiltins "range" = ζ (.type "range"):=by decide +kernel
theorem Q0:bootBuiltins "sum" = ζ (.builtin "sum"):=by decide +kernel
theorem HJ:bootBuiltins "max" = ζ (.builtin "max"):=by decide +kernel
theorem Q1:bootBuiltins "min" = ζ (.builtin "min"):=by decide +kernel
theorem uw:bootBuiltins "sorted" = ζ (.builtin "sorted"):=by decide +kernel
structure BT(mg:Z->Option ν):Prop where
 len:mg "len" = η
 range:mg "range" = η
 list:mg "list" = η
 tuple:mg "tuple" = η
 set:mg "set" = η
 sorted:mg "sorted" = η
 min:mg "min" = η
 max:mg "max" = η
 sum:mg "sum" = η
 all:mg "all" = η
 any:mg "any" = η
 enumerate:mg "enumerate" = η
 zip:mg "zip" = η
 isinstance:mg "isinstance" = η
 int:mg "int" = η
 bool:mg "bool" = η
 str:mg "str" = η
 repr:mg "repr" = η
end LJ
namespace L2
open PySem PySem.Spec PyProof.Rows
variable[zt:aM]
def wB(X:Cx)(f:ν)(g:-D->(-D->Prop)->Prop):Prop :=
 g_ X f λe H Q=>∃F b K,aI F H/\jq F H b e/\g b K/\∀c d a,K c->H a=η->aq F c d->Q (.ref a) (upd H a (.lst d))
def rM(b:WA)(op:-D->(-D->Prop)->Prop):WE:=λc K=>b c λd a=>lh d a λe=>op e λf=>K (.o ↑a.mu) ⟨a.sl,a.mu++[ζ (.lst f)]⟩
def wC:-D->(-D->Prop)->Prop
 |[.lst a],K=>K a
 |[.tup a],K=>K a
 |_,_=>False
def wD:-D->(-D->Prop)->Prop
 |[.lst b],K=>match intsOf b with
  |some a=>↑a<64/\K ((sortI a).map D.int)
  |none=>False
 |_,_=>False
section
variable{X:Cx}{fa:WA}{pos:Δ}
theorem Ai{F H a b c p}(S:SR F a b c H):dB F (a++[p]) (.o ↑b.mu) (.ref p) :=
 ⟨p,by rw[<-S.cD,YD (tm _),q0O];rfl,Y⟩
theorem HK{r:-V->Hp->VK->Prop}{op:-D->(-D->Prop)->Prop}(l:∀xs H Q,(∃F ds K,aI F H/\jq F H ds xs/\op ds K/\∀d vs a,K d->H a=η->aq F d vs->Q (.ref a) (upd H a (.lst vs)))->r xs H Q):∀e H Q,tD (rM fa op) e H Q->sW r (b_ fa) e H Q:=by
 ext e H Q ⟨F,m,n,K,S,q,k⟩;calc⟨F,m,n,_,S,q,λz o p A g s B t b u=>l _ _ _ ?_⟩;let⟨j,v,f⟩:=vV b u p;calc(zI3 g j _ ⟨b.sub,f,v,λd h a w i x=>?_⟩);let y:∀{c},fM g c (.lst d) (.lst h):=λ{c}=>⟨h,Y,x⟩;calc k _ _ w _ _ _ _ (t.trans (Ext.own b i)) (b.own i y) (Ai b)
theorem Q2{x p e es c}{o:-D->(-D->Prop)->Prop}(d:wB X (.builtin c) o)(f:Gl X x)(g:X.mg x=η)(i:bootBuiltins x=ζ (.builtin c))(j:JA X (e::es) (b_ fa))(hn:x≠"__name__" := by decide)(a: ~~~(bF x))
  (he:‹b7 X e es›) (b:‹cm X pos es›):JE X (.Call (.Name x p) (e::es) [] pos) (tD (rM fa o)) :=
 (sX d f g i j hn a he b).weak (HK λ_ _ _ h=>h)
theorem Q3{x p e es T}{o:-D->(-D->Prop)->Prop}(c:wB X (.type T) o)(d:Gl X x)(f:X.mg x=η)(g:bootBuiltins x=ζ (.type T))(i:JA X (e::es) (b_ fa))(hn:x≠"__name__" := by decide)(a: ~~~(bF x))
  (he:‹b7 X e es›) (b:‹cm X pos es›):JE X (.Call (.Name x p) (e::es) [] pos) (tD (rM fa o)) :=
 (pY c d f g i hn a he b).weak (HK λ_ _ _ h=>h)
theorem Q4:wB X (.type "list") wC:=by
 ext b s i H n j Q I r ⟨F,o,K,c,k,q,m⟩;unfold wC at q;split at q
 .let⟨v,rfl,a,d,rfl,e,f⟩:=je k
  exact ti b s i H _ j Q I r ⟨a,d,Y,.inl (bG.of e),λl g=>m _ _ _ q g f⟩
 .let⟨v,rfl,h⟩:=je k
  let⟨a,d,rfl,e,f⟩:=h;exact ti b s i H _ j Q I r ⟨a,d,Y,.inr (b9.of (c _ _ e)),λl g=>m _ _ _ q g f⟩
 .calc q.elim
theorem Q5:wB X (.builtin "sorted") wD:=by
 ext b s f H t g Q I r ⟨F,u,K,h,i,q,j⟩;unfold wD at q;split at q
 .split at q
  .rename_i k e
   let⟨v,rfl,a,w,rfl,c,d⟩:1122:=je i;rw[rG e] at d;rw[qv d] at c;calc G0 b s f H _ g Q I r (zI2 a k ⟨Y,bG.of c,q.1,λl m n o p=>?_⟩);rw[Hr n o];exact j _ _ _ q.2 p rH
  .exact q.elim
 .calc q.elim
def Aj(f g:WE):WE:=λi K=>f i λx h=>g h λy c=>iF x c λd=>iF y c λe=>match d,e with
 |.lst a,.lst b=>↑a+↑b<=1000/\K (.o ↑c.mu) ⟨c.sl,c.mu++[ζ (.lst (a++b))]⟩
 |_,_=>False
theorem Q6{a b f g}(u:JE X a (tD f))(v:JE X b (tD g)):JE X (.BinOp a .Add b pos) (tD (Aj f g)) :=
 (pV vK u v).weak λY H Q ⟨F,w,z,K,S,q,k⟩↦⟨F,w,z,_,S,q,λx j A Z B l H1 C D E=>⟨B,l,j,_,D,A,λy G I v2 J L H2 m c M=>by
  let⟨d,N,O⟩:=jM c (E.ext m) I;let⟨e,i,P⟩:=jM c M N;split at i
  .rename_i T R
   let⟨a,n,rfl,U,o⟩:22:=O;let⟨b,r,rfl,V,s⟩:22:=P;let W:∀{h},fM J h (.lst (T++R)) (.lst (n++r)):=λ{h}=>⟨_,rfl,rJ o s⟩;exact(zI4 a b n r ⟨rfl,rfl,U,V,lj (by rw[↑o,↑s];calc i.1),λp t=>k _ _ i.2 _ _ _ _ ((C.trans m).trans (Ext.own c t)) (c.own t W) (Ai c)⟩)
  .calc i.elim⟩⟩
theorem rN[cj]{st}:JS X st (dc me):=⟨λa s D b H I q=>by let⟨F,c,d,K,S,q,k⟩:=q;calc q.elim⟩
end
end L2
namespace LJS
open PySem PySem.SetTable PyProof.Rows
section
variable{prog:ψ}{w:ω}{A:Β}{S:O}{ks:-Int}
end
end LJS
namespace L2
open PySem PySem.Spec PyProof.Rows
section
variable{X:Cx}
end
end L2
namespace LJS
open PySem PySem.SetTable PyProof.Rows
meta def gE(m:Nat)(p:Probe):Probe :=
 if p.more>0 then{p with j:=p.j+1,more:=p.more-1} else
 {p with j:=(leap m p.i p.perturb).1,more:=runEnd m (leap m p.i p.perturb).1-(leap m p.i p.perturb).1,i:=(leap m p.i p.perturb).1,perturb:=(leap m p.i p.perturb).2}
theorem Q7(t:SetTable) p:t.advance p=gE t.mask p:=rfl
meta def cP(m:Nat):Nat->Probe->Probe
 |0,p=>p
 |k+1,p=>cP m k (gE m p)
theorem wF m:∀a b p,cP m (a+b) p=cP m b (cP m a p)
 |0,b,p=>by rw[q0p];rfl
 |a+1,b,p=>by rw[show a+1+b=a+b+1 by symm];calc wF m a b (gE m p)
meta def stM(m i q:Nat):Probe:=⟨i,runEnd m i-i,i,q,η⟩
meta def startM(m:Nat)(h:Int):Probe:=stM m (bits h%(m+1)) (bits h)
theorem Ak m:∀l p,l<=p.more->cP m l p={p with j:=p.j+l,more:=p.more-l}
 |0,p,_=>Y
 |l+1,p,h=>by
  show cP m l (gE m p)=_;let e:gE m p={p with j:=p.j+1,more:=p.more-1}:=by unfold gE;rw[ZF ⋯]
  rw[e,Ak m l _ (by show l<=p.more-1;symm)];congr 1<;>(dsimp only;symm)
theorem HL m i q:cP m (runEnd m i-i+1) (stM m i q)=stM m (leap m i q).1 (leap m i q).2:=by
 rw[wF m (runEnd m i-i) 1,Ak m (runEnd m i-i) (stM m i q) (tm _)];show gE m _=_;unfold gE;rw[Zx (by show ¬ (runEnd m i-i-(runEnd m i-i)>0);symm)];rfl
theorem HM{m i}(h:i<=m):runEnd m i<=m/\i<=runEnd m i:=by unfold runEnd;split<;>symm
def oS(m:Nat)(p:Probe):Prop:=p.j+p.more<=m
theorem Q8{m p}(h:oS m p):oS m (gE m p):=by
 unfold gE oS;split
 .let:p.j+p.more<=m:=h;dsimp only;symm
 .let:=HM (EK m p.i p.perturb)
  dsimp only;symm
theorem HN{m}:∀k {p},oS m p->oS m (cP m k p)
 |0,_,h=>h
 |k+1,_,h=>HN k (Q8 h)
theorem Q9 m h:oS m (startM m h):=by
 let a:bits h%(m+1)<=m:=q13 (q9i _ (q2z _));let:=HM a;unfold startM stM oS;dsimp only;symm
theorem HP m h k:(cP m k (startM m h)).j<=m:=by
 let:=HN k (Q9 m h);unfold oS at this;symm
def oU(m:Nat)(a:Nat->Prop)(h:Int)(j:Nat):Prop:=∃k,k<10*turns m/\(cP m k (startM m h)).j=j/\∀l,l<k->a (cP m l (startM m h)).j
theorem oU.mono{m b a h j}(r:oU m b h j)(k:∀x,x<=m->b x->a x):oU m a h j:=by
 let⟨n,c,d,e⟩:12:=r;calc⟨n,c,d,λl f=>k _ (HP m h l) (e l f)⟩
theorem HQ{m owner}:∀F i q j,q0V m owner F i q=ζ j->∃k,k<10*F/\(cP m k (stM m i q)).j=j/\∀l,l<k->(owner.getD (cP m l (stM m i q)).j (ζ 0)).isSome=θ
 |0,i,q,j,h=>by cases h
 |F+1,i,q,j,h=>by
  rw[xT] at h;let y:=EO m i;let z:i<=runEnd m i:=by unfold runEnd;split<;>symm
  let a:∀l,l<=runEnd m i-i->(cP m l (stM m i q)).j=i+l:=λl b=>by rw[Ak m l _ b];rfl
  split at h
  .rename_i f d
   cases h
   let A:=Z9.mp (q3A d);calc⟨f,⋯,a f ⋯,λl b=>?_⟩;rw[a l ⋯]
   let s:∀l,l<f->¬ (owner.getD (i+l) (ζ 0)).isNone=θ:=by
    ext l b t;let⟨g,B,e,u⟩:21:=List.find?_eq_some_iff_append.mp d |>.2
    let r:=by
     let:=congrArg (λx=>x[↑g]?) e;simp at this
     let v:↑g<runEnd m i+1-i:=by
      let:=congrArg q53 e;simp at this;symm
     rw[q0C v] at this;exact ZX this
    let:=by
     let n:=congrArg (λx=>x[l]?) e;erw[OO (show l<↑g by symm)] at n;rw[q0C ⋯] at n;exact ZZ n.symm
    let:=u l this;rw[t] at this;exact absurd this (by decide)
   let:=s l b
   cases q:owner.getD (i+l) (ζ 0) with
   |none=>rw[q] at this;exact absurd Y this
   |some _=>rfl
  .rename_i d
   let⟨k,w,o,p⟩:12:=HQ F _ _ j h;refine⟨runEnd m i-i+1+k,⋯,by rw[wF,HL];calc o,λl b=>?_⟩
   by_cases c:l<=runEnd m i-i
   .rw[a l c]
    let:=(q3g.mp d) l (Z9.mpr ⋯)
    cases q:owner.getD (i+l) (ζ 0) with
    |none=>rw[q] at this;exact absurd Y this
    |some _=>rfl
   .let:=p (l-(runEnd m i-i+1)) ⋯
    rw[show l=runEnd m i-i+1+(l-(runEnd m i-i+1)) by symm,wF,HL];calc this
section
variable{t:SetTable}{f:Nat->Int}{h:Int}
theorem HR(u:Up t.place){i:Nat}(c:i<t.place.size):t.slot t.place[i]=.live i:=by
 let⟨g,d,e⟩:02:=vz u t.place[i];let a:¬ i<below t.place t.place[i]:=λz=>by let:=d i c z;symm
 let b:¬ below t.place t.place[i]<i:=λz=>by
  let:=e (below t.place t.place[i]) ⋯ (tm _);let:=u.lt z c;symm
 let f:below t.place t.place[i]=i:=by symm
 unfold slot;rw[f];let:(t.place[i]?==ζ t.place[i])=θ:=by rw[ZE c];simp
 erw[this,q1S]
theorem HS(hd:t.dummies = #[]):∀F p j d,q2A t f h F p=ζ (.empty j d)->∃k,k<F/\(cP t.mask k p).j=j/\∀l,l<k->(cP t.mask l p).j∈t.place.toList
 |0,p,j,d,e=>by cases e
 |F+1,p,j,d,e=>by
  rw[pN] at e;rcases sy hd p.j with q|⟨i,q,m,b⟩
  .rw[q] at e
   cases e
   exact⟨0,q2z _,Y,λl a=>absurd a ⋯⟩
  .rw[q] at e
   dsimp only at e;split at e
   .cases e
   .let⟨k,n,c,g⟩:12:=HS hd F _ j d e
    refine⟨k+1,⋯,c,λl a=>?_⟩
    cases l with
    |zero=>exact b
    |succ l=>calc g l ⋯
theorem HU(hd:t.dummies = #[])(u:Up t.place):∀(k F:Nat)(p:Probe)(a:Nat),k<F->t.slot (cP t.mask k p).j=.live a->f a=h->(∀l,l<k->(cP t.mask l p).j∈t.place.toList)->∃j i nx,q2A t f h F p=ζ (.candidate j i nx)/\f i=h/\i<t.place.size
 |k,0,p,a,m,_,_,_=>absurd m ⋯
 |0,F+1,p,i0,_,b,e,_=>by
  rw[pN,show t.slot p.j=.live i0 from b];dsimp only;rw[ZF (by rw[e];simp)];calc(zI3 _ _ _ ⟨Y,e,?_⟩);rcases sy hd p.j with q|⟨i,q,n,_⟩
  .rw[show t.slot p.j=.live i0 from b] at q;cases q
  .rw[show t.slot p.j=.live i0 from b] at q;cases q;exact n
 |k+1,F+1,p,a,m,b,e,o=>by
  let⟨i,n,s⟩:=q0M.mp (o 0 (q2z _));let d:i<t.place.size:=by symm
  let g:=by simpa[cP] using s
  let r:=HR u d;rw[g] at r;rw[pN,r];dsimp only
  by_cases c:f i=h
  .rw[ZF (by rw[c];simp)]
   exact(zI3 _ _ _ ⟨Y,c,d⟩)
  .rw[Zx c⁻¹,Q7]
   calc HU hd u k F _ a ⋯ b e λl v=>o (l+1) ⋯
end
def qA(owner:Array (Option Nat))(j:Nat):Prop:=∃k,owner[j]?=ζ (ζ k)
structure rO(m:Nat)(hs:-Int)(owner:Array (Option Nat))(k:Nat):Prop where
 ow:Ow m owner k
 rP:∀(j i:Nat),owner[j]?=ζ (ζ i)->∃h,hs[i]?=ζ h/\oU m (qA owner) h j
theorem HV{owner:Array (Option Nat)}{j k x:Nat}(h:qA owner x):qA (owner.setIfInBounds j (ζ k)) x:=by
 let⟨i,e⟩:=h
 by_cases c:j=x
 .subst c
  exact⟨k,by simp[((q0g.mp e).1)]⟩
 .calc⟨i,by simp[c];calc e⟩
theorem Q_{m:Nat}{d:-Int}{owner:Array (Option Nat)}{k:Nat}(o:Mk m)(O:rO m d owner k)(p:k<=m){h:Int}(q:d[k]?=ζ h):
  ∃j,q0V m owner (turns m) (bits h%(m+1)) (bits h)=ζ j/\rO m d (owner.setIfInBounds j (ζ k)) (k+1):=by
 let⟨j,g,r⟩:=Mu o O.ow p h;refine⟨j,g,r,λx i e=>?_⟩
 by_cases c:j=x
 .subst c
  let f:j<owner.size:=by
   by_cases z:j<owner.size
   .exact z
   .simp[z] at e
  simp[f] at e;subst e;calc⟨h,q,?_⟩;let⟨n,s,t,u⟩:12:=HQ _ _ _ _ g;calc⟨n,s,t,λl w=>HV ?_⟩;let F:=HP m h l;let b:(cP m l (startM m h)).j<owner.size:=by rw[O.ow.size];symm
  let a:(owner.getD (cP m l (startM m h)).j (ζ 0)).isSome=θ:=(u l w);rw[show owner.getD (cP m l (startM m h)).j (ζ 0)=owner[(cP m l (startM m h)).j] by simp[q36,b]] at a;let⟨v,A⟩:=q1G.mp a;exact⟨v,by rw[ZE b,A]⟩
 .simp[c] at e
  let⟨B,C,D⟩:=O.rP x i e;calc⟨B,C,D.mono λy _ E=>HV E⟩
theorem HW{m:Nat}(f:Mk m){c:-Int}:∀(d:-Int)(owner:Array (Option Nat))(k:Nat),rO m c owner k->c.drop k=d->k+↑d<=m+1 →
  ∃b,(d.foldl (init:=ζ (owner,k)) λacc h=>do
   let(owner,k) <- acc
   let j <- q0V m owner (turns m) (bits h%(m+1)) (bits h)
   pure (owner.setIfInBounds j (ζ k),k+1))=ζ (b,k+↑d)/\rO m c b (k+↑d)
 |[],a,k,O,_,_=>⟨a,Y,O⟩
 |h::d,a,k,O,e,i=>by
  rw[Ge] at i ⊢
  let g:k<↑c:=by
   let:=congrArg q53 e;rw[q0j,Ge] at this;symm
  rw[q0y g] at e;let l:c[k]?=ζ h:=by rw[p_ g];exact congrArg ζ (q60 e).1
  let⟨j,n,o⟩:=Q_ f O ⋯ l;let⟨p,q,r⟩:=HW f d _ (k+1) o (q60 e).2 ⋯;calc⟨p,?_,by rw[show k+(↑d+1)=k+1+↑d by symm];calc r⟩;rw[q27,show k+(↑d+1)=k+1+↑d by symm,<-q];congr 1;show(do let j <- q0V m a (turns m) (bits h%(m+1)) (bits h);pure (a.setIfInBounds j (ζ k),k+1))=_;rw[n];rfl
theorem Ra m a:rO m a (q4a (m+1) η) 0:=by
 calc⟨EV m,λj i e=>?_⟩;rw[Array.getElem?_replicate] at e;split at e<;>cases e
theorem Rb{m:Nat}(b:Mk m)(a:Array Int)(hz:a.size<=m+1):∃owner,layClean m a=ζ owner/\rO m a.toList owner a.size:=by
 let⟨o,e,O⟩:=HW b a.toList _ 0 (Ra m a.toList) Y (by rw[ZC];symm);rw[q0p,ZC] at O;calc⟨o,?_,O⟩;unfold layClean;rw[<-q49,e];rfl
theorem Rc{m:Nat}(y:Mk m)(t:SetTable)(c:Array Int)(b:Nat)(A:sizeAbove b-1=m)(hz:c.size<=m+1):
  ∃t' order,t.relaid c b=ζ (t',order)/\t'.mask=m/\t'.dummies = #[]/\t'.place.size=c.size/\Up t'.place/\order.size=c.size/\order.toList.Perm (Z1 c.size) ∧
   ∀(i j k:Nat),t'.place[i]?=ζ j->order[i]?=ζ k->∃h,c[k]?=ζ h/\oU m (· ∈ t'.place.toList) h j:=by
 let⟨p,e,O⟩:=Rb y c hz;let⟨a,C,_,D⟩:12:=MI y c hz;let:=ZX (C.symm.trans e);subst this;refine(zI2 ({mask:=m,place:=((l7 m a).map (·.1)).toArray,dummies := #[],finger:=t.finger,led:=t.led,moves:=t.movedTo m,plain:=t.plain}) (((l7 m a).map (·.2)).toArray) ⟨?_,Y,Y,?_,MD m a,?_,?_,λi j k n o=>?_⟩)
 .unfold relaid laid
  rw[A,e];rfl
 .rw[Gf,qa,EW O.ow]
 .rw[Gf,qa,EW O.ow]
 .rw[MJ O.ow.size]
  exact D
 .let n:((l7 m a).map (·.1))[i]?=ζ j:=by simpa using n
  let o:((l7 m a).map (·.2))[i]?=ζ k:=by simpa using o
  rw[OS] at n o;let⟨z,d,rfl⟩:=YE.mp n;let⟨z',f,rfl⟩:=YE.mp o;rw[d] at f;cases f
  let u:∀z∈l7 m a,a[z.1]?=ζ (ζ z.2):=λz B=>by
   let⟨q,r,s⟩:=q1s.mp B;let⟨H,g,rfl⟩:=YE.mp s;let:q<a.size:=by rw[O.ow.size];exact Z9.mp r
   rw[show a.getD q η=a[q] by simp[q36,this]] at g;rw[ZE this,g]
  let⟨h,E,F⟩:=O.rP _ _ (u z (ZZ d));calc⟨h,by rw[<-ZU];calc E,F.mono λx I v=>?_⟩;let⟨G,l⟩:=v;calc ZI.mpr ⟨(x,G),q1s.mpr ⟨x,Z9.mpr ⋯,?_⟩,Y⟩;let w:=(q0g.mp l).1;rw[show a.getD x η=a[x] by simp[q36,w],(q0g.mp l).2];rfl
structure nK(hk:Nat->Int)(ad:Nat->O)(t:SetTable)(es:Array (Int×ν))(js:-Nat):Prop where
 P:gw t es (js.map hk)
 up:Up t.place
 qB:(js.map hk).Nodup
 el:∀e∈es.toList,∃j∈js,e=(hk j,Z4 (ad j))
 all:∀j∈js,∃e∈es.toList,e.1=hk j
 rP:∀(i:Nat)(e:Int×ν)(j:Nat),es[i]?=ζ e->t.place[i]?=ζ j->oU t.mask (· ∈ t.place.toList) e.1 j
def hW(b:Nat->Int)(c:Nat->O)(h:Α)(S:O)(js:-Nat):Prop:=∃o a d t,h.get? S=ζ o/\o.ExactSet/\o.data=.set a d t/\nK b c t a js
theorem HX{a b h h' S js}(x:hW a b h S js)(k:∀o,h.get? S=ζ o->h'.get? S=ζ o):hW a b h' S js:=by
 let⟨o,c,d,t,e,r⟩:41:=x;calc(zI4 o c d t ⟨k o e,r⟩)
theorem HY{b}{xs:Array b}{p x}(g:p<=xs.size) i:(insertAt xs p x)[i]?=if i<p then xs[i]? else if i=p then ζ x else xs[i-1]?:=by
 let e:(insertAt xs p x).toList=xs.toList.take p++x::xs.toList.drop p:=by
  unfold insertAt;erw[q4G,q2B,q4r,q3y,q1L,q2C,q00,List.singleton_append];rw[Z_ (l:=xs.toList.drop p) (by rw[q0j,ZC];calc tm _)]
 rw[<-ZU,e];let f:↑(xs.toList.take p)=p:=by rw[ZH,ZC];symm
 by_cases c:i<p
 .rw[ZF c,OO ⋯,Z2 c,ZU]
 .rw[Zx c,YD ⋯,f]
  by_cases a:i=p
  .rw[ZF a,a,q0O];rfl
  .rw[Zx a]
   let⟨d,rfl⟩:∃d,i=p+1+d:=⟨i-p-1,⋯⟩;rw[show p+1+d-p=d+1 by symm,q2w,q3v,ZU];congr 1;symm
theorem Rf{d:Type}{es:Array d}{order:Array Nat}(h:∀k∈order.toList,k<es.size)(i:Nat):(order.filterMap (es[·]?))[i]?=(order[i]?).bind λk=>es[k]?:=by
 let:∀l:-Nat,(∀k∈l,k<es.size)->∀i:Nat,(l.filterMap λk=>es[k]?)[i]?=(l[i]?).bind λk=>es[k]?:=by
  ext l
  induction l with
  |nil=>ext _ i;simp
  |cons k r e =>
   ext c i;let a:=c k YB;rw[q07,ZE a]
   cases i with
   |zero=>simp[ZE a]
   |succ i=>simpa using e (λf b=>c f (Yz _ b)) i
 rw[<-ZU,q1R,(this order.toList h i),ZU]
section
variable{hk:Nat->Int}{ad:Nat->O}{t:SetTable}{es:Array (Int×ν)}{js:-Nat}
theorem nK.found(T:nK hk ad t es js){h}(m:h∈js.map hk):∃j i nx,t.probe (λi=>(es[i]?.map (·.1)).getD 0) h (t.probeStart h)=ζ (.candidate j i nx)/\∃e,es[i]?=ζ e/\e.1=h:=by
 let⟨j,o,rfl⟩:=ZI.mp m;let⟨e,p,d⟩:=T.all j o;let⟨i,A,q⟩:=q0M.mp p;let a:i<es.size:=by symm
 let g:es[i]?=ζ e:=by rw[ZE a];exact congrArg ζ q⁻¹
 let l:i<t.place.size:=by rw[T.P.oD];exact a
 let r:=T.rP i e _ g (ZE l);rw[d] at r;let⟨k,s,u,v⟩:12:=r;let⟨w,c,n,x,y,z⟩:32:=HU  (f:=λi=>(es[i]?.map (·.1)).getD 0) (h:=hk j) T.P.sA T.up k (10*turns t.mask) (startM t.mask (hk j)) i s (by rw[u];calc(HR T.up l)) (by rw[g];calc d) v;calc(zI3 w c n ⟨x,?_⟩);let b:c<es.size:=by rw[<-T.P.oD];exact z
 calc⟨es[c],ZE b,by let:=y;rw[ZE b] at this;calc this⟩
end
section
variable{prog:ψ}{w:ω}{A:Β}{E:br}{s:ο}{ad:Nat->O}{ks:Nat->-Int}{js:-Nat}{S:O}
meta abbrev aY(prog:ψ)(w:ω)(ks:Nat->-Int)(j:Nat):Int:=hT prog w (ks j)
theorem HZ{k a}{Q:Bool->ο->Prop}(f:IsTupleKey (intKind prog w) s.heap k a)(h:Q ι s):ρ (ς prog w) A (ofAClassStatement 8 (.ref a)) Q E s:=by
 let g:=f.typeIs;let⟨o,j,n,l,_,m,p⟩:33:=f;unfold ofAClassStatement;calc nh (q2G g (nh (y9 (nh (q01 l m (nh ?_))))));rw[<-q4_];refine q2T _ (λb r e=>e=s/\r=(η,q9z)/\∀v∈b,∃i t,v=q2t i t) _ ?_ ?_ _ _ ⟨Y,Y,EY p⟩
 .ext v b r e d;let⟨rfl,rfl,c⟩:02:=d
  let⟨i,t,rfl⟩:2:=c v YB;exact y9 ⟨Y,Y,λu q=>c u (Yz _ q)⟩
 .ext r e ⟨rfl,rfl,_⟩
  calc y9 h
theorem Rg{k a}{Q:Bool->ο->Prop}{c}(m:IsTupleKey (intKind prog w) s.heap k a)(o:∀y∈c,∃j b,y=Z4 b/\IsTupleKey (intKind prog w) s.heap j b)(h:Q ι s):ρ (ς prog w) A (searchCouldBeSeen (.ref a) c) Q E s:=by
 refine nh (q2T _ (λe r l=>l=s/\r=(η,q9z)/\∀y∈e,∃j b,y=Z4 b/\IsTupleKey (intKind prog w) s.heap j b) _ ?_ ?_ _ _ ⟨Y,Y,o⟩)
 .ext v e r l g;let⟨rfl,rfl,f⟩:02:=g
  let⟨j,b,rfl,n⟩:21:=f v YB;let d:=λu p=>f u (Yz _ p);exact q6e (λ_=>y9 ⟨Y,Y,d⟩) (λ_=>nh (q4m m (nh (q4m n (nh (HZ m (nh (HZ n (y9 ⟨Y,Y,d⟩)))))))))
 .ext r l i;let⟨rfl,rfl,_⟩:02:=i
  calc y9 h
theorem Rh{i:Nat}{o:Obj}{es:Array (Int×ν)}{x:Nat}{t:SetTable}{Q:SetFound->ο->Prop}(n:s.heap.get? S=ζ o)(hd:o.data=.set es x t)(T:nK (aY prog w ks) ad t es js)(B:A.units<cLine)
  (a:∀j∈i::js,IsTupleKey (intKind prog w) s.heap (ks j) (ad j)) (h:∀j∈js,aY prog w ks j=aY prog w ks i->ks j=ks i) (C:aY prog w ks i∈js.map (aY prog w ks))
  (k:Q (.there η) s):ρ (ς prog w) A (setSearch S (.ref (ad i)) (aY prog w ks i) θ) Q E s:=by
 calc nh (q1E n hd T.P.fits ?_);dsimp only;rw[T.P.sD];simp only[Zz,↓reduceIte];let⟨D,f,F,G,e,p,H⟩:3111:=T.found C;erw[q20];generalize I:t.probe _ (aY prog w ks i) (t.probeStart (aY prog w ks i))=P;rw[(I.symm.trans G)];let⟨j,r,rfl⟩:11:=T.el e (ZZ (by rw[ZU];calc p));let u:=a i YB
 let c:ρ (ς prog w) A (do
   let ζ (_,y):=es[f]?|unsupported "internal:set-entry"
   let b <- holding [y] (eqBool y (.ref (ad i)))
   let(l,_,v) <- setState S
   if θ&&b then return q6z η
   let ζ g:=v.sameMemory t.moves t.mask|unsupported "set.changed-during-lookup:is-the-new-block-at-the-old-address"
   let d <- match(if g then v.slot D else .empty) with
    |.live f=>match l[f]? with
     |some (_,J)=>do pure (if <- isSame J y then ζ f else η)
     |none=>pure η
    |_=>pure η
   match d with
   |none=>rule "set.search.anew";setSearchFrom S (.ref (ad i)) (aY prog w ks i) θ 99999 η
   |some f=>if b then return q6z (ζ f) else setSearchFrom S (.ref (ad i)) (aY prog w ks i) θ 99999 (ζ F)) Q E s:=by
  rw[p];calc nh (q0e (wpAny_eqBool_tuple B (a j (Yz _ r)) u (nh (q1E n hd T.P.fits ?_))));rw[OR (h j r H)];exact y9 k
 refine q6e (λ_=>nh (Rg u (λy K=>?_) ?_)) (λ_=>c)
 .let⟨z,L,rfl⟩:=ZI.mp K
  let m:=by
   let:=q24.mp L;exact q24.mpr (Array.mem_filter.mp this).1
  let⟨q,M,rfl⟩:11:=T.el z m;exact(zI2 _ _ ⟨Y,a q (Yz _ M)⟩)
 .calc c
theorem Ri{i:Nat}{Q:Bool->ο->Prop}(hS:hW (aY prog w ks) ad s.heap S js)(hl:↑js<60)(hu:A.units<cLine)
  (F:∀j∈i::js,IsTupleKey (intKind prog w) s.heap (ks j) (ad j)) (inj:∀j∈js,aY prog w ks j=aY prog w ks i->ks j=ks i)
  (k:∀(b:Bool) h',q1T S s.heap h'->hW (aY prog w ks) ad h' S (if aY prog w ks i∈js.map (aY prog w ks) then js else js++[i])->Q b {s with heap:=h'}) :
  ρ (ς prog w) A (setAddHashed S (.ref (ad i)) (aY prog w ks i)) Q E s:=by
 let⟨o,es,ep,t,M,N,G,T⟩:43:=hS;unfold setAddHashed;calc q0e ?_;show ρ _ _ (setAddHashedIn S (.ref (ad i)) (aY prog w ks i) (99999+1)) _ _ _;unfold setAddHashedIn;calc nh (q1E M G T.P.fits ?_);let hb:byScan (.ref (ad i)) es=ι:=by unfold byScan;rfl
 dsimp only;rw[hb];simp only[Zz,↓reduceIte]
 by_cases hm:aY prog w ks i∈js.map (aY prog w ks)
 .refine nh (Rh M G T hu F inj hm ?_)
  dsimp only;calc y9 ?_;let e:s={s with heap:=s.heap}:=by cases s;rfl
  rw[e];exact k ι s.heap (Heap.SameBut.refl S s.heap) (by rw[ZF hm];calc(zI4 o es ep t ⟨M,N,G,T⟩))
 rw[Zx hm] at k;let kx:=F i YB;let hz:t.place.size<=t.mask:=by let:=T.P.lt;rw[T.P.oD];symm
 let⟨j0,R⟩:=Mt (t:=t) (f:=λi=>(es[i]?.map (·.1)).getD 0) (h:=aY prog w ks i) T.P.sA T.P.sC hz (λi' O z=>by
  rw[T.P.oD] at O;rw[ZE O] at z
  calc hm (by rw[<-show es[i'].1=aY prog w ks i from z];calc T.P.ins _ (q3E O)))
 let nj:j0∉t.place.toList:=ME T.up (xX R);let rj:oU t.mask (· ∈ t.place.toList) (aY prog w ks i) j0:=HS T.P.sA _ _ _ _ R
 let sf:ρ (ς prog w) A (setSearch S (.ref (ad i)) (aY prog w ks i) θ) (λr s'=>r=.free j0 ι/\s'=s) E s:=by
  unfold setSearch;show ρ _ _ (setSearchFrom S (.ref (ad i)) (aY prog w ks i) θ (99999+1) η) _ _ _;unfold setSearchFrom;calc nh (q1E M G T.P.fits ?_);dsimp only;rw[T.P.sD];simp only[Zz,↓reduceIte];erw[q20];generalize hP:t.probe _ (aY prog w ks i) (t.probeStart (aY prog w ks i))=P;let eP:P=ζ (.empty j0 η):=hP.symm.trans R;rw[eP];exact y9 ⟨rfl,rfl⟩
 calc nh (q0F sf ?_ λ_ _ e=>e);ext r s' ⟨rfl,rfl⟩;dsimp only;calc nh (q1E M G T.P.fits ?_);dsimp only;let⟨p1,p2,p3,p4,p5,p6,p7⟩:06:=Mw t T.P.sA j0;let up1:=MB T.up nj;let pz:(t.put j0).2<=t.place.size:=(vz T.up j0).1
 let fin:∀b:Bool,ρ (ς prog w) A (do
   storeSet S (SetTable.insertAt es (t.put j0).2 (aY prog w ks i,.ref (ad i))) (if b=θ then(t.put j0).1 else{(t.put j0).1 with plain:=false})
   if(!ι&&(if b=θ then(t.put j0).1 else{(t.put j0).1 with plain:=false}:SetTable).tooFull)=θ then do
       setRelay S (q6A (es.size+1))
       pure θ
    else pure θ) Q E s':=by
  ext b;generalize p:(if b=θ then(t.put j0).1 else{(t.put j0).1 with plain:=false}:SetTable)=g;let q1:g.dummies = #[]:=by rw[<-p];cases b<;>exact p1
  let q2:g.mask=t.mask:=by rw[<-p];cases b<;>exact p2
  let q3:g.place.size=es.size+1:=by rw[<-p,<-T.P.oD];cases b<;>exact p3
  let q4:g.place=insertAt t.place (t.put j0).2 j0:=by rw[<-p];cases b<;>rfl
  let q5:Up g.place:=by rw[<-p];cases b<;>exact up1
  let l:=Mx es (t.put j0).2 (aY prog w ks i,Z4 (ad i))
  let C:(insertAt es (t.put j0).2 (aY prog w ks i,Z4 (ad i))).toList.Perm (es.toList++[(aY prog w ks i,Z4 (ad i))]):=by
   let:=q37 es (t.put j0).2 (aY prog w ks i,Z4 (ad i));rw[q2B] at this;exact this
  let Rj:g.place.toList.Perm (t.place.toList++[j0]):=by
   rw[q4];let:=q37 t.place (t.put j0).2 j0;rw[q2B] at this;exact this
  let H:∀(x:Nat)(e:Int×ν)(j:Nat),(insertAt es (t.put j0).2 (aY prog w ks i,Z4 (ad i)))[x]?=ζ e->g.place[x]?=ζ j->oU g.mask (· ∈ g.place.toList) e.1 j:=by
   ext x e j n B;rw[q4,HY pz] at B;rw[HY (by rw[<-T.P.oD];calc pz)] at n;rw[q2];let u:∀y,y<=t.mask->y∈t.place.toList->y∈g.place.toList:=λy _ hy=>Rj.mem_iff.mpr (q0h _ hy)
   by_cases c:x<(t.put j0).2
   .rw[ZF c] at n B
    exact(T.rP x e j n B).mono u
   .rw[Zx c] at n B
    by_cases c2:x=(t.put j0).2
    .rw[ZF c2] at n B
     cases n;cases B
     exact rj.mono u
    .rw[Zx c2] at n B
     exact(T.rP _ e j n B).mono u
  generalize insertAt es (t.put j0).2 (aY prog w ks i,Z4 (ad i))=d at l C H
  let V:∀e∈d.toList,∃j∈js++[i],e=(aY prog w ks j,Z4 (ad j)):=λe v=>by
   rcases ZT.mp (C.mem_iff.mp v) with q|q
   .let⟨j,U,e1⟩:11:=T.el e q
    exact⟨j,q0h _ U,e1⟩
   .exact⟨i,ZP _ YB,ZV.mp q⟩
  let I:∀j∈js++[i],∃e∈d.toList,e.1=aY prog w ks j:=λj U=>by
   rcases ZT.mp U with q|q
   .let⟨e,v,e1⟩:=T.all j q
    exact⟨e,C.mem_iff.mpr (q0h _ v),e1⟩
   .rw[ZV.mp q]
    exact⟨_,C.mem_iff.mpr (ZP _ YB),rfl⟩
  let J:((js++[i]).map (aY prog w ks)).Nodup:=by
   rw[ZM];exact q06.mpr ⟨T.qB,by simp,λa ha b hb z=>hm (by rw[<-ZV.mp hb,<-z];calc ha)⟩
  let K:∀e∈d.toList,e.1∈(js++[i]).map (aY prog w ks):=λe v=>by
   let⟨j,U,rfl⟩:=V e v;exact ZI.mpr ⟨j,U,rfl⟩
  let L:d.size=↑((js++[i]).map (aY prog w ks)):=by rw[l,T.P.num,qa,qa,My];rfl
  let YJ:es.size<60:=by rw[T.P.num,qa];exact hl
  refine nh (q5E M G ?_ (by rw[l,q09];symm))
  let D:(s'.heap.update S (q38 d g)).get? S=ζ {o with data:=.set d (ep+1) g}:=by
   let:=q0H (q38 d g) M (by rw[q5V d g G];rfl);rw[q5V d g G] at this;exact this
  let fl:g.fill=es.size+1:=by unfold q4Z;rw[q1,q3];rfl
  let lt:=T.P.lt
  let W:g.fits d.size=θ:=by
   unfold q6M;rw[fl,q3,l,q2];simp;rcases T.P.sC with e|e|e<;>rw[e] at lt ⊢ <;> symm
  by_cases tf:g.tooFull=θ
  .rw[ZF (by rw[tf];rfl)]
   let X:t.mask*3<=(es.size+1)*5:=by
    unfold tooFull at tf;rw[fl,q2] at tf;let:=q0w tf;symm
   let⟨m,Y,hw,hsz⟩:∃m,Mk m/\sizeAbove (grown (es.size+1))-1=m/\(es.size+1)*5<m*3:=by
    rcases T.P.sC with e|e|e
    .rw[e] at lt X
     let:es.size+1=5:=by symm
     rw[this];exact⟨31,.inr (.inl rfl),Mz,⋯⟩
    .rw[e] at lt X
     let:es.size+1=19:=by symm
     rw[this];exact⟨127,.inr (.inr rfl),MA,⋯⟩
    .rw[e] at X;symm
   calc nh ?_;unfold setRelay;calc nh (q1E D rfl W ?_);dsimp only
   let Rk:¬ SetTable.sizeAbove (q6A (es.size+1))>sizeLine:=by
    rw[q09];rcases Y with e|e|e<;>symm
   rw[Zx Rk];let⟨Z,order,er,r1,r2,r3,r4,r5,r6,r7⟩:27:=Rc Y g (d.map (·.1)) (grown (es.size+1)) hw (by rw[q4B,l];symm);rw[er];rw[q4B,l] at r3 r5;rw[q4B] at r6;let H7:∀k∈order.toList,k<d.size:=λk hk=>Z9.mp (r6.mem_iff.mp hk);let⟨o1,o2⟩:01:=Mv (es:=d) (order:=order) H7;let og:=Rf (es:=d) (order:=order) H7;refine nh ?_
   show ρ _ _ (do
    if(order.filterMap (d[·]?)).size != d.size then
     unsupported "internal:set-table-lost-an-element"
    pure (order.filterMap (d[·]?),Z)) _ _ _
   rw[Zx (by rw[o1,r5,l];simp)];calc y9 ?_;dsimp only;refine q5E D rfl ?_ (by rw[o1,r5,q09];symm)
   let Rl:((s'.heap.update S (q38 d g)).update S (q38 (order.filterMap (d[·]?)) Z)).get? S=ζ {o with data:=.set (order.filterMap (d[·]?)) (ep+1+1) Z}:=by
    let:=q0H (q38 (order.filterMap (d[·]?)) Z) D (by rw[q5V _ Z rfl];rfl);rw[q5V _ Z rfl] at this;exact this
   refine y9 (k θ _ ((q0E ..).trans (q0E ..)) (zI4 _ _ _ _ ⟨Rl,N,rfl,⟨r2,by rw[r1];calc Y,by rw[r3,o1,r5],by rw[o1,r5,<-l];calc L,?_,λe v=>K e (o2 e v)⟩,r4,J,λe v=>V e (o2 e v),λj U=>?_,λx e j n B=>?_⟩))
   .unfold tooFull q4Z
    rw[r2,r3,r1];simp;symm
   .let⟨e,v,e1⟩:=I j U
    let⟨x,hx,ex⟩:=q0M.mp v;let H_:=hx;let:=r6.mem_iff.mpr (Z9.mpr H_);calc⟨e,?_,e1⟩;rw[q1R];exact q1s.mpr ⟨x,this,by rw[ZE H_];calc congrArg ζ ex⁻¹⟩
   .rw[og] at n
    cases q:order[x]? with
    |none=>rw[q] at n;cases n
    |some Ia =>
     rw[q] at n;let n:d[Ia]?=ζ e:=n;let⟨hh,g1,g2⟩:11:=r7 x j Ia B q;rw[Array.getElem?_map,n] at g1;cases g1
     rw[r1];exact g2
  .let Ib:g.tooFull=ι:=by cases q:g.tooFull<;>simp_all
   rw[Zx (by rw[Ib];decide)];exact y9 (k θ _ (q0E ..) (zI4 _ _ _ _ ⟨D,N,rfl,⟨q1,by rw[q2];calc T.P.sC,by rw[q3,l],L,Ib,K⟩,q5,J,V,I,H⟩))
 by_cases hp:(t.put j0).1.plain=θ
 .rw[ZF hp]
  exact nh (MK kx λb=>fin b)
 .rw[Zx hp]
  calc nh (y9 (fin θ))
end
meta def iK(a:Nat->Int):Nat->-Nat
 |0=>[]
 |i+1=>if a i∈(iK a i).map a then iK a i else iK a i++[i]
theorem Ic a:∀i,↑(iK a i)<=i
 |0=>tm _
 |i+1=>by
  let:=Ic a i;unfold iK;split
  .omega
  .rw[My,Z8];symm
theorem wG a:∀i,∀j∈iK a i,j<i
 |0,j,h=>nomatch h
 |i+1,j,h=>by
  unfold iK at h;split at h
  .let:=wG a i j h;symm
  .rcases ZT.mp h with h|h
   .let:=wG a i j h;symm
   .rw[ZV.mp h];symm
theorem Rm{a b h S led}(e:h.get? S=ζ (g7 led)):hW a b h S [] :=
 (zI4 _ #[] 0 _ ⟨e,⟨Y,Y,Y⟩,Y,⟨Y,.inl Y,Y,Y,by cases led<;>decide,λ_ h=>nomatch h⟩,q3D,q3t,(λ_ h=>nomatch h),(λ_ h=>nomatch h),λi e j h=>by simp at h⟩)
section
variable{prog:ψ}{w:ω}{A:Β}{R:Result->ο->Prop}{I S:O}{fp wr:-O}{G:Array GenState->Array GenState->Prop}{n:Nat}{P:Nat->ν->Prop}{St:Nat->ο->Prop}
theorem Rn(W:WalksS prog w A.in1 I fp wr G n P St)(out:S∉fp)(k:Nat->ξ)(ks:Nat->-Int)(t:∀i v,P i v->v=.ref (k i))(c:∀i,i<n->k i∉S::wr)(l:A.in1.units<cLine)
  (x:∀i j,i<n->j<i->hT prog w (ks j)=hT prog w (ks i)->ks j=ks i) (N:n<=30) :
  ∀(a i:Nat)(s:ο),i+a=n->St i s->(∀j,j<n->IsTupleKey (intKind prog w) s.heap (ks j) (k j))->hW (aY prog w ks) k s.heap S (iK (aY prog w ks) i) →
   (∀s',Moved (S::wr) G s s'->hW (aY prog w ks) k s'.heap S (iK (aY prog w ks) n)->R (.ok (.ret .none)) s') →
   codeAny (ς prog w) A (.builtin "set.update.loop" ⟨[.ref S,.ref I],[]⟩) R s:=by
 let m:S∉wr:=λz=>out (W.sub _ z);let d:∀b,b∈wr->b∈S::wr:=λb p=>Yz _ p;ext a
 induction a with
 |zero =>
  ext i s O y L B q;obtain rfl:i=n:=by symm
  calc q2n q3V ?_;rw[q1_ q2x _];show ρ _ A.in1 (pyNext (.ref I) >>= _) _ _ s;calc nh (W.done s _ _ y λK r=>?_);show ρ _ A.in1 (ret q0P) _ _ K;exact y9 (q K (r.mono d) (HX B λo e=>r.heap S o m e))
 |succ a Q =>
  ext i s O y L B q;let g:i<n:=by symm
  calc q2n q3V ?_;rw[q1_ q2x _];show ρ _ A.in1 (pyNext (.ref I) >>= _) _ _ s;calc nh (W.item i s _ _ g y λv u T C r=>?_);obtain rfl:=t i v T;let h:∀j,j<n->IsTupleKey (intKind prog w) u.heap (ks j) (k j):=λj f=>xZ (L j f) λo e=>r.heap _ o (λz=>c j f (d _ z)) e;show ρ _ A.in1 (holding [Z4 (k i)] (setAdd S (.ref (k i))) >>= _) _ _ u;calc nh (q0e ?_);unfold setAdd;calc q0e (nh (wpAny_pyHash_tuple l (h i g) ?_));let M:=wG (aY prog w ks) i;refine Ri (s:={u with toks:=u.toks+(↑(ks i)+1)}) (i:=i) (js:=iK (aY prog w ks) i) (HX B λo e=>r.heap S o m e) (by let:=Ic (aY prog w ks) i;symm) l (λj f=>?_) (λj f e=>x i j g (M j f) e) λX Y D E=>?_
  .rcases OQ.mp f with rfl|f
   .exact h _ g
   .exact h j (by let:=M j f;symm)
  .let U:∀b,b∈fp->b≠S:=λb p z=>out (by rw[<-z];calc p)
   refine y9 ⟨q61 q2x _,Q (i+1) _ ⋯ (W.frame _ u _ _ C (q5W _ _) λb p o e=>by rw[D.2 b (U b p)];calc e) (λj f=>xZ (h j f) λo e=>?_) E λV H J=>?_⟩
   .rw[D.2 _ (λz=>c j f (by rw[z];calc YB))];exact e
   .refine q V (Moved.trans W.gtrans ((r.mono d).then_heap (q5W _ _) λb o p e=>?_) H) J
    rw[D.2 b (λz=>p (by rw[z];calc YB))];calc e
end
section
variable{prog:ψ}{w:ω}{A:Β}{E:br}{s:ο}
set_option maxHeartbeats 3200000 in
theorem Ro {l:O} {items:Array ν} {Q:br} (ad:Nat->O) (ks:Nat->-Int) (hh:A.handled=η) (room:A.units+8<cLine) (Rp:s.heap.IsList l items) (Al:∀(i:Nat)(v:ν),items[i]?=ζ v->v=.ref (ad i))
  (tk:∀i,i<items.size->IsTupleKey (intKind prog w) s.heap (ks i) (ad i)) (inj:∀i j,i<items.size->j<i->hT prog w (ks j)=hT prog w (ks i)->ks j=ks i) (gY:items.size<=30)
  (fin:∀(h':Α)(tk:Nat),hW (aY prog w ks) ad h' ⇑s (iK (aY prog w ks) items.size)->(∀b o,b<⇑s->s.heap.get? b=ζ o->h'.get? b=ζ o)->Q (.ref ⇑s) {s with heap:=h',toks:=tk}) :
  ρ (ς prog w) A (call (.type "set") [.ref l]) Q E s:=by
 let⟨c,tl,Rq⟩:=q1X.mro;let m1:=q1X.made;let m2:=q1X.sub;let m3:=q1X.notType;let m4:=q1X.canCreate;let m5:=F.typeCall_set_1 (.ref l);calc q2p (q6c ?_);show ρ _ _ (callAny (.type "set") _) _ _ _;calc y9 ⟨q3r _ (by decide +kernel),q2n F.entry_type_call ?_⟩;rw[Around.under_plain (weight_type_call_type "set" [.ref l] []) Y]
 repeat(any_goals (first|assumption|wp_step))
 refine q2d (code_set_new_1 (.ref l) (E:=E) (Q₁:=λr s1=>∃led:Bool,r=.ref ⇑s/\s1={s with heap:=s.heap.push (g7 led)}) λled=>⟨led,Y,Y⟩) λr s1 hr=>?_
 cases r with
 |error e=>exact hr
 |ok fl =>
  cases fl with
  |ret obj =>
   let⟨led,rfl,rfl⟩:=hr;let gS:(s.heap.push (g7 led)).get? ⇑s=ζ (g7 led):=YA _ Y;let tS:Shared.TypeIs {s with heap:=s.heap.push (g7 led)} (.ref ⇑s) "set" := ⟨_,gS,Y⟩;let m6:=q1X.init.lookup;let m7:=q1X.init.bind (.ref ⇑s)
   repeat(any_goals (first|assumption|wp_step))
   refine q2d (q25 (R:=wants (λr s2=>r=.none/\∃h' tk,s2={s with heap:=h',toks:=tk}/\hW (aY prog w ks) ad h' ⇑s (iK (aY prog w ks) items.size) ∧
     ∀b o,b<⇑s->s.heap.get? b=ζ o->h'.get? b=ζ o) E) q1X.init.plain F.entry_set_init (check_set_init_1 tS ?_)) λr2 s2 qC=>?_
   .let⟨ol,gl,cl,nl,dl⟩:=Rp
    let⟨c0,d0,YK,Am⟩:=ol;simp only at cl dl;subst cl;subst dl;let Rr:(s.heap.push (g7 led)).get? l=ζ {cls:=.type "list",dict:=d0,data:=.seq items nl,slots:=Am}:=qc _ gl;let x1:=F.sub_list_set;let x2:=F.sub_list_frozenset;let x3:(q2W "list" == q2W "dict")=ι:=by decide
    let ux:(s.heap.push (g7 led)).IsList l items:=⟨_,Rr,Y,nl,Y⟩;let ll:l<⇑s:=OP gl;unfold Builtin.«set.__init__» noKeywords Builtin.Frozenset.updateFrom;generalize Rt:pyIter=PI
    wp_walk
    subst Rt;calc q1D ux (nh (q6B ?_));let h3:A.in1.in1.in1.handled=η:=by simp[hh]
    let ez:(s.heap.push (g7 led)).objs.size=⇑s+1:=q0z ..;let nI:l≠(s.heap.push (g7 led)).objs.size:=by rw[ez];exact Zy (q0I ll)
    let lt:∀i,i<items.size->ad i<⇑s:=λi hi=>by
     let⟨o,_,_,e,_⟩:=tk i hi;exact OP e
    refine Rn ((q5f h3 _ l nI items).toS) (S:=s.heap.objs.size) ?out ad ks (λi v hv=>Al i v hv) ?apart ?room inj gY items.size 0 _ (q0p _)
     ⟨⟨_,YA _ Y,Y,Y⟩,ux.push _⟩ ?tk ?fresh ?fin
    case out =>
     erw[OQ,ZL,q05,not_or,ez];exact⟨Zy (q3S _),q1d ll⟩
    case apart =>
     ext i hi;let:=lt i hi;erw[OQ,ZL,q05,not_or,ez];exact⟨Zy this,Zy (q0I this)⟩
    case room =>
     show A.units+1+1+1<cLine;exact q3h (Nat.add_le_add_left (by decide:3<=8) _) room
    case tk =>
     ext j hj;exact xZ (tk j hj) λo e=>qc _ (qc _ e)
    case fresh =>
     exact Rm (led:=led) (qc _ gS)
    case fin =>
     ext s' mv se;let⟨h',g',d',zl,Ru⟩:=s';obtain rfl:g'=s.gens:=mv.gens;obtain rfl:d'=s.drawn:=mv.drawn;obtain rfl:Ru=s.os:=mv.os;show ρ _ _ _ _ _ _;calc y9 ?_;show ρ _ _ (ret q0P) _ _ _;calc y9 ⟨Y,h',zl,Y,se,λb o hb e=>?_⟩;calc mv.heap b o ?_ (qc _ (qc _ e));erw[OQ,ZL,q05,not_or,ez];exact⟨Zy hb,Zy (q0I hb)⟩
   .cases r2 with
    |error e=>exact qC
    |ok Rv =>
     cases Rv with
     |ret r =>
      let⟨rfl,h',zl,rfl,se,kp⟩:=qC
      repeat(any_goals (first|assumption|wp_step))
      exact fin _ _ se kp
     |next=>exact qC
     |brk=>exact qC
     |cont=>exact qC
  |next=>exact hr
  |brk=>exact hr
  |cont=>calc hr
end
end LJS
namespace L2
open PySem PySem.Spec PyProof.Rows
variable[zt:aM]
meta def oV:-D->Option (-(Int×Int))
 |[]=>ζ []
 |.tup [.int i,.int j]::r=>match oV r with
  |some a=>ζ ((i,j)::a)
  |none=>η
 |_=>η
theorem Ie:∀{ds ps},oV ds=ζ ps->ds=ps.map λp=>.tup [.int p.1,.int p.2]
 |[],a,h=>by cases h;rfl
 |.tup [.int i,.int j]::r,a,h=>by
  unfold oV at h;split at h
  .rename_i b e
   cases h
   rw[Ie e];rfl
  .cases h
theorem Ig:∀ps:-(Int×Int),oV (ps.map λp=>D.tup [.int p.1,.int p.2])=ζ ps
 |[]=>Y
 |p::r=>by
  show oV (.tup [.int p.1,.int p.2]::r.map _)=_;unfold oV;rw[Ig r]
meta def g5(ps:-(Int×Int)):Nat->-(Int×Int)
 |0=>[]
 |i+1=>if ps.getD i (0,0)∈g5 ps i then g5 ps i else g5 ps i++[ps.getD i (0,0)]
theorem An ps:∀i,↑(g5 ps i)<=i
 |0=>tm _
 |i+1=>by
  let:=An ps i;unfold g5;split
  .omega
  .rw[My,Z8];symm
theorem Ih{ps}(hn:ps.Nodup):∀i,i<=↑ps->g5 ps i=ps.take i
 |0,_=>Y
 |i+1,h=>by
  let a:=by symm
  let e:ps.getD i (0,0)=ps[i]:=by rw[Gh,p_ a];rfl
  unfold g5;rw[Ih hn i ⋯,e,Zx ?_,q1u,p_ a]
  .rfl
  .ext c
   let⟨j,d,b⟩:=q0M.mp c;rw[ZH] at d;rw[q5F] at b;let:=(q2X   hn).mp b;symm
theorem Rw{ps}(k:↑(g5 ps ↑ps)=↑ps):ps.Nodup:=by
 let f:∀i,i<=↑ps->↑(g5 ps i)=i->(ps.take i).Nodup/\g5 ps i=ps.take i:=by
  ext i
  induction i with
  |zero=>ext _ _;exact⟨q3t,Y⟩
  |succ i l =>
   ext o c;let d:i<↑ps:=by symm
   let p:=An ps i;let e:ps.getD i (0,0)=ps[i]:=by rw[Gh,p_ d];rfl
   unfold g5 at c ⊢;split at c
   .omega
   .rename_i g
    rw[My,Z8] at c;let⟨m,j⟩:=l ⋯ ⋯;rw[Zx g,j,q1u,p_ d,e];calc⟨?_,Y⟩;rw[j,e] at g
    exact q06.mpr ⟨m,by simp,λa n b h z=>g (by
     let h:=by simpa using h
     rw[<-h,<-z];calc n)⟩
 let:=(f ↑ps (tm _) k).1
 rwa [Z_ (tm _)] at this
section
variable{X:Cx}{fa:WA}
theorem Ii{F}:∀{ps:-(Int×Int)}{vs},aq F (ps.map λp=>D.tup [.int p.1,.int p.2]) vs->∃as:-O,vs=as.map V.ref/\↑as=↑ps/\∀(i:Nat) a k,as[i]?=ζ a->ps[i]?=ζ k->F a=ζ (.tup [.int k.1,.int k.2])
 |[],f,h=>by
  let h:=by simpa only [q39,aq] using h
  subst h;exact⟨[],Y,Y,λi a k e=>by simp at e⟩
 |p::r,f,h=>by
  let⟨v,s,rfl,l,m⟩:22:=h;let⟨j,rfl,n,g⟩:12:=Ii m;let⟨a,t,rfl,o,q⟩:22:=l;let⟨_,_,rfl,rfl,_,_,rfl,rfl,rfl⟩:2222:=q;refine⟨a::j,Y,by rw[Ge,Ge,n],λi b k c d=>?_⟩
  cases i with
  |zero =>
   cases c⁻¹
   cases d⁻¹
   exact o
  |succ i=>calc g i b k c⁻¹ d⁻¹
theorem Rx(hc:X.calm=θ)(hu:X.A.units+64<cLine):g_ X (.type "set") (λxs H Q=>∃(l:ξ)(ps:-ξ)(ks:-(Int×Int)),xs=[.ref l]/\bG X.K H l (ps.map V.ref)/\↑ps=↑ks ∧
  (∀(i:Nat)(a:ξ)(k:Int×Int),ps[i]?=ζ a->ks[i]?=ζ k->H a=ζ (.tup [.int k.1,.int k.2]))/\(∀k∈ks,0<=k.1/\k.1<k.2/\k.2<12)/\↑ks<=30/\∀p,H p=η->Q (.ref p) (upd H p (lg p ↑(g5 ks ↑ks)))):=by
 ext pins s σ H xs us Q I r h;let⟨l,y,d,rfl,hq,F,B,bd,L,q⟩:36:=h;let⟨u,rfl,rx⟩:=vals1 r;cases rx
 let⟨qb,r',pl,_⟩:12:=I.list hq;obtain rfl:=GQ r';let G:(y.map Z4).toArray.size=↑d:=by rw[Gf,qa,F]
 let g:∀i,i<↑d->∃k,d[i]?=ζ k/\d.getD i (0,0)=k:=λi f=>⟨d[i],p_ f,by rw[Gh,p_ f];rfl⟩;let C:∀i,i<↑d->∃a,y[i]?=ζ a/\y.getD i 0=a:=λi f=>⟨y[i]'(by rw[F];calc f),p_ (by rw[F];calc f),by rw[Gh,p_ (by rw[F];calc f)];rfl⟩
 let m:∀i j,i<↑d->j<↑d->LJS.hT X.prog X.w [(d.getD j (0,0)).1,(d.getD j (0,0)).2]=LJS.hT X.prog X.w [(d.getD i (0,0)).1,(d.getD i (0,0)).2]->d.getD j (0,0)=d.getD i (0,0):=λi j f x z=>by
  let⟨k,M,J⟩:=g i f;let⟨N,O,D⟩:=g j x;rw[J,D,LJS.GN,LJS.GN] at z;rw[J,D];let R:=bd k (ZD.mpr ⟨i,M⟩);let S:=bd N (ZD.mpr ⟨j,O⟩);exact LJS.PX (N.1,N.2) (LJS.GP S.1 S.2.1 S.2.2) (k.1,k.2) (LJS.GP R.1 R.2.1 R.2.2) z
 refine LJS.Ro (λi=>y.getD i 0) (λi=>[(d.getD i (0,0)).1,(d.getD i (0,0)).2]) (I.ok.hd hc) ⋯ pl.isList (λi v hv=>?_) (λi f=>?_) (λi j f x z=>?_) (by rw[G];calc L) λh' tk se kp=>?_
 .rw[q0Q,OS] at hv
  let⟨a,U,rfl⟩:=YE.mp hv;rw[Gh,U];rfl
 .rw[G] at f
  let⟨k,M,J⟩:=g i f;let⟨a,U,da⟩:=C i f;rw[J,da];let⟨_,Ry,r2,o,W,Y,n,Z⟩:0111121:=I.bc a _ (B i a k U M)
  cases r2 with
  |cons ra rr =>
   cases rr with
   |cons rb rn =>
    cases rn
    let⟨t1,rfl⟩:=ra;let⟨t2,rfl⟩:=rb;exact(zI3 o _ n ⟨W,Y,Z,.cons (intKind_is ..) (.cons (intKind_is ..) .nil)⟩)
 .rw[G] at f
  let:=m i j f ⋯ z;rw[this]
 .let key:∀n,n<=↑d->(LJS.iK (LJS.aY X.prog X.w λi=>[(d.getD i (0,0)).1,(d.getD i (0,0)).2]) n).map (λi=>d.getD i (0,0))=g5 d n:=by
   ext n
   induction n with
   |zero=>ext _;rfl
   |succ n ih =>
    ext hn;unfold LJS.iK g5;rw[<-(ih ⋯)]
    by_cases c:d.getD n (0,0)∈(LJS.iK (LJS.aY X.prog X.w λi=>[(d.getD i (0,0)).1,(d.getD i (0,0)).2]) n).map (λi=>d.getD i (0,0))
    .let⟨j,x,ej⟩:11:=ZI.mp c
     let:LJS.aY X.prog X.w (λi=>[(d.getD i (0,0)).1,(d.getD i (0,0)).2]) n∈(LJS.iK (LJS.aY X.prog X.w λi=>[(d.getD i (0,0)).1,(d.getD i (0,0)).2]) n).map (LJS.aY X.prog X.w λi=>[(d.getD i (0,0)).1,(d.getD i (0,0)).2]):=by
      calc ZI.mpr ⟨j,x,?_⟩;show LJS.hT _ _ [(d.getD j (0,0)).1,(d.getD j (0,0)).2]=LJS.hT _ _ [(d.getD n (0,0)).1,(d.getD n (0,0)).2];rw[ej]
     rw[ZF c,ZF this]
    .let:LJS.aY X.prog X.w (λi=>[(d.getD i (0,0)).1,(d.getD i (0,0)).2]) n∉(LJS.iK (LJS.aY X.prog X.w λi=>[(d.getD i (0,0)).1,(d.getD i (0,0)).2]) n).map (LJS.aY X.prog X.w λi=>[(d.getD i (0,0)).1,(d.getD i (0,0)).2]):=λz=>by
      let⟨j,x,ej⟩:=ZI.mp z;let YL:=LJS.wG _ n j x;exact c (ZI.mpr ⟨j,x,m n j ⋯ ⋯ ej⟩)
     rw[Zx c,Zx this,ZM];rfl
  let⟨o,es,ep,t,W,hex,Z,T⟩:43:=se
  let E:↑((LJS.iK (LJS.aY X.prog X.w λi=>[(d.getD i (0,0)).1,(d.getD i (0,0)).2]) ↑d).map (LJS.aY X.prog X.w λi=>[(d.getD i (0,0)).1,(d.getD i (0,0)).2]))=↑(g5 d ↑d):=by
   rw[<-key ↑d (tm _),qa,qa]
  let T':=T.P;rw[G] at T';calc⟨.ref ⇑s,upd H ⇑s (lg ⇑s ↑(g5 d ↑d)),I.laid  (λb o e=>kp b o (OP e) e) (tm _) (PY (zI4 o es ep t ⟨W,hex,Z,T'⟩) E),rfl,q _ (I.bc.fresh (tm _))⟩
end
end L2
namespace HT
open PySem PySem.Spec PyProof.Rows
section
variable{prog:ψ}{w:ω}{A:Β}{E:br}{s:ο}
theorem Rz{t b}{ws:-ν}{Q:br}(l:IsTup s.heap t #[])(m:IsTup s.heap b ws.toArray)(h:Q (.ref b) s):ρ (ς prog w) A (binaryOp .Add (.ref t) (.ref b)) Q E s:=by
 let⟨⟨o,p,i,q⟩,j,r,n,u⟩:121:=id l;let⟨⟨k,c,d,e⟩,a,f,v,g⟩:121:=id m;subst r u f g
 exact q5w ⟨_,j,Y⟩ ⟨_,a,Y⟩ q3Q q42 q2F q2v (q2j _ _)
  (tuple_addW0 t b #[] ws.toArray n v p c q e Y) ⟨j,a,h⟩
theorem RA{t f items g i b c}{Q:br}(a:IsTup s.heap t items)(j:s.heap.IsSliceOf f g i .none)(l:IsPart g b)(m:IsPart i c)
  (k:bK items.size 0 b=0/\bK items.size items.size c=items.size) (h:Q (.ref t) s):ρ (ς prog w) A (getItem (.ref t) (.ref f)) Q E s:=by
 let⟨n,d,e,o⟩:12:=id j;unfold getItem
 try with_reducible refine q0e ?_
 first|symm|skip
 refine nh (q3B a.typeIs (by decide) (nh (q0L  a.typeIs Z5
  (q1r Z5 a.typeIs q3d ?_ (q3o _ _)))))
 show ρ _ _ (q19 (.ref t) >>= _) _ _ s;calc nh (q43 a (nh (q2G ⟨n,d,e⟩ (nh (FO j l m ?_)))));show ρ _ _ (if(((bK items.size 0 b):Int)==0&&1==1&&(bK items.size items.size c-bK items.size 0 b)==items.size)=θ then _ else _) _ _ s;rw[ZF (by rw[k.1,k.2];simp)];calc nh (nh (q2G a.typeIs (y9 (nh (q34 (y9 ⟨_,Y,y9 h⟩))))))
theorem RB{c}{n:Nat}{t}{Q:Int×Int×Nat->ο->Prop}(d:s.heap.IsSliceOf c .none .none (.int (-1) t))
  (h:Q ((n:Int)-1,-1,n) s):ρ (ς prog w) A (q18 (.ref c) (pure (n:Int))) Q E s:=by
 let⟨g,a,f,b⟩:12:=id d;unfold q18 Builtin.Slice.sliceFields;calc nh (nh (q0r a b  Y (nh (q0r a b  Y (nh (q0r a b  Y (y9 ?_)))))));refine nh (sZ (.int (-1) t) (nh (sZ .none (nh (sZ .none (nh (y9 (y9 ?_))))))))
 let e:q0x (n-1) (-1) (-1)=n:=by
  unfold q0x;rw[Zx (by decide)];split
  .rw[show -(-1:Int)=1 by decide,q7v];symm
  .omega
 show Q (n-1,-1,q0x (n-1) (-1) (-1)) s;rw[e];calc h
theorem RC{t g:O}{a:-ν}{tk:Tok}{Q:br}(d:IsTup s.heap t a.toArray)(q:s.heap.IsSliceOf g .none .none (.int (-1) tk))
  (h:Q (.ref ⇑s) {s with heap:=s.heap.push {cls:=.type "tuple",data:=.seq a.reverse.toArray}}) (hsz:↑a<=sizeLine):ρ (ς prog w) A (getItem (.ref t) (.ref g)) Q E s:=by
 let b:sizeOk (.seq a.reverse.toArray):=by
  show a.reverse.toArray.size<=sizeLine;rw[Gf,q1J];exact hsz
 let⟨x,j,m,y⟩:12:=id q;let n:s.TypeIs (.ref g) "slice" := ⟨x,j,m⟩;unfold getItem
 try with_reducible refine q0e ?_
 first|refine nh (y9 ?_)|skip
 refine nh (q3B d.typeIs (by decide) ?_)
 refine nh (q0L (name:=q2e "__getitem__") d.typeIs Z5
  (q1r Z5 d.typeIs q3d ?_ (q3o _ _)))
 show ρ _ _ (q19 (.ref t) >>= _) _ _ s;calc nh (q43 d ?_);calc nh (q2G n ?_);calc nh (RB q ?_);show ρ _ _ (if((((a.toArray.size:Int)-1))==0 && -1==1&&a.toArray.size==a.toArray.size)=θ then _ else _) _ _ s;rw[Zx (by simp)]
 let e:((Z1 a.toArray.size).filterMap λ(k:Nat)=>a.toArray[((a.toArray.size:Int)-1+k * -1).toNat]?).toArray=a.reverse.toArray:=by
  congr 1;rw[Gf];refine q1z λi=>?_
  let o:∀k∈Z1 ↑a,((a.toArray[((↑a:Int)-1+k * -1).toNat]?)).isSome=θ:=λk f=>by
   let:=Z9.mp f;rw[q0Q,p_ ⋯];rfl
  let z:∀l:-Nat,(∀k∈l,((a.toArray[((↑a:Int)-1+k * -1).toNat]?)).isSome=θ)->∀i:Nat,(l.filterMap λ(k:Nat)=>a.toArray[((↑a:Int)-1+k * -1).toNat]?)[i]?=(l[i]?).bind λk=>a.toArray[((↑a:Int)-1+k * -1).toNat]?:=by
   ext l
   induction l with
   |nil=>ext _ i;simp
   |cons k r B =>
    ext f i;let⟨v,u⟩:=q1G.mp (f k YB);rw[q07,u]
    cases i with
    |zero=>exact u.symm
    |succ i=>simpa using B (λC p=>f C (Yz _ p)) i
  rw[z _ o]
  by_cases c:i<↑a
  .rw[q0C c,List.getElem?_reverse c]
   show a.toArray[((↑a:Int)-1+i * -1).toNat]?=_;rw[q0Q];congr 1;symm
  .rw[q0n (by rw[q0u];symm),q0n (by rw[q1J];symm)];rfl
 rw[e]
 first
  |exact nh  (q1C (y9 ⟨_,Y,y9 h⟩) b)
  |symm
  |symm
  |symm
end
end HT
namespace L2
open PySem PySem.Spec PyProof.Rows
section
variable[zt:aM]
section
variable{X:Cx}{e:υ}{te:TE}{pos p2 p3 p4:Δ}
def RD(K:vL):V->Option Int->Option Int->Hp->VK->Prop:=λx c d H Q=>∃a b,x=.ref a/\b9 K H a b ∧
 (HT.bK ↑b 0 c=0/\HT.bK ↑b ↑b d=↑b->Q (.ref a) H)/\(¬ (HT.bK ↑b 0 c=0/\HT.bK ↑b ↑b d=↑b)->∀p,H p=η->Q (.ref p) (upd H p (.tup (en b c d))))
theorem RE:oG X (RD X.K):=by
 ext c s p H x v q t g i u Q I j k l m h;let⟨a,b,rfl,n,w,y⟩:23:=h
 by_cases e:HT.bK ↑b 0 g=0/\HT.bK ↑b ↑b i=↑b
 .cases j
  let⟨f,r,o,z⟩:12:=I.tuple n;let d:f.toArray.size=↑b:=r.length.symm;exact(zI2 "tuple" _ ⟨Z5.lookup,o.typeIs,HT.RA o k l m (by rw[d];calc e) ⟨.ref a,H,I,Y,w e⟩⟩)
 .calc Oz c s p H _ v q t g i u Q I j k l m (zI2 a b ⟨Y,n,e,y e⟩)
def RF(K:vL)(d:TE):TE:=λe H Q=>d e H λx b=>(∃a c,x=.ref a/\bG K b a c/\∀p,b p=η->Q (.ref p) (upd b p (.lst c.reverse)))\/∃a c,x=.ref a/\b9 K b a c/\∀p,b p=η->Q (.ref p) (upd b p (.tup c.reverse))
theorem RG{n}(he:JE X e te):JE X (.Subscript e (.Slice η η (ζ (.UnaryOp .USub (.Constant (.int 1) n p3) p4)) p2) pos) (RF X.K te):=by
 calc⟨?_⟩;ext c s i H Q I h;calc Subscript_ (bu (he c s i H _ I h) ?_);ext v A ⟨x,o,B,p,C⟩;calc wpAny_Slice ?_;rw[evalPart_none];calc y9 ?_;calc y9 ?_;rw[evalPart_some];let E:=Fl  Fp (kW   (j:=n) (pos:=p3)) (pos:=p4) c A i o (λv D=>v=.int (-1)/\D=o) B ⟨1,Y,Y,Y⟩;calc bu E ?_;ext u w ⟨y,F,G,J,L,M⟩;subst L M;let⟨t,rfl⟩:=J;let d:Inv X c i F {w with heap:=w.heap.push {cls:=.type "slice",data:=.fields #[.none,.none,.int (-1) t]}}:=G.kept  λb z q=>qc _ q;rcases C with⟨a,N,rfl,k,q⟩|⟨a,N,rfl,k,q⟩
 .cases p
  let⟨l,r,f,m⟩:=d.list k;let g:=↑r;calc q6s  f.isList.typeIs q3C.lookup (q3G f.isList (q3p ..) .none .none (.int (-1) t) (by decide) ?_ (by rw[Gf]<;>symm)) (by with_unfolding_all rfl);rw[Qf];calc⟨.ref _,_,d.laid   (λb z q=>qc _ q) (tm _) ?_,Y,q _ (d.bc.fresh (tm _))⟩;exact⟨by rw[q1J];calc m,_,0,zA r,YA _ Y⟩
 .cases p
  let⟨l,r,f,m⟩:=d.tuple k;let g:=↑r;calc q6s  f.typeIs Z5.lookup (HT.RC f (q3p ..) ⟨.ref _,_,d.laid   (λb z q=>qc _ q) (tm _) ?_,Y,q _ (d.bc.fresh (tm _))⟩ ⋯) (by with_unfolding_all rfl);calc⟨by rw[q1J];calc m,_,zA r,q5R _ _⟩
theorem RH:eJ X (binaryOp .Add) (λx y H Q=>∃a b ys,x=.ref a/\y=.ref b/\b9 X.K H a []/\b9 X.K H b ys/\Q (.ref b) H):=by
 ext c s o H x y v u Q I e f h;let⟨a,b,n,rfl,rfl,g,i,q⟩:34:=h;cases e
 cases f
 let⟨j,k,l,_⟩:12:=I.tuple g;let⟨d,p,m,_⟩:12:=I.tuple i;let:=k.fW.mpr Y;subst this;calc HT.Rz l m ⟨.ref b,H,I,Y,q⟩
theorem RI:eJ X (compareOp .Is) (λx y H Q=>∃a b,x=.bl a/\y=.bl b/\Q (.bl (a==b)) H):=by
 ext c s f H x y v u Q I d e h;let⟨a,b,rfl,rfl,q⟩:22:=h;cases d
 cases e
 calc y9 ⟨.bl (a==b),H,I,by cases a<;>cases b<;>rfl,q⟩
def cx(d e:D)(K:D->Prop):Prop:=match d with
 |.int i=>(match e with|.int j=>K (.int (i+j))|_=>False)
 |.lst a=>(match e with|.lst b=>↑a+↑b<=1000/\K (.lst (a++b))|_=>False)
 |.tup a=>(match e with|.tup b=>↑a+↑b<=1000/\K (.tup (a++b))|_=>False)
 |.str a=>(match e with|.str b=>↑a+↑b<=1000/\K (.str (a++b))|_=>False)
 |_=>False
theorem jf:fX X (binaryOp .Add) cx:=by
 ext f s h H x y v u Q I i j ⟨F,d,e,K,g,k,l,q,m⟩;cases d<;>cases e<;>first|exact ZQ q|rename_i p A
 .exact wh f s h H x y v u Q I i j ⟨F,_,_,K,g,k,l,q,m⟩
 .exact wh f s h H x y v u Q I i j ⟨F,_,_,K,g,k,l,q,m⟩
 .by_cases c:p=[]
  .subst c
   let n:=l;let o:=n;let⟨a,B,rfl,r,t⟩:22:=k;let⟨b,w,rfl,z,C⟩:22:=n;let:=by simpa only [aq] using t
   subst this;exact RH f s h H _ _ v u Q I i j (zI3 a b w ⟨Y,Y,b9.of (g _ _ r),b9.of (g _ _ z),m _ _ _ q.2 (λ_ _ e=>e) (ue g o)⟩)
  .exact wh f s h H x y v u Q I i j ⟨F,_,_,K,g,k,l,⟨⟨c,q.1⟩,q.2⟩,m⟩
 .calc wh f s h H x y v u Q I i j ⟨F,_,_,K,g,k,l,q,m⟩
def qD:D->Option Int->Option Int->(D->Prop)->Prop
 |.lst a,b,c,K=>K (.lst (cutD a b c))
 |.tup a,b,c,K=>K (.tup (cutD a b c))
 |_,_,_,_=>False
def dr(f:WE)(l h:WO):WE:=λe K=>f e λx b=>l b λg c=>h c λi a=>iF x a λd=>qD d g i λz=>K (.p z) a
theorem RJ{ds a b}(h:HT.bK ↑ds 0 a=0/\HT.bK ↑ds ↑ds b=↑ds):cutD ds a b=ds:=by
 unfold cutD;rw[h.1,h.2,q1L,q2C,Z_ (tm _)]
theorem oW{e f n o l h pos E}(he:JE X e (tD f))(G:PO X n (wm l))(I:PO X o (wm h)):JE X (.Subscript e (.Slice n o η E) pos) (tD (dr f l h)) :=
 (yN (hJ.or RE) he G I).weak fun σ H Q ⟨F,J,L,K,S,q,k⟩=>⟨F,J,L,_,S,q,λx r M v N s H1 O P R=>(zI4 N s r _ ⟨P,M,λn t T U u H2 A V=>(zI4 U u t _ ⟨V,T,λo W Y F3 Z H3 B b=>by
  let⟨d,c,C⟩:=jM b ((R.ext A).ext B) Y;let g:=(O.trans A).trans B;unfold qD at c;split at c
  .let⟨a,w,rfl,y,m⟩:22:=C
   exact .inl (zI2 a w ⟨rfl,bG.of y,λp i=>k _ _ c _ _ _ _ (g.trans (Ext.al b (cK i))) (b.al (cK i)) (oP b.sub i (Hn m _ _))⟩)
  .let j:=C
   let z:=j;let⟨a,w,rfl,y,m⟩:22:=j;refine .inr (zI2 a w ⟨rfl,b9.of (b.sub _ _ y),λD=>?_,λ_ p i=>?_⟩)
   .rw[↑m] at D
    rw[RJ D] at c;exact k _ _ c _ _ _ _ g b z
   .exact k _ _ c _ _ _ _ (g.trans (Ext.al b (cK i))) (b.al (cK i)) (wd b.sub i (Hn m _ _))
  .calc c.elim⟩)⟩)⟩
def wH:D->(D->Prop)->Prop
 |.lst a,K=>K (.lst a.reverse)
 |.tup a,K=>K (.tup a.reverse)
 |_,_=>False
theorem RL{e f n pos o r s}(he:JE X e (tD f)):JE X (.Subscript e (.Slice η η (ζ (.UnaryOp .USub (.Constant (.int 1) n r) s)) o) pos) (tD (d1 f wH)) :=
 (RG he).weak λB H Q ⟨F,t,u,K,S,q,k⟩↦⟨F,t,u,_,S,q,λx w y v C z D l b A=>by
  let⟨d,g,m⟩:=jM b A y;unfold wH at g;split at g
  .let⟨a,h,rfl,i,j⟩:=m
   exact .inl ⟨a,h,Y,bG.of i,λp c=>k _ _ g _ _ _ _ (l.trans (Ext.al b (cK c))) (b.al (cK c)) (oP b.sub c (zY j))⟩
  .let⟨a,h,rfl,i,j⟩:=m
   exact .inr ⟨a,h,Y,b9.of (b.sub _ _ i),λp c=>k _ _ g _ _ _ _ (l.trans (Ext.al b (cK c))) (b.al (cK c)) (wd b.sub c (zY j))⟩
  .calc g.elim⟩
def ly:D->D->(D->Prop)->Prop
 |.bl a,.bl b,K=>K (.bl (a==b))
 |d,e,K=>nE d e K
theorem Ij:fX X (compareOp .Is) ly:=by
 ext c s g H x y v u Q I h i ⟨F,d,e,K,f,j,k,q,l⟩;unfold ly at q;split at q
 .rename_i a b
  exact RI c s g H x y v u Q I h i (zI2 a b ⟨j,k,l _ _ _ q (λ_ _ e=>e) Y⟩)
 .calc QL c s g H x y v u Q I h i ⟨F,_,_,K,f,j,k,q,l⟩
end
end
section
variable[zt:aM]{X:Cx}
def wI(_ j:Int):Prop:=j≠0/\j.natAbs<10 ^ 40
theorem RM:fX X (binaryOp .FloorDiv) (di wI λi j=>.int (i.fdiv j)):=zZ (vD λi j _ _ _ _ _ a q=>floordiv_int a.1 q (.inl (PyProof.noPylong_of_log2 ((Nat.log2_lt (Int.natAbs_ne_zero.mpr a.1)).mpr (ZA a.2 ⋯))))) λ_ _ _=>Y
end
end L2
open L2
open Lean in
local macro_rules
 |`(tactic|simp![$ls,*] $[$loc:location]?)=>do
  let t:=("q3W dep:2 bo:2 q0d Nat.max_self Nat.max_zero Nat.zero_max Nat.reduceLeDiff ar aK dN rM ag af d1 d2 dC aa lh:2 iF:3 nq:3 ka:2 aO.fix G6:2 bp bw nu dT qj:1 gB ju cb nv jO qk vZ bY f7 aB aU bZ kF:1 g4:1 lq iT eo gC nA fz cN oN:3 mi zQ qt zR:2 fu au t6 passes:4 jw:2 df:1 nB:4 t5:1 aS:3 uf:4 cx:4 qD:2 dr wH:2 ly:1 me nH:1 f9:2 oI:1 di:1 oEq iV oLt:2 nE jc:2 bT:3 z8:2 wC:2 wq:2 uk:1 wt:1 f_:1 cn wu Aj dQ hV lr gb:1 kc qz Ab nJ wo iU uv aO.trim hU:2 zF:3 Option.join_some Option.join_none ZW q39 List.cons_append q1k q1I q4V List.getElem?_cons_zero q2w List.getElem?_nil q0l q0m Ge q1j q4U List.take_zero List.take_nil List.any_nil q1o q2a q1p q3K q63 q6X Zz Bool.true_eq_false q1S q1e true_and and_true and_self reduceCtorEq q3R q0p Nat.reduceAdd Nat.reduceLT Nat.reduceEqDiff Nat.reduceSub qa My".splitOn " ").map (·.splitOn ":")
  let m:List String->MacroM (Syntax.TSepArray [`Lean.Parser.Tactic.simpStar,`Lean.Parser.Tactic.simpErase,`Lean.Parser.Tactic.simpLemma] ","):=λl=>do
   let a←l.toArray.mapM λs=>`(Parser.Tactic.simpLemma|$(mkIdent s.toName):ident)
   pure ⟨(Syntax.SepArray.ofElems (sep:=",") ((a.push (←`(Parser.Tactic.simpLemma|↓reduceIte))).map (·.raw)++ls.getElems.map (·.raw))).elemsAndSeps⟩
  let a←m (t.map (·.head!))
  let d←m (t.flatMap fun|[x,n]=>(List.range n.toNat!).map λk=>s!"{x}.eq_{k+1}"|x=>x)
  if loc.isSome then `(tactic|simp only[$a,*] $[$loc]?) else `(tactic|first|((set_option backward.dsimp.useDefEqAttr false in dsimp only[$(⟨d.elemsAndSeps⟩),*]);try simp only[$a,*])|simp only[$a,*])
local macro_rules | `(tactic| simp! $[$l:location]?) => `(tactic| simp! [] $[$l]?)
set_option maxHeartbeats 8000000
namespace LJ
open PySem L2
variable[zt:aM]
theorem Ik{ns:-Int}{k}(b:0<=k)(c:k<(ns.length:Int)):∃n,eM (ns.map D.int) k=ζ (.int n):=by
 let⟨i,rfl⟩:∃i:Nat,k=i:=⟨k.toNat,⋯⟩;let a:i<ns.length:=by symm
 calc⟨ns[i],iN ?_⟩;rw[OS,p_ a];rfl
theorem cq{a}{x:a}{r}:eM (x::r) 0=ζ x:=iN  Y
theorem cG{a}{x y:a}{r}:eM (x::y::r) 1=ζ y:=iN  Y
theorem at2{a}{x y z:a}{r}:eM (x::y::z::r) 2=ζ z:=iN  Y
theorem uy{a b A B:Int}(d:0<=a)(e:a<=A)(c:0<=b)(f:b<=B):0<=a*b/\a*b<=A*B :=
 ⟨Int.mul_nonneg d c,Int.mul_le_mul e f c ⋯⟩
meta def iW:-Int:=[2147483629,2147483587,2147483579,2147483563,2147483549,2147483543,2147483497,2147483489,2147483477,2147483423,2147483399,2147483353,2147483323]
theorem Ao n:∃q:Int,eM (iW.map D.int) (n%13)=ζ (.int q)/\0<q/\q<2147483648:=by
 let b:0<=n%13:=q1l _ (by decide);let c:n%13<13:=q0U _ (by decide);generalize n%13=j at b c;let⟨i,rfl⟩:∃i:Nat,j=i:=⟨j.toNat,⋯⟩;let hi:i<13:=by symm
 let d:(iW.map D.int)[i]?=ζ (.int (iW[i]'(hi))):=by
  rw[OS,p_ (hi)];rfl
 calc⟨_,iN d,?_⟩;let a:∀q∈iW,0<q/\q<2147483648:=by decide
 calc a _ (q0N _)
theorem RN:iD 3 1=ζ 1:=rfl
theorem Il:iD 3 2=ζ 2:=rfl
abbrev Sem(n m:Nat)(g:GD)(b:WS):Prop:=∀c a d,↑c=n->g c a d->b (iU ↑a d) ⟨c.map ζ++Gg m η,a.map ζ⟩
theorem aJ{A B K a}(h:∀N:aO->Prop,N=B K->A {K with nx:=N} a):ar A B K a:=h _ Y
theorem gc{t G c K d}(h:∀A B:aO->Prop,A=G K->B=c K->t d λb a=>if b=θ then A a else B a):aU t G c K d:=h _ _ Y Y
theorem oX{w g b K c}(h:∀d e f,d=g->e=b->f=K->w c λi a=>kG a i.ft d e f i.items a):eo w g b K c:=h _ _ _ Y Y Y
theorem jx{f g c}{K:-DV->aO->Prop}(h:∀d,d=(λx a=>g a λxs b=>K (x::xs) b)->f c d):ag f g c K:=h _ Y
inductive Ap (ys:-DV) (aW:-OV) (K:RV->-OV->Prop):Prop
 |mk (cell at_:Int) (q:ys=[.p (.int cell),.p (.int at_)]) (q:aW=[]) (q:0<=at_) (q:at_<2 ^ 30) (q:∀z:Int,K (.p (.int z)) [])
def Aq:WS:=(ar (aU (dT (d2 (aa 0) (d2 (dC (.int 10)) (dC (.int 18)) (di cI λi j=>.int (i ^ j.toNat))) (oI λi j=>.bl (μ (j<=i))))) (aB (aa 0)) bY) (ar (aK 2 (bw (ag (dC (.int 2147483629)) (ag (dC (.int 2147483587)) (ag (dC (.int 2147483579)) (ag (dC (.int 2147483563)) (ag (dC (.int 2147483549)) (ag (dC (.int 2147483543)) (ag (dC (.int 2147483497)) (ag (dC (.int 2147483489)) af)))))))))) (ar (aK 2 (d2 (aa 2) (bw (ag (dC (.int 2147483477)) (ag (dC (.int 2147483423)) (ag (dC (.int 2147483399)) (ag (dC (.int 2147483353)) (ag (dC (.int 2147483323)) af)))))) cx)) (ar (aK 3 (d2 (d2 (d2 (d2 (d2 (d2 (aa 0) (dC (.int 1000000007)) (di (λ_ j=>0<j) λi j=>.int (i%j))) (d2 (d2 (dC (.int 2)) (aa 1) f9) (dC (.int 69069)) cx) f9) (d2 (aa 1) (dC (.int 40503)) f9) cx) (dC (.int 977)) cx) (dC (.int 3)) (di cI λi j=>.int (i ^ j.toNat))) (d2 (aa 2) (d2 (aa 1) (dC (.int 13)) (di (λ_ j=>0<j) λi j=>.int (i%j))) aS) (di (λ_ j=>0<j) λi j=>.int (i%j)))) (ar (aK 4 (d2 (d2 (d2 (d2 (d2 (aa 3) (d2 (aa 1) (dC (.int 3)) cx) f9) (d2 (aa 0) (dC (.int 65537)) (di (λ_ j=>0<j) λi j=>.int (i%j))) cx) (dC (.int 5)) cx) (dC (.int 5)) (di cI λi j=>.int (i ^ j.toNat))) (d2 (aa 2) (d2 (d2 (aa 1) (dC (.int 5)) cx) (dC (.int 13)) (di (λ_ j=>0<j) λi j=>.int (i%j))) aS) (di (λ_ j=>0<j) λi j=>.int (i%j)))) (ar (aK 5 (d2 (d2 (d2 (d2 (aa 4) (d2 (aa 3) (dC (.int 1009)) (di (λ_ j=>0<j) λi j=>.int (i%j))) cx) (aa 1) cx) (dC (.int 3)) (di cI λi j=>.int (i ^ j.toNat))) (d2 (aa 2) (d2 (d2 (aa 1) (dC (.int 7)) cx) (dC (.int 13)) (di (λ_ j=>0<j) λi j=>.int (i%j))) aS) (di (λ_ j=>0<j) λi j=>.int (i%j)))) (aB (d2 (d2 (d2 (d2 (aa 3) (dC (.int 2147483647)) f9) (aa 4) cx) (dC (.int 2147483647)) f9) (aa 5) cx))))))))
theorem RO:Sem 2 4 Ap Aq:=by
 ext t n o-⟨a,k,rfl,rfl,u,v,e⟩;unfold Aq;let b:∀z g,gD 0 o (.p (.int z)) ⟨g,[]⟩:=λz g=>⟨[],Y,Y,e z⟩;simp! at ⊢;calc⟨⟨by decide,by decide,by decide⟩,?_⟩;split
 .exact b _ _
 let⟨c,h,i,w⟩:12:=Ao k;let⟨f,j,l,x⟩:12:=Ao (k+5);let⟨y,m,q,A⟩:12:=Ao (k+7);erw[iW,ZW,q39] at h j m;erw[h,j,m];let r:0<=a%1000000007:=q1l _ (by decide);let B:=uy r (Int.le_of_lt (q0U _ (by decide))) ⋯ (show 2*k+69069<=2147552717 by symm);refine⟨by decide,.inl ⟨by decide,by decide⟩,.inl ⟨⋯,⋯⟩,.inr ⟨by decide,by decide⟩,⟨by decide,by decide,?cp1⟩,by decide,i,?_⟩
 case cp1 =>
  symm
 generalize(a%1000000007*(2*k+69069)+k*40503+977) ^ (3:Int).toNat=d;let s:0<=d%c:=q1l _ ⋯;let C:d%c<c:=q0U _ i;let D:=uy s (show d%c<=2147483648 by symm) ⋯ (show k+3<=1073741827 by symm);refine⟨.inl ⟨⋯,⋯⟩,by decide,⟨by decide,by decide,?cp2⟩,by decide,l,?_⟩
 case cp2 =>
  symm
 let E:0<=(d%c*(k+3)+a%65537+5) ^ (5:Int).toNat%f:=q1l _ ⋯;let F:(d%c*(k+3)+a%65537+5) ^ (5:Int).toNat%f<f:=q0U _ l;calc⟨by decide,⟨by decide,by decide,⋯⟩,by decide,q,.inr ⟨by decide,by decide⟩,.inr ⟨by decide,by decide⟩,b _ _⟩
meta def kf(ns:-Int)(k z:Int):OV:=.lst [.lst (ns.map D.int),.int k,.int z]
structure bx(n:Int)(o:OV):Prop where
 out:∃ns k z,o=kf ns k z/\ns.length<=63/\0<=k/\k<=n
theorem bx.mono{n m:Int}{o:OV}(h:bx n o)(l:n<=m):bx m o:=by
 let⟨a,k,z,e,b,c,d⟩:33:=h.out;calc⟨a,k,z,e,b,c,⋯⟩
inductive Ar (ys:-DV) (aW:-OV) (K:RV->-OV->Prop):Prop
 |mk (n) (o) (q:ys=[.o 0]) (q:aW=[o]) (q:bx n o) (q:∀o',bx n o'->K (.a 0) [o'])
def Im:WS:=(ar (lr (dC (.int 0)) (aa 0) (dC (.int 2))) (aB (aa 0)))
theorem RP:Sem 1 0 Ar Im:=by
 ext g c h-⟨n,o,rfl,rfl,P,a⟩;let⟨b,k,z,rfl,d,e,f⟩:33:=P.out;calc⟨[kf b k 0],Y,Y,a _ ⟨b,k,0,Y,d,e,f⟩⟩
inductive fA (ys:-DV) (aW:-OV) (K:RV->-OV->Prop):Prop
 |mk (n m:Int) (o:OV) (q:ys=[.o 0,.p (.int m)]) (q:aW=[o]) (q:bx n o) (q:n<2 ^ 30) (q:0<m) (q:m<10 ^ 40) (q:∀r o',0<=r->r<m->bx (n+1) o'->K (.p (.int r)) [o'])
def As:WS:=(ar (aU (dT (d2 (d2 (aa 0) (dC (.int 2)) aS) (aa 1) oLt)) (ar (aK 2 (d2 (aa 0) (dC (.int 1)) aS)) (ar (aK 3 (dC (.int 0))) (ar (aU (dT (d2 (aa 2) (dN (ag (d2 (aa 0) (dC (.int 0)) aS) af) bT) oLt)) (aK 3 (d2 (d2 (aa 0) (dC (.int 0)) aS) (aa 2) aS)) (aU (dT (d2 (dN (ag (d2 (aa 0) (dC (.int 0)) aS) af) bT) (dC (.int 0)) (oI λi j=>.bl (μ (j<i))))) (aK 3 (d2 (d2 (d2 (aa 0) (dC (.int 0)) aS) (d2 (d2 (d2 (aa 2) (dC (.int 5)) f9) (dC (.int 3)) cx) (dN (ag (d2 (aa 0) (dC (.int 0)) aS) af) bT) (di (λ_ j=>0<j) λi j=>.int (i%j))) aS) (d2 (d2 (dC (.int 10)) (dC (.int 17)) (di cI λi j=>.int (i ^ j.toNat))) (aa 2) cx) (di (λ_ j=>0<j) λi j=>.int (i%j)))) bY)) (ar (lr (d2 (aa 2) (dC (.int 1)) cx) (aa 0) (dC (.int 1))) (lr (au 2 Ap (ag (aa 3) (ag (aa 2) af))) (aa 0) (dC (.int 2))))))) bY) (ar (aK 4 (d2 (d2 (aa 0) (dC (.int 2)) aS) (aa 1) (di (λ_ j=>0<j) λi j=>.int (i%j)))) (ar (lr (d2 (d2 (aa 0) (dC (.int 2)) aS) (aa 1) (di wI λi j=>.int (i.fdiv j))) (aa 0) (dC (.int 2))) (aB (aa 4)))))
theorem RQ:Sem 2 3 fA As:=by
 ext Q L F-⟨n,m,o,rfl,rfl,P,R,l,M,v⟩;let⟨q,k,z,rfl,O,G,S⟩:33:=P.out;unfold As kf
 let r:∀e g H,0<=e->e<=n+1->gD 1 F (.p (.int (g%m))) ⟨H,[ζ (.lst [.lst (q.map D.int),.int e,.int (g.fdiv m)])]⟩:=λe g H a b =>
  ⟨[kf q e (g.fdiv m)],Y,Y,v _ _ (q1l _ ⋯) (q0U _ l) ⟨q,e,_,Y,O,a,b⟩⟩
 let w:∀z,wI z m:=λz=>⟨⋯,⋯⟩
 let h:∀e g I J s,0<=e->e<=n+1->(ar (aK 4 (d2 (d2 (aa 0) (dC (.int 2)) aS) (aa 1) (di (λ_ j=>0<j) λi j=>.int (i%j)))) (ar (lr (d2 (d2 (aa 0) (dC (.int 2)) aS) (aa 1) (di wI λi j=>.int (i.fdiv j))) (aa 0) (dC (.int 2))) (aB (aa 4)))) (iU 1 F) ⟨[ζ (.o 0),ζ (.p (.int m)),I,J,s],[ζ (.lst [.lst (q.map D.int),.int e,.int g])]⟩:=λe g I J s a b=>by
  exact⟨l,w _,r _ _ _ a b⟩
 calc aJ λN K=>gc λA B t u=>?_;simp![at2] at ⊢;split
 .subst t
  calc aJ λx f=>?_;simp![cG];subst f;calc aJ λx f=>?_;simp!;subst f;refine aJ λx f=>?_
  let y:∀c s,x ⟨[ζ (.o 0),ζ (.p (.int m)),ζ (.p (.int k)),ζ (.p (.int c)),s],[ζ (.lst [.lst (q.map D.int),.int k,.int z])]⟩:=λc s=>by
   subst f;simp![RN];calc⟨c,k,Y,Y,G,⋯,λg=>?_⟩;subst K;exact h _ _ _ _ _ ⋯ ⋯
  calc gc λA B t u=>?_;simp![cq] at ⊢;split
  .rename_i C
   let⟨c,E⟩:=Ik G (q0w C);subst t;simp![cq];rw[E];exact y _ _
  .subst u
   calc gc λA B t u=>?_;simp![cq] at ⊢;split
   .rename_i d
    let d:=q0w d;let⟨c,E⟩:=Ik   (q1l _ ⋯) (q0U _ d);subst t;simp![cq];calc⟨.inr ⟨by decide,by decide⟩,d,?_⟩;rw[E];exact⟨⟨by decide,by decide,by decide⟩,by show 0<10 ^ 17+k;symm,y _ _⟩
   .subst u
    exact y _ _
 .subst u K
  calc h _ _ _ _ _ ⋯ ⋯
meta def cU(p:Int×Int):D:=.tup [.int p.1,.int p.2]
structure d8(many:Int)(ps:-(Int×Int)):Prop where
 ends:∀p∈ps,0<=p.1/\p.1<p.2/\p.2<many
 qB:ps.Nodup
 jh:↑ps<=66
theorem d8.sub{a ps b}(h:d8 a ps)(s:b.Sublist ps):d8 a b :=
 ⟨λp c=>h.ends p (s.subset c),h.qB.sublist s,Z0 s.length_le h.jh⟩
inductive Au (ys:-DV) (aW:-OV) (K:RV->-OV->Prop):Prop
 |mk (n kind many:Int) (o:OV) (q:ys=[.o 0,.p (.int kind),.p (.int many)]) (q:aW=[o]) (q:bx n o) (q:n+100<2 ^ 30) (q:1<=many) (q:many<=12) (q:∀ps o',d8 many ps->bx (n+67) o'->K (.n (ps.map cU)) [o'])
def Av:WS:=(ar (aK 3 (nu af)) (ar (eo (mi (ag (aa 2) af)) (bZ 4) (f7 (qz (aa 3) (ag (gC (mi (ag (aa 4) af)) [η,ζ 4] (bZ 0) fz (bp (ag (aa 0) (ag (aa 1) af)))) af)))) (ar (aU (dT (d2 (aa 1) (dC (.int 1)) oEq)) (aB (nA (zQ (ag (dC (.int 1)) (ag (aa 2) af))) [η,ζ 0] (bZ 0) fz (bp (ag (au 2 fA (ag (aa 1) (ag (aa 0) af))) (ag (aa 0) af))))) bY) (ar (aU (dT (d2 (aa 1) (dC (.int 2)) oEq)) (ar (aK 5 (gC (mi (ag (d2 (aa 2) (dC (.int 1)) (oI λi j=>.int (i-j))) af)) [η] (bZ 0) fz (bp (ag (aa 0) (ag (d2 (aa 0) (dC (.int 1)) cx) af))))) (aB (Aj (aa 5) (gC (cN (aa 3)) [η,ζ 2] (bZ 0) (gB (dT (d2 (aa 0) (bp (ag (dC (.int 0)) (ag (d2 (aa 1) (dC (.int 1)) (oI λi j=>.int (i-j))) af))) oEq)) (dT (d2 (aa 1) (dC (.int 2)) (oI λi j=>.bl (μ (j<i)))))) (aa 0))))) bY) (ar (aU (dT (d2 (aa 1) (dC (.int 3)) oEq)) (aB (aa 3)) bY) (ar (aU (dT (d2 (aa 1) (dC (.int 4)) oEq)) (aB (nA (cN (aa 3)) [η,ζ 0] (bZ 0) (dT (d2 (au 2 fA (ag (aa 1) (ag (dC (.int 4)) af))) (dC (.int 0)) oEq)) (aa 0))) bY) (ar (aU (dT (d2 (aa 1) (dC (.int 5)) oEq)) (ar (aK 6 (au 2 fA (ag (aa 0) (ag (d2 (aa 2) (dC (.int 1)) cx) af)))) (aB (nA (cN (aa 3)) [η,ζ 6,ζ 0] (bZ 0) (gB (dT (d2 (d2 (d2 (aa 0) (dC (.int 0)) aS) (aa 1) oLt) (d2 (d2 (aa 0) (dC (.int 1)) aS) (aa 1) oLt) oEq)) (dT (d2 (au 2 fA (ag (aa 2) (ag (dC (.int 3)) af))) (dC (.int 0)) (oI λi j=>.bl (μ (j<i)))))) (aa 0)))) bY) (aB (nA (cN (aa 3)) [η,ζ 0] (bZ 0) (dT (d2 (au 2 fA (ag (aa 1) (ag (dC (.int 2)) af))) (dC (.int 0)) oEq)) (aa 0))))))))))
theorem sub_snoc{b:Type}{a ps:-b}{i x}(h:a.Sublist (ps.take i))(e:ps[i]?=ζ x):(a++[x]).Sublist (ps.take (i+1))/\a.Sublist (ps.take (i+1)):=by
 let:ps.take (i+1)=ps.take i++[x]:=by rw[q1u,e];rfl
 rw[this];calc⟨h.append (q5G _),h.trans (List.sublist_append_left _ _)⟩
theorem RR{b:Type}{l:-b}{c}(h:l.Nodup)(a:∀x∈l,x=c):↑l<=1:=by
 match l,h,a with
 |[],_,_=>exact q0d _
 |[_],_,_=>exact tm _
 |x::y::r,h,a =>
  let:=(q1a.mp h).1 y (YB);calc absurd ((a x YB).trans (a y (Yz _ YB)).symm) this
theorem Aw{n o ps t K a f l}(y:∀D o',l ⟨D,[ζ o',f]⟩)(G:↑ps<=66)(P:bx n o)(hn:n+70<2 ^ 30)
  (E:∀p (i:Nat) o' Q,p∈ps->i<=66->bx (n+i) o'->(∀b c,bx (n+i+1) c->Q b ⟨ζ (.p (cU p))::a,[ζ c,f]⟩)->t ⟨ζ (.p (cU p))::a,[ζ o',f]⟩ Q)
  (z:hU 2 a a=a)
  (v:∀(e:-(Int×Int)) o',e.Sublist ps->bx (n+↑ps) o'->K (e.map cU) ⟨η::a,[ζ o',f]⟩) :
  jR ⟨η::a,[ζ o,f]⟩ l (bZ 0) t (aa 0) K (ps.map cU) [] ⟨η::a,[ζ o,f]⟩:=by
 refine Ag (λi g w=>∃(e:-(Int×Int))(k:OV),e.Sublist (ps.take i)/\g=e.map cU/\bx (n+i) k/\w=⟨η::a,[ζ k,f]⟩) (zI2 [] o ⟨q5G _,Y,P.mono ⋯,Y⟩) ?_ ?_
 .ext j d g w L A m B;let⟨e,k,h,rfl,s,rfl⟩:23:=m
  rw[OS] at A;let⟨p,u,rfl⟩:=YE.mp A;let F:=(ri.mp u).1;refine⟨y _ _,E p j k _ (ZZ u) ⋯ s λb c x=>?_⟩
  let q:↑(e.map cU)<1000:=by
   rw[qa];let:=h.length_le;rw[ZH] at this;symm
  let C:bx (n+(j+1)) c:=x.mono ⋯
  cases b with
  |true =>
   calc⟨q,B _ _ (zI2 (e++[p]) c ⟨(sub_snoc h u).1,by rw[ZM];rfl,C,?_⟩)⟩;show(⟨η::hU 2 a a,_⟩:aO)=_;rw[z];rfl
  |false =>
   calc B _ _ (zI2 e c ⟨(sub_snoc h u).2,Y,C,?_⟩);show(⟨η::hU 2 a a,_⟩:aO)=_;rw[z];rfl
 .ext g w r;let⟨e,k,h,rfl,s,rfl⟩:23:=r
  rw[qa] at s h;rw[Z_ (tm _)] at h;calc⟨y _ _,v e k h s⟩
theorem RS:Sem 3 4 Au Av:=by
 ext ys aW K'-⟨n,K,C,o,rfl,rfl,P,hn,m1,rz,M⟩;let⟨g,rfl⟩:∃g:Nat,C=g:=⟨C.toNat,⋯⟩;let O:g<=12:=by symm
 unfold Av;let f:d8 g (jK g):=⟨λp l=>zx l,GV g,GW g O⟩;calc aJ λN w=>?_;simp!;subst w;calc aJ λN w=>?_;simp!;calc⟨⋯,?_⟩;refine kK (λi E=>E=⟨[ζ (.o 0),ζ (.p (.int K)),ζ (.p (.int g)),ζ (.o 1),η,η,η],[ζ o,ζ (.lst ((jK i).map cU))]⟩) rfl ?_ ?_
 .ext j d E L F rfl Z
  let⟨F,rfl⟩:=mj F;simp!;let e:(0+(j:Int))=j:=by symm
  rw[e];refine⟨⋯,?_⟩
  refine lu (λd=>match d with
   |.int a=>cU (a,j)
   |_=>.non) (by rw[kH];symm) trivial ?_ ?_
  .ext d R y L' G h
   let⟨i,z⟩:=ZD.mp R;let⟨z,rfl⟩:=mj z;simp!;exact⟨G,h⟩
  .let e2:(jK j).map cU++(dO 0 (j:Int).toNat).map (λd=>match d with
    |.int a=>cU (a,j)
    |_=>.non)=(jK (j+1)).map cU:=by
    show _=(jK j++_).map cU;unfold dO;rw[ZM,Z7,Z7];congr 1;calc q08 λa _=>?_;simp[q44]
   simp!;let YM:=GW j ⋯;calc⟨by rw[kH];symm,?_⟩;rw[e2];exact Z _ rfl
 .ext E rfl
  calc⟨trivial,?_⟩;subst w;let eL:((g:Int)).toNat=g:=by symm
  rw[kH,eL];dsimp only
  let s:∀(H:-(Int×Int))(k:OV)(sl:-(Option DV))(m:-(Option OV)),d8 g H->bx (n+67) k->gD 1 K' (.o (↑m+1)) ⟨sl,ζ k::(m++[ζ (.lst (H.map cU))])⟩:=λH k sl m h1 h2=>by
   calc⟨[k],rfl,rfl,?_⟩;show if ↑m+1<1 then _ else _;rw[Zx ⋯]
   let:(ζ k::(m++[ζ (OV.lst (H.map cU))]))[↑m+1]?=ζ (ζ (.lst (H.map cU))):=by
    rw[q2w,YD (tm _),q0O];rfl
   dsimp only;rw[this];exact .inl (M H k h1 h2)
  calc aJ λN w=>?_;simp![aE] at ⊢;split
  .refine⟨⋯,?_⟩
   refine Ag (λi y E=>∃(u:-(Int×Int))(k:OV),↑u=i/\(∀(q:Nat)(p:Int×Int),u[q]?=ζ p->p.2=q+1/\0<=p.1/\p.1<p.2)/\y=u.map cU/\bx (n+i) k/\E=⟨[η,ζ (.o 0)],[ζ k,ζ (.lst ((jK g).map cU))]⟩) (zI2 [] o ⟨rfl,λq p e=>by simp at e,rfl,P.mono ⋯,rfl⟩) ?_ ?_
   .ext j d y E L F S Z;let⟨u,k,A,T,rfl,t,rfl⟩:24:=S
    let⟨F,rfl⟩:=mj F;simp!;calc⟨n+j,1+j,k,rfl,rfl,t,⋯,⋯,⋯,λr B U V v=>?_⟩;simp!;refine⟨⋯,Z _ _ (zI2 (u++[(r,1+(j:Int))]) B ⟨by rw[My,A];rfl,λq p e=>?_,by rw[ZM];rfl,v.mono ⋯,rfl⟩)⟩
    by_cases c:q<↑u
    .rw[OO c] at e
     exact T q p e
    .let hl:=(ri.mp e).1
     rw[My,Z8] at hl;let:q=↑u:=by symm
     subst this;rw[YD (tm _),q0O] at e;cases(show ζ (r,1+(j:Int))=ζ p by simpa using e)
     exact⟨by show 1+(j:Int)=_;symm,U,V⟩
   .ext y E W;let⟨u,k,A,T,rfl,t,rfl⟩:24:=W
    rw[kH] at A t;calc⟨trivial,?_⟩;refine s u k _ [_] ⟨λp l=>?_,?_,⋯⟩ (t.mono ⋯)
    .let⟨q,X⟩:=ZD.mp l
     let:=T q p X;let hl:=(ri.mp X).1;symm
    .refine q1w.mpr λi j z F Io e=>?_
     let I:=T i _ (p_ z);let Y:=T j _ (p_ F);rw[e] at I;symm
  subst w;calc aJ λN w=>?_;simp![aE] at ⊢;split
  .clear w
   refine⟨⋯,?_⟩
   refine lu (λd=>match d with
    |.int a=>cU (a,a+1)
    |_=>.non) (by rw[kH];symm) trivial ?_ ?_
   .ext d R y L' G h
    let⟨i,z⟩:=ZD.mp R;let⟨z,rfl⟩:=mj z;simp!;exact⟨G,h⟩
   .simp!
    refine rL (λd=>aE d (cU (0,g-1))&&μ ((2:Int)<g)) id (by rw[qa];let:=f.jh;symm) rfl ?_ ?_
    .ext d R y L' G h h'
     let⟨p,l,rfl⟩:=ZI.mp R;erw[cU] at h h';simp![cU] at ⊢;split
     .rename_i I
      split
      .rename_i Y
       exact⟨G,h (by rw[I,Y];rfl)⟩
      .rename_i Y
       exact h' (by rw[I,q2f _ |>.mp Y];rfl)
     .rename_i I
      exact h' (by rw[q2f _ |>.mp I];rfl)
    .simp!
     let er:(dO 0 ((g:Int)-1).toNat).map (λd=>match d with
       |D.int a=>cU (a,a+1)
       |x=>D.non)=((Z1 (g-1)).map λi:Nat=>((i:Int),(i:Int)+1)).map cU:=by
      unfold dO;rw[Z7,Z7];let:((g:Int)-1).toNat=g-1:=by symm
      rw[this];calc q08 λa _=>?_;simp[q44]
     let ef:(((jK g).map cU).filter λd=>aE d (cU (0,g-1))&&μ ((2:Int)<g))=((jK g).filter λp=>aE (cU p) (cU (0,g-1))&&μ ((2:Int)<g)).map cU:=by
      rw[q6g];rfl
     rw[er,q4C,ef,<-ZM]
     let hf:∀p∈(jK g).filter (λp=>aE (cU p) (cU (0,g-1))&&μ ((2:Int)<g)),p=(0,(g:Int)-1)/\(2:Int)<g:=λp l=>by
      let:=(q1y.mp l).2;simp[cU,aE,dq] at this;let⟨a,b⟩:=p;simp at this ⊢;symm
     let h1:↑((jK g).filter (λp=>aE (cU p) (cU (0,g-1))&&μ ((2:Int)<g)))<=1:=RR (f.qB.sublist q3e) λp l=>(hf p l).1;refine⟨by rw[kH,qa];symm,s _ o _ [_] ⟨λp l=>?_,?_,?_⟩ (P.mono ⋯)⟩
     .rcases ZT.mp l with l|l
      .let⟨i,z,rfl⟩:=ZI.mp l
       let:=Z9.mp z;exact⟨⋯,⋯,by show(i:Int)+1<g;symm⟩
      .exact f.ends p (q1y.mp l).1
     .refine q06.mpr ⟨?_,f.qB.sublist q3e,λa G b hb e=>?_⟩
      .refine q1f.mpr (q2S.imp λ{a b} ne e=>ne ?_)
       let:=congrArg q8t e;exact q3J this
      .subst e
       let⟨i,z,rfl⟩:=ZI.mp G;let:=hf _ hb;let h2:=congrArg q8t this.1;let h3:=congrArg Prod.snd this.1;simp at h2 h3;symm
     .rw[My,qa,q0u];symm
  subst w;calc aJ λN w=>?_;simp![aE] at ⊢;split
  .exact⟨[o],rfl,rfl,.inl (M _ _ f (P.mono ⋯))⟩
  subst w;calc aJ λN w=>?_;simp![aE] at ⊢;split
  .refine Aw (λ_ _=>rfl) f.jh P ⋯ (λp i k Q l z t J=>?_) rfl λu k A t=>?_
   .simp![aE]
    calc⟨n+i,4,k,rfl,rfl,t,⋯,⋯,⋯,λr B U V v=>?_⟩;simp!;exact J _ _ v
   .exact s u k _ [_] (f.sub A) (t.mono (by let:=f.jh;symm))
  subst w;calc aJ λN w=>?_;simp![aE] at ⊢;split
  .refine⟨n,g+1,o,rfl,rfl,P,⋯,⋯,⋯,λhalf o1 U V P1=>Aw  (λ_ _=>rfl) f.jh P1 ⋯ (λp i k Q l z t J=>?_) rfl λu k A t=>?_⟩
   .simp![aE,cU,cq,cG] at ⊢
    split
    .exact⟨n+1+i,3,k,rfl,rfl,t,⋯,⋯,⋯,λr B U V v=>J _ _ v⟩
    .exact J _ _ (t.mono ⋯)
   .exact s u k _ [_] (f.sub A) (t.mono (by let:=f.jh;symm))
  subst w;refine Aw (λ_ _=>rfl) f.jh P ⋯ (λp i k Q l z t J=>?_) rfl λu k A t=>?_
  .simp![aE]
   calc⟨n+i,2,k,rfl,rfl,t,⋯,⋯,⋯,λr B U V v=>?_⟩;simp!;exact J _ _ v
  .calc s u k _ [_] (f.sub A) (t.mono (by let:=f.jh;symm))
theorem Ip{a:Type}:∀{l:-a}{j:Nat}(h:j<↑l),List.Perm (l[j]::l.eraseIdx j) l
 |x::r,0,h=>List.Perm.refl _
 |x::r,j+1,h=>by
  let b:=by simpa using h
  calc(q6n x r[j] _).trans ((Ip b).cons x)
theorem Iq{a b:Type}(f:a->b):∀(l:-a) j,(l.map f).eraseIdx j=(l.eraseIdx j).map f
 |[],_=>Y
 |_::_,0=>Y
 |x::r,j+1=>by
  show f x::(r.map f).eraseIdx j=f x::(r.eraseIdx j).map f;rw[Iq f r j]
meta def aV(y:Int×Int×Int):D:=.tup [.int y.1,.int y.2.1,.int y.2.2]
meta def aN(m:Int)(ys:-(Int×Int×Int)):D:=.tup [.int m,.tup (ys.map aV)]
meta def qE(y:Int×Int×Int):Int×Int:=(y.1,y.2.1)
theorem d8.perm{a ps b}(h:d8 a ps)(p:b.Perm ps):d8 a b :=
 ⟨λx c=>h.ends x (p.mem_iff.mp c),p.nodup_iff.mpr h.qB,by rw[p.length_eq];calc h.jh⟩
inductive Ax (ys:-DV) (aW:-OV) (K:RV->-OV->Prop):Prop
 |mk (n hY most:Int) (o:OV) (q:ys=[.o 0,.p (.int hY),.p (.int most)]) (q:aW=[o]) (q:bx n o) (q:n+400<2 ^ 30) (q:1<=hY) (q:hY<=12) (q:0<=most) (q:most<=30) (q:∀m ws o',fG m ws->m<=hY->(↑ws:Int)<=most->bx (n+300) o'->K (.p (aN m ws)) [o'])
def Az:WS:=(ar (aK 3 (au 2 fA (ag (aa 0) (ag (dC (.int 8)) af)))) (ar (aK 4 (au 2 fA (ag (aa 0) (ag (dC (.int 4)) af)))) (ar (aK 5 (d2 (dC (.int 1)) (au 2 fA (ag (aa 0) (ag (aa 1) af))) cx)) (ar (aK 6 (t6 3 Au (ag (aa 0) (ag (aa 3) (ag (aa 5) af))))) (ar (aK 7 (nu af)) (ar (eo (mi (ag (dN (ag (aa 2) (ag (dN (ag (aa 6) af) bT) af)) uk) af)) (bZ 8) (ar (iT (Ab (aa 6) (ag (au 2 fA (ag (aa 0) (ag (dN (ag (aa 6) af) bT) af))) af)) (lq 2 (g4 (bZ 9) (g4 (bZ 10) kF)))) (ar (aK 11 (d2 (bw (ag (dC (.int 7)) (ag (au 2 fA (ag (aa 0) (ag (dC (.int 3)) af))) (ag (d2 (d2 (dC (.int 10)) (dC (.int 9)) (di cI λi j=>.int (i ^ j.toNat))) (au 2 fA (ag (aa 0) (ag (dC (.int 2)) af))) (oI λi j=>.int (i-j))) (ag (au 2 fA (ag (aa 0) (ag (d2 (d2 (dC (.int 10)) (dC (.int 9)) (di cI λi j=>.int (i ^ j.toNat))) (dC (.int 1)) cx) af))) af))))) (aa 4) aS)) (f7 (kc (aa 7) (ag (bp (ag (aa 9) (ag (aa 10) (ag (aa 11) af)))) af)))))) (aB (bp (ag (aa 5) (ag (dN (ag (aa 7) af) wq) af))))))))))
theorem RT:Sem 3 9 Ax Az:=by
 ext ys aW K'-⟨n,e,f,o,rfl,rfl,P,hn,h1,YN,s0,YO,H⟩;unfold Az;calc aJ λN g=>?_;simp!;calc⟨n,8,o,rfl,rfl,P,⋯,⋯,⋯,λq I _ _ J=>?_⟩;simp!;subst g;calc aJ λN g=>?_;simp!;calc⟨n+1,4,I,rfl,rfl,J,⋯,⋯,⋯,λa K p0 p4 M=>?_⟩;simp!;subst g;calc aJ λN g=>?_;simp!;calc⟨n+1+1,e,K,rfl,rfl,M,⋯,⋯,⋯,λE O m0 mh Q=>?_⟩;simp!;subst g;calc aJ λN g=>?_;simp!;calc⟨n+1+1+1,q,1+E,O,rfl,rfl,Q,⋯,⋯,⋯,λv R w S=>?_⟩;simp!
 subst g;calc aJ λN g=>?_;simp!;subst g;calc aJ λN g=>?_;let YP:=w.jh;simp!;calc⟨⋯,?_⟩;let ek:(min f (v.length:Int)).toNat=min f.toNat v.length:=by symm
 rw[ek];generalize hk:min f.toNat v.length=k
 refine kK (λi T=>∃(b:-(Int×Int))(s:-(Int×Int×Int))(t:OV),↑b+i=v.length/\↑s=i/\d8 (1+E) (s.map qE++b)/\(∀y∈s,0<=y.2.2/\y.2.2<=1000000000)/\bx (n+70+4*i) t ∧
  T=⟨[ζ (.o 0),ζ (.p (.int e)),ζ (.p (.int f)),ζ (.p (.int q)),ζ (.p (.int a)),ζ (.p (.int (1+E))),ζ (.o 1),ζ (.o 2),η,η,η,η],[ζ t,ζ (.lst (b.map cU)),ζ (.lst (s.map aV))]⟩)
  (zI3 v [] R ⟨⋯,rfl,w,λy x=>absurd x ZL,S.mono ⋯,rfl⟩) ?_ ?_
 .ext j d T L hj z hL;let⟨b,s,t,hq,U,A,x,F,rfl⟩:35:=z
  let⟨hj,rfl⟩:=mj hj;let q0:0<↑b:=by symm
  let V:=A.jh;rw[My,qa] at V;calc⟨trivial,?_⟩;erw[bZ,q0l,q0m];calc aJ λN2 u=>?_;simp!;calc⟨n+70+4*j,↑b,t,rfl,rfl,F,⋯,⋯,⋯,λr I r0 r1 J=>?_⟩;let⟨l,rfl⟩:∃l:Nat,r=l:=⟨r.toNat,⋯⟩;let G:l<↑b:=by symm
  let ix:seqIndex? (l:Int) ↑b=ζ l:=P_ G;let eq:(b.map cU)[l]?=ζ (.tup [.int b[l].1,.int b[l].2]):=by rw[OS,p_ G];rfl
  simp![ix,eq];calc⟨⟨⋯,⋯⟩,?_⟩;subst u;calc aJ λN2 u=>?_;erw[aK,d2,bw];calc jx λW c=>?_;simp!;subst c;calc jx λW c=>?_;simp!;calc⟨n+70+4*j+1,3,I,rfl,rfl,J,⋯,⋯,⋯,λa1 K YQ YR M=>?_⟩;simp!;subst c;calc jx λW c=>?_;simp!;calc⟨⟨by decide,by decide,by decide⟩,n+70+4*j+1+1,2,K,rfl,rfl,M,⋯,⋯,⋯,λa2 O YS YT Q=>?_⟩;simp!;subst c;calc jx λW c=>?_;simp!;refine⟨⟨by decide,by decide,by decide⟩,n+70+4*j+1+1+1,10 ^ q0R 9+1,O,rfl,rfl,Q,⋯,by decide,by decide,λa3 R YU X S=>?_⟩
  simp!;subst c;simp!;let e9:(10:Int) ^ q0R 9=1000000000:=by decide
  rw[e9] at X ⊢
  let⟨B,Y,Z,RU⟩:∃B:Int,eM [D.int 7,D.int a1,D.int (1000000000-a2),D.int a3] a=ζ (.int B)/\0<=B/\B<=1000000000:=by
   let:a=0\/a=1\/a=2\/a=3:=by symm
   rcases this with rfl|rfl|rfl|rfl
   .exact⟨7,rfl,⋯,⋯⟩
   .exact⟨a1,rfl,⋯,⋯⟩
   .exact⟨1000000000-a2,rfl,⋯,⋯⟩
   .exact⟨a3,rfl,⋯,⋯⟩
  rw[Y];subst u;simp!;refine⟨⋯,hL _ (zI3 (b.eraseIdx l) (s++[(b[l].1,b[l].2,B)]) R ⟨?_,?_,?_,?_,S.mono ⋯,?_⟩)⟩
  .rw[List.length_eraseIdx_of_lt G];symm
  .rw[My,U];rfl
  .refine A.perm ?_
   rw[ZM,q00];exact List.Perm.append_left _ (Ip G)
  .ext y m
   rcases ZT.mp m with h|h
   .exact x y h
   .rw[ZV.mp h];exact⟨Z,RU⟩
  .rw[ZM,Iq];rfl
 .ext T C;let⟨b,s,t,hq,U,A,x,F,rfl⟩:35:=C
  calc⟨trivial,?_⟩;subst g;simp!;rw[kH] at U F;refine⟨[t],rfl,rfl,H (1+E) s t ⟨⋯,⋯,⋯,λy m=>?_,?_⟩ ⋯ ⋯ (F.mono ⋯)⟩
  .let:=A.ends (qE y) (q0h _ (ZI.mpr ⟨y,m,rfl⟩))
   let h2:=x y m;erw[qE] at this;symm
  .calc (q06.mp A.qB).1
end LJ
namespace L2
open PySem PySem.Spec PyProof.Rows
variable[zt:aM]
def wJ:-D->(D->Prop)->Prop
 |[.lst b],K=>match oV b with
  |some a=>(↑a<=30/\∀p∈a,0<=p.1/\p.1<p.2/\p.2<12)/\K (.int ↑(g5 a ↑a))
  |none=>False
 |_,_=>False
section
variable{X:Cx}{fa:WA}
theorem RW{a x h y j}(z:X.calm=θ)(B:X.A.units+64<cLine)(l:Gl X "len")(m:X.mg "len" = η)(n:bootBuiltins "len" = ζ (.builtin "len"))(o:Gl X "set")(C:X.mg "set" = η)(r:bootBuiltins "set" = ζ (.type "set"))(D:JA X [a] (b_ fa))
  (he:‹starEach [a] X.env=[(ι,eval a X.env)]›) (E:‹starEach [.Call (.Name "set" h) [a] [] j] X.env=[(ι,eval (.Call (.Name "set" h) [a] [] j) X.env)]›):JE X (.Call (.Name "len" x) [.Call (.Name "set" h) [a] [] j] [] y) (tD (dN fa wJ)) :=
 (sX (PZ) l m n (k_ (pY (Rx z B) o C r D (he:=he)) bj)).weak λZ H Q ⟨F,G,I,K,S,q,k⟩=>⟨F,G,I,_,S,q,λxs J L M F1 N t O f P=>by
  let⟨ds,c,s⟩:11:=vV f P L;unfold wJ at c;split at c
  .split at c
   .rename_i es d e
    let⟨v,rfl,a,M,rfl,R,u⟩:1122:=je s;rw[Ie e] at u;let⟨T,rfl,m,g⟩:=Ii u;calc(zI3 a T d ⟨rfl,bG.of R,m,λi b U V W=>f.sub _ _ (g i b U V W),c.1.2,c.1.1,λp Y=>(zI2 p (↑(g5 d ↑d)) ⟨rfl,bN,by let:=An d ↑d;symm,?_⟩)⟩);let w:aI t (upd t p (lg p ↑(g5 d ↑d))):=cK Y;exact k _ _ c.2 _ _ _ _ (O.trans (Ext.al f w)) (f.al w) rfl
   .exact c.elim
  .calc c.elim⟩
end
end L2
namespace LJ
open PySem L2
variable[zt:aM]
meta def uz:D->Bool
 |.int _=>θ
 |_=>ι
meta def dE:D->Int->Int->Bool
 |.int i,a,b=>μ (a<=i)&&μ (i<=b)
 |_,_,_=>ι
meta def kM:D->Int->Bool
 |.tup a,n=>(↑a:Int)==n
 |_,_=>ι
theorem dR{K d a}(h:K (.p d) []):gD 0 K (.p d) ⟨a,[]⟩:=⟨[],Y,Y,h⟩
inductive wK (ys:-DV) (aW:-OV) (K:RV->-OV->Prop):Prop
 |mk (d) (q:ys=[.p d]) (q:aW=[]) (q:K (.p (.bl (uz d))) [])
def AA:WS:=(aB (jO (d1 (aa 0) (cn "int")) (vZ (d1 (aa 0) (cn "bool")))))
theorem Ir:Sem 1 0 wK AA:=by
 ext b a c-⟨d,rfl,rfl,k⟩;unfold AA;simp!;cases d<;>erw[cJ,aZ]<;>calc dR k
inductive kN (ys:-DV) (aW:-OV) (K:RV->-OV->Prop):Prop
 |mk (d) (lo) (hi) (q:ys=[.p d,.p (.int lo),.p (.int hi)]) (q:aW=[]) (q:K (.p (.bl (dE d lo hi))) [])
def AB:WS:=(aB (jO (au 1 wK (ag (aa 0) af)) (wo (aa 1) (aa 0) (aa 2) (oI λi j=>.bl (μ (i<=j))) (oI λi j=>.bl (μ (i<=j))))))
theorem Iu:Sem 3 0 kN AB:=by
 ext e a f-⟨d,b,g,rfl,rfl,k⟩;unfold AB;simp!;calc⟨d,Y,Y,?_⟩;cases d<;>simp![uz,dE] at k ⊢ <;> first|exact dR k|skip
 rename_i i
 by_cases c:b<=i
 .rw[OR c] at k ⊢
  exact dR k
 .rw[YC c] at k ⊢
  calc dR k
inductive wL (ys:-DV) (aW:-OV) (K:RV->-OV->Prop):Prop
 |mk (d) (n) (q:ys=[.p d,.p (.int n)]) (q:aW=[]) (q:K (.p (.bl (kM d n))) [])
def AD:WS:=(aB (jO (d1 (aa 0) (cn "tuple")) (d2 (dN (ag (aa 0) af) bT) (aa 1) oEq)))
theorem RX:Sem 2 0 wL AD:=by
 ext b a c-⟨d,n,rfl,rfl,k⟩;unfold AD;cases d<;>simp![cJ,aZ,kM,aE] at k ⊢ <;> calc dR k
meta def RY(m:Int):D->D->Bool
 |.int i,b=>dE b (i+1) (m-1)
 |_,_=>ι
meta def oY(m:Int)(a b:D):Bool:=dE a 0 (m-1)&&RY m a b
theorem oZ{d a b}(h:dE d a b=θ):∃i,d=.int i/\a<=i/\i<=b:=by
 cases d with
 |int i =>
  let h:(μ (a<=i)&&μ (i<=b))=θ:=h;rw[ZK,q0v,q0v] at h;exact⟨i,Y,h⟩
 |_=>cases h
inductive AE (ys:-DV) (aW:-OV) (K:RV->-OV->Prop):Prop
 |mk (m) (a) (b) (q:ys=[.p (.int m),.p a,.p b]) (q:aW=[]) (q:K (.p (.bl (oY m a b))) [])
def AF:WS:=(aB (jO (au 3 kN (ag (aa 1) (ag (dC (.int 0)) (ag (d2 (aa 0) (dC (.int 1)) (oI λi j=>.int (i-j))) af)))) (au 3 kN (ag (aa 2) (ag (d2 (aa 1) (dC (.int 1)) cx) (ag (d2 (aa 0) (dC (.int 1)) (oI λi j=>.int (i-j))) af))))))
theorem RZ:Sem 3 0 AE AF:=by
 ext d c e-⟨m,a,b,rfl,rfl,k⟩;unfold AF;simp!;calc⟨a,0,m-1,Y,Y,?_⟩;simp!;unfold oY at k;cases q:dE a 0 (m-1)
 .rw[q] at k
  exact dR k
 .rw[q] at k
  let⟨i,rfl,_,_⟩:12:=oZ q;calc⟨b,i+1,m-1,Y,Y,dR k⟩
meta def cz(m:Int):D->Bool
 |.tup [a,b,p]=>oY m a b&&dE p 0 1000000000
 |_=>ι
inductive AG (ys:-DV) (aW:-OV) (K:RV->-OV->Prop):Prop
 |mk (m) (d) (q:ys=[.p (.int m),.p d]) (q:aW=[]) (q:K (.p (.bl (cz m d))) [])
def Iv:WS:=(ar (aU (cb (dT (au 2 wL (ag (aa 1) (ag (dC (.int 3)) af))))) (aB (dC (.bl ι))) bY) (aB (jO (au 3 AE (ag (aa 0) (ag (d2 (aa 1) (dC (.int 0)) aS) (ag (d2 (aa 1) (dC (.int 1)) aS) af)))) (au 3 kN (ag (d2 (aa 1) (dC (.int 2)) aS) (ag (dC (.int 0)) (ag (dC (.int 1000000000)) af)))))))
theorem Iw{m d}(h:kM d 3=ι):cz m d=ι:=by
 unfold cz;split
 .exact absurd h (by simp[kM])
 .rfl
theorem uA{d}(h:kM d 3=θ):∃a b c,d=.tup [a,b,c]:=by
 cases d with
 |tup e =>
  let h:=h;let h:=ZJ h
  match e,h with
  |[a,b,c],_=>exact(zI3 a b c Y)
  |[],h=>simp at h
  |[_],h=>simp at h
  |[_,_],h=>simp at h
  |_::_::_::_::r,h=>simp at h;symm
 |_=>cases h
theorem uB{d}(h:kM d 2=θ):∃a b,d=.tup [a,b]:=by
 cases d with
 |tup c =>
  let h:=h;let h:=ZJ h
  match c,h with
  |[a,b],_=>exact(zI2 a b Y)
  |[],h=>simp at h
  |[_],h=>simp at h
  |_::_::_::r,h=>simp at h;symm
 |_=>cases h
theorem R0:Sem 2 0 AG Iv:=by
 ext h f i-⟨m,d,rfl,rfl,k⟩;calc aJ λN g=>?_;simp!;calc⟨d,3,Y,Y,?_⟩;cases q:kM d 3
 .rw[Iw q] at k
  exact dR k
 .subst g
  let⟨a,b,c,rfl⟩:3:=uA q;simp![cq,cG,at2];calc⟨m,a,b,Y,Y,?_⟩;simp![cz] at k ⊢;cases e:oY m a b
  .rw[e] at k
   exact dR k
  .rw[e] at k
   calc⟨c,0,1000000000,Y,Y,dR k⟩
meta def pairOf:D->Int×Int
 |.tup [.int i,.int j,_]=>(i,j)
 |_=>(0,0)
theorem uC{m d}(h:cz m d=θ):∃i j p,d=.tup [.int i,.int j,.int p]/\0<=i/\i<j/\j<m/\0<=p/\p<=1000000000:=by
 unfold cz at h;split at h
 .rw[ZK] at h
  let⟨a,b⟩:01:=h;unfold oY at a;rw[ZK] at a;let⟨i,rfl,c,k⟩:12:=oZ a.1;let⟨j,rfl,l,n⟩:12:=oZ a.2;let⟨e,rfl,f,g⟩:12:=oZ b;exact(zI3 i j e ⟨Y,c,⋯,⋯,f,g⟩)
 .cases h
meta def o8(m:Int):D->Bool
 |.tup a=>μ (↑a<=30)&&(a.all (cz m)&&μ ((a.map pairOf).Nodup))
 |_=>ι
inductive AH (ys:-DV) (aW:-OV) (K:RV->-OV->Prop):Prop
 |mk (m) (d) (q:ys=[.p (.int m),.p d]) (q:aW=[]) (q:m<=12) (q:K (.p (.bl (o8 m d))) [])
def Iy:WS:=(ar (aU (ju (cb (dT (d1 (aa 1) (cn "tuple")))) (dT (d2 (dN (ag (aa 1) af) bT) (dC (.int 30)) (oI λi j=>.bl (μ (j<i)))))) (aB (dC (.bl ι))) bY) (ar (aU (cb (dT (dN (ag (gC (cN (aa 1)) [η,ζ 0] (bZ 0) fz (au 2 AG (ag (aa 1) (ag (aa 0) af)))) af) nH))) (aB (dC (.bl ι))) bY) (aB (d2 (dN (ag (gC (cN (aa 1)) [η] (bZ 0) fz (dr (aa 0) dQ (hV (dC (.int 2))))) af) wJ) (dN (ag (aa 1) af) bT) oEq))))
theorem R1:Sem 2 0 AH Iy:=by
 ext G v H-⟨m,d,rfl,rfl,I,k⟩;refine aJ λN g=>?_
 by_cases r:∃a,d=.tup a
 .let⟨a,rfl⟩:=r
  simp![cJ,show aZ "tuple" "tuple" = θ from Y]
  by_cases f:(30:Int)<↑a
  .rw[ZF (OR f)]
   let:o8 m (.tup a)=ι:=by
    show(μ (↑a<=30)&&_)=ι;rw[YC ⋯];rfl
   rw[this] at k;exact dR k
  .rw[Zx (by rw[YC f];decide)]
   subst g;let b:↑a<=30:=by symm
   calc aJ λN g=>?_;simp!;refine lu (λd=>.bl (cz m d)) ⋯ trivial ?_ ?_
   .ext d s l L n h
    simp!;exact⟨m,d,Y,Y,⟨n,h⟩⟩
   .let e:qy (a.map λd=>D.bl (cz m d))=ζ (a.map (cz m)):=by
     let:=Hs (a.map (cz m));rw[Z7] at this;exact this
    simp![e];let x:(a.map (cz m)).all id=a.all (cz m):=by rw[q7x];rfl
    rw[x];cases q:a.all (cz m)
    .let:o8 m (.tup a)=ι:=by
      show(μ (↑a<=30)&&(a.all (cz m)&&_))=ι;rw[q];simp
     rw[this] at k;exact dR k
    .subst g
     let t:=q0c.mp q;simp!;refine lu (λd=>.tup [.int (pairOf d).1,.int (pairOf d).2]) ⋯ trivial ?_ ?_
     .ext d s l L n h
      let⟨i,j,p,rfl,_⟩:31:=uC (t d s)
      let y:cutD [D.int i,D.int j,D.int p] η (ζ 2)=[D.int i,D.int j]:=by
       rfl
      simp![y];exact⟨n,h⟩
     .let A:oV (a.map λd=>D.tup [.int (pairOf d).1,.int (pairOf d).2])=ζ (a.map pairOf):=by
       let:=Ig (a.map pairOf);rw[Z7] at this;exact this
      let B:o8 m (.tup a)=μ ((a.map pairOf).Nodup):=by
       show(μ (↑a<=30)&&(a.all (cz m)&&_))=_;rw[q,OR b];rfl
      rw[B] at k;simp![wJ,A,aE];refine⟨⟨b,λp C=>?_⟩,dR ?_⟩
      .let⟨w,o,rfl⟩:11:=ZI.mp C
       let⟨i,j,p,rfl,E,F,J,_⟩:34:=uC (t w o);exact⟨E,F,by show j<12;symm⟩
      .let:((↑(g5 (a.map pairOf) ↑a):Int)==↑a)=μ ((a.map pairOf).Nodup):=by
        by_cases c:(a.map pairOf).Nodup
        .let u:=Ih c ↑(a.map pairOf) (tm _)
         rw[qa] at u;rw[OR c,u,ZH,qa,q35];simp
        .rw[YC c]
         calc beq_false_of_ne λz=>c (Rw ?_);rw[qa];symm
       rw[this];exact k
 .cases d with
  |tup a=>exact absurd ⟨a,Y⟩ r
  |_=>calc dR k
meta def d5:D->Bool
 |.tup [m,a]=>dE m 1 12&&(match m with
  |.int i=>o8 i a
  |_=>ι)
 |_=>ι
inductive uD (ys:-DV) (aW:-OV) (K:RV->-OV->Prop):Prop
 |mk (d) (q:ys=[.p d]) (q:aW=[]) (q:K (.p (.bl (d5 d))) [])
def Iz:WS:=(ar (aU (cb (dT (au 2 wL (ag (aa 0) (ag (dC (.int 2)) af))))) (aB (dC (.bl ι))) bY) (aB (jO (au 3 kN (ag (d2 (aa 0) (dC (.int 0)) aS) (ag (dC (.int 1)) (ag (dC (.int 12)) af)))) (au 2 AH (ag (d2 (aa 0) (dC (.int 0)) aS) (ag (d2 (aa 0) (dC (.int 1)) aS) af))))))
theorem R3:Sem 1 0 uD Iz:=by
 ext h e j-⟨d,rfl,rfl,k⟩;calc aJ λN f=>?_;simp! at ⊢;calc⟨d,2,Y,Y,?_⟩;cases q:kM d 2
 .let:d5 d=ι:=by
   unfold d5;split
   .exact absurd q (by simp[kM])
   .rfl
  rw[this] at k;exact dR k
 .subst f
  let⟨a,b,rfl⟩:2:=uB q;simp![cq,cG];calc⟨a,1,12,Y,Y,?_⟩;simp![d5] at k ⊢;cases c:dE a 1 12
  .rw[c] at k
   exact dR k
  .rw[c] at k
   let⟨i,rfl,_,g⟩:12:=oZ c;calc⟨i,b,Y,Y,g,dR k⟩
theorem dt{K d a mu}(h:K (.p d) []):gD 0 K (.p d) ⟨a,mu⟩:=⟨[],Y,Y,h⟩
def wM:GD:=wK
def IA:WS:=(aB (jO (d1 (aa 0) (cn "int")) (vZ (d1 (aa 0) (cn "bool")))))
theorem R4:Sem 1 0 wM IA:=Ir
def o9:GD:=kN
def IB:WS:=(aB (jO (au 1 wM (ag (aa 0) af)) (wo (aa 1) (aa 0) (aa 2) (oI λi j=>.bl (μ (i<=j))) (oI λi j=>.bl (μ (i<=j))))))
theorem R5:Sem 3 0 o9 IB:=Iu
theorem R6 p q:aE (cU p) (cU q)=μ (p=q):=by
 let⟨a,b⟩:=p;let⟨c,d⟩:=q;erw[cU,aE,dq,q3K]
 by_cases e:a=c<;>by_cases f:b=d<;>simp[e,f]
theorem IC:∀ps:-(Int×Int),bo (ps.map cU)<=1
 |[]=>q0d _
 |p::r=>by
  rw[ZW];let:=IC r;erw[bo,cU,dep];symm
theorem ID:∀(ps:-(Int×Int)) q,((ps.map cU).any λe=>aE e (.tup [.int q.1,.int q.2]))=μ (q∈ps)
 |[],q=>by simp
 |p::r,q=>by
  rw[ZW,q1o,ID r q,show aE (cU p) (.tup [.int q.1,.int q.2])=μ (p=q) from R6 p q]
  by_cases c:p=q
  .subst c;simp
  .let a:¬ q=p:=λz=>c z.symm
   simp[c,a]
def AI:GD:=uD
def AJ:WS:=(ar (aU (ju (cb (dT (d1 (aa 0) (cn "tuple")))) (ju (dT (d2 (dN (ag (aa 0) af) bT) (dC (.int 2)) iV)) (cb (dT (au 3 o9 (ag (d2 (aa 0) (dC (.int 0)) aS) (ag (dC (.int 1)) (ag (dC (.int 12)) af)))))))) (aB (dC (.bl ι))) bY) (ar (aU (ju (cb (dT (d1 (d2 (aa 0) (dC (.int 1)) aS) (cn "tuple")))) (dT (d2 (dN (ag (d2 (aa 0) (dC (.int 1)) aS) af) bT) (dC (.int 30)) (oI λi j=>.bl (μ (j<i)))))) (aB (dC (.bl ι))) bY) (ar (aK 1 (nu af)) (ar (eo (cN (d2 (aa 0) (dC (.int 1)) aS)) (bZ 2) (ar (aU (ju (cb (dT (d1 (aa 2) (cn "tuple")))) (ju (dT (d2 (dN (ag (aa 2) af) bT) (dC (.int 3)) iV)) (cb (dT (au 3 o9 (ag (d2 (aa 2) (dC (.int 2)) aS) (ag (dC (.int 0)) (ag (d2 (dC (.int 10)) (dC (.int 9)) (di cI λi j=>.int (i ^ j.toNat))) af)))))))) (aB (dC (.bl ι))) bY) (ar (aU (ju (cb (dT (au 3 o9 (ag (d2 (aa 2) (dC (.int 0)) aS) (ag (dC (.int 0)) (ag (d2 (d2 (aa 0) (dC (.int 0)) aS) (dC (.int 1)) (oI λi j=>.int (i-j))) af)))))) (cb (dT (au 3 o9 (ag (d2 (aa 2) (dC (.int 1)) aS) (ag (d2 (d2 (aa 2) (dC (.int 0)) aS) (dC (.int 1)) cx) (ag (d2 (d2 (aa 0) (dC (.int 0)) aS) (dC (.int 1)) (oI λi j=>.int (i-j))) af))))))) (aB (dC (.bl ι))) bY) (ar (aU (dT (d2 (dr (aa 2) dQ (hV (dC (.int 2)))) (aa 1) (jc ι))) (aB (dC (.bl ι))) bY) (f7 (kc (aa 1) (ag (dr (aa 2) dQ (hV (dC (.int 2)))) af))))))) (aB (dC (.bl θ)))))))
theorem R7:Sem 1 2 AI AJ:=by
 ext ys S T-⟨d,rfl,rfl,k⟩;unfold AJ;refine aJ λN g=>?_
 by_cases E:kM d 2=θ
 .let⟨a,b,rfl⟩:2:=uB E
  simp![cJ,show aZ "tuple" "tuple" = θ from rfl,cq,cG,aE];erw[show(((1+1:Nat):Int)==2)=θ from rfl,q1p,Zz,q1e];calc⟨a,1,12,rfl,rfl,?_⟩;simp!;erw[d5] at k;cases F:dE a 1 12
  .rw[F] at k
   erw[q2a,q1S];exact dt k
  .rw[F] at k
   let⟨i,rfl,_,hi⟩:12:=oZ F;erw[q1p,Zz,q1e,q64] at k ⊢;subst g;refine aJ λN g=>?_
   by_cases m:∃f,b=.tup f
   .let⟨f,rfl⟩:=m
    simp![cJ,show aZ "tuple" "tuple" = θ from rfl,cq,cG,aE]
    by_cases n:(30:Int)<↑f
    .rw[ZF (OR n)]
     let:o8 i (.tup f)=ι:=by
      show(μ (↑f<=30)&&_)=ι;rw[YC ⋯];rfl
     rw[this] at k;exact dt k
    .rw[Zx (by rw[YC n];decide)]
     let q:↑f<=30:=by symm
     subst g
     let U:o8 i (.tup f)=(f.all (cz i)&&μ ((f.map pairOf).Nodup)):=by
      show(μ (↑f<=30)&&_)=_;rw[OR q];rfl
     rw[U] at k;calc aJ λN g=>?_;simp!;subst g;calc aJ λN g=>?_;simp![cG];refine kK (λj G=>(∀w∈f.take j,cz i w=θ)/\((f.take j).map pairOf).Nodup/\G=⟨[ζ (.p (.tup [.int i,.tup f])),ζ (.o 0),η],[ζ (.lst (((f.take j).map pairOf).map cU))]⟩) ⟨λw l=>by simp at l,q3t,rfl⟩ ?_ ?_
     .ext j w G L A r V;let⟨B,C,rfl⟩:02:=r
      calc⟨trivial,?_⟩;let H:j<↑f:=(ri.mp A).1;let W:w∈f:=ZZ A;let I:f.take (j+1)=f.take j++[w]:=by rw[q1u,A];rfl
      let h:cz i w=ι->T (.p (.bl ι)) []:=λz=>by
       let:f.all (cz i)=ι:=List.all_eq_false.mpr ⟨w,W,by rw[z];decide⟩;rw[this] at k;exact k
      erw[bZ,q0l,q0m];refine aJ λN g=>?_
      by_cases J:kM w 3=θ
      .let⟨x,y,z,rfl⟩:3:=uA J
       simp![cJ,show aZ "tuple" "tuple" = θ from rfl,cq,cG,at2,aE];erw[show(((2+1:Nat):Int)==3)=θ from rfl,q1p,Zz,q1e];let X:(10:Int) ^ q0R 9=1000000000:=by decide
       rw[X];calc⟨⟨by decide,by decide,by decide⟩,z,0,1000000000,rfl,rfl,?_⟩;simp!;cases P:dE z 0 1000000000
       .erw[q2a,q1S]
        exact dt (h (by show(oY i x y&&dE z 0 1000000000)=ι;rw[P,q2H]))
       .erw[q1p,Zz,q1e]
        subst g;calc aJ λN g=>?_;simp![cq,cG];calc⟨x,0,i-1,rfl,rfl,?_⟩;simp!;cases K:dE x 0 (i-1)
        .erw[q2a,q1S]
         exact dt (h (by show(oY i x y&&dE z 0 1000000000)=ι;unfold oY;rw[K];rfl))
        .let⟨u,rfl,_,_⟩:12:=oZ K
         simp![cq,cG];calc⟨y,u+1,i-1,rfl,rfl,?_⟩;simp!;cases M:dE y (u+1) (i-1)
         .erw[q2a,q1S]
          exact dt (h (by show((dE (.int u) 0 (i-1)&&dE y (u+1) (i-1))&&dE z 0 1000000000)=ι;rw[M,q2H];rfl))
         .erw[q1p,Zz,q1e]
          let⟨v,rfl,_,_⟩:12:=oZ M
          let s:cz i (.tup [.int u,.int v,z])=θ:=by
           show((dE (.int u) 0 (i-1)&&dE (.int v) (u+1) (i-1))&&dE z 0 1000000000)=θ;rw[K,M,P];rfl
          subst g;let Q:cutD [D.int u,D.int v,z] η (ζ 2)=[D.int u,D.int v]:=rfl;calc aJ λN g=>?_;simp![Q];calc⟨Z0 (IC _) (by decide),?_⟩;let Y:((((f.take j).map pairOf).map cU).any λe=>aE e (.tup [.int u,.int v]))=μ ((u,v)∈(f.take j).map pairOf):=ID _ (u,v);rw[Y]
          by_cases c:(u,v)∈(f.take j).map pairOf
          .rw[OR c]
           refine dt ?_
           let nn:¬ (f.map pairOf).Nodup:=λR=>by
            let Z:f.map pairOf=(f.take j).map pairOf++(f.drop j).map pairOf:=by rw[<-ZM,List.take_append_drop]
            rw[Z] at R;calc(q06.mp R).2.2 (u,v) c (u,v) ?_ rfl;rw[q0y H];let:f[j]=.tup [.int u,.int v,z]:=(ri.mp A).2;rw[this];exact YB
           rw[YC nn,q2H] at k;exact k
          .rw[YC c]
           erw[Zz,q1e];subst g;simp![Q];let hl:↑(f.take j)<=30:=by rw[ZH];symm
           refine⟨⋯,V _ ⟨λw l=>?_,?_,?_⟩⟩
           .rw[I] at l
            rcases ZT.mp l with l|l
            .exact B w l
            .rw[ZV.mp l];exact s
           .rw[I,ZM]
            calc q06.mpr ⟨C,by simp,λa ha b m e=>c ?_⟩;let m:b=(u,v):=by simpa[pairOf] using m
            rw[<-m,<-e];exact ha
           .rw[I,ZM,ZM];rfl
      .let:cz i w=ι:=Iw (q2f _ |>.mp J)
       cases w with
       |tup O =>
        simp![cJ,show aZ "tuple" "tuple" = θ from rfl,aE];let:((↑O:Int)==3)=ι:=q2f _ |>.mp J;rw[this];exact dt (h (by assumption))
       |_=>exact dt (h (by assumption))
     .ext G t;let⟨B,C,rfl⟩:02:=t
      calc⟨trivial,?_⟩;subst g;rw[Z_ (tm _)] at B C;rw[q0c.mpr B,OR C] at k;exact dt k
   .cases b with
    |tup f=>exact absurd ⟨f,rfl⟩ m
    |_=>exact dt k
 .let:d5 d=ι:=by
   unfold d5;split
   .exact absurd (by simp[kM]) E
   .rfl
  rw[this] at k
  cases d with
  |tup O =>
   simp![cJ,show aZ "tuple" "tuple" = θ from rfl,aE];let:((↑O:Int)==2)=ι:=q2f _ |>.mp E;rw[this];exact dt k
  |_=>calc dt k
theorem AK:∀{ds d},d∈ds->dep d<=bo ds
 |a::r,d,h=>by
  erw[bo];rcases OQ.mp h with rfl|h
  .omega
  .let:=AK h;symm
theorem o_:aZ "NoneType" "bool" = ι:=rfl
theorem pa:aZ "NoneType" "int" = ι:=rfl
theorem pb:aZ "NoneType" "str" = ι:=rfl
theorem pd:aZ "NoneType" "tuple" = ι:=rfl
theorem pe:aZ "NoneType" "list" = ι:=rfl
theorem mq:aZ "bool" "bool" = θ:=rfl
theorem mr:aZ "bool" "int" = θ:=rfl
theorem mw:aZ "bool" "str" = ι:=rfl
theorem mx:aZ "bool" "tuple" = ι:=rfl
theorem my:aZ "bool" "list" = ι:=rfl
theorem mz:aZ "int" "bool" = ι:=rfl
theorem mB:aZ "int" "int" = θ:=rfl
theorem mC:aZ "int" "str" = ι:=rfl
theorem mD:aZ "int" "tuple" = ι:=rfl
theorem mE:aZ "int" "list" = ι:=rfl
theorem lz:aZ "str" "bool" = ι:=rfl
theorem lA:aZ "str" "int" = ι:=rfl
theorem lB:aZ "str" "str" = θ:=rfl
theorem lC:aZ "str" "tuple" = ι:=rfl
theorem lD:aZ "str" "list" = ι:=rfl
theorem nM:aZ "tuple" "bool" = ι:=rfl
theorem nN:aZ "tuple" "int" = ι:=rfl
theorem nO:aZ "tuple" "str" = ι:=rfl
theorem nP:aZ "tuple" "tuple" = θ:=rfl
theorem nQ:aZ "tuple" "list" = ι:=rfl
theorem nR:aZ "list" "bool" = ι:=rfl
theorem nS:aZ "list" "int" = ι:=rfl
theorem nT:aZ "list" "str" = ι:=rfl
theorem nU:aZ "list" "tuple" = ι:=rfl
theorem nW:aZ "list" "list" = θ:=rfl
theorem AL:∀{as d},d∈dZ as as->∃a,d=.tup [a,a]/\a∈as
 |[],d,h=>nomatch h
 |x::r,d,h=>by
  rcases OQ.mp h with rfl|h
  .exact⟨x,Y,YB⟩
  .let⟨a,e,m⟩:=AL h
   calc⟨a,e,Yz _ m⟩
theorem AM:∀l:-D,bo (l.map λ_=>D.bl θ)<=55
 |[]=>q0d _
 |_::r=>by
  rw[ZW];let:=AM r;erw[bo,dep];symm
end LJ
namespace L2
open PySem PySem.Spec PyProof.Rows
variable[zt:aM]
section
variable{X:Cx}{fa:WA}
end
end L2
namespace LJ
open PySem L2
variable[zt:aM]
theorem AN{i a b}(h:a<=i)(h':i<=b):dE (.int i) a b=θ:=by
 show(μ (a<=i)&&μ (i<=b))=θ;rw[OR h,OR h'];rfl
meta def bV(ns:-Int):D:=.lst (ns.map D.int)
meta def mF(fs:-Int)(i j:Nat):-Int:=fs.map λx=>if x=max (fs.getD i 0) (fs.getD j 0) then min (fs.getD i 0) (fs.getD j 0) else x
theorem IE fs i j:↑(mF fs i j)=fs.length:=by unfold mF;rw[qa]
theorem uE{ns:-Int}{i}(h:i<ns.length):eM (ns.map D.int) (i:Int)=ζ (.int (ns.getD i 0)):=by
 calc iN ?_;rw[OS,p_ h,Gh,p_ h];rfl
theorem cA{K d a mu}(h:K (.p d) []):gD 0 K (.p d) ⟨a,mu⟩:=⟨[],Y,Y,h⟩
inductive uF (ys:-DV) (aW:-OV) (K:RV->-OV->Prop):Prop
 |mk (fs:-Int) (i j:Nat) (q:ys=[.p (bV fs),.p (.int i),.p (.int j)]) (q:aW=[]) (q:i<fs.length) (q:j<fs.length) (q:fs.length<=12) (q:K (.p (bV (mF fs i j))) [])
def AO:WS:=(ar (aK 3 (dN (ag (d2 (aa 0) (aa 1) aS) (ag (d2 (aa 0) (aa 2) aS) af)) wt)) (ar (aK 4 (dN (ag (d2 (aa 0) (aa 1) aS) (ag (d2 (aa 0) (aa 2) aS) af)) uk)) (aB (gC (cN (aa 0)) [η,ζ 4,ζ 3] (bZ 0) fz (nv (dT (d2 (aa 0) (aa 2) oEq)) (aa 1) (aa 0))))))
theorem R8:Sem 3 2 uF AO:=by
 ext s l t-⟨a,i,j,rfl,rfl,m,n,o,k⟩;let c:=uE m;let f:=uE n;unfold AO bV;calc aJ λN b=>?_;simp![c,f];subst b;calc aJ λN b=>?_;simp![c,f];subst b
 refine lu (λd=>match d with
  |.int x=>.int (if x=max (a.getD i 0) (a.getD j 0) then min (a.getD i 0) (a.getD j 0) else x)
  |_=>.non) (by rw[qa];symm) trivial ?_ ?_
 .ext d p r L g h
  let⟨x,_,rfl⟩:11:=ZI.mp p;simp!;cases q:aE (.int x) (.int (max (a.getD i 0) (a.getD j 0)))
  .let:¬ x=max (a.getD i 0) (a.getD j 0):=λz=>by rw[z,e8] at q;cases q
   erw[this,q1e] at h;exact⟨g,h⟩
  .let:=ZJ q
   erw[this,q1S] at h;exact⟨g,h⟩
 .refine cA ?_
  let e:(a.map D.int).map (λd=>match d with
   |.int x=>D.int (if x=max (a.getD i 0) (a.getD j 0) then min (a.getD i 0) (a.getD j 0) else x)
   |_=>.non)=(mF a i j).map D.int:=by
   unfold mF;rw[Z7,Z7];rfl
  rw[e];calc k
meta def fO(ws:-(Int×Int×Int))(n:Int):Nat×Nat:=((ws.getD n.toNat (0,0,0)).1.toNat,(ws.getD n.toNat (0,0,0)).2.1.toNat)
meta def lE(ws:-(Int×Int×Int))(fs:-Int)(ns:-Int):-Int:=ns.foldl (λa n=>mF a (fO ws n).1 (fO ws n).2) fs
theorem IF(ws:-(Int×Int×Int)):∀ns fs,↑(lE ws fs ns)=fs.length
 |[],a=>Y
 |n::r,a=>by
  show↑(lE ws (mF a _ _) r)=_;rw[IF ws r,IE]
meta def AQ(m:Int)(ws:-(Int×Int×Int))(ns:-Int):-Int:=lE ws (cC m.toNat) ns
def Nums(ws:-(Int×Int×Int))(ns:-Int):Prop:=∀n∈ns,0<=n/\n<(↑ws:Int)
theorem nX{m}{ws:-(Int×Int×Int)}(W:fG m ws){n}(e:0<=n)(f:n<(↑ws:Int)):∃y,ws.getD n.toNat (0,0,0)=y/\y∈ws/\eM (ws.map aV) n=ζ (aV y)/\∃i j:Nat,y.1=i/\y.2.1=j/\i<m.toNat/\j<m.toNat/\i<j:=by
 let⟨k,rfl⟩:∃k:Nat,n=k:=⟨n.toNat,⋯⟩;let d:k<↑ws:=by symm
 refine⟨ws[k],?_,q0N d,iN ?_,?_⟩
 .rw[q0b,Gh,p_ d];rfl
 .rw[OS,p_ d];rfl
 .let⟨a,b,c,_,_⟩:04:=W.ends _ (q0N d)
  calc(zI2 ws[k].1.toNat ws[k].2.1.toNat ⟨⋯,⋯,⋯,⋯,⋯⟩)
inductive AR (ys:-DV) (aW:-OV) (K:RV->-OV->Prop):Prop
 |mk (m:Int) (ws:-(Int×Int×Int)) (ns:-Int) (q:fG m ws) (q:Nums ws ns) (q:((ys=[.p (aN m ws),.p (bV ns)]/\aW=[]/\K (.p (bV (AQ m ws ns))) [])\/(ys=[.p (aN m ws),.o 0]/\aW=[.lst (ns.map D.int)]/\K (.p (bV (AQ m ws ns))) [.lst (ns.map D.int)])))
def IG:WS:=(ar (aK 2 (wu (ag (d2 (aa 0) (dC (.int 0)) aS) af))) (ar (eo (cN (aa 1)) (bZ 3) (ar (aK 4 (d2 (d2 (aa 0) (dC (.int 1)) aS) (aa 3) aS)) (aK 2 (au 3 uF (ag (aa 2) (ag (d2 (aa 4) (dC (.int 0)) aS) (ag (d2 (aa 4) (dC (.int 1)) aS) af))))))) (aB (aa 2))))
theorem R9:Sem 2 3 AR IG:=by
 ext ys G K'-⟨m,a,b,W,H,h⟩;let m1:=W.m1;let I:=W.rz;let J:↑(cC m.toNat)=m.toNat:=by unfold cC;simp
 let g:∀(x:DV)(c:-(Option OV))(l:aO->Prop)(K:KS),(∀M,l ⟨M,c⟩)->(∀u,u=AQ m a b->K.nx ⟨[ζ (.p (aN m a)),ζ x,ζ (.p (bV u)),η,η],c⟩)->((∃d,x=.p d)\/∃k,x=.o k/\k<↑c) →
   kG ⟨[ζ (.p (aN m a)),ζ x,ζ (.p (bV (cC m.toNat))),η,η],c⟩ l (bZ 3) (ar (aK 4 (d2 (d2 (aa 0) (dC (.int 1)) aS) (aa 3) aS)) (aK 2 (au 3 uF (ag (aa 2) (ag (d2 (aa 4) (dC (.int 0)) aS) (ag (d2 (aa 4) (dC (.int 1)) aS) af)))))) K (b.map D.int) ⟨[ζ (.p (aN m a)),ζ x,ζ (.p (bV (cC m.toNat))),η,η],c⟩:=by
  ext x c l K z s O;refine kK (λi v=>v=⟨[ζ (.p (aN m a)),ζ x,ζ (.p (bV (lE a (cC m.toNat) (b.take i)))),η,η],c⟩) rfl ?_ ?_
  .ext j d v L A rfl P
   rw[OS] at A;let⟨n,t,rfl⟩:=YE.mp A;let⟨Q,R⟩:=H n (ZZ t);let⟨y,S,hy,T,i,k,B,C,h1,h2,_⟩:1324:=nX W Q R;calc⟨z _,?_⟩;erw[bZ,q0l,q0m];calc aJ λN f=>?_;simp![cG,aN,T];subst f;simp![cq,cG,aV];let E:↑(lE a (cC m.toNat) (b.take j))=m.toNat:=by rw[IF,J]
   refine⟨lE a (cC m.toNat) (b.take j),i,k,by rw[B,C],rfl,⋯,⋯,⋯,?_⟩
   let U:mF (lE a (cC m.toNat) (b.take j)) i k=lE a (cC m.toNat) (b.take (j+1)):=by
    let:b.take (j+1)=b.take j++[n]:=by rw[q1u,t];rfl
    rw[this];unfold lE;rw[q5H];show _=mF _ (fO a n).1 (fO a n).2
    let:fO a n=(i,k):=by
     unfold fO;rw[S,B,C,q0b,q0b]
    rw[this]
   rw[U]
   let V:(aO.trim ⟨[ζ (.p (aN m a)),ζ x,ζ (.p (bV (cC m.toNat))),η,η],c⟩ ⟨[ζ (.p (aN m a)),ζ x,ζ (.p (bV (lE a (cC m.toNat) (b.take (j+1))))),ζ (.p (.int n)),ζ (.p (aV y))],c⟩)=⟨[ζ (.p (aN m a)),ζ x,ζ (.p (bV (lE a (cC m.toNat) (b.take (j+1))))),η,η],c⟩:=by
    unfold aO.trim;rw[q3W];rcases O with⟨d,rfl⟩|⟨q,rfl,this⟩
    .rfl
    .erw[hU,zF,this,q1S]
   let:=P _ rfl;rw[<-V] at this;exact this
  .ext v rfl
   rw[qa,Z_ (tm _)];exact⟨z _,s _ rfl⟩
 let F:=um m.toNat;rcases h with⟨rfl,rfl,k⟩|⟨rfl,rfl,k⟩
 .refine aJ λN f=>?_
  simp![cq,aN];calc⟨⟨⋯,⋯⟩,?_⟩;subst f;rw[F];calc aJ λN f=>oX λX Y Z w r s=>?_;subst w r s;calc g (.p (bV b)) [] _ _ (λ_=>trivial) (λu e=>?_) (.inl ⟨_,rfl⟩);subst e f;exact cA k
 .refine aJ λN f=>?_
  simp![cq,aN];calc⟨⟨⋯,⋯⟩,?_⟩;subst f;rw[F];calc aJ λN f=>oX λX Y Z w r s=>?_;subst w r s;calc g (.o 0) [ζ (.lst (b.map D.int))] _ _ (λ_=>rfl) (λu e=>?_) (.inr ⟨0,rfl,Nat.zero_lt_one⟩);subst e f;calc⟨[.lst (b.map D.int)],rfl,rfl,k⟩
theorem IH{n:Nat}{z:Int}(h:z∈cC n):0<=z/\z<(n:Int):=by
 let⟨i,a,rfl⟩:=ZI.mp h;let:=Z9.mp a;symm
theorem II n:(cC n).Nodup:=by
 calc q1f.mpr (q2S.imp λ{a b} c e=>c (q3J e))
theorem rQ{H a o}(h:H a=η):aI H (upd H a o):=λb u e=>by rw[aQ (cW e h)];calc e
structure wN(H:Hp)(p c:O)(at_ z:Int):Prop where
 lst:H p=ζ (.lst [.ref c,.int at_,.int z])
 cells:∃ns:-Int,H c=ζ (.lst (ns.map V.int))/\ns.length<=63
 pos:0<=at_
theorem wN.ne{H p c k z}(P:wN H p c k z):c≠p:=by
 let⟨a,h,_⟩:=P.cells;ext e;subst e;rw[P.lst] at h;injection (ZX h) with IJ
 cases a with
 |nil=>cases IJ
 |cons n r=>injection IJ with h1 _;cases h1
theorem R_{ns:-Int}{k}(b:0<=k)(c:k<(ns.length:Int)):∃n,eM (ns.map V.int) k=ζ (.int n):=by
 let⟨i,rfl⟩:∃i:Nat,k=i:=⟨k.toNat,⋯⟩;let a:i<ns.length:=by symm
 calc⟨ns[i],iN ?_⟩;rw[OS,p_ a];rfl
def IK(K:vL):Sp:=λe H Q _=>∃(a:O)(d:-Int),e=[.ref a]/\bG K H a (d.map V.int)/\↑d<=63/\∀(p c:O)(b:Hp),aI H b->H p=η->wN b p c 0 0->Q (.ref p) b
def wO(K:vL):Sp:=λc H Q _=>∃(a:O)(b:-Int),c=[.ref a]/\bG K H a (b.map V.int)/\↑b<=63/\aM.ok H/\∀d,Q (.bl θ) d
theorem AS(ns:-Int) a b:en (ns.map V.int) a b=((ns.drop (HT.bK ns.length 0 a)).take (HT.bK ns.length ns.length b-HT.bK ns.length 0 a)).map V.int:=by
 unfold en;rw[qa,q45,q46]
theorem Sa{H p c a n}(d:aM.ok H)(N:wN H p c 0 0):∃(F:Hp)(ns:-Int),ns.length<=63/\SR F [p] ⟨η::ζ (.o 0)::Gg n η,[ζ (.lst [.lst (ns.map D.int),.int 0,.int 0])]⟩ (ζ (.ref a)::ζ (.ref p)::Gg n η) H:=by
 let⟨r,g,v⟩:=N.cells
 let m:∀{b},((∃j,H b=ζ (.tbl j))\/∃s,H b=ζ (.lst s))->aM.cs b=η:=λ{b} h=>by
  cases q:aM.cs b with
  |none=>rfl
  |some o =>
   let⟨s,rfl⟩:=aM.ct q;let:=aM.co d _ _ q;rcases h with⟨_,h⟩|⟨_,h⟩<;>rw[this] at h<;>cases h
 refine(zI2 (upd aM.cs c (.lst (r.map V.int))) r ⟨v,⟨λb o e=>?_,λb ⟨k,t,f,u⟩=>?_,Y,λk l a t y f u _ _=>?_,λk t e=>?_,λi x e=>?_,by simp,d,⟨λb w=>by
  let⟨j,q⟩:=aM.tb d w;rw[aQ λz=>by subst z;rw[g] at q;cases q]
  calc m (q2o ⟨j,q⟩),λb o e=>by rw[aQ λz=>by subst z;rw[m (q4q ⟨_,g⟩)] at e;cases e];calc e⟩⟩⟩)
 .by_cases z:b=c
  .subst z;rw[bN] at e;cases e;exact g
  .rw[aQ z] at e;exact aM.co d _ _ e
 .cases k with
  |zero=>cases f⁻¹;rw[aQ (q02 N.ne)];exact m (q4q ⟨_,N.lst⟩)
  |succ k=>simp at f
 .cases k with
  |zero =>
   cases l with
   |zero=>rfl
   |succ l=>simp at u
  |succ k=>simp at f
 .cases k with
  |zero =>
   cases e⁻¹
   exact(zI2 p _ ⟨Y,N.lst,_,Y,.cons (zI2 c _ ⟨Y,bN,rH⟩) (.cons Y (.cons Y .nil))⟩)
  |succ k=>simp at e
 .cases i with
  |zero=>simp at e
  |succ i =>
   cases i with
   |zero =>
    cases e⁻¹
    exact⟨_,Y,p,Y,Y⟩
   |succ i =>
    let e:=by simpa using e
    rw[q1N] at e;split at e<;>cases e
theorem Sb{B F c b d H Q}(S:SR F c b d H)(h:B ⟨λ_=>False,λx _=>x=.p (.bl θ),λ_=>False,λ_=>False⟩ b)(q:∀H',Q (.bl θ) H'):dc B {nx:=λ_ H'=>Q .non H',rt:=Q} d H :=
 ⟨F,c,b,_,S,h,⟨λa h=>h.elim,λa h=>h.elim,λa h=>h.elim,λx a h v i f g e j k V=>by
  subst h V
  calc q e,trivial⟩⟩
end LJ
namespace L2
open PySem PySem.Spec PyProof.Rows
def AU(c:-(O×Array ν))(H:Hp):Prop:=∀b,(∃d,c.lookup b=ζ d/\H b=ζ (.tbl d))\/(c.lookup b=η/\(H b=η\/(∃o a,H b=ζ (.frz o (.lst a)))\/∃a,H b=ζ (.tup a)))
meta def d6(a H:Hp):Hp:=λb=>match a b with
 |none=>H b
 |some _=>η
theorem AV{a H b u}(h:d6 a H b=ζ u):a b=η/\H b=ζ u:=by
 unfold d6 at h
 cases q:a b with
 |none=>rw[q] at h;exact⟨Y,h⟩
 |some o=>rw[q] at h;cases h
meta def kP(a H:Hp):Hp:=λb=>match a b with
 |none=>H b
 |some o=>ζ o
theorem pf{a H b}(h:a b=η):kP a H b=H b:=by unfold kP;rw[h]
theorem wQ{a H b o}(h:a b=ζ o):kP a H b=ζ o:=by unfold kP;rw[h]
structure Cs(P:ψ)(w:ω)(cs:Hp)(h:Α):Prop where
 ct:∀{b:O}{o:HO},cs b=ζ o->∃xs,o=.tup xs
 ok:∀{b:O}{xs:-V},cs b=ζ (.tup xs)->↑xs<=sizeLine/\∃qb:-ν,Vals xs qb/\IsTup h b qb.toArray
theorem Cs.no{P w a h}(C:Cs P w a h){b u}(e:h.get? b=ζ u)(n:u.cls≠.type "tuple"):a b=η:=by
 cases q:a b with
 |none=>rfl
 |some o =>
  let⟨g,rfl⟩:=C.ct q;let⟨_,d,_,f⟩:=C.ok q;let⟨o,c,r⟩:=f;rw[e] at c;cases c;calc absurd r.1 n
theorem Sd{P:ψ}{w:ω}{K:vL}{L mb:π->Option ν}{CX:j2}{k:Nat}{fa a:ξ}{fd:FuncData}{x:π}{sp:Sp}{c:ο}{vs:-ν}{ns:-Int}(p:-(ξ×Array ν)){j:Hp}(Z:Cs P w j c.heap)
  (G:∀b ps,p.lookup b=ζ ps->c.heap.get? b=ζ {cls:=.none,data:=.fields ps}/\isCodeTable c.heap b/\K.lookup b=η)
  (KX:K.In c.heap) (T:c.heap.Ns mainGlobals L) (y:c.heap.Ns builtinsNs mb) (Se:∀x:π,x≠"__name__" -> mb x=bootBuiltins x) (AW:c.heap.NoLimit) (hg:c.gens = #[])
  (U:c.heap.get? a=ζ {cls:=.type "list",data:=.seq vs.toArray}) (hi:IntsAre vs ns) (hl:ns.length<=sizeLine) (hr:aX k callerA)
  (hB:∃E ob,L "__builtins__" = ζ (.ref E)/\E≠builtinsNs/\c.heap.get? E=ζ ob/\ob.cls=.type "module" /\ ob.dict=ζ builtinsNs/\ob.data=.plain)
  (F:∀A:Α,K.In A->A.Ns mainGlobals L->(∀b ps,p.lookup b=ζ ps->A.BuiltinsAt L b)->bH P w K L A CX k fa fd [x] sp) (X:∀(s:ο)(u:ν),BindsTo s fd ⟨[u],[]⟩ [(x,u)])
  (AX:∀H:Hp,AU p H->aI j H->bG K H a (ns.map V.int)->sp [.ref a] H (λv _=>v=.bl θ) λ_ _ _=>False)
  (Sf:∀H e s',CX [] H c (λ_ _ _=>False) e s'->False) :
  codeAny (ς P w) callerA (.call (.ref fa) ⟨[.ref a],[]⟩) (λr s'=>r=.ok (.ret (.bool θ))/\OldK c.heap s'.heap/\s'.os=c.os/\AllBare s'.gens) c:=by
 let rv:=Gd hi;let AY:=↑hi
 let aT:p.lookup a=η:=by
  cases q:p.lookup a with
  |none=>rfl
  |some i =>
   let:=(G a i q).1;rw[U] at this;let z:=congrArg Obj.cls (ZX this);cases(show q2W "list" = q0P from z)
 let aC:j a=η:=Z.no U (show q2W "list" ≠ q2W "tuple" by decide)
 let tC:∀{b i},p.lookup b=ζ i->j b=η:=λ{b i} t=>Z.no (G b i t).1 nofun
 let N:∀H:Hp,AU p H->aI j H->bG K H a (ns.map V.int)->dk P w H c.heap->(∀b,p.lookup b=η->j b=η->H b≠η->b=a)->(H a≠η->K.lookup a=η) →
   codeAny (ς P w) callerA (.call (.ref fa) ⟨[.ref a],[]⟩) (λr M=>r=.ok (.ret (.bool θ))/\OldK c.heap M.heap/\M.os=c.os/\AllBare M.gens) c:=by
  ext H hO IL hS bc Sg hK
  let hA:∀b,p.lookup b=η->d6 j H b≠η->b=a:=λb t n=>by
   cases q:d6 j H b with
   |none=>exact absurd q n
   |some u=>exact Sg b t (AV q).1 (by rw[(AV q).2];simp)
  let l:∀{b:ξ}{o:Obj},c.heap.get? b=ζ o->d6 j H b=η->(gx c.heap (d6 j H)).get? b=ζ o:=λe n=>MW e n
  let Sh:∀{b:ξ}{o:Obj}{es:Array DictEntry}{ep:Nat},c.heap.get? b=ζ o->o.data=.dict es ep->d6 j H b=η:=λ{b o es ep} e d=>by
   cases q:d6 j H b with
   |none=>rfl
   |some u =>
    cases t:p.lookup b with
    |some i =>
     let:=(G b i t).1;rw[e] at this;cases this;cases d
    |none =>
     let e':b=a:=hA b t (by rw[q];simp);subst e';rw[U] at e;cases e;let d':Data.seq vs.toArray _=Data.dict es ep:=d;cases d'
  let I:∀{b:ξ}{m:π->Option ν},c.heap.Ns b m->(gx c.heap (d6 j H)).Ns b m:=λ{b m} ⟨o,es,ep,e,d,r⟩=>(zI3 o es ep ⟨l e (Sh e d),d,r⟩)
  let IM:K.In (gx c.heap (d6 j H)):=λb o e=>l (KX b o e) (by
   cases q:d6 j H b with
   |none=>rfl
   |some u =>
    cases t:p.lookup b with
    |some i=>rw[(G b i t).2.2] at e;cases e
    |none =>
     let e':b=a:=hA b t (by rw[q];simp);subst e'
     rw[hK (by rw[(AV q).2];simp)] at e;cases e)
  let Si:∀b i,p.lookup b=ζ i->(gx c.heap (d6 j H)).BuiltinsAt L b:=λb i t=>by
   let⟨E,ob,b1,b2,O,b4,b5,b6⟩:25:=hB;refine(zI2 E ob ⟨b1,b2,λz=>?_,λz=>?_,l O ?_,b4,b5,b6⟩)
   .let⟨o,es,ep,Y,B,_⟩:32:=T
    rw[z,Y] at O;cases O;rw[B] at b6;cases b6
   .let:=(G b i t).1
    rw[z,this] at O;cases O;cases b6
   .cases q:d6 j H E with
    |none=>rfl
    |some u =>
     cases t':p.lookup E with
     |some jg =>
      let:=(G E jg t').1;rw[O] at this;cases this;cases b6
     |none =>
      let e':E=a:=hA E t' (by rw[q];simp);rw[e',U] at O;cases O;cases b6
  let hM:Mod K L (gx c.heap (d6 j H)):=⟨IM,I T,⟨mb,I y,Se⟩,let⟨mc,h1,h2⟩:=AW;⟨mc,I h1,h2⟩⟩
  let e0:jl P w K L (gx c.heap (d6 j H)) callerA [] c H:=⟨rfl,hM,λb o e=>⟨(EZ e).1,by
   let z:=(EZ e).2;unfold d6 at z
   cases q:j b with
   |none=>rw[q] at z;exact .inl z
   |some u =>
    let⟨C,rfl⟩:=Z.ct q
    calc .inr ⟨C,IL b _ q⟩⟩,q30 (MV _ _),trivial,λb y=>absurd (show b∈([]:-ξ) from y) (by simp),bc,.of_eq hg⟩
  refine q2d ((F _ IM (I T) Si).run callerA [] c H ⟨[.ref a],[]⟩ [.ref a] [.ref a] _ _ hr e0 (X c (.ref a)) (.cons rfl .nil) (AX H hO IL hS)) λr M h=>?_
  cases r with
  |error e=>exact(Sf H e M h).elim
  |ok fl =>
   cases fl with
   |next=>exact ZQ h
   |brk=>exact ZQ h
   |cont=>exact ZQ h
   |ret u =>
    let⟨v,H',os,bare,un,Q,r',q⟩:25:=h;let q':v=.bl θ:=q;subst q';obtain rfl:u=q2V θ:=r'
    let all:∀b o,c.heap.get? b=ζ o->asItWas c.heap M.heap b o/\∃o',M.heap.get? b=ζ o':=λb o e=>by
     rcases hO b with⟨i,t,z⟩|⟨t,z|⟨ob,C,z⟩|⟨C,z⟩⟩
     .let⟨S,z2⟩:=un.fc b i z
      let B:M.heap.get? b=ζ {cls:=.none,data:=.fields (i++S)}:=Q b _ z2;let Y:=(G b i t).1;rw[e] at Y;cases Y;exact⟨.inr (.inl ⟨(G b i t).2.1,rfl,i,S,rfl,B⟩),_,B⟩
     .let B:=un.keep b o e z (by ext z;calc absurd (show b∈([]:-ξ) from z) (by simp)) (by simp)
      exact⟨.inl B,_,B⟩
     .let z2:=un.eE b ob _ z
      let⟨Y,_⟩:=bc b _ z;let⟨B,_⟩:=Q b _ z2;rw[e] at Y;cases Y;exact⟨.inl B,_,B⟩
     .let B:=un.eF b C o z e (by simp)
      exact⟨.inl B,_,B⟩
    exact⟨rfl,⟨λb o e=>(all b o e).1,λb o e=>(all b o e).2⟩,os,bare⟩
 let D:∀H b i,p.lookup b=ζ i->bg P w H c.heap b (.tbl i):=λH b i t=>(G b i t).1
 let J:∀{b R},(∀o,j b=ζ o->R)->(j b=η->R)->R:=λ{b R} f g=>by
  cases q:j b with
  |none=>exact g q
  |some o=>exact f o q
 let IP:∀{H b o u},j b=ζ o->kP j H b=ζ u->bg P w (kP j H) c.heap b u:=λ{H b o u} q z=>by
  rw[wQ q] at z;cases z;let⟨C,rfl⟩:=Z.ct q;exact Z.ok q
 let cO:∀{H b o},j b=ζ o->(∃i,p.lookup b=ζ i/\kP j H b=ζ (.tbl i))\/(p.lookup b=η/\(kP j H b=η\/(∃o C,kP j H b=ζ (.frz o (.lst C)))\/∃C,kP j H b=ζ (.tup C))):=λ{H b o} q=>by
  let⟨C,rfl⟩:1:=Z.ct q;refine .inr ⟨?_,.inr (.inr ⟨C,wQ q⟩)⟩
  cases t:p.lookup b with
  |none=>rfl
  |some i=>rw[tC t] at q;cases q
 cases hk:K.lookup a with
 |some o =>
  let e:=KX a o hk;rw[U] at e;cases e
  refine N (kP j λb=>(p.lookup b).map HO.tbl) (λb=>J (λo q=>cO q) λq=>?_) (λb o q=>wQ q) (.inr (zI3 _ vs.toArray _ ⟨hk,rfl,rfl,rfl,by rw[Gf,AY];calc hl,by simpa using rv⟩)) (λb u z=>J (λo q=>IP q z) λq=>?_) (λb t q z=>?_) λz=>?_
  .rw[pf q]
   cases t:p.lookup b with
   |some i=>exact .inl ⟨i,rfl,rfl⟩
   |none=>exact .inr ⟨rfl,.inl rfl⟩
  .rw[pf q] at z
   let⟨i,t,rfl⟩:=YE.mp (z);exact D _ b i t
  .rw[pf q] at z
   exact absurd (by rw[t];rfl) z
  .rw[pf aC] at z
   exact absurd (by rw[aT];rfl) z
 |none =>
  refine N (kP j λb=>if b=a then ζ (.frz {cls:=.type "list",data:=.seq vs.toArray} (.lst (ns.map V.int))) else(p.lookup b).map HO.tbl) (λb=>J (λo q=>cO q) λq=>?_) (λb o q=>wQ q) (.inl (.inr ⟨{cls:=.type "list",data:=.seq vs.toArray},(pf aC).trans (ZF rfl)⟩)) (λb u z=>J (λo q=>IP q z) λq=>?_) (λb t q z=>?_) λ_=>hk
  .rw[pf q]
   by_cases y:b=a
   .subst y
    exact .inr ⟨aT,.inr (.inl ⟨_,_,ZF rfl⟩)⟩
   .cases t:p.lookup b with
    |some i=>exact .inl ⟨i,rfl,Zx y⟩
    |none=>exact .inr ⟨rfl,.inl (Zx y)⟩
  .rw[pf q] at z
   by_cases y:b=a
   .cases ((ZF y).symm.trans z)
    subst y;exact⟨U,by rw[qa];calc hl,vs,_,rv,U⟩
   .let⟨i,t,rfl⟩:=YE.mp ((Zx y).symm.trans z)
    exact D _ b i t
  .rw[pf q] at z
   by_cases y:b=a
   .exact y
   .calc absurd ((Zx y).trans (by rw[t];rfl)) z
theorem Sj{l:q6h}{n k:Nat}{q:ψ}{i:-π}{O:(π->Option ν)->Α->Prop}{y:ω->Α->Prop}{d:DefRec}{K:ω->vL}{CX:ω->j2}{sp:ω->Sp}{x:π}{z:ω->-(ξ×Array ν)}{L:ω->Hp}
  (hn:l.most=ζ n) (P:n<=sizeLine) (B:d.params.defaults=[]) (Q:aX k callerA)
  (R:∀(w:ω)(h:Α),y w h->(K w).In h)
  (S:∀(w:ω)(h:Α),y w h->∀b ps,(z w).lookup b=ζ ps->h.get? b=ζ {cls:=.none,data:=.fields ps}/\isCodeTable h b/\(K w).lookup b=η)
  (U:∀(w:ω)(h:Α),y w h->Cs l.prog w (L w) h)
  (F:∀(w:ω)(j:π->Option ν)(A:ξ)(h:Α),(K w).In h->h.Ns mainGlobals j->j d.name=ζ (.ref A) →
   ∃C:FuncData,(∀(s:ο)(u:ν),BindsTo s C ⟨[u],[]⟩ [(x,u)]) ∧
    ∀c:Α,(K w).In c->c.Ns mainGlobals j->(∀b ps,(z w).lookup b=ζ ps->c.BuiltinsAt j b)->bH l.prog w (K w) j c (CX w) k A C [x] (sp w))
  (D:∀(w:ω)(H:Hp)(a:ξ)(ns:-Int),ns.length<=n->AU (z w) H->aI (L w) H->bG (K w) H a (ns.map V.int)->sp w [.ref a] H (λv _=>v=.bl θ) λ_ _ _=>False)
  (E:∀(w:ω)(H:Hp)(s:ο)(e:ν)(s':ο),CX w [] H s (λ_ _ _=>False) e s'->False) :
  PySem.W.WalkO q i O y l.row.toRowW d [] (λf vs=>q5d f vs):=by
 calc Att.iP hn B λw M p j mb A o pm cd doc a vs X G Y ho hd YV I r m t hg=>?_;let N:=R w _ Y;let⟨C,hb,hF⟩:=F w j A _ N G.T.g I;calc Sd (z w) (U w _ Y) (S w _ Y) N G.T.g G.T.b G.T.builtins G.T.nolimit hg r m ⋯ Q G.T.bmain hF hb (λH hO J hS=>D w H a X t hO J hS) λH e Z=>E w H p e Z
section
variable{X:Cx}{pins:aF}{σ:St}{H:Hp}{s:ο}{h':Α}
theorem Inv.grow{T c f:O}{ps more oc of t'}(I:Inv X pins σ H s)(g:H T=ζ (.tbl ps))(k:∀b u,b≠T->s.heap.get? b=ζ u->h'.get? b=ζ u)(i:h'.get? T=ζ {cls:=.none,data:=.fields (ps++more)})
  (C:⇑s<=c) (D:⇑s<=f) (E:c≠f) (j:∀H2,bg X.prog X.w H2 h' c oc) (l:∀H2,bg X.prog X.w H2 h' f of) :
  Inv X pins σ (upd (upd (upd H T (.tbl (ps++more))) c oc) f of) {s with heap:=h',toks:=t'}:=by
 let r:=(I.bc T _ g).lt
 let h:∀b,b<⇑s->b≠T->upd (upd (upd H T (.tbl (ps++more))) c oc) f of b=H b:=λb K F=>by
  rw[aQ (Zy ⋯),aQ (Zy ⋯),aQ F]
 let m:upd (upd (upd H T (.tbl (ps++more))) c oc) f of T=ζ (.tbl (ps++more)):=by
  rw[aQ (q02 (q1d (ZA r D))),aQ (q02 (q1d (ZA r C))),bN]
 let t:=λb u e=>(I.bc b u e).lt
 let a:∀b u,H b=ζ u->(∀G,u≠.tbl G)->upd (upd (upd H T (.tbl (ps++more))) c oc) f of b=ζ u:=λb u e n=>by
  rw[h b (t b u e) (λz=>by subst z;rw[g] at e;cases e;calc n _ Y)];exact e
 refine I.un  ⟨λb o e n _ _=>k b o (λz=>by subst z;rw[g] at n;cases n) e,λb o e n _ _=>⟨o.slots,k b o (λz=>by subst z;rw[g] at n;cases n) e⟩,λb o e n _=>?_,λb o e _=>?_,λb x e=>a b _ e (λ_ z=>by cases z),λb o u e=>a b _ e (λ_ z=>by cases z),λb qs e=>?_,λb x o q e _=>k b o (λz=>by subst z;rw[g] at q;cases q) e⟩ λb u e=>?_
 .rw[h b (OP e) (λz=>by subst z;rw[g] at n;cases n)];exact n
 .by_cases z:b=T
  .subst z;exact⟨_,i⟩
  .exact⟨o,k b o z e⟩
 .by_cases z:b=T
  .subst z;rw[g] at e;cases e;exact⟨more,m⟩
  .exact⟨#[],by rw[h b (t b _ e) z,e];simp⟩
 .by_cases A:b=f
  .subst A;rw[bN] at e;cases e;exact l _
  .rw[aQ A] at e
   by_cases B:b=c
   .subst B;rw[bN] at e;cases e;exact j _
   .rw[aQ B] at e
    by_cases p:b=T
    .subst p;rw[bN] at e;cases e;exact i
    .rw[aQ p] at e
     refine bg.ee (I.bc b u e) (λd v J q=>?_) (λd q=>a d _ q (λ_ z=>by cases z)) (λd x q=>a d _ q (λ_ z=>by cases z))
     .refine k d v (λy=>?_) q
      subst y;rcases J with y|y
      .exact p y.symm
      .rw[g] at y;cases y
meta def nY(c:O)(q:Z):HO:=.ext λh=>∃o a b,h.get? c=ζ o/\o.data=.fields a/\a[1]?=ζ (.str q b)
theorem Sk{P w H h c q}(e:h.CodeRec (.ref c) q):bg P w H h c (nY c q):=by
 let⟨c',o,b,d,z,f,g,i⟩:43:=e;cases z
 calc⟨(zI3 o b d ⟨f,g,i⟩),⟨o,f⟩,λn p a k=>by let⟨o,b,d,j,l,m⟩:32:=a;calc(zI3 o b d ⟨k o j,l,m⟩)⟩
theorem Sl{P w H h c q}(x:bg P w H h c (nY c q)):h.CodeRec (.ref c) q:=by
 let⟨⟨o,a,b,d,e,f⟩,_⟩:01:=x;calc(zI4 c o a b ⟨Y,d,e,f⟩)
end
end L2
namespace L2
open PySem PySem.Spec PyProof.Rows PySem.W
section
section
variable{X:Cx}{pins:aF}{σ:St}{H:Hp}{s:ο}{params:Arguments}{body:υ}{scope:Γ}{pos:Δ}{nZ:-(Z×O)}{cc T:O}{ps:Array ν}{E:br}{Q:br}
meta def lF(f:O)(name b:Z)(a:Arguments)(c:υ)(scope:Γ)(d:-(Z×O))(g i:ν):HO:=.ext λh=>∃e,h.get? f=ζ {cls:=.type "function",data:=.func (kla_fn name b a c scope d g i e)}
def eQ(H:Hp)(T:O)(pos:Δ)(a:Z):Prop:=∃b,H T=ζ (.tbl b)/\TriplesOk b.toList/\(codeAmong pos b.toList=η\/∃c,codeAmong pos b.toList=ζ (.ref c)/\H c=ζ (nY c a))
theorem Sm(I:Inv X pins σ H s)(V:eQ H T pos (X.env.qual++"<lambda>"))(q:defaultsOf params X.env=([],[]))(r:closureFor scope X.env=pure nZ)(g:X.env.code=.ref cc)(C:CodeHd s.heap cc T)(K:mainGlobals≠T)(P:s.heap.Ns mainGlobals X.mg)(R:s.heap.BuiltinsAt X.mg T)
  (h:∀f H' s' c,Inv X pins σ H' s'->eQ H' T pos (X.env.qual++"<lambda>")->(∀b o,H b=ζ o->b≠T->H' b=ζ o)->H f=η->H' f=ζ (lF f "<lambda>" (X.env.qual++"<lambda>") params body scope nZ ((X.mg "__name__").getD .none) (.ref c))->H' c=ζ (nY c (X.env.qual++"<lambda>"))->Q (.ref f) s') :
  ρ (ς X.prog X.w) X.A (eval (.Lambda params body scope pos) X.env) Q E s:=by
 let⟨p,G,t,J⟩:12:=V;let l:=I.bc T _ G;calc kla_eval q ?_;rcases J with x|⟨c,J,i⟩
 .refine kla_makeFunction r I.ok.glob P g C l t x K R λa m j W Y n L y M=>?_
  let d:⇑s<=j.objs.size:=q0Z ⋯;let S:=OP l;let z:=Zy L;let B:(p ++ #[rawInt pos.line,rawInt pos.col,Z4 a]).toList=p.toList++[rawInt pos.line,rawInt pos.col,Z4 a]:=by simp
  let N:upd (upd (upd H T (.tbl (p ++ #[rawInt pos.line,rawInt pos.col,.ref a]))) a (nY a (X.env.qual++"<lambda>"))) j.objs.size (lF j.objs.size "<lambda>" (X.env.qual++"<lambda>") params body scope nZ ((X.mg "__name__").getD .none) (.ref a)) T=ζ (.tbl (p ++ #[rawInt pos.line,rawInt pos.col,.ref a])):=by
   rw[aQ (Zy (ZA S d)),aQ (Zy (ZA S n)),bN]
  let D:upd (upd (upd H T (.tbl (p ++ #[rawInt pos.line,rawInt pos.col,.ref a]))) a (nY a (X.env.qual++"<lambda>"))) j.objs.size (lF j.objs.size "<lambda>" (X.env.qual++"<lambda>") params body scope nZ ((X.mg "__name__").getD .none) (.ref a)) a=ζ (nY a (X.env.qual++"<lambda>")):=by
   rw[aQ z,bN]
  refine h j.objs.size _ _ a (I.grow    G (λb u O e=>qc _ (Y b u O e)) (qc _ M) n d z (λ_=>Sk (y.push _)) λ_=>?_) ⟨_,N,?_,.inr ⟨a,?_,D⟩⟩ (λb o e O=>?_) (I.bc.fresh d) bN D
  .exact⟨⟨m,YA _ rfl⟩,⟨_,YA _ rfl⟩,λZ h2 ⟨v,e⟩ k↦⟨v,k _ e⟩⟩
  .rw[B];exact TriplesOk_snoc _ _ _ _ t
  .rw[B];exact codeAmong_snoc _ t x
  .let U:=(I.bc b o e).lt
   rw[aQ (Zy (ZA U d)),aQ (Zy (ZA U n)),aQ O];exact e
 .refine kla_makeFunctionHit r I.ok.glob P g C l t J R λm j W hk d=>?_
  let F:=I.bc.fresh d;refine h j.objs.size _ _ c (I.laid    (λb u e=>qc _ (hk b u e)) d ?_) ⟨p,?_,t,.inr ⟨c,J,?_⟩⟩ (λb o e _=>?_) F bN ?_
  .exact⟨⟨m,YA _ rfl⟩,⟨_,YA _ rfl⟩,λZ h2 ⟨v,e⟩ k↦⟨v,k _ e⟩⟩
  .rw[aQ (cW G F)];exact G
  .rw[aQ (cW i F)];exact i
  .rw[aQ (cW e F)];exact e
  .rw[aQ (cW i F)];calc i
end
structure LD where
 A:Β
 cl:-(Z×O)
 f:O
 cd:ν
 s:ο
 H:Hp
@[reducible] noncomputable def n6 (X:Cx) (a:Z) (scope:Γ) (Nb:-Z) (d:LD):Cx where
 prog:=X.prog
 w:=X.w
 K:=X.K
 mg:=X.mg
 base:=X.base
 A:=d.A.deeper (envX a scope ⇑d.s d.f d.cd d.cl)
 N:=Nb
 s₀:=d.s
 H₀:=d.H
 env:=envX a scope ⇑d.s d.f d.cd d.cl
 outer:=X.stack
 stack:=envX a scope ⇑d.s d.f d.cd d.cl::X.stack
 ex:=[]
 fn:=λ_=>ι
 calm:=true
 pn:=[]
 xe:=λ_ _=>False
meta def wR(N:-Z)(a scope:Γ)(x:Z)(Nb:-Z)(cp:-(Option Nat)):Bool :=
 k6 N a scope (x::Nb) (η::cp)&&(scope.names.all λy=>μ (y.2≠.cell))&&μ (scope.names.lookup x=ζ .local)&&cp.all (·.isSome)
section
variable{X:Cx}{pins:aF}{σ:St}{H:Hp}{s:ο}{params:Arguments}{body:υ}{scope:Γ}{cl:-(Z×O)}{E:br}{Q:VK}{name qual x:Z}{f c:O}{pm:ν}{A:Β}{v:V}{u:ν}{Nb:-Z}{cp:-(Option Nat)}{t:TE}
theorem Sn(I:Inv X pins σ H s)(hf:H f=ζ (lF f name qual params body scope cl pm (.ref c)))(hc:H c=ζ (nY c qual))(hA:A.frames=ζ X.stack)(hh:A.handled=η)(hd:A.depth<recursionLimit)
  (U:scope.kind=.function) (G:wR X.N X.env.scope scope x Nb cp=θ) (V:scope.isCoroutine=ι) (K:scope.isGenerator=ι)
  (l:∀y c,cl.lookup y=ζ c->X.env.cells.lookup y=ζ c) (L:∀y∈scope.names,y.2=.free->∃c,cl.lookup y.1=ζ c)
  (hb:∀(ct:ν),bindArgs (kla_fn name qual params body scope cl pm (.ref c) ct) ⟨[u],[]⟩=pure [(x,u)]) (r:RelV v u)
  (J:JE (n6 X qual scope (x::Nb) ⟨A,cl,f,.ref c,s,H⟩) body t) (h:t (ζ v::j5 cp σ) H Q):ρ (ς X.prog X.w) A (call (.ref f) [u]) (EP X pins σ Q) E s:=by
 unfold wR at G;erw[ZK,q0c,q0v] at G;let⟨⟨⟨G,M⟩,hx⟩,cps⟩:=G;let S:=vN U G;let⟨⟨ct,W⟩,_⟩:01:=I.bc f _ hf;calc q2p (kla_callFunE hd W rfl V K rfl (Sl (I.bc c _ hc)) ?_);rw[hb ct];calc y9 (wpAny_newFunctionEnv (λy g=>M y g) (λy g=>by rw[ZV.mp g];calc hx) (λO Y Z=>?_) U);let a:=λb o e=>Z.extBut b o (Zy (OP e)) (qc _ e);calc⟨I.nolimit.keeps a,?_⟩;let B:=I.mZ;let D:∀b ,b∉(n6 X qual scope (x::Nb) ⟨A,cl,f,.ref c,s,H⟩).ex:=λb z=>absurd (z) (by simp);let n:∀{y k},scope.names.lookup y=ζ k->(y,k)∈scope.names:=λe=>q0D e
 let I1:Inv (n6 X qual scope (x::Nb) ⟨A,cl,f,.ref c,s,H⟩) [] (ζ v::j5 cp σ) H {s with heap:=O,toks:=s.toks+↑[(x,u)]}:=by
  refine⟨⟨B.mod,U,rfl,rfl,tm _,λy z d F C=>I.ok.inj y z d (l y d F) (l z d C),λy g=>?_,λy d z _=>(by cases z),λ_=>hh,q4v hA,.inr ⟨rfl,rfl⟩,λb z=>absurd z (D b),B.bs,B.kB,λb _ _=>D b,λb z=>absurd z (D b),B.dX,B.kU⟩,
   rfl,B.bare,Un.kept a,⟨_,Y,λi y w F C h3=>?_⟩,λy d g=>?_,B.bc.fresh (tm _),λy d g=>I.b8 y d (l y d g),λp hp=>absurd (hp) (by simp),B.bc.kept a,?_⟩
  .let g:=g
   rcases g with g|g
   .exact absurd rfl (M _ (n g))
   .exact L _ (n g) rfl
  .cases i with
   |zero =>
    cases F⁻¹
    cases C⁻¹
    exact⟨u,r,.inl ⟨hx,by simp⟩⟩
   |succ j =>
    let F:=by simpa using F
    let C:=by simpa using C
    unfold j5 at C;rw[OS] at C;let⟨o,q1,q2⟩:=YE.mp C
    match o,q2 with
    |none,q2=>cases q2
    |some P,q2 =>
     let q2:(σ[P]?).join=ζ w:=q2;let⟨n1,n2⟩:01:=S.tu (j+1) P y q1⁻¹ F⁻¹
     let R:σ[P]?=ζ (ζ w):=by
      cases q:σ[P]? with
      |none=>rw[q] at q2;cases q2
      |some z=>rw[q] at q2;cases(q2);rfl
     let kd:=S.free _ (n n2) rfl;let⟨m,hn,hl⟩:=I.loc;let⟨u',rv,lk⟩:=hl P y w n1 R (by rcases kd with z|z;calc .inr (.inl z);calc .inr (.inr z));calc⟨u',rv,?_⟩;rcases lk with⟨z,_⟩|⟨_,d,e1,o,e2,e3⟩
     .rcases kd with k|k<;>(rw[z] at k;cases k)
     .let⟨d',e4⟩:=L _ (n n2) rfl
      let:=l _ _ e4;rw[e1] at this;cases this;exact .inr ⟨.inr n2,d,e4,o,a _ _ e2,e3⟩
  .let⟨z,o,e2,e3⟩:21:=I.cell y d (l y d g)
   exact⟨z,o,a _ _ e2,e3⟩
  .let:=S.len
   unfold j5;simpa using this
 calc kla_codeExpr (q0F (J [] _ _ H Q I1 h) (λu' s' R=>?_) λe s' R=>R.elim);let⟨w,H',T,rv,q⟩:=R;calc I.after (zI2 w H' ⟨T.os,T.bare,T.base,T.bc,rv,q⟩)
end
def lG(h:Α)(k:LK)(v:ν):Prop:=∃a o b n,v=.ref a/\h.get? a=ζ o/\o.cls=.type "tuple" /\ o.data=.seq b n/\IntsAre b.toList k
section
variable{prog:ψ}{w:ω}{A:Β}{E:br}{s:ο}{Q:Bool->ο->Prop}
theorem IQ{a:Bool}:∀{us ws:-ν}{ks ls:LK}(i:Nat),IntsAre us ks->IntsAre ws ls->a=μ (↑us<↑ws)->Q (HT.lexLt ks ls) s->KatLex prog w A θ a Q (us.zip ws) i s
 |_,_,_,_,i,.nil,.nil,b,h=>by
  subst b;exact h
 |_,_,_,_,i,.nil,.cons m u r,b,h=>by
  let:a=θ:=by rw[b];simp
  subst this;exact h
 |_,_,_,_,i,.cons n t r,.nil,b,h=>by
  let:a=ι:=by rw[b];simp
  subst this;exact h
 |_,_,_,_,i,.cons n t r,.cons m u c,b,h=>by
  refine kat_cons (q5L (kat_go (λe=>?_) λe=>?_))
  .let e:=ZJ e
   subst e;rw[HT.rf,ZF Y] at h;exact kat_yes (IQ (i+1) r c (by rw[b];simp) h)
  .rw[HT.rf,Zx (λz=>by subst z;simp at e)] at h
   refine kat_no ?_
   cases q:(θ&&i==0) with
   |true=>exact oneLt_int h
   |false=>calc kat_one _ _ (q4I h)
theorem So{k l:LK}{x y:ν}(c:lG s.heap k x)(d:lG s.heap l y)(h:Q (HT.lexLt k l) s):ρ (ς prog w) A (keyLt' (tuples' θ) x y) Q E s:=by
 let⟨a,o,p,n,rfl,e,_,f,g⟩:44:=c;let⟨b,q,r,t,rfl,i,_,j,m⟩:44:=d;calc kat_lt e f i j (IQ 0 g m (Y) h)
theorem IS{h:Α}:∀{b:-ν}{ks:-LK},(∀k∈ks,k≠[])->↑b=↑ks->(∀(i:Nat)(k:LK)(v:ν),ks[i]?=ζ k->b[i]?=ζ v->lG h k v)->∃fs,KatTups h b fs/\fs.length=↑b/\∀v∈fs,∃n t,v=q2t n t
 |[],[],_,_,_=>⟨[],.nil,Y,λv c=>nomatch c⟩
 |[],_::_,_,d,_=>by simp at d
 |_::_,[],_,d,_=>by simp at d
 |v::b,k::D,e,d,j=>by
  let⟨q,t,w,x⟩:12:=IS    (λk f=>e k (Yz _ f)) d⁻¹ λi k v s u=>j (i+1) k v s⁻¹ u⁻¹;let⟨a,o,l,n,rfl,y,z,A,p⟩:44:=j 0 k v Y Y;let f:=e k YB;generalize B:l.toList=E at p
  cases p with
  |nil=>exact absurd Y f
  |cons m g r =>
   let C:l[0]?=ζ (.int m g):=by rw[<-ZU,B];rfl
   calc⟨.int m g::q,.cons y z A C t,by rw[Ge,Ge,w],λv c=>?_⟩;rcases OQ.mp c with rfl|c
   .exact (zI2 m g Y)
   .calc x v c
theorem Sq{M:Model}{a:-ν}{ks:-LK}{Q:SortKind->ο->Prop}(g:0<↑a)(b:∀k∈ks,k≠[])(c:↑a=↑ks)(d:∀(i:Nat) (k:LK) (v:ν),ks[i]?=ζ k->a[i]?=ζ v->lG s.heap k v)(h:Q (tuples' θ) s):
  ρ M A (keyKind' a.toArray) Q E s:=by
 let⟨j,t,l,e⟩:12:=IS b c d;refine kat_kind (T:=.type "int") t ⋯ (λv f=>?_) (by decide) ?_
 .let⟨n,m,rfl⟩:2:=e v f
  exact .now
 .calc h
theorem getD_some{a:Type}{l:-a}{i:Nat}{d:a}(h:i<↑l):l[i]?=ζ (l.getD i d):=by
 rw[p_ h,Gh,p_ h];rfl
theorem Sr{a y:O}{z:Nat}{vs b:-ν}{ks:-LK}{P:q95->ο->Prop}(n:↑b=↑vs)(q:↑vs<64)(r:∀k∈ks,k≠[])(B:↑b=↑ks)(t:∀(i:Nat) (k:LK) (v:ν),ks[i]?=ζ k->b[i]?=ζ v->lG s.heap k v)
  (g:∀st (p:Array Nat),(arrOf st).map (·.2)=q0K (p.toList.map λi=>vs.getD i q0P)->failedOf st=η->eD ↑vs p->Up (λi=>ks.getD i []) p ↑vs->ρ (ς prog w) A (ksk_tail a ι z (.ref y) st) P E s) :
  ρ (ς prog w) A (ksk_end a ι vs.toArray z (.ref y) (q0K b)) P E s:=by
 unfold ksk_end
 try dsimp only
 by_cases f:vs.toArray.size<2
 .rw[ZF f,ZF f]
  try dsimp only
  rw[Gf] at f;refine g _ (Z1 ↑vs).toArray ?_ Y ⟨q6d _⟩ λi j D F=>?_
  .let u:arrOf (SortSt.mk' general' (b.toArray.zip vs.toArray) #[] 7 η)=(q0K (Z1 ↑vs)).map (kas_item (b.toArray.zip vs.toArray)):=by
    let e:=kas_range (b.toArray.zip vs.toArray);rw[show(b.toArray.zip vs.toArray).size=↑vs by simp[n]] at e;rw[e]
   exact kat_snds n u
  .let:i=j:=by symm
   subst this;exact kle_refl _
 .rw[Zx f,Zx f]
  rw[Gf] at f
  refine nh (Sq ⋯ r B t (nh (q0F (kat_run   (Q:=λc d=>d=s/\∃p:Array Nat,arrOf c=p.map (kas_item (b.toArray.zip vs.toArray))/\failedOf c=η/\eD ↑vs p/\Up (λi=>ks.getD i []) p ↑vs)
   (G:=λp d=>d=s/\eD ↑vs p/\Up (λi=>ks.getD i []) p ↑vs) n ⋯ q (λp c d o h l m=>⟨m.1,p,h,l,m.2.1,m.2.2⟩) ?_) ?_ λ_ _ x=>x)))
  .refine QZ  (I:=λd=>d=s) (λi j C d J F e H=>?_) ⋯ Y λp d o h l=>⟨l,o,h⟩
   subst e;exact So (t i _ _ (getD_some ⋯) (getD_some ⋯)) (t j _ _ (getD_some ⋯) (getD_some ⋯)) (H _ Y)
  .ext ⟨⟨⟩,c⟩ d ⟨rfl,p,o,h,l,m⟩
   try dsimp only
   calc g c p (kat_snds n o) h l m
end
theorem b3.at{X:Cx}{a:aF}{H H':Hp}{b:O}(f:b3 X a H b)(h:H' b=η):b3 X a H' b:=⟨h,f.2⟩
section
variable{X:Cx}{pins:aF}{σ:St}{H:Hp}{s:ο}{A:Β}{E:br}{a:O}{vs:-ν}{f:ν}
theorem Inv.jS{h':Α}{t':Nat}{b:O}(I:Inv X pins σ H s)(a:b3 X pins H b)(k:∀c o,c≠b->s.heap.get? c=ζ o->h'.get? c=ζ o):Inv X pins σ H {s with heap:=h',toks:=t'} :=
 I.turned k a.1 a.2.1 a.2.2.2.1 a.2.2.2.2.1 a.2.2.2.2.2
theorem Inv.n7{b:O}{o:Obj}(I:Inv X pins σ H s)(a:b3 X pins H b)(e:s.heap.get? b=ζ o)(d:∀v,o.data≠.cell v):Inv X ((b,o)::pins) σ H s :=
 I.fV λp c=>by
  rcases OQ.mp c with rfl|c
  .exact⟨e,a.1,a.2.1,a.2.2.1,d⟩
  .calc I.pin p (ZP _ c)
theorem Inv.hZ{p:O×Obj}(I:Inv X (p::pins) σ H s):Inv X pins σ H s:=I.fV λq a=>I.pin q (ZP _ (Yz _ a))
theorem b3.cons{b:O}{p:O×Obj}(f:b3 X pins H b)(n:p.1≠b):b3 X (p::pins) H b :=
 ⟨f.1,f.2.1,f.2.2.1,f.2.2.2.1,f.2.2.2.2.1,λq a=>by
  rcases ZT.mp a with z|z
  .exact f.2.2.2.2.2 q (q0h _ z)
  .rcases OQ.mp z with rfl|z
   .exact n
   .calc f.2.2.2.2.2 q (ZP _ z)⟩
theorem wU{c xs n}:∀v,(seqObj c xs n).data≠.cell v:=λv z=>by cases z
theorem Ss{P:-V->Hp->Prop}{n0:Nat}{R:q95->ο->Prop}(I:Inv X pins σ H s)(Q:b3 X pins H a)(ha:s.heap.get? a=ζ (seqObj "list" vs.toArray n0))(wV:↑vs<64)(p0:P [] H)
  (S:∀(m:aF)(v:ν)(kvs:-V)(H':Hp)(s':ο),vs[↑kvs]?=ζ v->Inv X m σ H' s'->P kvs H'->ρ (ς X.prog X.w) A (call f [v]) (EP X m σ λk tL=>P (kvs++[k]) tL) (λ_ _=>False) s')
  (fin:∀kvs H',↑kvs=↑vs->P kvs H'->∃ks:-LK,↑ks=↑vs/\(∀k∈ks,k≠[])/\(∀(i:Nat)(k:LK),ks[i]?=ζ k->∃t,kvs[i]?=ζ (.ref t)/\H' t=ζ (.tup (k.map V.int))) ∧
   ∀(p:Array Nat)(s':ο)(c:Nat),eD ↑vs p->Up (λi=>ks.getD i []) p ↑vs->Inv X pins σ H' s'->b3 X pins H' a->s'.heap.get? a=ζ (seqObj "list" (q0K (p.toList.map λi=>vs.getD i q0P)) c)->R (.done (.ret .none)) s') :
  ρ (ς X.prog X.w) A (ksk_tree a f ι) R E s:=by
 unfold ksk_tree;calc nh (listItems_at ha rfl ?_);calc nh (q3L ha rfl ?_ (by rw[Gf,q09];symm) (q0d _));let sb:=q0E s.heap a (q0G λ_=>(#[]:Array ν));let⟨y,D⟩:∃y,(s.heap.update a (q0G λ_=>(#[]:Array ν))).get? a=ζ (seqObj "list" #[] y):=⟨_,q4f ha λ_ => #[]⟩;let I1:Inv X pins σ H {s with heap:=s.heap.update a (q0G λ_=>(#[]:Array ν))}:=I.jS (t':=s.toks) Q λc o n e=>(sb.2 c n).trans e;calc nh (seqEpoch_at D rfl ?_);calc nh (q6C ?_ (by show ↑vs<=_;rw[q09];symm));calc nh (q65 ?_ (q0d _));calc q0e ?_;generalize YW:s.heap.update a (q0G λ_=>(#[]:Array ν))=L at D I1
 show ρ _ _ (ksk_rest a f ι vs.toArray y (.ref (L.push (seqObj "tuple" vs.toArray 0)).objs.size)) R E {s with heap:=(L.push (seqObj "tuple" vs.toArray 0)).push (seqObj "list" #[] 0)};let I2:Inv X pins σ H {s with heap:=(L.push (seqObj "tuple" vs.toArray 0))}:=I1.kept (h':=L.push (seqObj "tuple" vs.toArray 0)) (t':=s.toks) λb u e=>qc _ e;let F:(L.push (seqObj "tuple" vs.toArray 0)).get? a=ζ (seqObj "list" #[] y):=qc _ D;generalize L.push (seqObj "tuple" vs.toArray 0)=M at I2 F;let T:b3 X pins H M.objs.size:=I2.iL (tm _) (I2.bc.fresh (tm _));let I3:Inv X pins σ H {s with heap:=M.push (seqObj "list" #[] 0)}:=I2.kept (h':=M.push (seqObj "list" #[] 0)) (t':=s.toks) λb u e=>qc _ e
 let r:M.objs.size≠a:=q1d (OP F);let I4:=(I3.n7 T (YA _ rfl) wU).n7 (Q.cons (p:=(M.objs.size,seqObj "list" #[] 0)) r) (qc _ F) wU;generalize M.objs.size=l at I4 r T;unfold ksk_rest;refine nh (q34 ?_)
 first
  |rw[List.forIn_toArray]
  |(rfl)
  |rfl
 refine nh (ksk_fold (λi q=>∃B d h e,Inv X ((a,seqObj "list" #[] y)::(l,seqObj "list" (q0K h) e)::pins) σ B q/\P d B/\Vals d h/\↑d=i) vs 0 _ (zI4 H [] [] 0 ⟨I4,p0,.nil,rfl⟩) ?step ?done)
 case step =>
  ext j x q hx U;let⟨B,d,h,e,J,pk,W,C⟩:43:=U;rw[q0p] at C;let hj:=(ri.mp hx).1;calc nh (q22 (q0F (S _ x d B q (by rw[C];calc hx) J pk) (λu N hs=>?_) λ_ _ z=>z.elim));let⟨k,H2,Y,r2,p2⟩:=hs
  try dsimp only
  let O:=Y.pin (a,seqObj "list" #[] y) (ZP _ (.head _));let g:=Y.pin (l,seqObj "list" (q0K h) e) (ZP _ (.tail _ (.head _)));let lk:↑h=j:=by rw[<-W.length];exact C
  calc nh (q3L g.1 rfl ?_ (by rw[Gf,q09];symm) (Z0 (q30 (q4c ..)) (by rw[Gf,q09];symm)));let Z:=q0E N.heap l (q0G (·.push u));let ea:(q0K h).push u=q0K (h++[u]):=by simp
  let⟨G,K⟩:∃G,(N.heap.update l (q0G (·.push u))).get? l=ζ (seqObj "list" (q0K (h++[u])) G):=⟨_,by rw[<-ea];calc q4f g.1 (·.push u)⟩;let J3:=Y.hZ.hZ;let J4:Inv X pins σ H2 {N with heap:=N.heap.update l (q0G (·.push u))}:=J3.jS  (T.at g.2.1) λc o n e=>(Z.2 c n).trans e;exact y9 ⟨rfl,H2,d++[k],h++[u],G,(J4.n7 (T.at g.2.1) K wU).n7 ((Q.at O.2.1).cons r) ((Z.2 a r.symm).trans O.1) wU,p2,W.append (.cons r2 .nil),by rw[My,C,q0p];rfl⟩
 case done =>
  ext q lH;let⟨B,d,h,e,J,pk,W,C⟩:43:=lH;rw[q0p] at C;let O:=J.pin (a,seqObj "list" #[] y) (ZP _ (.head _));let g:=J.pin (l,seqObj "list" (q0K h) e) (ZP _ (.tail _ (.head _)));let lk:↑h=↑vs:=by rw[<-W.length];exact C
  let⟨kk,k1,k2,k3,k4⟩:13:=fin d B C pk
  try dsimp only
  refine nh (listItems_at g.1 rfl (Sr  lk wV k2 (by rw[lk,k1]) (λi k v y e2=>?_) λst p AZ hf hp up=>?_))
  .let⟨t,e3,e4⟩:=k3 i k y
   let⟨u,e5,e6⟩:=W.get e3;rw[e2] at e5;cases e5;cases e6
   let⟨qb,r',it,_⟩:12:=J.tuple (b9.of e4);let⟨o,o1,o2,n,o3⟩:121:=it;exact(zI4 t o _ n ⟨rfl,o1,o2,o3,by simpa using intsAre_of r'⟩)
  .let hz:↑(p.toList.map λi=>vs.getD i q0P)=↑vs:=by rw[qa,ZC,hp.size]
   unfold ksk_tail
   try dsimp only
   rw[AZ];calc nh (q3L g.1 rfl (nh (q4D ?_)) (by rw[Gf,q09];symm) (q0d _));let Z:=q0E q.heap l (q0G λ_ => #[]);let na:=(Z.2 a r.symm).trans O.1;calc nh (seqEpoch_at na rfl ?_);erw[Zz,q1e];calc nh (q3L na rfl ?_ (q0d _) (Z0 (q30 ⋯) (by rw[q09];symm)));rw[hf];erw[bne_self_eq_false,Zz,q1e];let J1:Inv X pins σ B {q with heap:=q.heap.update l (q0G λ_ => #[])}:=J.hZ.hZ.jS  (T.at g.2.1) λc o n e=>(Z.2 c n).trans e;let N:=q0E (q.heap.update l (q0G λ_ => #[])) a (q0G λ_=>q0K (p.toList.map λi=>vs.getD i q0P));let Y:Inv X pins σ B {q with heap:=(q.heap.update l (q0G λ_ => #[])).update a (q0G λ_=>q0K (p.toList.map λi=>vs.getD i q0P))}:=J1.jS  (Q.at O.2.1) λc o n e=>(N.2 c n).trans e
   let⟨G,K⟩:∃G,((q.heap.update l (q0G λ_ => #[])).update a (q0G λ_=>q0K (p.toList.map λi=>vs.getD i q0P))).get? a=ζ (seqObj "list" (q0K (p.toList.map λi=>vs.getD i q0P)) G):=⟨_,q4f na λ_=>q0K (p.toList.map λi=>vs.getD i q0P)⟩;calc y9 (k4 p _ G hp up Y (Q.at O.2.1) K)
end
section
variable{prog:ψ}{w:ω}{A:Β}{E:br}{s:ο}
theorem Su{Q:-ν->ο->Prop}{r:O}{a b c:Int}{t u v:Tok}{n:Nat}(z:A.handled=η)(B:IsRange s.heap r a b c t u v)(g:Builtin.Range.small a b c=θ)
  (hn:q1M a b c=n) (m:n<=2 ^ 24)
  (C:∀h' tk d,(∀b o,s.heap.get? b=ζ o->h'.get? b=ζ o)->ItemsOf (λi v=>∃t,v=.int (a+i*c) t) d n->Q d.toList {s with heap:=h',toks:=tk}):ρ (ς prog w) A (collect (.ref r)) Q E s:=by
 let x:∀R:Result->ο->Prop,(∀h p d q,(∀b o,s.heap.get? b=ζ o->h.get? b=ζ o)->h.get? ⇑s=ζ {cls:=.type "list",dict:=none,data:=.seq d q,slots := #[]}->ItemsOf (λi v=>∃t,v=.int (a+i*c) t) d n->R (.ok (.ret (.ref ⇑s))) {s with heap:=h,toks:=p})->codeAny (ς prog w) A (.builtin "proto.collect" ⟨[.ref r],[]⟩) R s:=by
  ext R D;calc q2n F.entry_proto_collect ?_;rw[q1_ F.plain_proto_collect _];show ρ _ A.in1 (newList [] >>= λl=>again (.builtin "list.__iadd__" ⟨[l,.ref r],[]⟩)) _ _ s;calc nh (q1C ?_);calc y9 ⟨q61 q5I _,q2n F.entry_list_iadd ?_⟩;rw[q1_ q5I _];show ρ _ A.in1 (Builtin.List.listExtendWith (.ref ⇑s) (.ref r) (.ref ⇑s)) _ _ _;let j:(s.heap.push {cls:=.type "list",data:=.seq ([]:-ν).toArray}).get? ⇑s=ζ {cls:=.type "list",data:=.seq #[] 0}:=YA _ Y;refine wpAny_extend_range (R:=R) (s:={s with heap:=s.heap.push {cls:=.type "list",data:=.seq ([]:-ν).toArray}}) z (qc _ B) g hn m ⇑s (.ref ⇑s) 0 j λh p d q y k f=>?_
  exact D h p d q (λb o e=>y b o (Zy (OP e)) (qc _ e)) k f
 unfold collect;calc nh (q6B (x _ λh p d q y k f=>?_));show ρ _ A (load ⇑s >>= _) _ _ _;calc nh (wpAny_load k ?_);calc y9 (C h p d y f)
end
section
variable{X:Cx}{pins:aF}{σ:St}{H:Hp}{s:ο}{E:br}
theorem Inv.uG{a:O}{o:HO}(I:Inv X pins σ H s)(j:b3 X pins H a)(k:⇑X.s₀<=a)(g:bg X.prog X.w (upd H a o) s.heap a o):Inv X pins σ (upd H a o) s:=by
 let⟨l,m,E,_,r,t⟩:05:=j;let d:∀{b u},H b=ζ u->b≠a:=λe z=>by rw[z,l] at e;cases e
 refine⟨I.ok,I.os,I.bare,⟨I.base.keep,I.base.slot,λb u e n y=>?_,I.base.there,λb h e=>?_,λb u v e=>?_,λb A e=>?_,I.base.eF⟩,I.loc,I.cell,?_,λx c e=>?_,λp i=>?_,λb u e=>?_,I.len⟩
 .rw[aQ (Zy (ZA (OP e) k))];exact I.base.free b u e n y
 .let:=I.base.dF b h e
  rw[aQ (d this)];exact this
 .let:=I.base.eE b u v e
  rw[aQ (d this)];exact this
 .let⟨f,this⟩:=I.base.fc b A e
  exact⟨f,by rw[aQ (d this)];calc this⟩
 .rw[aQ (q02 m)];exact I.free
 .rw[aQ (r x c e)];exact I.b8 x c e
 .let⟨B,C,D⟩:02:=I.pin p i
  exact⟨B,by rw[aQ (t p i)];calc C,D⟩
 .by_cases z:b=a
  .subst z;rw[bN] at e;cases e;exact g
  .rw[aQ z] at e
   refine(I.bc b u e).ee (λc v _ q=>q) (λc q=>?_) λc h q=>?_
   .rw[aQ (d q)];exact q
   .rw[aQ (d q)];calc q
theorem Sv{xs:-V}{vs:-ν}(r:Vals xs vs){p:-Nat}(a:∀i∈p,i<↑vs):Vals (p.map λi=>xs.getD i .non) (p.map λi=>vs.getD i q0P):=by
 induction p with
 |nil=>exact .nil
 |cons i q e =>
  calc .cons ?_ (e λj f=>a j (Yz _ f));let b:=a i YB;let⟨u,c,g⟩:=r.get (getD_some   (by rw[↑r];calc b));let:=getD_some  (d:=q0P) b;rw[this] at c;cases c;calc g
theorem eD.mem{n:Nat}{p:Array Nat}(h:eD n p){i:Nat}(a:i∈p.toList):i<n:=by
 let:=(q3w.mp h.perm).mem_iff.mp a;simpa using this
theorem Sw{l q:ξ}{P:-V->Hp->Prop}{xs:-V}{Q:br}(I:Inv X pins σ H s)
  (z:∀M:-ν->ο->Prop,(∀h' tk vs,(∀b o,s.heap.get? b=ζ o->h'.get? b=ζ o)->Vals xs vs->M vs {s with heap:=h',toks:=tk})->ρ (ς X.prog X.w) X.A.in1 (collect (.ref l)) M E s)
  (U:↑xs<64) (W:P [] H)
  (h:∀(d:aF)(x:V)(u:ν)(kvs:-V)(H':Hp)(s':ο),xs[↑kvs]?=ζ x->RelV x u->Inv X d σ H' s'->P kvs H'->ρ (ς X.prog X.w) X.A.in1.in1 (call (.ref q) [u]) (EP X d σ λk D=>P (kvs++[k]) D) (λ_ _=>False) s')
  (F:∀kvs H',↑kvs=↑xs->P kvs H'->∃ks:-LK,↑ks=↑xs/\(∀k∈ks,k≠[])/\(∀(i:Nat)(k:LK),ks[i]?=ζ k->∃t,kvs[i]?=ζ (.ref t)/\H' t=ζ (.tup (k.map V.int))) ∧
   ∀(p:Array Nat)(s':ο)(a:ξ),eD ↑xs p->Up (λi=>ks.getD i []) p ↑xs->H' a=η->Inv X pins σ (upd H' a (.lst (p.toList.map λi=>xs.getD i .non))) s'->Q (.ref a) s') :
  ρ (ς X.prog X.w) X.A (call (.builtin "sorted") [.ref l] [(q2e "key",.ref q)]) Q E s:=by
 calc call_function_entry_kw kind_sorted plain_sorted entry_sorted (ksk_s1 _ _) ?_;unfold Builtin.«sorted»;calc nh  (y9 (nh (z _ λg N y Z G=>?_)));let K:=G.length.symm;calc nh (q65 ?_ (by rw[q09];symm));let m:Inv X pins σ H {s with heap:=g,toks:=N}:=I.kept Z;let I2:Inv X pins σ H {s with heap:=g.push (seqObj "list" y.toArray 0),toks:=N}:=m.kept   λb u e=>qc _ e;let j:(g.push (seqObj "list" y.toArray 0)).get? g.objs.size=ζ (seqObj "list" y.toArray 0):=YA _ rfl;refine nh (q0e (wpAny_call_entry_kw slot_list_sort ⟨_,j,rfl⟩ entry_list_sort ?body (ksk_l1 _ _)))
 case body =>
  refine Ss  I2 (m.iL (tm _) (m.bc.fresh (tm _))) j ⋯ W (λd v f B C O J L=>?_) λf B hl L=>?_
  .let n:↑f<↑xs:=by rw[<-K];exact(ri.mp O).1
   let⟨u,R,e2⟩:=G.get (p_ n);rw[O] at R;cases R;exact h d _ v f B C (p_ n) e2 J L
  .let⟨Y,k1,k2,k3,k4⟩:13:=F f B ⋯ L
   calc⟨Y,⋯,k2,k3,λp C c r S J T e=>⟨_,rfl,?_⟩⟩;rw[K] at r S;calc y9 ⟨_,rfl,k4 p C g.objs.size r S T.1 (J.uG T m.sz ?_)⟩;let hz:↑(p.toList.map λi=>xs.getD i V.non)=↑xs:=by rw[qa,ZC,r.size]
   calc⟨by rw[hz,q09];symm,_,c,Sv G λi n=>by rw[K];calc r.mem n,e⟩
end
theorem aq.at{H ds vs}{i:Nat}{d v}(h:aq H ds vs)(b:ds[i]?=ζ d)(c:vs[i]?=ζ v):Is H d v:=by
 let⟨d',a,e⟩:=h.get c;rw[b] at a;cases a;calc e
theorem aq.uH{H}:∀{ds vs},↑vs=↑ds->(∀(i:Nat) d,ds[i]?=ζ d->∃v,vs[i]?=ζ v/\Is H d v)->aq H ds vs
 |[],[],_,_=>.nil
 |[],_::_,h,_=>by simp at h
 |_::_,[],h,_=>by simp at h
 |d::b,v::c,h,g=>by
  let⟨v',e,a⟩:=g 0 d Y;cases(e)
  calc .cons a (aq.uH h⁻¹ λi d e=>by simpa using g (i+1) d e⁻¹)
structure ph where
 T:O
 pos:Δ
 qual:Z
theorem eQ.same{H H' T pos q}(h:eQ H T pos q)(s:aI H H'):eQ H' T pos q:=by
 let⟨a,e,t,c⟩:12:=h;calc⟨a,s _ _ e,t,c.imp id λb=>by let⟨c,d,f⟩:11:=b;calc⟨c,d,s _ _ f⟩⟩
theorem eQ.keep{H H' T a pos q}(h:eQ H T pos q)(g:T≠a)(d:∃ps,H a=ζ (.tbl ps))(s:∀b o,H b=ζ o->b≠a->H' b=ζ o):eQ H' T pos q:=by
 let⟨i,e,t,c⟩:12:=h;calc⟨i,s _ _ e g,t,c.imp id λ⟨c,j,f⟩=>⟨c,j,s _ _ f λz=>?_⟩⟩;let⟨k,d⟩:=d;rw[z,d] at f;cases f
theorem eQ.put{H T a pos q o o'}(h:eQ H T pos q)(j:H a=ζ o)(l:(∃vs,o=.lst vs)\/(∃ws,o=.dK ws)\/(∃ws,o=.dT ws)\/∃C f ws,o=.ins C f ws):eQ (upd H a o') T pos q:=by
 let⟨m,e,t,c⟩:12:=h
 let g:∀{b u},H b=ζ u->(∀k,u≠.lst k)->(∀d,u≠.dK d)->(∀d,u≠.dT d)->(∀C f d,u≠.ins C f d)->b≠a:=λ{b u} e n p r s z=>by
  subst z;rw[j] at e;cases e;rcases l with⟨_,z⟩|⟨_,z⟩|⟨_,z⟩|⟨_,_,_,z⟩
  .exact n _ z
  .exact p _ z
  .exact r _ z
  .exact s _ _ _ z
 calc⟨m,by rw[aQ (g e (λ_ z=>by cases z) (λ_ z=>by cases z) (λ_ z=>by cases z) λ_ _ _ z=>by cases z)];calc e,t,c.imp id λ⟨c,v,i⟩=>⟨c,v,?_⟩⟩;rw[aQ (g i (λ_ z=>by cases z) (λ_ z=>by cases z) (λ_ z=>by cases z) λ_ _ _ z=>by cases z)];calc i
structure CC where
 cs:Hp
 ct:∀{a:O}{o:HO},cs a=ζ o->∃vs,o=.tup vs
@[reducible] noncomputable def kg (ls:-ph) (C:CC):aM where
 ad:=ls.map (·.T)
 ok:=λH=>(∀l∈ls,eQ H l.T l.pos l.qual)/\aI C.cs H
 same:=λh s=>⟨λl a=>(h.1 l a).same s,h.2.trans s⟩
 put:=λh c d=>⟨λl a=>(h.1 l a).put c d,λb o e=>by
  let:=h.2 b o e
  rw[aQ λz=>by
   subst z;let⟨g,rfl⟩:=C.ct e;rw[c] at this;cases this
   rcases d with⟨_,z⟩|⟨_,z⟩|⟨_,z⟩|⟨_,_,_,z⟩<;>cases z]
  calc this⟩
 tb:=λh c=>by
  let⟨l,a,rfl⟩:=ZI.mp c;let⟨f,e,_⟩:=h.1 l a;exact⟨f,e⟩
 cs:=C.cs
 ct:=C.ct
 co:=λh=>h.2
@[reducible] noncomputable def A0 (ls:-ph):aM:=kg ls ⟨λ_=>η,λh=>nomatch h⟩
variable[zt:aM]
structure A_(T:O)(pos:Δ)(q:Z):Prop where
 mem:T∈aM.ad
 get:∀H:Hp,aM.ok H->eQ H T pos q
 put:∀H H':Hp,aM.ok H->eQ H' T pos q->(∀b o,H b=ζ o->b≠T->H' b=ζ o)->aM.ok H'
omit [aM] in
theorem Sx {ls:-ph} {l:ph} (hl:l∈ls) (nd:∀a∈ls,∀b∈ls,a.T=b.T->a=b) {C:CC}:@A_ (kg ls C) l.T l.pos l.qual:=by
 letI:aM:=kg ls C;refine⟨q1n hl,λH h=>h.1 l hl,λH H' h t k=>⟨λl' rR=>?_,λb o e=>?_⟩⟩
 .by_cases z:l'.T=l.T
  .rw[nd _ rR _ hl z];exact t
  .let⟨ps,e,_⟩:=h.1 l hl
   exact(h.1 l' rR).keep z ⟨ps,e⟩ k
 .refine k b o (h.2 b o e) λz=>?_
  let⟨ps,e2,_⟩:=h.1 l hl;let⟨vs,rfl⟩:=C.ct e;rw[<-z,h.2 b _ e] at e2;cases e2
structure Sy(X:Cx)(T:O):Prop where
 code:∃cc,X.env.code=.ref cc/\CodeHd X.base cc T
 ng:mainGlobals≠T
 blt:X.base.BuiltinsAt X.mg T
section
variable{F H H':Hp}{ad:-O}{δ:aO}{σ:St}
theorem SR.uI(S:SR F ad δ σ H)(k:∀b o,H b=ζ o->b∉aM.ad->H' b=ζ o)(tk:aM.ok H'):SR (Nw F H H') ad δ σ H':=by
 let j:=Nw.same (H':=H') S.sub;let p:∀{a o},F a=ζ o->a∉aM.ad:=λ{a o} e t=>by rw[S.nt a t] at e;cases e
 let s:∀{i a d},ad[i]?=ζ a->δ.mu[i]?=ζ (ζ d)->a∉aM.ad:=λ{i a d} c f t=>by
  let⟨a',o,g,m,h⟩:22:=S.mu i d f;rw[c] at g;cases g;let⟨r,q⟩:=aM.tb S.tab t;rw[m] at q;cases q;exact h.kind _ Y
 refine⟨λa o e=>?_,λa l=>?_,S.cD,S.inj,λi d e=>?_,λi x e=>?_,S.len,tk,S.nt.up j λa n=>?_⟩
 .unfold Nw at e
  cases q:H a with
  |none=>rw[q] at e;exact e
  |some u=>rw[q] at e;exact k a o (S.sub a o e) (p e)
 .let⟨i,d,c,f⟩:21:=l
  let⟨a',o,g,m,_⟩:22:=S.mu i d f;rw[c] at g;cases g;unfold Nw;rw[m];exact S.off a (zI2 i d ⟨c,f⟩)
 .let⟨a,o,c,f,h⟩:22:=S.mu i d e
  exact(zI2 a o ⟨c,k a o f (s c e),h.same j⟩)
 .let⟨v,c,h⟩:=S.sl i x e
  exact⟨v,c,h.same j⟩
 .let⟨r,q⟩:=aM.tb S.tab n
  unfold Nw;rw[q];calc S.nt a n
theorem Ext.uI(S:SR F ad δ σ H)(k:∀b o,H b=ζ o->b∉aM.ad->H' b=ζ o)(tk:aM.ok H'):Ext F ad δ.mu H (Nw F H H') ad δ.mu H' where
 same:=Nw.same S.sub
 new:=λa o e=>by
  unfold Nw at e
  cases q:H a with
  |none=>exact .inr (.inl Y)
  |some u=>rw[q] at e;exact .inl e
 keep:=λa o e _ t=>k a o e t
 pre:=λ_ _ e=>e
 cy:=λ_ l=>.inl l
 iE:=λa o e=>by
  by_cases t:a∈aM.ad
  .let⟨c,q⟩:=aM.tb tk t
   exact⟨_,q⟩
  .calc⟨o,k a o e t⟩
theorem SR.uJ{a mu b d v}(S:SR F ad ⟨a,mu⟩ b H)(h:Is F d v):SR F ad ⟨ζ (.p d)::a,mu⟩ (ζ v::b) H:=by
 refine⟨S.sub,S.off,S.cD,S.inj,S.mu,λi x e=>?_,by let:=S.len;calc congrArg (· + 1) this,S.tab,S.nt⟩
 cases i with
 |zero=>cases(e);exact⟨v,Y,h⟩
 |succ i=>calc S.sl i x e
theorem Ext.pq{F' H' b c a o}(S:SR F ad δ σ H)(e:Ext F ad δ.mu H F' b c H')(h:H a=ζ o)(g:∀vs,o≠.lst vs)(j:∀ws,o≠.dK ws)(k:∀ps,o≠.tbl ps)(l:∀ws,o≠.dT ws)(n:∀C m ws,o≠.ins C m ws:=by ext _ _ _ z;cases z):H' a=ζ o:=by
 refine e.keep a o h (λ⟨i,p,r,s⟩=>?_) λt=>?_
 .let⟨a',u,d,f,q⟩:22:=S.mu i p s
  rw[r] at d;cases d;rw[h] at f;cases f;rcases q.kd with⟨_,z⟩|⟨_,z⟩|⟨_,z⟩|⟨_,_,_,z⟩
  .exact g _ z
  .exact j _ z
  .exact l _ z
  .exact n _ _ _ z
 .let⟨v,q⟩:=aM.tb S.tab t
  rw[h] at q;calc k _ (ZX q)
end
def Sz(cp:-(Option Nat))(e:WE)(b:aO)(ds:-D)(a:D->LK):Prop :=
 ∀d∈ds,a d≠[]/\e ⟨ζ (.p d)::fu cp b.sl,b.mu⟩ λy c=>y=.p (.tup ((a d).map D.int))/\c.mu=b.mu
def sortBy(cp:-(Option Nat))(c:WE)(d:aO)(ds:-D)(K:-D->Prop):Prop :=
 ↑ds<64/\∃b:D->LK,Sz cp c d ds b/\∀a:-D,a.Perm ds->(a.map b).Pairwise kle->K a
section
variable{X:Cx}{params:Arguments}{body:υ}{scope:Γ}{fP:Δ}{x:Z}{Nb:-Z}{cp:-(Option Nat)}{fb:WE}{T:O}
structure jT(X:Cx)(params:Arguments)(body:υ)(scope:Γ)(fP:Δ)(T:O)(x:Z)(Nb:-Z)(cp:-(Option Nat))(fb:WE):Prop where
 env:Sy X T
 tbl:A_ T fP (X.env.qual++"<lambda>")
 SA:defaultsOf params X.env=([],[])
 kind:scope.kind=.function
 names:wR X.N X.env.scope scope x Nb cp=θ
 co:scope.isCoroutine=ι
 gen:scope.isGenerator=ι
 bind:∀(cl:-(Z×O))(pm cd ct u:ν),bindArgs (kla_fn "<lambda>" (X.env.qual++"<lambda>") params body scope cl pm cd ct) ⟨[u],[]⟩=pure [(x,u)]
 room:∃k,aX (k+3) X.A/\∀d:LD,aX k (d.A.deeper (envX (X.env.qual++"<lambda>") scope ⇑d.s d.f d.cd d.cl))->JE (n6 X (X.env.qual++"<lambda>") scope (x::Nb) d) body (tD fb)
theorem SD{n:aF}{σ:St}{H:Hp}{s:ο}{E:br}{l:ξ}{F:Hp}{q:-ξ}{r:aO}{ds:-D}{xs:-V}{C pos:Δ}{Q:VK}(L:jT X params body scope fP T x Nb cp fb)
  (I:Inv X n σ H s) (S:SR F q r σ H) (hx:aq F ds xs)
  (col:∀(s:ο)(H':Hp),Inv X n σ H' s->(∀b o,H b=ζ o->b∉aM.ad->H' b=ζ o)->∀Q':-ν->ο->Prop,(∀h' tk vs,(∀b o,s.heap.get? b=ζ o->h'.get? b=ζ o)->Vals xs vs->Q' vs {s with heap:=h',toks:=tk})->ρ (ς X.prog X.w) X.A.in1 (collect (.ref l)) Q' E s)
  (hs:sortBy cp fb r ds λout=>∀a F' H' us,Ext F q r.mu H F' q r.mu H'->SR F' q r σ H'->H' a=η->aq F' out us->Q (.ref a) (upd H' a (.lst us))) :
  ρ (ς X.prog X.w) X.A (evalAll ((backToKw pos (keywordEach [⟨ζ "key",.Lambda params body scope fP,C⟩] X.env)).map (·.2))) (λkvs s₂=>ρ (ς X.prog X.w) X.A (call (.builtin "sorted") [.ref l] (((backToKw pos (keywordEach [⟨ζ "key",.Lambda params body scope fP,C⟩] X.env)).filterMap (·.1)).zip kvs)) (EP X n σ Q) E s₂) E s:=by
 let⟨wV,B,hk,K⟩:0111:=hs;let⟨k,R,J⟩:=L.room;let⟨cc,U,hC⟩:=L.env.code;show ρ _ _ (evalAll [do let v <- eval (.Lambda params body scope fP) X.env;standAt pos;pure v]) _ _ _;calc evalAll_cons (nh ?_);let W:=L.names;unfold wR at W;erw[ZK,q0c,q0v] at W;let SC:=vN L.kind W.1.1.1;let⟨cl,Ba,SE,SF⟩:12:=Gi (scope:=scope) (env:=X.env) λy hy e=>I.ok.has y.1 (SC.free y hy e);calc Sm I (L.tbl.get H S.tab) L.SA Ba U (hC.keeps I.bk) L.env.ng (I.mod.glob.keeps I.bk) (L.env.blt.keeps I.bk) λf H1 s1 c I1 t1 k1 YX hf hc=>?_;calc nh (q11 (y9 ?_));calc evalAll_nil ?_;show ρ _ _ (call (.builtin "sorted") [.ref l] [(q2e "key",.ref f)]) _ _ _
 let kT:∀b o,H b=ζ o->b∉aM.ad->H1 b=ζ o:=λb o e t=>k1 b o e λz=>t (by rw[z];calc L.tbl.mem);let IT:=L.tbl.put H H1 S.tab t1 k1;let S1:=S.uI kT IT;let E1:=Ext.uI S kT IT;let lx:=↑hx
 refine Sw (xs:=xs) (P:=λg N=>∃O,Ext F q r.mu H O q r.mu N/\SR O q r σ N/\N f=ζ (lF f "<lambda>" (X.env.qual++"<lambda>") params body scope cl ((X.mg "__name__").getD .none) (.ref c))/\N c=ζ (nY c (X.env.qual++"<lambda>"))/\∀(i:Nat)(d:D)(kv:V),ds[i]?=ζ d->g[i]?=ζ kv->Is O (.tup ((B d).map D.int)) kv)
  I1 (col s1 H1 I1 kT) ⋯ ⟨_,E1,S1,hf,hc,λi d kv _ e=>by simp at e⟩ (λlJ v u g N s' hv rv I' ⟨O,E',G,Y,Z,Bb⟩=>?_) λg N hl ⟨O,E',G,Y,Z,Bb⟩=>?_
 .let m:↑g<↑ds:=by rw[<-lx];exact(ri.mp hv).1
  let hd:=p_ m;let SG:Is O ds[↑g] v:=aq.at (hx.same E'.same) hd hv;let⟨YY,SH⟩:=hk _ (q0N m);let r2:aX (k+1) X.A.in1.in1:=(aX.in1 (aX.in1 (k:=k+2) R));calc Sn I' Y Z (by rw[show X.A.in1.in1.frames=X.A.frames from rfl];calc I'.ok.frames) r2.hd r2.depth L.kind L.names L.co L.gen SE SF (λct=>L.bind cl _ _ ct u) rv (J ⟨X.A.in1.in1,cl,f,.ref c,s',N⟩ (r2.deeper _)) ?_;calc⟨O,q,_,_,(G.tW (cp:=cp)).uJ SG,SH,?_⟩;ext y δ' ⟨ey,em⟩ w F2 Bc H2 E2 S2 V2;subst ey
  let ea:Bc=q:=by
   let l2:↑Bc=↑q:=by rw[S2.cD,em,G.cD]
   refine q1z λi=>?_
   by_cases m:i<↑q
   .rw[p_ m];exact E2.pre i _ (p_ m)
   .rw[q0n ⋯,q0n ⋯]
  subst ea;let⟨YZ,fm⟩:=δ';let em:fm=r.mu:=em;subst em;refine⟨F2,E'.trans E2,SR.back G E2 S2,E2.pq G Y (λ_ z=>by cases z) (λ_ z=>by cases z) (λ_ z=>by cases z) (λ_ z=>by cases z),E2.pq G Z (λ_ z=>by cases z) (λ_ z=>by cases z) (λ_ z=>by cases z) (λ_ z=>by cases z),λi d kv M e2=>?_⟩
  by_cases SI:i<↑g
  .rw[OO SI] at e2
   exact Is.same E2.same (Bb i d kv M e2)
  .let:i=↑g:=by
    let:=(ri.mp e2).1;rw[My,Z8] at this;symm
   subst this;rw[YD (tm _),q0O] at e2;cases(show ζ w=ζ kv from e2)
   rw[hd] at M;cases M;exact V2
 .refine⟨ds.map B,by rw[qa];symm,λk IU=>?_,λi k' e=>?_,λp s' a hp up ha I'=>?_⟩
  .let⟨d,hd,rfl⟩:=ZI.mp IU
   exact(hk d hd).1
  .rw[OS] at e
   let⟨d,hd,rfl⟩:11:=YE.mp e;let m:i<↑g:=by rw[hl,lx];exact(ri.mp hd).1
   let is:=Bb i d _ hd (p_ m);erw[Is] at is;let⟨t,us,M,e2,e3⟩:22:=is;calc⟨t,by rw[p_ m,M],?_⟩;rw[<-qv e3];exact G.sub _ _ e2
  .let pm:(p.toList.map λi=>ds.getD i .non).Perm ds:=by
    let h1:=(q3w.mp hp.perm).map λi=>ds.getD i .non
    let h2:(Z1 ↑xs).map (λi=>ds.getD i D.non)=ds:=by
     calc q1z λi=>?_;rw[OS]
     by_cases m:i<↑ds
     .rw[q0C ⋯,q4b,p_ m,Gh,p_ m];rfl
     .rw[q0n (by rw[q0u];symm),q0n ⋯];rfl
    rw[show(Z1 ↑xs).toArray.toList=Z1 ↑xs from rfl,h2] at h1;exact h1
   refine⟨.ref a,_,I',rfl,K _ pm ?_ a _ _ _ E' G ha ?_⟩
   .rw[Z7,q1w]
    ext i j m hj Io;rw[qa,ZC,hp.size] at m hj;let:=up i j (q0Z Io) hj;unfold KA at this;rw[q1c,q1c]
    let gp:∀{i:Nat}(h:i<↑p.toList),p.getD i 0=p.toList[i]:=λ{i} h=>by
     let h':i<p.size:=by rw[<-ZC];exact h
     simp[q36,h']
    let gk:∀{i:Nat},i<↑ds->(ds.map B).getD i []=B (ds.getD i .non):=λ{i} h=>by
     rw[Gh,OS,p_ h,Gh,p_ h];rfl
    let pi:=hp.lt m;let pj:=hp.lt hj;dsimp only at this;rw[gk ⋯,gk ⋯,gp (by rw[ZC,hp.size];calc m),gp (by rw[ZC,hp.size];calc hj)] at this;exact this
   .refine aq.uH ?_ λi d e=>?_
    .rw[qa,qa]
    .rw[OS] at e ⊢
     let⟨z,M,rfl⟩:11:=YE.mp e;rw[M];let hz:=hp.mem (ZZ M);calc⟨_,rfl,aq.at (hx.same E'.same) (getD_some ⋯) (getD_some ⋯)⟩
end
structure h_(mg:Z->Option ν)(base:Α)(fd:FuncData)(T:O)(pos:Δ)(q:Z):Prop where
 code:∃cc,fd.code=.ref cc/\CodeHd base cc T
 ng:mainGlobals≠T
 blt:base.BuiltinsAt mg T
 tbl:A_ T pos q
theorem e7.Be{P w K C e x c st f n N ps k G}(F:e7 K x c st f n)(S:kZ N ps (bX st))
  (i:∀d A a s H E,n.code=d->aX k (A.deeper (envOfC c (bX st) ⇑s f d)) →
   ∃B:WS,cV (bt d7 P w K C e N c (bX st) f d A a s H E).jZ (dA st) (dc B)/\∀ys b l,↑ys=↑ps->G ys b l->B (iU ↑b l) ⟨ys.map ζ++Gg (↑N-↑ps) η,b.map ζ⟩) :
  bH P w K C e d7 (k+1) f n ps (mf G ↑ps):=by
 let⟨oc,od,kV,J,pm,an,d,ct,L,rfl,M,q⟩:92:=F.ex;calc yM M q S (λO H Q E h=>h.1) λA a s H O Q E R h=>?_;let⟨D,T,U,o,b,l,m,g,I⟩:=h;let⟨B,W,X⟩:=i d A a s H E rfl R
 let Y:↑o=↑ps:=by
  let:=m.len;rw[qa] at this;rw[<-D,this,qa]
 refine⟨_,W.jZ,T,U,⟨o.map ζ++Gg (↑N-↑ps) η,b.map ζ⟩,iU ↑b l,by rw[<-D];calc m.start,X o b l Y g,⟨λj h Z r t H' u z=>?_,λj h=>h.elim,λj h=>h.elim,λy j h v Z r t H' u z V=>?_,trivial⟩⟩
 .exact rE  m u z (x:=.p .non)  rfl h I
 .calc rE  m u z V h I
section
variable{X:Cx}{params:Arguments}{body a e:υ}{scope:Γ}{fP p1 p2 q1 q2 m8:Δ}{x:Z}{Nb:-Z}{cp:-(Option Nat)}{fb f:WE}{fa:WA}{T:O}
def Bf(c:WA)(cp:-(Option Nat))(d:WE):WE:=λe K=>c e λf a=>match f with
 |[.p (.int j)]=>(0<=j/\j<=60)/\sortBy cp d a (dO 0 j.toNat) λb=>K (.o ↑a.mu) ⟨a.sl,a.mu++[ζ (.lst b)]⟩
 |_=>False
theorem SJ(L:jT X params body scope fP T x Nb cp fb)(hc:X.calm=θ)(E:Gl X "sorted")(hs:X.mg "sorted" = η)(G:bootBuiltins "sorted" = ζ (.builtin "sorted"))(J:Gl X "range")(hr:X.mg "range" = η)(K:bootBuiltins "range" = ζ (.type "range"))(ha:JA X [a] (b_ fa))
  (he:starEach [a] X.env=[(ι,eval a X.env)]) (M:aO->-D->Prop)
  {d:aF} {s:ο} {g:St} {H:Hp} {Q:VK} {F:Hp} {y:-ξ} {h:aO} (I:Inv X d g H s) (S:SR F y h g H)
  (q:fa h λxs b=>match xs with
   |[.p (.int j)]=>(0<=j/\j<=60)/\sortBy cp fb b (dO 0 j.toNat) (M b)
   |_=>False)
  (N:∀b out,M b out->∀a F' l H' us,Ext F y h.mu H F' l b.mu H'->SR F' l b g H'->H' a=η->aq F' out us->Q (.ref a) (upd H' a (.lst us))) :
  ρ (ς X.prog X.w) X.A (eval (.Call (.Name "sorted" p1) [.Call (.Name "range" p2) [a] [] q2] [⟨ζ "key",.Lambda params body scope fP,m8⟩] q1) X.env) (EP X d g Q) X.xe s:=by
 refine q1b (mT I E hs G (callWith_kw (bu ((k_ (pY GX J hr K ha (he:=he)) bj) q1 d s g H (λO H2=>∃(r:ξ)(j:Int)(m:Hp)(c:-ξ)(b:aO)(f:Hp),O=[.ref r]/\H2=upd f r (.rng 0 j)/\f r=η/\Ext F y h.mu H m c b.mu f/\SR m c b g f/\(0<=j/\j<=60)/\sortBy cp fb b (dO 0 j.toNat) (M b)) I ?_) λus s1 P=>?_)))
 .refine⟨F,y,h,_,S,q,λxs b B O m c f R C V1=>?_⟩
  split at B
  .rename_i j
   let⟨v,r,e,W1,W2⟩:22:=V1;subst W2 W1 e;exact⟨j,rfl,λrr U=>(zI6 rr j m c b f ⟨rfl,rfl,U,R,C,B.1,B.2⟩)⟩
  .exact B.elim
 .let⟨O,H2,I2,r2,r,j,m,c,b,f,ev,eH,V,R,C,hj,o⟩:=P
  subst ev eH;let⟨u,rfl,rx⟩:=vals1 r2;cases rx
  let sm:aI f (upd f r (.rng 0 j)):=cK V;let S2:=C.al sm;let⟨n,rfl⟩:∃n:Nat,j=n:=⟨j.toNat,⋯⟩;rw[q0b,um] at o;refine SD L I2 S2 (ds:=(cC n).map D.int)  rH (λs' H' I' kp Q' hQ=>?_) ?_
  .let W:=kp r _ bN λt=>by
    let⟨ps,z⟩:=aM.tb S2.tab t;rw[bN] at z;cases z
   let⟨t,u,v,e⟩:3:=(I'.bc r _ W);let Y:q1M 0 n 1=n:=by rw[q41];split<;>symm
   refine Su  (I'.ok.hd hc) e (q7a ⋯ ⋯ ⋯ ⋯) Y ⋯ λh' tk acc Z it=>hQ h' tk _ Z (zy ?_ λi u e=>?_)
   .rw[ZC,it.1,cC,qa,q0u]
   .rw[ZU] at e
    let⟨t',e2⟩:=it.2 i u e;let hi:i<n:=by rw[<-it.1];exact(q0g.mp e).1
    calc⟨t',e2.trans ?_⟩;rw[cC,Gh,OS,q0C hi];show q2t (0+i*1) t'=q2t i t';rw[q5C,q4t]
  .let⟨wV,key,hk,hK⟩:=o
   calc⟨wV,key,hk,λk pm pw a F' H' us E' S' hn is=>N b k (hK k pm pw) a F' c H' us ((R.trans (Ext.al C sm)).trans E') S' hn is⟩
theorem SK(L:jT X params body scope fP T x Nb cp fb)(n:X.calm=θ)(e:Gl X "sorted")(p:X.mg "sorted" = η)(f:bootBuiltins "sorted" = ζ (.builtin "sorted"))(g:Gl X "range")(r:X.mg "range" = η)(h:bootBuiltins "range" = ζ (.type "range"))(t:JA X [a] (b_ fa))
  (he:‹starEach [a] X.env=[(ι,eval a X.env)]›):JE X (.Call (.Name "sorted" p1) [.Call (.Name "range" p2) [a] [] q2] [⟨ζ "key",.Lambda params body scope fP,m8⟩] q1) (tD (Bf fa cp fb)) :=
 ⟨λj s B H Q I ⟨F,C,D,K,S,q,k⟩↦SJ L n e p f g r h t he (λb c=>K (.o ↑b.mu) ⟨b.sl,b.mu++[ζ (OV.lst c)]⟩) I S q λb c u a v w E l y i m z=>by
  let A:∀{d},fM v d (.lst c) (.lst l):=λ{d}=>⟨l,Y,z⟩
  calc k _ _ u _ _ _ _ (y.trans (Ext.own i m)) (i.own m A) (Ai i)⟩
end
end
section
section
variable{prog:ψ}{w:ω}{A:Β}{E:br}{s:ο}{Q:Bool->ο->Prop}
end
section
variable{X:Cx}{pins:aF}{σ:St}{H:Hp}{s:ο}{A:Β}{E:br}{a:O}{vs:-ν}{ks:-LK}{κ:SortKind}
end
section
variable[zt:aM]{X:Cx}
end
end
end L2
namespace LJ
open PySem L2 PySem.W
theorem SM{ls:-ph}{b ps}:(ls.map λl=>(l.T,(#[]:Array ν))).lookup b=ζ ps->(∃l∈ls,l.T=b)/\ps = #[]:=by
 induction ls with
 |nil=>ext h;cases h
 |cons l g a =>
  ext h;rw[ZW,ZR] at h
  cases q:b==l.T with
  |true =>
   rw[q] at h;exact⟨⟨l,YB,(ZJ q).symm⟩,(ZX h).symm⟩
  |false =>
   rw[q] at h;let⟨⟨c,d,e⟩,f⟩:=a h;calc⟨⟨c,Yz _ d,e⟩,f⟩
theorem Bg{ls:-ph}{l}(h:l∈ls):(ls.map λl=>(l.T,(#[]:Array ν))).lookup l.T=ζ #[]:=by
 induction ls with
 |nil=>cases h
 |cons a c b =>
  rw[ZW,ZR]
  cases q:l.T==a.T with
  |true=>rfl
  |false =>
   rcases OQ.mp h with rfl|h
   .simp at q
   .calc b h
theorem SN{l:OpenLaw}{q g}{L:(π->Option ν)->Α->Prop}{d K as}{e:∀P,as=(K P).map (·.1)}{E kk} ls C (p:ls.map (·.T)=E) (hn:l.most=ζ 63) (r:d.params.defaults=[]) (M:aX kk callerA)
  (v:∀w h,(K w.params).In h->Cs l.prog w C.cs h) (y:∀(w:ω) h,(K w.params).In h->∀t∈ls,∃x,CodeHd h x t.T) (A:∀P,noTabs (K P)=θ)
  (F:∀w i m h,(K w.params).In h->h.Ns mainGlobals i->i d.name=ζ (.ref m) →
   ∃n:FuncData,(∀s u,BindsTo s n ⟨[u],[]⟩ [("script",u)])/\∀c:Α,(K w.params).In c->c.Ns mainGlobals i->(∀t∈ls,c.BuiltinsAt i t.T)->bH l.prog w (K w.params) i c d7 kk m n ["script"] (@wO (kg ls C) (K w.params))) :
  WalkO q g L (kmHook K as e E).says l.row.toRowW d [] (λf vs=>q5d f vs) :=
 L2.Sj         hn (by decide) r M (λw h Y=>km_in_of Y)
  (λw h Y b O B=>by
   let⟨⟨t,j,rfl⟩,rfl⟩:=SM B;let I:=km_tabs_of Y t.T (by rw[<-p];calc q1n j);refine⟨I,?_,?_⟩
   .let⟨x,o,N,_,_,_,_,_,_,_,Q,R,S,U,_⟩:9014:=y w h (km_in_of Y) t j
    exact(zI3 x o N ⟨Q,R,S,U⟩)
   .cases z:(K w.params).lookup t.T with
    |none=>rfl
    |some o =>
     let J:=km_in_of Y t.T o z;rw[I] at J;cases J
     calc absurd ((q0c.mp (A w.params) (t.T,tabObj #[]) (mem_of_lookupK z))) ZS)
  (λw h Y=>v w h (km_in_of Y))
  (λw i m h V G D=>by
   let⟨n,W,X⟩:=F w i m h V G D
   calc⟨n,W,λc Z k2 k3=>X c Z k2 λt j=>k3 t.T #[] (Bg j)⟩)
  (λw H a ns B hO hQ hS=>by
   calc(zI2 a ns ⟨rfl,hS,B,⟨λt j=>?_,hQ⟩,λ_=>rfl⟩);rcases hO t.T with⟨O,k,z2⟩|⟨k,_⟩
   .rw[Bg j] at k;cases k
    exact⟨#[],z2,trivial,.inl rfl⟩
   .rw[Bg j] at k;cases k)
  λ_ _ _ _ _ z=>z
theorem SO{l:OpenLaw}{q b}{p:(Z->Option ν)->Α->Prop}{d K as}{e:∀P,as=(K P).map (·.1)}{m kk} ls (g:ls.map (·.T)=m) (hn:l.most=ζ 63) (i:d.params.defaults=[]) (r:aX kk callerA)
  (j:∀(w:ω) h,(K w.params).In h->∀t∈ls,∃v,CodeHd h v t.T) (k:∀P,noTabs (K P)=θ)
  (F:∀w c n h,(K w.params).In h->h.Ns mainGlobals c->c d.name=ζ (.ref n) →
   ∃o:FuncData,(∀s u,BindsTo s o ⟨[u],[]⟩ [("script",u)])/\∀a:Α,(K w.params).In a->a.Ns mainGlobals c->(∀t∈ls,a.BuiltinsAt c t.T)->bH l.prog w (K w.params) c a d7 kk n o ["script"] (@wO (A0 ls) (K w.params))) :
  WalkO q b p (kmHook K as e m).says l.row.toRowW d [] (λf vs=>q5d f vs) :=
 SN ls ⟨λ_=>η,λh=>nomatch h⟩ g hn i r (λ_ _ _=>⟨λh=>(nomatch h),λh=>(nomatch h)⟩) j k F
end LJ
namespace LJ
open PySem L2
variable[zt:aM]
inductive uK (ys:-DV) (aW:-OV) (K:RV->-OV->Prop):Prop
 |mk (m:Int) (ws:-(Int×Int×Int)) (q:fG m ws) (q:ys=[.p (aN m ws)]) (q:aW=[]) (q:K (.p .non) [])
inductive Bh (ys:-DV) (aW:-OV) (K:RV->-OV->Prop):Prop
 |mk (y:Int×Int×Int) (q:ys=[.p (aV y)]) (q:aW=[]) (q:K (.p (.tup [.int y.2.2,.int y.1,.int y.2.1])) [])
def Bi:WS:=(aB (bp (ag (d2 (aa 0) (dC (.int 2)) aS) (ag (d2 (aa 0) (dC (.int 0)) aS) (ag (d2 (aa 0) (dC (.int 1)) aS) af)))))
theorem SQ:Sem 1 0 Bh Bi:=by
 ext b a c-⟨y,rfl,rfl,k⟩;unfold Bi;simp![aV,cq,cG,at2];calc cA k
meta def pA(ws:-(Int×Int×Int))(n:Int):LK:=[(ws.getD n.toNat (0,0,0)).2.2,(ws.getD n.toNat (0,0,0)).1,(ws.getD n.toNat (0,0,0)).2.1]
structure aG(ws:-(Int×Int×Int))(ns:-Int):Prop where
 perm:ns.Perm (cC ↑ws)
 up:(ns.map (pA ws)).Pairwise kle
theorem aG.nums{ws:-(Int×Int×Int)}{ns}(h:aG ws ns):Nums ws ns:=λn a=>IH (h.perm.mem_iff.mp a)
theorem aG.len{ws:-(Int×Int×Int)}{ns}(h:aG ws ns):ns.length=↑ws:=by rw[h.perm.length_eq];unfold cC;simp
theorem SS{m}{ws:-(Int×Int×Int)}(W:fG m ws){a b}(f:0<=a/\a<(↑ws:Int))(g:0<=b/\b<(↑ws:Int))(e:pA ws a=pA ws b):a=b:=by
 let⟨i,rfl⟩:∃i:Nat,a=i:=⟨a.toNat,⋯⟩;let⟨j,rfl⟩:∃j:Nat,b=j:=⟨b.toNat,⋯⟩;let c:i<↑ws:=by symm
 let d:j<↑ws:=by symm
 unfold pA at e;rw[q0b,q0b,Gh,p_ c,Gh,p_ d] at e;erw[q5X,List.cons.injEq,and_true] at e
 let q:(ws.map λy=>(y.1,y.2.1))[i]'(by rw[qa];calc c)=(ws.map λy=>(y.1,y.2.1))[j]'(by rw[qa];calc d):=by
  rw[q1c,q1c,e.2.1,e.2.2]
 let:=(q2X W.unlike).mp q;rw[this]
theorem IV{m}{ws:-(Int×Int×Int)}(W:fG m ws):∀{as c:-Int},as.Perm c->(∀x∈as,0<=x/\x<(↑ws:Int))->(as.map (pA ws)).Pairwise kle->(c.map (pA ws)).Pairwise kle->as=c
 |[],c,p,_,_,_=>(List.nil_perm.mp p).symm
 |a::h,[],p,_,_,_=>absurd p.length_eq (by simp)
 |a::h,b::c,p,d,f,g=>by
  rw[ZW,q1a] at f g
  let e:a=b:=by
   rcases OQ.mp (p.mem_iff.mp YB) with z|z
   .exact z
   .rcases OQ.mp (p.mem_iff.mpr (YB  )) with y|y
    .exact y.symm
    .exact SS W (d a YB) (d b (Yz _ y)) (HB (f.1 _ (q1n y)) (g.1 _ (q1n z)))
  subst e;rw[IV W (p.cons_inv) (λx i=>d x (Yz _ i)) f.2 g.2]
theorem SU{out l}(h:out.Perm (l.map D.int)):∃ns:-Int,out=ns.map D.int/\ns.Perm l:=by
 refine⟨out.map λd=>match d with
  |.int n=>n
  |_=>0,?_,?_⟩
 .rw[Z7]
  calc(q4C out).symm.trans (q08 λd a=>?_);let⟨n,_,rfl⟩:=ZI.mp (h.mem_iff.mp a);rfl
 .let:=h.map λd=>match d with
   |.int n=>n
   |_=>0
  rw[Z7] at this;calc this.trans (List.Perm.of_eq ((q08 λn _=>Y).trans (q4C l)))
inductive Bj (ys:-DV) (aW:-OV) (K:RV->-OV->Prop):Prop
 |mk (m:Int) (ws:-(Int×Int×Int)) (q:fG m ws) (q:ys=[.p (aN m ws)]) (q:aW=[]) (q:∀ns,aG ws ns->K (.n (ns.map D.int)) [])
def IW:WS:=(ar (f7 (au 1 uK (ag (aa 0) af))) (ar (aK 1 (d2 (aa 0) (dC (.int 1)) aS)) (aB (Bf (ag (dN (ag (aa 1) af) bT) af) [ζ 1] (au 1 Bh (ag (d2 (aa 1) (aa 0) aS) af))))))
theorem SV:Sem 1 1 Bj IW:=by
 ext t g u-⟨m,b,W,rfl,rfl,k⟩;let h:=W.gY;calc aJ λN a=>?_;simp!;calc⟨m,b,W,Y,Y,?_⟩;simp!;subst a;calc aJ λN a=>?_;simp![cG,aN];subst a;simp![Bf]
 refine⟨⟨⋯,⋯⟩,by rw[kH];symm,λd=>match d with
  |.int n=>pA b n
  |_=>[],λd j=>?_,λl c e=>?_⟩
 .let⟨i,f⟩:=ZD.mp j
  let⟨f,rfl⟩:=mj f;let o:(0+(i:Int))=i:=by symm
  rw[o];let⟨y,p,v,q,_⟩:13:=nX W (n:=i) ⋯ ⋯;calc⟨(by ext z;cases z),?_⟩;simp![q];calc⟨y,Y,Y,?_⟩;simp!;unfold pA;rw[p];rfl
 .rw[q0b,um] at c
  let⟨r,rfl,s⟩:11:=SU c;calc⟨[],Y,Y,.inl (k r ⟨s,?_⟩)⟩;rw[Z7] at e;calc e
meta def n8(ws:-(Int×Int×Int))(st:-Int×-Int)(n:Int):-Int×-Int :=
 if st.2.getD (fO ws n).1 0=st.2.getD (fO ws n).2 0 then st else(st.1++[n],mF st.2 (fO ws n).1 (fO ws n).2)
meta def jU(ws:-(Int×Int×Int))(fs ns:-Int):-Int×-Int:=ns.foldl (n8 ws) ([],fs)
meta def mG(m:Int)(ws:-(Int×Int×Int))(ns:-Int):-Int:=sortI (jU ws (cC m.toNat) ns).1
theorem SW(ws:-(Int×Int×Int)) st n:↑(n8 ws st n).2=↑st.2:=by
 unfold n8;split
 .rfl
 .calc IE _ _ _
theorem uL(ws:-(Int×Int×Int)):∀(ns:-Int) st,∃l,(ns.foldl (n8 ws) st).1=st.1++l/\l.Sublist ns/\↑(ns.foldl (n8 ws) st).2=↑st.2
 |[],c=>⟨[],by simp,.slnil,Y⟩
 |n::r,c=>by
  let⟨l,b,d,a⟩:12:=uL ws r (n8 ws c n);rw[q27];rw[SW] at a;unfold n8 at b a ⊢;split at b
  .rename_i q
   rw[ZF q] at a ⊢;exact⟨l,b,d.cons _,a⟩
  .rename_i q
   rw[Zx q] at a ⊢;calc⟨n::l,by rw[b,q00];rfl,d.cons₂ _,a⟩
theorem pB{a b}:aE (.int a) (.int b)=μ (a=b):=by
 cases q:aE (.int a) (.int b)
 .exact (YC λz=>by rw[z,e8] at q;cases q).symm
 .calc (OR (ZJ q)).symm
inductive Bk (ys:-DV) (aW:-OV) (K:RV->-OV->Prop):Prop
 |mk (m:Int) (ws:-(Int×Int×Int)) (q:fG m ws) (q:ys=[.p (aN m ws)]) (q:aW=[]) (q:∀ns,aG ws ns->K (.n ((mG m ws ns).map D.int)) [])
def Bl:WS:=(ar (aK 1 (au 1 Bj (ag (aa 0) af))) (ar (aK 2 (nu af)) (ar (aK 3 (au 2 AR (ag (aa 0) (ag (aa 2) af)))) (ar (eo (cN (aa 1)) (bZ 4) (ar (aK 5 (d2 (d2 (aa 0) (dC (.int 1)) aS) (aa 4) aS)) (aU (dT (d2 (d2 (aa 3) (d2 (aa 5) (dC (.int 0)) aS) aS) (d2 (aa 3) (d2 (aa 5) (dC (.int 1)) aS) aS) iV)) (ar (f7 (kc (aa 2) (ag (aa 4) af))) (aK 3 (au 3 uF (ag (aa 3) (ag (d2 (aa 5) (dC (.int 0)) aS) (ag (d2 (aa 5) (dC (.int 1)) aS) af)))))) bY))) (aB (rM (ag (aa 2) af) wD))))))
theorem SX:Sem 1 5 Bk Bl:=by
 ext ys G K'-⟨m,e,W,rfl,rfl,k⟩;let H:=W.gY;let m1:=W.m1;let I:=W.rz;unfold Bl;calc aJ λN f=>?_;simp!;calc⟨m,e,W,rfl,rfl,λns t=>?_⟩;simp!;subst f;calc aJ λN f=>?_;simp!;subst f;calc aJ λN f=>?_;simp!;calc⟨m,e,[],W,λn J=>absurd J ZL,.inr ⟨rfl,rfl,?_⟩⟩;subst f;calc aJ λN f=>oX λg' b' K2 K u M=>?_;subst K u M;let O:↑(cC m.toNat)=m.toNat:=by unfold cC;simp
 let z:=t.len
 let h:∀i,↑(jU e (cC m.toNat) (ns.take i)).2=m.toNat/\↑(jU e (cC m.toNat) (ns.take i)).1<=30:=λi=>by
  let⟨l,A,B,P⟩:12:=uL e (ns.take i) ([],cC m.toNat);calc⟨P.trans O,?_⟩;let:(jU e (cC m.toNat) (ns.take i)).1=l:=A;rw[this];let:=B.length_le;rw[ZH] at this;symm
 refine kK (λi v=>v=⟨[ζ (.p (aN m e)),ζ (.p (.lst (ns.map D.int))),ζ (.o 0),ζ (.p (bV (jU e (cC m.toNat) (ns.take i)).2)),η,η],[ζ (.lst ((jU e (cC m.toNat) (ns.take i)).1.map D.int))]⟩) rfl ?_ ?_
 .ext i d v L C rfl Q
  rw[OS] at C;let⟨n,j,rfl⟩:=YE.mp C;let⟨R,S⟩:=t.nums n (ZZ j);let⟨y,T,hy,U,a,b,E,F,A,B,_⟩:1324:=nX W R S;let V:fO e n=(a,b):=by unfold fO;rw[T,E,F,q0b,q0b]
  let⟨w,x⟩:=h i
  let r:jU e (cC m.toNat) (ns.take (i+1))=n8 e (jU e (cC m.toNat) (ns.take i)) n:=by
   let:ns.take (i+1)=ns.take i++[n]:=by rw[q1u,j];rfl
   rw[this];unfold jU;rw[q5H];rfl
  let c:=Q _ rfl;rw[r] at c;generalize jU e (cC m.toNat) (ns.take i)=X at w x c;let⟨Y,s⟩:=X;dsimp only at w x c ⊢;unfold n8 at c;rw[V] at c;calc⟨trivial,aJ λZ g=>?_⟩;simp![cG,aN,U];subst g;let a1:=uE (ns:=s) (i:=a) ⋯;let a2:=uE (ns:=s) (i:=b) ⋯;calc gc λAy Bn hA hB=>?_;simp![cq,cG,aV,E,F,bV,a1,a2,pB]
  by_cases q:s.getD a 0=s.getD b 0
  .rw[OR q]
   subst hB;rw[ZF q] at c;exact c
  .rw[YC q]
   simp!;subst hA;rw[Zx q] at c;calc aJ λZ g=>?_;simp!;calc⟨⋯,?_⟩;subst g;simp![cq,cG];calc⟨s,a,b,rfl,rfl,⋯,⋯,⋯,?_⟩;rw[ZM] at c;exact c
 .ext v rfl
  calc⟨trivial,?_⟩;let⟨w,x⟩:01:=h ns.length;rw[qa,Z_ (tm _)] at *;subst f;simp![wD,ud];calc⟨⋯,[],rfl,rfl,.inl (k ns t)⟩
theorem n_{us:-Int}{n}:((us.map D.int).any λe=>aE e (.int n))=μ (n∈us):=by
 cases q:(us.map D.int).any λe=>aE e (.int n)
 .refine (YC λz=>?_).symm
  let:=q1g.mp q (.int n) (q1n z);exact this (e8 _)
 .let⟨e,a,h⟩:=q5Y.mp q
  let⟨z,b,rfl⟩:=ZI.mp a;rw[<-q0w h];calc(OR b).symm
theorem mH:∀us:-Int,bo (us.map D.int)<=55
 |[]=>by simp[bo]
 |n::r=>by
  let:=mH r;erw[ZW,bo,dep];symm
meta def jy(ws:-(Int×Int×Int))(us:-Int):-(Int×Int×Int):=us.map λu=>ws.getD u.toNat (0,0,0)
meta def pC(ws:-(Int×Int×Int))(a:-Int):-Int:=(cC ↑ws).filter λn=>μ (n∉a)
meta def oa(us:-Int)(i:Int):Int:=us.getD i.toNat 0
structure eR(ws:-(Int×Int×Int))(us:-Int):Prop where
 up:us.Pairwise (· < ·)
 nums:Nums ws us
theorem IX n:(cC n).Pairwise (· < ·):=by
 unfold cC;rw[q1f];calc q3Z.imp λh=>by symm
theorem uM(ws:-(Int×Int×Int)) a:eR ws (pC ws a):=⟨(IX _).filter _,λn b=>IH (q1y.mp b).1⟩
theorem eR.nd{ws:-(Int×Int×Int)}{us}(S:eR ws us):us.Nodup:=S.up.imp λh=>by symm
theorem sub_len{ws:-(Int×Int×Int)}{us}:↑(jy ws us)=↑us:=by unfold jy;rw[qa]
theorem SY{us i}(h:0<=i/\i<(↑us:Int)):oa us i∈us:=by
 let a:i.toNat<↑us:=by symm
 unfold oa;rw[Gh,p_ a];calc q0N a
theorem eR.lt{ws:-(Int×Int×Int)}{us}(S:eR ws us){i j}(d:0<=i)(c:i<j)(hj:j<(↑us:Int)):oa us i<oa us j:=by
 let a:i.toNat<↑us:=by symm
 let b:j.toNat<↑us:=by symm
 unfold oa;rw[Gh,Gh,p_ a,p_ b];calc q1w.mp S.up i.toNat j.toNat a b ⋯
theorem getD_mem{ws:-(Int×Int×Int)}{n}(h:0<=n/\n<(↑ws:Int)):ws.getD n.toNat (0,0,0)∈ws:=by
 let a:n.toNat<↑ws:=by symm
 rw[Gh,p_ a];calc q0N a
theorem rS{m}{ws:-(Int×Int×Int)}{us}(W:fG m ws)(S:eR ws us):fG m (jy ws us):=by
 let f:=by
  let h:us.Sublist (cC ↑ws):=by
   let e:us=(cC ↑ws).filter λn=>μ (n∈us):=by
    calc List.Perm.eq_of_pairwise  (λa b _ _ c d=>by symm) S.up ((IX _).filter _) ((List.perm_ext_iff_of_nodup S.nd ((II _).filter _)).mpr λa=>?_);rw[q1y,q0v];calc⟨λh=>⟨?_,h⟩,λh=>h.2⟩;let⟨c,d⟩:=S.nums a h;exact ZI.mpr ⟨a.toNat,Z9.mpr ⋯,⋯⟩
   rw[e];exact q3e
  let:=h.length_le;unfold cC at this;simpa using this
 refine⟨W.m1,W.rz,by rw[sub_len];calc Z0 f W.gY,λy g=>?_,?_⟩
 .let⟨u,i,rfl⟩:11:=ZI.mp g
  exact W.ends _ (getD_mem (S.nums u i))
 .unfold jy
  rw[Z7];calc q1f.mpr (S.nd.imp_of_mem λ{a b} k l o e=>o ?_);let⟨p,q⟩:=S.nums a k;let⟨r,s⟩:=S.nums b l;let c:a.toNat<↑ws:=by symm
  let d:b.toNat<↑ws:=by symm
  let e:((ws.map λy=>(y.1,y.2.1))[a.toNat]'(by rw[qa];calc c))=(ws.map λy=>(y.1,y.2.1))[b.toNat]'(by rw[qa];calc d):=by
   erw[q44,Gh,p_ c,p_ d,q5X] at e;rw[q1c,q1c];exact e
  let:=(List.getElem?_inj  (j:=b.toNat) (by rw[qa];calc c) W.unlike).mp (by rw[p_ (by rw[qa];calc c),p_ (by rw[qa];calc d),e]);symm
theorem S7(ws:-(Int×Int×Int)) ns fs:∀i∈(jU ws fs ns).1,i∈ns:=λi a=>by
 let⟨l,e,s,_⟩:12:=uL ws ns ([],fs);unfold jU at a;rw[e,q1k] at a;calc s.subset a
theorem IY{m}{ws:-(Int×Int×Int)} ns:∀i∈mG m ws ns,i∈ns:=λi a=>S7 ws ns _ i ((sortI_perm _).mem_iff.mp a)
theorem wW{m}{ws:-(Int×Int×Int)} ns:↑(mG m ws ns)<=ns.length:=by
 unfold mG jU;let⟨l,e,s,_⟩:12:=uL ws ns ([],cC m.toNat);rw[QN,e,q1k];calc s.length_le
theorem S8{m}{ws:-(Int×Int×Int)}{ns}(o:aG ws ns):(mG m ws ns).Nodup:=by
 unfold mG jU;let⟨l,e,s,_⟩:12:=uL ws ns ([],cC m.toNat);calc(sortI_perm _).nodup_iff.mpr ?_;rw[e,q1k];calc s.nodup (o.perm.nodup_iff.mpr (II _))
theorem S9{us:-Int}{n}(h:0<=n/\n<(↑us:Int)):eM (us.map D.int) n=ζ (.int (oa us n)):=by
 let:=uE (ns:=us) (i:=n.toNat) ⋯
 rwa [show n.toNat=n by symm] at this
end LJ
namespace L2
open PySem PySem.Spec PyProof.Rows
variable[zt:aM]
meta def du{a:Type}(kvs:-(Key×a))(k:Key):Option a:=(kvs.find? λb=>μ (b.1=k)).map (·.2)
meta def putD{b:Type}(kvs:-(Key×b))(k:Key)(d:b):-(Key×b) :=
 if(kvs.any λa=>μ (a.1=k))=θ then kvs.map (λa=>if a.1=k then(a.1,d) else a) else kvs++[(k,d)]
section
omit [aM]
variable{α:Type}{R:α->V->Prop}
theorem fH.val k:∀{a ws},fH R a ws->(du a k=η/\eO ws k=η)\/∃d v,du a k=ζ d/\eO ws k=ζ v/\R d v
 |[],_,h=>by subst h;exact .inl ⟨Y,Y⟩
 |b::r,_,⟨v,t,e,f,g⟩=>by
  subst e
  by_cases c:b.1=k
  .refine .inr ⟨b.2,v,?_,vS c,f⟩
   unfold du;rw[List.find?_cons_of_pos c⁻¹];rfl
  .rw[vT c]
   let e:du (b::r) k=du r k:=by unfold du;rw[List.find?_cons_of_neg c⁻¹]
   rw[e];calc fH.val k g
theorem fH.length{κ}:∀{a:-(κ×α)}{ws},fH R a ws->↑ws=↑a
 |[],_,h=>by subst h;rfl
 |c::r,_,⟨v,t,e,d,b⟩=>by subst e;rw[Ge,Ge,↑b]
theorem fH.any(k:Key):∀{a ws},fH R a ws->(ws.any λb=>μ (b.1=k))=a.any λb=>μ (b.1=k)
 |[],_,h=>by subst h;rfl
 |d::r,_,⟨v,t,e,f,c⟩=>by subst e;rw[q1o,q1o,c.any k]
theorem fH.jn(k:Key){d v}(hd:R d v):∀{b ws},fH R b ws->fH R (b.map λa=>if a.1=k then(a.1,d) else a) (ws.map λa=>if a.1=k then(a.1,v) else a)
 |[],_,h=>by subst h;rfl
 |g::r,_,⟨u,t,e,i,f⟩=>by
  subst e
  by_cases c:g.1=k
  .rw[ZW,ZW,ZF c,ZF c]
   exact(zI2 v _ ⟨Y,hd,f.jn k hd⟩)
  .rw[ZW,ZW,Zx c,Zx c]
   calc(zI2 u _ ⟨Y,i,f.jn k hd⟩)
theorem fH.snoc{k:Key}{d v}(hd:R d v):∀{a ws},fH R a ws->fH R (a++[(k,d)]) (ws++[(k,v)])
 |[],_,h=>by subst h;exact(zI2 v [] ⟨Y,hd,Y⟩)
 |f::r,_,⟨u,t,e,b,c⟩=>by subst e;calc(zI2 u _ ⟨Y,b,c.snoc hd⟩)
theorem fH.put{a ws k d v}(h:fH R a ws)(hd:R d v):fH R (putD a k d) (putK ws k v):=by
 unfold putD putK;rw[h.any k];split
 .exact h.jn k hd
 .calc h.snoc hd
end
def lK(x:DV)(c:aO)(K:Nat->(-(Key×D)->OV)->-(Key×D)->Prop):Prop:=match x with
 |.o k=>match c.mu[k]? with
  |some (some (.dct b))=>K k OV.dct b
  |some (some (.ac a b))=>K k (OV.ac a) b
  |_=>False
 |_=>False
theorem IZ{F H g j q x v}{K:Nat->(-(Key×D)->OV)->-(Key×D)->Prop}(S:SR F g j q H)(p:dB F g x v)(h:lK x j K):∃k B kvs a ws,x=.o k/\K k B kvs/\v=.ref a/\g[k]?=ζ a/\H a=ζ (.dK ws)/\vU F kvs ws/\j.mu[k]?=ζ (ζ (B kvs))/\∀{F' es us},vU F' es us->fM F' a (B es) (.dK us):=by
 unfold lK at h;split at h
 .rename_i k
  split at h
  .rename_i c e
   let⟨a,d,rfl⟩:11:=p;let⟨a',o,f,m,l,rfl,n⟩:2211:=S.mu k _ e;rw[d] at f;cases f;exact(zI5 k _ c a l ⟨Y,h,Y,d,m,n,e,λi=>⟨_,Y,i⟩⟩)
  .rename_i b c e
   let⟨a,d,rfl⟩:=p;let⟨a',o,f,m,z,l,rfl,n⟩:2311:=S.mu k _ e;rw[d] at f;cases f;exact(zI5 k _ c a l ⟨Y,h,Y,d,m,n,e,λi=>⟨z,_,Y,i⟩⟩)
  .exact h.elim
 .calc h.elim
def lM(x:DV)(P:Int->Prop):Prop:=match x with
 |.p (.int i)=>P i
 |_=>False
theorem I0{F a x v P}(b:dB F a x v)(h:lM x P):∃i,v=kV (.inl i)/\P i:=by
 unfold lM at h;split at h
 .rename_i i;exact⟨i,b,h⟩
 .calc h.elim
def Bm:WE:=λa K=>K (.o ↑a.mu) ⟨a.sl,a.mu++[ζ (.dct [])]⟩
def oe(b:Bool)(e f:WE):WE:=λg K=>e g λx c=>f c λy a=>lM x λi=>lK y a λ_ _ d=>K (.p (.bl (b != (du d (.inl i)).isSome))) a
def I_(g h j:WE):WS:=λK l=>g l λz c=>h c λx e=>j e λy f=>nq z f λd a=>lM y λi=>lK x a λk B b=>↑b<1000/\K.nx ⟨a.sl,a.mu.set k (ζ (B (putD b (.inl i) d)))⟩
section
variable{X:Cx}{o i e v:υ}{fo fi fv fk fe:WE}{pos:Δ}
theorem S_:JE X (.Dict [] [] pos) (tD Bm):=lb.weak λd H Q ⟨F,e,f,K,S,q,k⟩ p b=>by
 let c:∀{a},fM F a (.dct []) (.dK []):=λ{a}=>⟨[],Y,Y⟩;calc k _ _ q _ _ _ _ (Ext.own S b) (S.own b c) ⟨p,?_,Y⟩;rw[<-S.cD,YD (tm _),q0O];rfl
theorem Ta{c}(l:TE)(hn:∀b H Q,(tD fi b H λy m=>tD fo b m λx H2=>∃a o,x=.ref a/\j8 H2 a y o/\Q (.bl (c != o.isSome)) H2)->l b H Q):∀b H Q,tD (oe c fi fo) b H Q->l b H Q:=λb H Q ⟨F,r,s,K,S,q,k⟩=>hn b H Q ⟨F,r,s,_,S,q,λx e t v w f m z A C=>⟨w,f,e,_,A,t,λy D E u U G T n p I=>by
  let⟨i,rfl,J⟩:=I0 (C.ext n) E;let⟨V,B,g,a,L,rfl,M,rfl,W,N,O,X,P⟩:57:=IZ p I J;refine(zI2 a _ ⟨Y,j8.k N,?_⟩)
  let R:(eO L (q4F i)).isSome=(du g (.inl i)).isSome:=by
   rcases O.val (.inl i) with⟨h,j⟩|⟨d,v,h,j,_⟩
   .rw[h,j];rfl
   .rw[h,j];rfl
  rw[R]
  calc k _ _ M _ _ _ _ (z.trans n) p Y⟩⟩
theorem Tb{t f}(h:∀a H Q,tD f a H Q->t a H Q):∀a H Q,dm (dT f) a H Q->tB t a H Q:=λa H Q ⟨F,c,d,K,S,q,k⟩↦h a H _ ⟨F,c,d,_,S,q,λx e g v o i p j l m=>by
  let⟨b,rfl,n⟩:=rA m g
  calc⟨b,Y,k _ _ n _ _ _ j l⟩⟩
theorem Tc(d:X.A.units+64<cLine)(a:JE X i (tD fi))(b:JE X o (tD fo))(c:‹behindInMarks .In o=ι›):JT X (.Compare i [.In] [o] pos) (dm (dT (oe ι fi fo))) :=
 (yg (PT ⋯ a b) c).weak (Tb (Ta (tI (tD fi) (tD fo)) λe H Q h=>by erw[q6D] at h;calc h))
theorem Td[cj]{b}(hu:X.A.units+64<cLine)(C:JE X o (tD fo))(E:JE X i (tD fi))(G:JE X v (tD fv))(I:‹swapsWith v (ζ (.Subscript o i b)) pos.line X.env=pure ι›):JS X (.Assign [.Subscript o i b] v pos) (dc (I_ fv fo fi)) :=
 (PU ⋯ C E G I).weak λD σ H ⟨F,J,L,K,S,q,k⟩↦⟨F,J,L,_,S,q,λz c M w N e H1 O P Q=>⟨N,e,c,_,P,M,λx f R u T g H2 m U V=>⟨T,g,f,_,U,R,λy W Y t F3 Z H3 h S3 V3=>by
  let⟨d,δ4,F4,h4,n,j,i4⟩:33:=tQ S3 ((Q.ext m).ext h) Y;let⟨i,rfl,h5⟩:=I0 V3 h4;let⟨k0,B,kvs,a,ws,rfl,h6,rfl,p,e2,r,s,l⟩:57:=IZ j ((V.ext h).ext n) h5;let oi:=l  (us:=putK ws (.inl i) w) (r.put i4)
  calc(zI2 a _ ⟨rfl,la.k e2 (qd (by rw[↑r];symm)),k.nx _ h6.2 _ _ _ _ ((((O.trans m).trans h).trans n).trans (Ext.put j s p)) (j.put s p oi)⟩)⟩⟩⟩
end
end L2
namespace LJ
open PySem L2
variable[zt:aM]
theorem Te{kvs:-(Key×D)}{k l d}(h:du kvs k=η):du (putD kvs k d) l=if l=k then ζ d else du kvs l:=by
 let b:(kvs.any λa=>μ (a.1=k))=ι:=by
  cases q:kvs.any λa=>μ (a.1=k) with
  |false=>rfl
  |true =>
   let⟨a,f,g⟩:=q5Y.mp q;unfold du at h;rw[Option.map_eq_none_iff] at h;exact absurd g (q3g.mp h a f)
 unfold putD;rw[b,Zx ZS];unfold du;rw[List.find?_append]
 cases q:kvs.find? λa=>μ (a.1=l) with
 |some a =>
  let e:=q3_ q;let e:=by simpa using e
  rw[Zx]
  .rfl
  .ext z
   subst z;let:=q1g.mp b a (q3A q);exact this e⁻¹
 |none =>
  by_cases c:l=k
  .subst c
   simp
  .rw[Zx c]
   simp[show ¬ k=l fromλz=>c z.symm]
theorem Tf{kvs:-(Key×D)}{k d}:↑(putD kvs k d)<=↑kvs+1:=by
 unfold putD;split
 .rw[qa];symm
 .simp
inductive Bo (ys:-DV) (aW:-OV) (K:RV->-OV->Prop):Prop
 |mk (m:Int) (ws:-(Int×Int×Int)) (ns:-Int) (q:fG m ws) (q:Nums ws ns) (q:ns.Nodup) (q:ns.length<=900) (q:ys=[.p (aN m ws),.p (bV ns)]) (q:aW=[]) (q:K (.p .non) [])
def Ja:WS:=(ar (f7 (au 1 uK (ag (aa 0) af))) (ar (aU (cb (dT (d1 (aa 1) (cn "list")))) me bY) (ar (aK 2 (d2 (dN (ag (d2 (aa 0) (dC (.int 1)) aS) af) bT) (dC (.int 1)) (oI λi j=>.int (i-j)))) (ar (aK 3 Bm) (eo (qt (ag (aa 1) af)) (lq 2 (g4 (bZ 4) (g4 (bZ 5) kF))) (ar (aU (ju (cb (dT (au 3 kN (ag (aa 5) (ag (dC (.int 0)) (ag (aa 2) af)))))) (dT (oe ι (aa 5) (aa 3)))) me bY) (I_ (dC (.bl θ)) (aa 3) (aa 5))))))))
theorem Tg:Sem 2 4 Bo Ja:=by
 ext Q x R-⟨m,f,g,W,y,A,S,rfl,rfl,k⟩;calc aJ λN a=>?_;simp!;calc⟨m,f,W,Y,Y,?_⟩;show N _;subst a;calc aJ λN a=>?_;rw[show bV g=.lst (g.map D.int) from Y];simp![cJ,aZ,q7t];subst a;calc aJ λN a=>?_;simp![cG,aN];subst a;calc aJ λN a=>?_;simp![Bm];subst a
 let F:∀(j:Nat) d,(nC 0 (g.map D.int))[j]?=ζ d->∃n:Int,g[j]?=ζ n/\d=D.tup [.int j,.int n]:=λj d B=>by
  let⟨e,u,C⟩:11:=v9 B;rw[OS] at u;let⟨n,E,rfl⟩:=YE.mp u;exact⟨n,E,by rw[C,q0p]⟩
 refine kK (λi s=>∃kvs:-(Key×D),↑kvs<=i/\(∀n ,(du kvs (.inl n)).isSome=μ (n∈g.take i))/\s=⟨[ζ (.p (.tup [.int m,.tup (f.map aV)])),ζ (.p (.lst (g.map D.int))),ζ (.p (.int (↑f-1))),ζ (.o 0),η,η],[ζ (.dct kvs)]⟩) ?_ ?_ ?_
 .refine⟨[],tm _,λn=>by simp[du],?_⟩
  erw[qa]
 .ext j d s L G h H;let⟨kvs,T,v,rfl⟩:12:=h
  let⟨n,b,rfl⟩:=F j d G;let⟨I,U⟩:=y n (ZZ b);let V:=(ri.mp b).1
  let t:(du kvs (.inl n)).isSome=ι:=by
   rw[v n];calc YC λJ=>?_;let⟨i,K,w⟩:=q0M.mp J;rw[ZH] at K;rw[q5F] at w;let M:=(ri.mp b).2;let:=(q2X   A).mp (w.trans M.symm);symm
  let O:du kvs (.inl n)=η:=by
   cases q:du kvs (.inl n) with
   |none=>rfl
   |some d=>rw[q] at t;cases t
  let P:dE (.int n) 0 (↑f-1)=θ:=by
   show(μ (0<=n)&&μ (n<=↑f-1))=θ;rw[OR I,OR ⋯];rfl
  calc⟨trivial,?_⟩;erw[lq,g4,kF,bZ,iF,q0l,q0m,Ge,q1j];calc⟨trivial,aJ λN a=>?_⟩;simp!;calc⟨.int n,0,↑f-1,Y,Y,?_⟩;simp![P,oe,lM,lK,t,q6D];subst a;refine⟨⋯,H _ ⟨putD kvs (.inl n) (.bl θ),?_,λl=>?_,?_⟩⟩
  .let:=Tf (kvs:=kvs) (k:=.inl n) (d:=.bl θ);symm
  .rw[Te O,q1u,b]
   by_cases c:l=n
   .subst c
    rw[ZF Y];exact(OR (by simp)).symm
   .rw[Zx (λz=>c (q8h z)),v l]
    simp[c]
  .simp!
 .ext s r;let⟨kvs,_,_,rfl⟩:12:=r
  calc⟨trivial,cA k⟩
end LJ
namespace L2
open PySem PySem.Spec PyProof.Rows PySem.W
section
open PySem.SeqAt
open PySem.AutoSeq1 (wpAny_loadPart')
open PySem.MeetsSeq PySem.MeetsSeq2 PySem.MeetsSeq3
end
section
variable{prog:ψ}{w:ω}{A:Β}{E:br}{s:ο}{Q:Bool->ο->Prop}
end
section
variable[zt:aM]{X:Cx}
end
end L2
namespace LJ
open PySem L2
variable[zt:aM]
end LJ
namespace L2
open PySem
variable[zt:aM]
section
variable{F F' H H':Hp}{ad bL:-O}{δ δ':aO}{σ σ':St}
end
section
variable{X:Cx}{Y0 Y1 Y2 Y3:χ}{i n:Nat}{G:GD}{fa:WA}{t:WT}{B:TS}{E:XK}
end
end L2
namespace LJ
open PySem L2
section
variable[zt:aM]
end
section
abbrev Wy:=Int×Int×Int
section
variable{S S':Wy->Prop}{a b c:Int}
end
variable[zt:aM]
theorem Bp:∀us:-Int,bo (us.map D.int)=0
 |[]=>by simp[bo]
 |u::r=>by rw[ZW];erw[bo,dep];rw[Bp r];rfl
inductive Bq (ys:-DV) (aW:-OV) (K:RV->-OV->Prop):Prop
 |mk (m:Int) (ws:-(Int×Int×Int)) (ns:-Int) (q:fG m ws) (q:Nums ws ns) (q:ns.Nodup) (q:ns.length<=900) (q:ys=[.p (aN m ws),.p (bV ns)]) (q:aW=[]) (q:K (.p (.int (ns.map λn=>(ws.getD n.toNat (0,0,0)).2.2).sum)) [])
def Jb:WS:=(ar (f7 (au 2 Bo (ag (aa 0) (ag (aa 1) af)))) (aB (dN (ag (gC (cN (aa 1)) [η,ζ 0] (bZ 0) fz (d2 (d2 (d2 (aa 1) (dC (.int 1)) aS) (aa 0) aS) (dC (.int 2)) aS)) af) nG)))
theorem Th:Sem 2 0 Bq Jb:=by
 ext z o A-⟨m,b,c,W,f,p,q,rfl,rfl,k⟩;calc aJ λN r=>?_;simp!;calc⟨m,b,c,W,f,p,q,Y,Y,?_⟩;subst r
 refine lu (λd=>match d with
  |.int n=>.int (b.getD n.toNat (0,0,0)).2.2
  |_=>.non) (by rw[qa];symm) trivial ?_ ?_
 .ext d s t L u h
  let⟨n,a,rfl⟩:=ZI.mp s;let⟨g,i⟩:=f n a;let⟨y,j,l,v,_⟩:13:=nX W g i;simp![cG,at2,aN,v,aV];erw[j] at h;exact⟨u,h⟩
 .let e:intsOf ((c.map D.int).map λd=>match d with
   |.int n=>D.int (b.getD n.toNat (0,0,0)).2.2
   |_=>.non)=ζ (c.map λn=>(b.getD n.toNat (0,0,0)).2.2):=by
   rw[Z7];let:=ud (c.map λn=>(b.getD n.toNat (0,0,0)).2.2);rw[Z7] at this;exact this
  simp![nG,e];calc⟨⟨λx w=>?_,⋯⟩,cA k⟩;let⟨n,a,rfl⟩:=ZI.mp w;let⟨g,i⟩:=f n a;let⟨y,j,l,_⟩:12:=nX W g i;rw[j];calc⟨(W.ends y l).2.2.2.1,(W.ends y l).2.2.2.2⟩
end
end LJ
namespace PySem
open Sem (wp)
structure ZG(z TI TO i j:O)(fp gp:-O):Prop where
 a1:TI≠z
 a2:TO≠z
 a3:i≠z
 a4:j≠z
 a5:TI≠TO
 a6:TI≠i
 a7:TI≠j
 a8:TO≠i
 a9:TO≠j
 b1:i≠j
 f1:z∉fp
 f2:TO∉fp
 f3:j∉fp
 g1:z∉gp
 g2:TO∉gp
 g3:i∉gp
theorem bk{a h h'}(c:q1T a h h'){b o}(n:b≠a)(e:h.get? b=ζ o):h'.get? b=ζ o:=(c.2 b n).trans e
section
variable{prog:ψ}{w:ω}{A:Β}{E:br}{s:ο}{z TI TO i j:O}{fp gp:-O}{n m k:Nat}{P P':Nat->ν->Prop}{St lN:Nat->Α->Prop}{a b:ν}
theorem Ti{Q:br}(D:Draws prog w A i fp n P St)(r:Draws prog w A j gp m P' lN)(Z:ZG z TI TO i j fp gp)
  (hz:IsZip s.heap z TI TO .none) (Y:IsPair s.heap TI (.ref i) (.ref j)) (hO:IsPair s.heap TO a b) (st:St k s.heap) (F:lN k s.heap) (hk:k<n) (G:k<m)
  (hQ:∀x y h' tk,P k x->P' k y->IsZip h' z TI TO (rawInt ⇑s)->IsPair h' TO x y->St (k+1) h'->lN (k+1) h'->IsPair h' ⇑s x y →
   (∀c o,c≠z->c≠TO->c≠i->c≠j->s.heap.get? c=ζ o->h'.get? c=ζ o)->Q (.ref ⇑s) {s with heap:=h',toks:=tk}) :
  ρ (ς prog w) A (Builtin.«zip.__next__» ⟨[.ref z],[]⟩) (λH s'=>∃v,H=.done (.ret v)/\Q v s') E s:=by
 show ρ _ _ (field (.ref z) 2 >>= _) _ _ _;calc nh (q0r hz rfl (x:=.bool ι) rfl ?_);show ρ _ _ (field (.ref z) 3 >>= _) _ _ _;calc nh (q0r hz rfl (x:=.ref TI) rfl (nh (q01 Y rfl ?_)));show ρ _ _ (q1q (.ref z) >>= _) _ _ _;calc nh ?_;calc nh (q0r hz rfl  rfl (y9 (nh (q34 (nh (q0r hz rfl  rfl (nh (q1v hz (by simp) λk1 z1 g=>nh (nh (nh (q23 (nh (D.item k {s with heap:=k1} _ _ hk (D.frame k _ _ st λc d o e=>bk g (λy=>Z.f1 (y▸d)) e) λx k2 t2 px I h=>y9 ?_)))))))))))));let N:=bk h Z.a8 (bk g Z.a2 hO);refine nh (q01 N rfl (nh (q26 N λk3 o3 l=>nh (q4D (y9 (nh (nh (q23 (nh (r.item k {s with heap:=k3,toks:=t2} _ _ G (r.frame k _ _ F λc d o e=>bk l (λy=>Z.g2 (y▸d)) (bk h (λy=>Z.g3 (y▸d)) (bk g (λy=>Z.g1 (y▸d)) e))) λy k4 t4 py J p=>y9 ?_))))))))))
 let O:=bk p Z.a9 o3;calc nh (q01 O rfl (nh (q26 O λK t q=>?_)));let t:IsPair K TO x y:=t;calc nh (q4D (y9 (y9 (nh (q01 t rfl (nh (q6C ?_)))))));let R:K.objs.size=⇑s:=by rw[q.1,p.1,l.1,h.1,g.1]
 let S:=bk q Z.a2.symm (bk p Z.a4.symm (bk l Z.a2.symm (bk h Z.a3.symm z1)));let T:=OP S;calc nh (nh (q1v (qc _ S) (by simp) λk7 z7 U=>?_));calc q1v z7 (by simp) λV u W=>?_;let u:=u;let B:∀c o,c≠z->K.get? c=ζ o->V.get? c=ζ o:=λc o f e=>bk W f (bk U f (qc _ e));let X:=bk W (q1d T) (bk U (q1d T) (YA _ rfl));rw[R] at u X;calc y9 ⟨_,rfl,?_⟩;rw[R];calc hQ x y V t4 px py u (B _ _ Z.a2 t) (D.frame _ _ _ (D.frame _ _ _ (D.frame _ _ _ I λc d o e=>bk l (λy=>Z.f2 (y▸d)) e) λc d o e=>bk q (λy=>Z.f2 (y▸d)) (bk p (λy=>Z.f3 (y▸d)) e)) λc d o e=>B c o (λy=>Z.f1 (y▸d)) e) (r.frame _ _ _ (r.frame _ _ _ J λc d o e=>bk q (λy=>Z.g2 (y▸d)) e) λc d o e=>B c o (λy=>Z.g1 (y▸d)) e) X λc o f C L M e=>B c o f ((λc o f C L M e=>bk q C (bk p M (bk l C (bk h L (bk g f e))))) c o f C L M e)
theorem Tj{Q:Fin->ο->Prop}(D:Draws prog w A i fp n P St)(K:Draws prog w A j gp m P' lN)(Z:ZG z TI TO i j fp gp)
  (hz:IsZip s.heap z TI TO .none) (T:IsPair s.heap TI (.ref i) (.ref j)) (U:IsPair s.heap TO a b) (st:St k s.heap) (B:lN k s.heap) (C:k=n\/(k<n/\k=m))
  (L:∀h' e tk,(∀c o,c≠z->c≠TO->c≠i->c≠j->s.heap.get? c=ζ o->h'.get? c=ζ o)->(∃o,h'.get? e=ζ o/\o.cls=.type "StopIteration")->E (.ref e) {s with heap:=h',toks:=tk}) :
  ρ (ς prog w) A (Builtin.«zip.__next__» ⟨[.ref z],[]⟩) Q E s:=by
 show ρ _ _ (field (.ref z) 2 >>= _) _ _ _;calc nh (q0r hz rfl (x:=.bool ι) rfl ?_);show ρ _ _ (field (.ref z) 3 >>= _) _ _ _;calc nh (q0r hz rfl (x:=.ref TI) rfl (nh (q01 T rfl ?_)));show ρ _ _ (q1q (.ref z) >>= _) _ _ _;calc nh ?_;unfold q1q;calc nh (q0r hz rfl (x:=.none) rfl (y9 ?_));erw[q1S];calc nh (q34 (nh (q0r hz rfl (x:=.ref TO) rfl (nh (q1v hz (by simp) λt u l=>?_)))));let u:IsZip t z TI TO .ellipsis:=u;calc nh ?_;erw[List.zipIdx_cons,List.zipIdx_nil,q6a,List.forIn_nil];calc nh (nh (q23 ?_));show ρ _ _ (q1x (.ref i) >>= _) _ _ _
 let p:St k t:=D.frame k _ _ st λc d o e=>bk l (λy=>Z.f1 (y▸d)) e;rcases C with rfl|⟨C,rfl⟩
 .refine nh (D.done {s with heap:=t} _ _ p λF e f G=>?_)
  let⟨H,g,d⟩:=G;let M:IsZip F z TI TO .ellipsis:=f _ _ Z.a3.symm u;let I:e≠z:=λx=>by subst x;rw[M] at g;cases g;simp at d
  exact q1v M (by simp) λv _ h=>L v e _ (λc o q _ J _ x=>bk h q (f _ _ J (bk l q x))) ⟨H,bk h I g,d⟩
 .refine nh (D.item k {s with heap:=t} _ _ C p λx F V px W f=>y9 ?_)
  let N:IsPair F TO a b:=bk f Z.a8 (bk l Z.a2 U);calc nh (q01 N rfl (nh (q26 N λv o3 h=>?_)));calc nh (q4D (y9 (nh (nh (q23 ?_)))));show ρ _ _ (q1x (.ref j) >>= _) _ _ _;let r:lN k v:=K.frame k _ _ B λc d o e=>bk h (λy=>Z.g2 (y▸d)) (bk f (λy=>Z.g3 (y▸d)) (bk l (λy=>Z.g1 (y▸d)) e));calc nh (K.done {s with heap:=v,toks:=V} _ _ r λX e O G=>?_);let⟨H,g,d⟩:=G;let R:IsZip X z TI TO .ellipsis:=O _ _ Z.a4.symm (bk h Z.a2.symm (bk f Z.a3.symm u));let I:e≠z:=λx=>by subst x;rw[R] at g;cases g;simp at d
  calc q1v R (by simp) λY _ S=>L Y e _ (λc o q c2 J c4 x=>bk S q (O _ _ c4 (bk h c2 (bk f J (bk l q x))))) ⟨H,bk S I g,d⟩
theorem Tn{Q:Option ν->ο->Prop}(D:Draws prog w A.in1 i fp n P St)(g:Draws prog w A.in1 j gp m P' lN)(Z:ZG z TI TO i j fp gp)
  (hz:IsZip s.heap z TI TO .none) (h:IsPair s.heap TI (.ref i) (.ref j)) (l:IsPair s.heap TO a b) (st:St k s.heap) (d:lN k s.heap) (p:k<n) (e:k<m)
  (t:∀x y h' tk,P k x->P' k y->IsZip h' z TI TO (rawInt ⇑s)->IsPair h' TO x y->St (k+1) h'->lN (k+1) h'->IsPair h' ⇑s x y →
   (∀c o,c≠z->c≠TO->c≠i->c≠j->s.heap.get? c=ζ o->h'.get? c=ζ o)->Q (ζ (.ref ⇑s)) {s with heap:=h',toks:=tk}):ρ (ς prog w) A (pyNext (.ref z)) Q E s:=by
 let f:s.TypeIs (.ref z) "zip" := ⟨_,hz,Y⟩;calc nh (q22 (q0L  f q3b (q1r q3b f q5Z (Ti D g Z hz h l st d p e λx y q r u v B C G H I J=>y9 (t x y q r u v B C G H I J)) (q5J _))))
theorem To{Q:Option ν->ο->Prop}(D:Draws prog w A.in1 i fp n P St)(g:Draws prog w A.in1 j gp m P' lN)(Z:ZG z TI TO i j fp gp)
  (hz:IsZip s.heap z TI TO .none) (h:IsPair s.heap TI (.ref i) (.ref j)) (l:IsPair s.heap TO a b) (st:St k s.heap) (d:lN k s.heap) (p:k=n\/(k<n/\k=m))
  (q:∀h' tk,(∀c o,c≠z->c≠TO->c≠i->c≠j->s.heap.get? c=ζ o->h'.get? c=ζ o)->Q η {s with heap:=h',toks:=tk}):ρ (ς prog w) A (pyNext (.ref z)) Q E s:=by
 let f:s.TypeIs (.ref z) "zip" := ⟨_,hz,Y⟩;calc nh (q22 (q0L  f q3b (q1r q3b f q5Z (Tj D g Z hz h l st d p λx e y r t=>?_) (q5J _))));let⟨o,u,v⟩:=t;calc nh (wpAny_isInstance   ⟨o,u,v⟩ isSubtype_stop (y9 (q _ _ r)))
end
def et(h:Α)(t:Bool)(l:O)(xs:Array ν):Prop:=match t with
 |true=>h.IsTuple l xs
 |false=>h.IsList l xs
meta abbrev kh(t:Bool)(l:O)(k:Nat):Obj:={cls:=.type (match t with|true=>"tuple_iterator" | false=>"list_iterator"),data:=.fields #[.ref l,.int k 0]}
def fQ(h:Α)(t:Bool)(a l:O)(k:Nat):Prop:=match t with
 |true=>h.IsTupleIter a l k
 |false=>h.IsListIter a l k
theorem et.lt{h t l xs}(x:et h t l xs):l<h.objs.size:=by
 cases t<;>(let⟨o,e,_⟩:11:=x;calc OP e)
theorem et.at{h h' t l xs}(x:et h t l xs)(k:∀o,h.get? l=ζ o->h'.get? l=ζ o):et h' t l xs:=by
 cases t with
 |true=>exact Heap.IsTuple.at x k
 |false=>calc Heap.IsList.at x k
theorem fQ.at{h h' t i l n}(x:fQ h t i l n)(k:∀o,h.get? i=ζ o->h'.get? i=ζ o):fQ h' t i l n:=by
 cases t with
 |true=>exact Heap.IsTupleIter.at x k
 |false=>calc Heap.IsListIter.at x k
theorem fQ.obj{h t i l n}(x:fQ h t i l n):∃o,h.get? i=ζ o/\∀v,o.data≠.cell v:=by
 cases t<;>(let⟨o,e,_,d⟩:12:=x;calc⟨o,e,λv z=>by rw[d] at z;cases z⟩)
theorem fQ.new{h t i l}(e:h.get? i=ζ (kh t l 0)):fQ h t i l 0:=by
 cases t<;>calc⟨_,e,Y,Y⟩
section
variable{prog:ψ}{w:ω}{A:Β}{E:br}{s:ο}
theorem wX(c:A.handled=η) t a l (b:l≠a) items:Draws prog w A a [a,l] items.size (λi v=>items[i]?=ζ v) (λi h=>fQ h t a l i/\et h t l items):=by
 cases t
 .exact Draws.list c a l b items
 .calc zO c a l b items
theorem Jc{t l xs}{Q:br}(a:et s.heap t l xs)(h:Q (.ref ⇑s) {s with heap:=s.heap.push (kh t l 0)}):ρ (ς prog w) A (pyIter (.ref l)) Q E s:=by
 cases t
 .exact q1D a h
 .calc q1V a h
end
meta abbrev wY(h:Α)(t:Bool)(l:O):Α:=h.push (kh t l 0)
meta abbrev wZ(h:Α)(t u:Bool)(l m:O):Α:=(wY h t l).push (kh u m 0)
meta abbrev w4(h:Α)(t u:Bool)(l m:O):Α:=(wZ h t u l m).push {cls:=.type "tuple",data:=.seq #[.ref h.objs.size,.ref (wY h t l).objs.size]}
meta abbrev w5(h:Α)(t u:Bool)(l m:O):Α:=(w4 h t u l m).push {cls:=.type "tuple",data:=.seq #[.none,.none]}
meta abbrev uN(h:Α)(t u:Bool)(l m:O):Α:=(w5 h t u l m).push {cls:=.type "zip",data:=.fields #[.none,.bool ι,.bool ι,.ref (wZ h t u l m).objs.size,.ref (w4 h t u l m).objs.size]}
theorem Tp(t u:Bool)(l m:O)(xs ys:Array ν):
  Meets (Builtin.«zip.__new__» ⟨[.type "zip",.ref l,.ref m],[]⟩) (λ_ R s=>et s.heap t l xs/\et s.heap u m ys/\R (.ok (.ret (.ref (w5 s.heap t u l m).objs.size))) {s with heap:=uN s.heap t u l m}) :=
 .of_wp λa w A R s h=>by
  let⟨b,g,d,c,f⟩:=s;let⟨j,k,h⟩:02:=h;let i:=sub_zip;let n:et (q55 ⟨b,g,d,c,f⟩) t l xs:=j;let p:et (q55 ⟨b.push (kh t l 0),g,d,c,f⟩) u m ys:=et.at k λo e=>qc _ e
  wp_walk using Jc n,Jc p
  calc⟨_,Y,h⟩
section
variable{prog:ψ}{w:ω}{A:Β}{E:br}{s:ο}
theorem Tq{t u:Bool}{l m:O}{xs ys:Array ν}{Q:br}(n:et s.heap t l xs)(p:et s.heap u m ys)
  (h:∀h',IsZip h' (⇑s+4) (⇑s+2) (⇑s+3) .none->IsPair h' (⇑s+2) (.ref ⇑s) (.ref (⇑s+1)) →
   IsPair h' (⇑s+3) .none .none->fQ h' t ⇑s l 0->fQ h' u (⇑s+1) m 0->(∀c o,s.heap.get? c=ζ o->h'.get? c=ζ o)->Q (.ref (⇑s+4)) {s with heap:=h'}) :
  ρ (ς prog w) A (call (.type "zip") [.ref l,.ref m]) Q E s:=by
 calc callType_new F.called_zip (by decide) (F.typeCall_zip_2 _ _) (F.newCall_zip_2 _ _) (λa=>F.args_object_init_3 a _ _) F.entry_zip_new (Tp t u l m xs ys) ⟨n,p,?_⟩;let b:(wY s.heap t l).objs.size=⇑s+1:=q0z ..;let d:(wZ s.heap t u l m).objs.size=⇑s+2:=by rw[q0z,b]
 let e:(w4 s.heap t u l m).objs.size=⇑s+3:=by rw[q0z,d]
 let g:(w5 s.heap t u l m).objs.size=⇑s+4:=by rw[q0z,e]
 let f:(uN s.heap t u l m).get? (w5 s.heap t u l m).objs.size=ζ _:=YA _ Y;let i:(uN s.heap t u l m).get? (w4 s.heap t u l m).objs.size=ζ _:=qc _ (YA _ Y);let j:(uN s.heap t u l m).get? (wZ s.heap t u l m).objs.size=ζ _:=qc _ (qc _ (YA _ Y));let k:(uN s.heap t u l m).get? (wY s.heap t l).objs.size=ζ (kh u m 0):=qc _ (qc _ (qc _ (YA _ Y)));rw[d,e,g] at f;rw[b,d] at j;rw[e] at i;rw[b] at k;rw[g];calc⟨⟨_,f,Y⟩,h _ f j i (.new (qc _ (qc _ (qc _ (qc _ (YA _ Y)))))) (.new k) λc o x=>qc _ (qc _ (qc _ (qc _ (qc _ x))))⟩
end
end PySem
namespace L2
open PySem PySem.Spec PyProof.Rows
def ki(K:vL)(H:Hp)(t:Bool)(a:O)(xs:-V):Prop:=match t with
 |true=>b9 K H a xs
 |false=>bG K H a xs
section
variable{X:Cx}{pins:aF}{σ:St}{H:Hp}{s:ο}
theorem Inv.sq{t:Bool}{a:O}{xs:-V}(I:Inv X pins σ H s)(h:ki X.K H t a xs):∃b:-ν,Vals xs b/\et s.heap t a b.toArray:=by
 cases t
 .let⟨b,r,p,_⟩:12:=I.list h;exact⟨b,r,p.isList⟩
 .let⟨b,r,⟨o,c,d,n,e⟩,_⟩:12:=I.tuple h;calc⟨b,r,o,c,d,n,e⟩
theorem Inv.lO{t:Bool}{a:O}{xs ys:-V}(I:Inv X pins σ H s)(h:ki X.K H t a xs)(h':ki X.K H t a ys):xs=ys:=by
 cases t
 .exact I.fY h h'
 .calc I.fh h h'
end
meta def uO(K:vL)(t u:Bool)(a b:O):It :=
 ⟨λi H=>∃c d x y,ki K H t a c/\ki K H u b d/\c[i]?=ζ x/\d[i]?=ζ y,
  λi H v e=>∃T x y,v=.ref T/\H T=η/\e=upd H T (.tup [x,y])/\(∀c,ki K H t a c->c[i]?=ζ x)/\∀d,ki K H u b d->d[i]?=ζ y,
  λi H=>∃c d,ki K H t a c/\ki K H u b d/\((↑c=i)\/(i<↑c/\↑d=i))⟩
structure Br(t u:Bool)(z TI TO i1 i2 l1 l2:O)(i:Nat)(h:Α):Prop where
 hz:IsZip h z TI TO .none
 Y4:IsPair h TI (.ref i1) (.ref i2)
 Y5:∃x y,IsPair h TO x y
 h1:fQ h t i1 l1 i
 h2:fQ h u i2 l2 i
theorem Tr{P:ψ}{w:ω}{K:vL}{R:-υ}{x1}{tp:Δ}{t u:Bool}{z M S j l N O:ξ}(D:ZG z M S j l [j,N] [l,O])(n1:N≠j)(n2:O≠l):
  Turn P w K (.Tuple R x1 tp) (uO K t u N O) [z,M,S,j,l] z (Br t u z M S j l N O) where
 mem:=by simp
 obj:=λi h m b c=>by
  let⟨n,d,⟨x,y,e⟩,G,J⟩:=m;erw[OQ,ZL,q05] at c;rcases c with rfl|rfl|rfl|rfl|rfl
  .exact⟨_,n,λv z=>by cases z⟩
  .exact⟨_,d,λv z=>by cases z⟩
  .exact⟨_,e,λv z=>by cases z⟩
  .exact G.obj
  .exact J.obj
 keep:=λi h h' m k=>by
  let⟨n,d,⟨x,y,e⟩,G,J⟩:=m;exact⟨k z (by simp) _ n,k M (by simp) _ d,(zI2 x y (k S (by simp) _ e)),G.at λo q=>k j (by simp) o q,J.at λo q=>k l (by simp) o q⟩
 item:=by
  ext X hP hw hK hc i T s σ H E I Y m hg;subst hP hw hK;let⟨n,d,⟨a,b,e⟩,G,J⟩:=id m;let⟨xs,ys,x,y,r,B,Z,U⟩:43:=hg;let⟨L,rv,p⟩:11:=I.sq r;let⟨g,C,p2⟩:=I.sq B;let V:X.A.in1.handled=η:=I.ok.hd hc;calc Tn (wX V t j N n1 L.toArray) (wX V u l O n2 g.toArray) D n d e ⟨G,p⟩ ⟨J,p2⟩ (by rw[Gf,<-↑rv];calc((ri.mp Z).1)) (by rw[Gf,<-↑C];calc((ri.mp U).1)) λcu cv k1 tk pu pv z1 t1 a1 a2 Ts F=>⟨_,rfl,?_⟩;let⟨u',hu,ru⟩:11:=rv.get Z;let⟨v',hv,Tt⟩:=C.get U;let pu:=by simpa using pu
  let pv:=by simpa using pv
  rw[hu] at pu;rw[hv] at pv;obtain rfl:=ZX pu;obtain rfl:=ZX pv;refine wpAny_letOwnedTupleGo_zip z1 λk2 z2 f=>?_
  let Tu:∀b o,b∉[z,M,S,j,l]->s.heap.get? b=ζ o->k2.get? b=ζ o:=λb o c q=>by
   erw[OQ,ZL,q05,not_or] at c;exact(f.2 _ c.1).trans (F b o c.1 c.2.2.1 c.2.2.2.1 c.2.2.2.2 q)
  refine(zI2 (.ref ⇑s) (upd H ⇑s (.tup [x,y])) ⟨I.fZ   Y Tu (tm _) ?_,rfl,(zI3 _ x y ⟨rfl,(I.bc.fresh (tm _)),rfl,λzs U=>by rw[I.lO U r];calc Z,λzs Tv=>by rw[I.lO Tv B];calc U⟩),⟨z2,?_,(zI2 u' v' ((f.2 _ D.a2).trans t1)),a1.1.at λo q=>(f.2 _ D.a3).trans q,a2.1.at λo q=>(f.2 _ D.a4).trans q⟩,λb c=>?_⟩)
  .exact⟨by show 2<=sizeLine;decide,[u',v'],.cons ru (.cons Tt .nil),_,((f.2 _ (q1d (OP n))).trans Ts),rfl,_,rfl⟩
  .exact (f.2 _ D.a1).trans (F M _ D.a1 D.a5 D.a6 D.a7 d)
  .let:b<⇑s:=by
    let⟨o1,q1,_⟩:=G.obj;let⟨o2,q2,_⟩:=J.obj;erw[OQ,ZL,q05] at c;rcases c with rfl|rfl|rfl|rfl|rfl
    .exact OP n
    .exact OP d
    .exact OP e
    .exact OP q1
    .exact OP q2
   rw[aQ (Zy this)];exact(Y b c).1
 done:=by
  ext X hP hw hK hc i T s σ H E I Y m hg;subst hP hw hK;let⟨n,d,⟨a,b,e⟩,G,J⟩:=id m;let⟨xs,ys,r,B,Z⟩:22:=hg;let⟨L,rv,p⟩:=I.sq r;let⟨g,C,p2⟩:=I.sq B;let V:X.A.in1.handled=η:=I.ok.hd hc;let hl:=↑rv;let w6:=↑C;refine To (wX V t j N n1 L.toArray) (wX V u l O n2 g.toArray) D n d e ⟨G,p⟩ ⟨J,p2⟩ ?_ λk1 tk F=>⟨rfl,I.j6   Y λb o c q=>?_⟩
  .rw[Gf,Gf];symm
  .erw[OQ,ZL,q05,not_or] at c
   exact F b o c.1 c.2.2.1 c.2.2.2.1 c.2.2.2.2 q
 self:=λA i s Q E m h=>q50 m.hz h
theorem Tw(n a b:Nat)(c:a<n)(d:b<n):ZG (n+4) (n+2) (n+3) n (n+1) [n,a] [n+1,b]:=by
 constructor<;>first|(show @Ne Nat _ _;symm)|(ext h;erw[OQ,ZL,q05] at h;rcases h with h|h<;>(let h:(_:Nat)=_:=h;symm))
section
variable{X:Cx}{elts:-υ}{x1:Nat}{tp:Δ}
def Tx(K:vL)(ta:TA):TI:=λd H R=>ta d H λe c=>∃a b t u,e=[.ref a,.ref b]/\(∃f,ki K c t a f)/\(∃g,ki K c u b g)/\R (uO K t u a b) c
theorem Tz{a b:υ}{ta:TA}{p pos:Δ}(E:Gl X "zip")(F:X.mg "zip" = η)(G:JA X [a,b] ta)(J:‹starEach [a,b] X.env=[(ι,eval a X.env),(ι,eval b X.env)]›)(d:‹starEach [b] X.env=[(ι,eval b X.env)]›):
  JI X (.Tuple elts x1 tp) (.Call (.Name "zip" p) [a,b] [] pos) (Tx X.K ta):=by
 calc⟨λc s w H R I h=>Call_ (mT I E F O_ (q0J (bu (G pos c s w H _ I h) λY i ⟨Z,x,f,L,M⟩=>?_) (by rw[J,d]) (by rw[d];rfl)))⟩;let⟨N,O,t,u,e,⟨xs,j⟩,⟨ys,k⟩,q⟩:43:=M;subst e
 cases L with
 |cons r P =>
  cases P with
  |cons Q l =>
   cases l
   cases r
   cases Q
   let⟨S,rv,p⟩:=f.sq j;let⟨y,T,z⟩:=f.sq k;let A:=p.lt;let B:=z.lt;calc Tq p z λU C m n o v V=>?_;let W:Inv X c w x {i with heap:=U}:=f.kept  V;refine q50 C ((zI5 _ _ _ _ x ⟨rfl,W,Tr (Tw ⇑i N O A B) (Zy A) (Zy (q0I B)),⟨C,m,(zI2 _ _ n),o,v⟩,λb D=>?_,q⟩))
   let g:⇑i<=b:=by
    erw[OQ,ZL,q05] at D;rcases D with rfl|rfl|rfl|rfl|rfl
    .omega
    .omega
    .omega
    .exact tm _
    .omega
   calc f.iL g (f.bc.fresh g)
end
section
variable[zt:aM]{X:Cx}{a b:υ}{fa:WA}
def w9(c:WA):WI:=λd K=>c d λe a=>match e with
 |[x,y]=>oN x a λi=>oN y a λj=>K ⟨dZ i.items j.items,λb=>i.ft b/\j.ft b⟩ a
 |_=>False
theorem Jd{F H:Hp}{i:-O}{y:aO}{B:St}{x:DV}{v:V}{z:vL}{K:rD->Prop}(S:SR F i y B H)(C:dB F i x v)(h:oN x y K):∃a g t,v=.ref a/\K g/\(∃xs,ki z H t a xs) ∧
  ∀(F':Hp)(b:-O)(c:aO)(d:St)(H':Hp),aI F F'->(∀(k:Nat)(a:O),i[k]?=ζ a->b[k]?=ζ a)->SR F' b c d H'->g.ft c->∃ws,ki z H' t a ws/\aq F' g.items ws:=by
 let⟨a,g,e,A,r⟩:22:=zT S C h;rcases r with⟨⟨n,o⟩,r⟩|⟨⟨n,o⟩,r⟩
 .exact⟨a,g,ι,e,A,⟨n,bG.of o⟩,λj b c d l s f p q=>let⟨m,u,w⟩:=r j b c d l s f p q;⟨m,bG.of u,w⟩⟩
 .calc⟨a,g,θ,e,A,⟨n,b9.of o⟩,λj b c d l s f p q=>let⟨m,u,w⟩:=r j b c d l s f p q;⟨m,b9.of u,w⟩⟩
theorem TB{g:-υ}{x1:Nat}{tp p pos:Δ}(hg:Gl X "zip")(hm:X.mg "zip" = η)(ha:JA X [a,b] (b_ fa))(hs:‹starEach [a,b] X.env=[(ι,eval a X.env),(ι,eval b X.env)]›)(c:‹starEach [b] X.env=[(ι,eval b X.env)]›):
  JI X (.Tuple g x1 tp) (.Call (.Name "zip" p) [a,b] [] pos) (jQ (w9 fa)):=(Tz hg hm ha hs c).weak fun σ H R ⟨F,ad,δ,K,S,q,k⟩=>⟨F,ad,δ,_,S,q,λxs δ1 f vs F1 ml H1 E1 o V1=>by
 match xs,f,V1 with
 |[x,y],z,⟨v,r,e,W1,w,r2,n,W2,W3⟩ =>
  subst e n W3;let⟨a,it,t,rfl,A,B,r⟩:=Jd  o W1 z;let⟨b,jt,u,rfl,hk,c,r'⟩:=Jd  o W2 A;calc(zI4 a b t u ⟨rfl,B,c,k _ _ hk _ _ _ _ E1 o λO h j l P s m C Q=>?_⟩);let⟨D,E,n⟩:=r O h j l P s m C Q.1;let⟨G,I,U⟩:=r' O h j l P s m C Q.2;refine⟨(zI2 D G ⟨E,I,?_⟩),λi d ed=>?_⟩
  .rw[↑n,↑U,v_];symm
  .let⟨d1,d2,J,L,rfl⟩:22:=Hd ed
   let⟨w1,V,z⟩:=nD n J;let⟨w2,W,g2⟩:=nD U L;calc⟨(zI4 D G w1 w2 ⟨E,I,V,W⟩),?_⟩;ext y tL ⟨T,v1,v2,ey,Y,eh,M,N⟩;subst eh ey;let Z:=M D E;let q2:=N G I;rw[V] at Z;cases Z;rw[W] at q2;cases q2;exact⟨cK Y,zU C.sub Y z g2⟩
 |[],f,_=>exact f.elim
 |[_],f,_=>exact f.elim
 |_::_::_::_,f,_=>calc f.elim⟩
end
end L2
namespace LJ
open PySem L2
variable[zt:aM]
theorem Je{ds:-D}{t:Nat}(h:t<=↑ds):cutD ds (ζ (t:Int)) η=ds.drop t:=by
 unfold cutD;rw[HT.m9 ↑ds 0 t,HT.vF,q4g h,Z_ (by rw[q0j];symm)]
theorem Jf{ds:-D}{t:Nat}(h:t<=↑ds):cutD ds η (ζ (t:Int))=ds.take t:=by
 unfold cutD;rw[HT.vF,HT.m9 ↑ds ↑ds t,q4g h,q1L,q2C]
theorem Bs(y:Wy):cutD [D.int y.1,D.int y.2.1,D.int y.2.2] η (ζ 2)=[D.int y.1,D.int y.2.1]:=rfl
theorem w_(ws:-Wy):bo (ws.map aV)<=55:=by
 let:∀a:-Wy,bo (a.map aV)<=2:=λa=>by
  induction a with
  |nil=>simp[bo]
  |cons n r b=>erw[ZW,bo,dep,aV];symm
 let:=this ws;symm
end LJ
namespace L2
open PySem PySem.Spec PyProof.Rows
variable[zt:aM]
inductive RK where
 |p (d:D)|w (a:O)|n (ds:-D)|u (t:Bool) (fs:-FV)
abbrev GK:=-DV->-OV->(RK->-OV->-OV->Prop)->Prop
def qF(F' H H':Hp)(e:-O)(f:-(Option OV))(v:V):RK->Prop
 |.p d=>Is F' d v
 |.w a=>v=.ref a
 |.u t g=>∃b c,v=.ref b/\F' b=ζ (tK t c)/\jo F' g c
 |.n h=>∃b c,v=.ref b/\H b=η/\H' b=ζ (.lst c)/\F' b=η/\aq F' h c/\¬ Lv e f b
structure uP(F:Hp)(ad:-O)(aW:-OV)(H:Hp)(r:RK)(ows news:-OV)(v:V)(F':Hp)(bL:-O)(H':Hp):Prop where
 ext:Ext F ad (aW.map ζ) H F' bL ((ows++news).map ζ) H'
 sr:SR F' bL ⟨[],(ows++news).map ζ⟩ [] H'
 len:↑ows=↑aW
 res:qF F' H H' bL ((ows++news).map ζ) v r
inductive kQ (G:GK) (n:Nat) (vs:-V) (H:Hp) (Q:VK) (q:XK):Prop
 |mk (hl:↑vs=n) (F:Hp) (ad:-O) (ys:-DV) (aW:-OV) (K:RK->-OV->-OV->Prop) (S:SR F ad ⟨ys.map ζ,aW.map ζ⟩ (vs.map ζ) H) (g:G ys aW K) (k:∀r ows news,K r ows news->∀v F' bL H',uP F ad aW H r ows news v F' bL H'->Q v H')
def oh(n:Nat)(K:RK->-OV->-OV->Prop)(x:DV)(e:aO):Prop:=∃c b f,e.mu=(c++b).map ζ++f/\↑c=n/\match x with
 |.p d=>K (.p d) c b
 |.w a=>K (.w a) c b
 |.u t g=>K (.u t g) c b
 |.o k=>↑(c++b)<=k/\match e.mu[k]? with
  |some (some (.lst h))=>K (.n h) c b
  |_=>False
 |.t _ _=>False
meta def ai(n:Nat)(K:RK->-OV->-OV->Prop):KS where
 nx:=oh n K (.p .non)
 rt:=oh n K
section
variable{F F' H H':Hp}{ad bL:-O}{σ σ':St}{δ:aO}{mu fm:-(Option OV)}
theorem rT{c:Type}{l:-c}{n k a}(e:(l.take n)[k]?=ζ a):k<n/\l[k]?=ζ a:=by
 let b:k<n:=by
  let:=(ri.mp e).1;rw[ZH] at this;symm
 rw[Z2 b] at e;calc⟨b,e⟩
theorem SR.cut m (S:SR F ad δ σ H):SR F (ad.take m) ⟨[],δ.mu.take m⟩ [] H:=by
 refine⟨S.sub,λa x=>S.off a x.take,?_,λk l a w f b c d g=>S.inj k l a w f (rT b).2 (rT c).2 (rT d).2 (rT g).2,λk j e=>?_,λi x e=>by simp at e,Y,S.tab,S.nt⟩
 .rw[ZH,ZH,S.cD]
 .let⟨b,c⟩:=rT e
  let⟨a,o,d,h⟩:21:=S.mu k j c;calc(zI2 a o ⟨by rw[Z2 b];calc d,h⟩)
theorem Ext.cut{m}(e:Ext F ad mu H F' bL fm H')(b:↑ad<=m):Ext F ad mu H F' (bL.take m) (fm.take m) H' :=
 ⟨e.same,e.new,e.keep,λk a h=>by rw[Z2 (ZA (ri.mp h).1 b)];calc e.pre k a h,λa x=>e.cy a x.take,e.iE⟩
theorem xa{e x v}{K:RK->-OV->-OV->Prop}{Q:VK}{I J}(L:SR F ad ⟨I,e.map ζ⟩ J H)(E:Ext F ad (e.map ζ) H F' bL δ.mu H')(S:SR F' bL δ σ' H')(V:dB F' bL x v)
  (h:oh ↑e K x δ) (k:∀r c b,K r c b->∀v F' bL H',uP F ad e H r c b v F' bL H'->Q v H'):Q v H':=by
 let⟨c,b,U,y,f,h⟩:32:=h;let C:=by let:=L.cD;rwa [qa] at this
 let M:δ.mu.take ↑(c++b)=(c++b).map ζ:=by rw[y,q6i (by rw[qa])]
 let g:=E.cut (m:=↑(c++b)) (by rw[C,My];symm);let l:=S.cut ↑(c++b);rw[M] at g l
 cases x with
 |p d=>exact k _ _ _ h _ _ _ _ ⟨g,l,f,V⟩
 |w a=>exact k _ _ _ h _ _ _ _ ⟨g,l,f,V⟩
 |u t W=>exact k _ _ _ h _ _ _ _ ⟨g,l,f,V⟩
 |t _ _=>exact h.elim
 |o i =>
  let⟨N,h⟩:=h;split at h
  .rename_i X n
   let⟨a,q,rfl⟩:=V;let⟨a',o,D,O,P,rfl,R⟩:2211:=S.mu i _ n;rw[q] at D;cases D;refine k _ _ _ h _ _ _ _ ⟨g,l,f,a,P,Y,?_,O,S.off a ⟨i,_,q,n⟩,R,λ⟨j,G,A,T⟩=>?_⟩
   .rcases E.cy a ⟨i,_,q,n⟩ with⟨j,G,z,_⟩|z
    .let s:j<↑c:=by rw[f,<-C];exact(ri.mp z).1
     let B:δ.mu[j]?=ζ (ζ c[j]):=by
      rw[y,OO (by rw[qa,My];symm),OS,OO s,p_ s];rfl
     let:=S.inj i j a _ _ q (E.pre j a z) n B;rw[My] at N;symm
    .exact z
   .have ⟨s,A⟩:=rT A
    let B:δ.mu[j]?=ζ (ζ G):=by
     rw[y,OO (by rw[qa];calc s)];exact T
    let:=S.inj i j a _ _ q A n B;symm
  .calc h.elim
end
theorem e7.Bt{P w K u e x c st f z N ps k G}(F:e7 K x c st f z)(S:kZ N ps (bX st))
  (i:∀d A a s H E,aX k (A.deeper (envOfC c (bX st) ⇑s f d)) →
   ∃B:WS,cV (bt d7 P w K u e N c (bX st) f d A a s H E).jZ (dA st) (dc B)/\∀ys b l,↑ys=↑ps->G ys b l->B (ai ↑b l) ⟨ys.map ζ++Gg (↑N-↑ps) η,b.map ζ⟩) :
  bH P w K u e d7 (k+1) f z ps (kQ G ↑ps) :=
 F.rk S (λI H Q E h=>h.1) λd A a s H I Q E J h=>by
  let⟨C,L,M,n,b,l,m,g,D⟩:=h;let⟨B,O,R⟩:=i d A a s H E J
  let T:↑n=↑ps:=by
   let:=m.len;rw[qa] at this;rw[<-C,this,qa]
  refine⟨_,O,L,M,⟨n.map ζ++Gg (↑N-↑ps) η,b.map ζ⟩,ai ↑b l,by rw[<-C];calc m.start,R n b l T g,⟨λj h U o q W r t=>?_,λj h=>h.elim,λj h=>h.elim,λy j h v U o q W r t V=>?_,trivial⟩⟩
  .exact xa  m r t (x:=.p .non)  Y h D
  .calc xa  m r t V h D
def rV(mu:-(Option OV)):-(Nat×OV)->Prop
 |[]=>True
 |(k,a)::r=>mu[k]?=ζ (ζ a)/\rV mu r
theorem Jg{mu}:∀{es},rV mu es->∀a∈es,mu[a.1]?=ζ (ζ a.2)
 |(k,c)::r,h,a,b=>by
  rcases OQ.mp b with rfl|b
  .exact h.1
  .calc Jg h.2 a b
section
variable{F F' H H':Hp}{ad bL:-O}{δ:aO}{σ σ':St}
theorem Jh{xs:-DV}{vs:-V}{r:-DV×-(Nat×OV)}{es:-(Nat×OV)}(S:SR F ad δ σ H)(V:cY F ad xs vs)(hp:passes δ.mu xs 0=ζ r)(he:rV δ.mu es)(nd:jw (r.2++es)=θ):
  ∃as:-ξ,↑as=↑(r.2++es)/\SR F as ⟨r.1.map ζ,((r.2++es).map (·.2)).map ζ⟩ (vs.map ζ) H/\∀W x g v F' C H',uP F as ((r.2++es).map (·.2)) H W x g v F' C H' →
   Ext F ad δ.mu H F' (ad++C.drop ↑(r.2++es)) (df δ.mu (r.2++es) x++g.map ζ) H'/\SR F' (ad++C.drop ↑(r.2++es)) ⟨δ.sl,df δ.mu (r.2++es) x++g.map ζ⟩ σ H'/\qF F' H H' (ad++C.drop ↑(r.2++es)) (df δ.mu (r.2++es) x++g.map ζ) v W:=by
 let⟨TC,Y,b0,c⟩:12:=rF S.mu hp V;let⟨_,c1,c2⟩:=c [] rfl;let⟨Bu,Ji⟩:∃Bu:-ξ,Bu=es.map λs=>(ad[s.1]?).getD 0:=⟨_,rfl⟩;let⟨U,Z⟩:∃U,U=TC++Bu:=⟨_,rfl⟩;let⟨f,R⟩:∃f,f=r.2++es:=⟨_,rfl⟩;rw[<-R] at nd ⊢
 let b:∀(i:Nat)(s:Nat×OV),f[i]?=ζ s->δ.mu[s.1]?=ζ (ζ s.2)/\∃a o,U[i]?=ζ a/\ad[s.1]?=ζ a/\H a=ζ o/\fM F a s.2 o:=λi s e=>by
  rw[R] at e
  by_cases G:i<↑r.2
  .rw[OO G] at e
   let⟨J,a,o,L,z3⟩:=b0 i s e;exact⟨J,a,o,by rw[Z,OO (by rw[Y];calc G)];calc L,z3⟩
  .let G:↑r.2<=i:=by symm
   rw[YD G] at e;let m:=Jg he s (ZZ e);let⟨a,o,J,L⟩:=S.mu _ _ m;calc⟨m,a,o,?_,J,L⟩;rw[Z,YD (by rw[Y];calc G),Y,Ji,OS,e];show ζ ((ad[s.1]?).getD 0)=ζ a;rw[J];rfl
 let al:↑U=↑f:=by rw[Z,R,My,My,Y,Ji,qa]
 let K:∀(i:Nat)(a:ξ),U[i]?=ζ a->Lv ad δ.mu a/\∃s,f[i]?=ζ s/\ad[s.1]?=ζ a/\δ.mu[s.1]?=ζ (ζ s.2):=λi a e=>by
  let G:i<↑f:=by rw[<-al];exact(ri.mp e).1
  let⟨m1,a',o,A,B,_,_⟩:0123:=b i _ (p_ G);rw[e] at A;cases A;exact⟨(zI2 _ _ ⟨B,m1⟩),_,p_ G,B,m1⟩
 let TF:∀(i:Nat)(O:OV),((f.map (·.2)).map ζ)[i]?=ζ (ζ O)->∃s,f[i]?=ζ s/\s.2=O:=λi O e=>by
  let e:=tY e;rw[OS] at e;let⟨s,A,B⟩:=YE.mp e;exact⟨s,A,B⟩
 refine⟨U,al,⟨S.sub,λa lH=>by let⟨i,O,A,B⟩:21:=lH;calc S.off a (K i a A).1,by rw[al];rw[qa,qa],λi j a O D A B _ _=>?_,λi O e=>?_,λi y e=>?_,?_,S.tab,S.nt⟩,λW x g v F' C H' P=>?_⟩
 .let⟨_,s,k1,k2,k3⟩:0112:=K i a A
  let⟨_,kp,p1,p2,p3⟩:0112:=K j a B;let:s.1=kp.1:=S.inj _ _ a _ _ k2 p2 k3 p3;exact zK nd i j s.1 s.2 kp.2 k1 (by rw[this];calc p1)
 .let⟨s,A,rfl⟩:=TF i O e
  let⟨_,a,o,B,_,e4,e5⟩:0123:=b i s A;exact(zI2 a o ⟨B,e4,e5⟩)
 .let⟨v,A,B⟩:=c2 i y (tY e)
  calc⟨v,tZ A,?_⟩;rw[q1k] at B;exact B.pre λk a h _=>by rw[Z,OO (ri.mp h).1];exact h
 .show ↑(vs.map ζ)=↑(r.1.map ζ)
  rw[qa,qa,c1]
 .let X:=P.ext
  let T:=P.sr;let ol:↑x=↑f:=by rw[P.len,qa]
  let cD:↑C=↑f+↑g:=by
   let:=T.cD;rw[this];show↑((x++g).map ζ)=_;rw[qa,My,ol]
  let t8:∀a,Lv U ((f.map (·.2)).map ζ) a->Lv ad δ.mu a:=λa ⟨i,_,e,_⟩↦(K i a e).1
  let Y6:∀(i:Nat)(a:ξ),U[i]?=ζ a->Lv U ((f.map (·.2)).map ζ) a:=λi a e=>by
   let⟨_,s,k1,_⟩:=K i a e;exact(zI2 i s.2 ⟨e,tZ (by rw[OS,k1];rfl)⟩)
  let pre:∀(i:Nat)(a:ξ),U[i]?=ζ a->C[i]?=ζ a:=X.pre;let mo:∀(i:Nat)(D:OV),x[i]?=ζ D->((x++g).map ζ)[i]?=ζ (ζ D):=λi D e=>tZ (by rw[OO (ri.mp e).1];calc e);let mn:∀(j:Nat)(w:OV),g[j]?=ζ w->((x++g).map ζ)[↑f+j]?=ζ (ζ w):=λj w e=>tZ (by rw[YD ⋯,ol,q3X];calc e);let M:↑(df δ.mu f x)=↑ad:=by rw[zL,S.cD]
  let l9:∀(l:Nat)(D:OV),(df δ.mu f x++g.map ζ)[l]?=ζ (ζ D)->(∃(i:Nat)(s:Nat×OV),l<↑ad/\f[i]?=ζ s/\s.1=l/\x[i]?=ζ D)\/(l<↑ad/\(∀s∈f,s.1≠l)/\δ.mu[l]?=ζ (ζ D))\/(↑ad<=l/\g[l-↑ad]?=ζ D):=λl D e=>by
   by_cases E:l<↑ad
   .rw[OO (by rw[M];calc E)] at e
    by_cases z:∃s∈f,s.1=l
    .let⟨s,hk,rfl⟩:=z
     let⟨i,G⟩:=ZD.mp hk;let ua:i<↑x:=by rw[ol];exact(ri.mp G).1
     let:=zM (mu:=δ.mu) nd G (p_ ua) (ri.mp (b i s G).1).1;rw[e] at this;cases this
     exact .inl (zI2 i s ⟨E,G,rfl,p_ ua⟩)
    .let z':∀s∈f,s.1≠l:=λs hk q=>z ⟨s,hk,q⟩
     rw[t7 _ _ _ _ z'] at e;exact .inr (.inl ⟨E,z',e⟩)
   .rw[YD (by rw[M];symm),M] at e
    exact .inr (.inr ⟨⋯,tY e⟩)
  let gn:∀(l:Nat)(a:ξ),↑ad<=l->(ad++C.drop ↑f)[l]?=ζ a->C[↑f+(l-↑ad)]?=ζ a:=λl a E e=>by
   rw[YD E,q3v] at e;exact e
  let go:∀(l:Nat)(a:ξ),l<↑ad->(ad++C.drop ↑f)[l]?=ζ a->ad[l]?=ζ a:=λl a E e=>by
   rw[OO E] at e;exact e
  let Q:∀(l:Nat)(D:OV)(a:ξ),(ad++C.drop ↑f)[l]?=ζ a->(df δ.mu f x++g.map ζ)[l]?=ζ (ζ D)->(Lv ad δ.mu a/\l<↑ad/\ad[l]?=ζ a/\∃w,δ.mu[l]?=ζ (ζ w))\/(↑ad<=l/\C[↑f+(l-↑ad)]?=ζ a/\((x++g).map ζ)[↑f+(l-↑ad)]?=ζ (ζ D)):=λl D a A B=>by
   rcases l9 l D B with⟨i,s,E,G,rfl,_⟩|⟨E,_,q⟩|⟨E,q⟩
   .exact .inl ⟨⟨_,_,go _ _ E A,(b i s G).1⟩,E,go _ _ E A,_,(b i s G).1⟩
   .exact .inl ⟨⟨_,_,go _ _ E A,q⟩,E,go _ _ E A,_,q⟩
   .exact .inr ⟨E,gn l a E A,mn _ _ q⟩
  let I:∀a,Lv ad δ.mu a->∃o,H a=ζ o/\a∉aM.ad:=λa ⟨k,O,A,B⟩=>by
   let⟨a',o,e3,e4,h⟩:22:=S.mu k O B;rw[A] at e3;cases e3;calc⟨o,e4,λt=>?_⟩;let⟨ps,q⟩:=aM.tb S.tab t;rw[e4] at q;exact h.kind ps (ZX q)
  let Bv:∀a,Lv ad δ.mu a->F' a=η:=λa l=>by
   cases q:F' a with
   |none=>rfl
   |some u =>
    rcases X.new a u q with y|y|⟨i,O,y,_⟩
    .rw[S.off a l] at y;cases y
    .let⟨o,z,_⟩:=I a l
     rw[y] at z;cases z
    .let⟨_,s,k1,_⟩:=K i a y
     let G:i<↑x:=by rw[ol];exact(ri.mp k1).1
     rw[T.off a ⟨i,x[i],pre i a y,mo i _ (p_ G)⟩] at q;cases q
  let Jj:∀j a w,C[↑f+j]?=ζ a->((x++g).map ζ)[↑f+j]?=ζ (ζ w)->¬ Lv ad δ.mu a:=λj a w A B l=>by
   rcases X.cy a ⟨_,w,A,B⟩ with⟨i,O,y,_⟩|y
   .let G:i<↑x:=by rw[ol,<-al];exact(ri.mp y).1
    let:=T.inj _ _ a _ _ A (pre i a y) B (mo i _ (p_ G));symm
   .let⟨o,z,_⟩:=I a l
    rw[y] at z;cases z
  let ex:Ext F ad δ.mu H F' (ad++C.drop ↑f) (df δ.mu f x++g.map ζ) H':=by
   refine⟨X.same,λa o e=>?_,λa o e n t=>X.keep a o e (λz=>n (t8 a z)) t,λk a e=>by rw[OO (ri.mp e).1];calc e,λa ⟨l,D,A,B⟩=>?_,X.iE⟩
   .rcases X.new a o e with z|z|z
    .exact .inl z
    .exact .inr (.inl z)
    .exact .inr (.inr (t8 a z))
   .rcases Q l D a A B with⟨z,_⟩|⟨_,J,L⟩
    .exact .inl z
    .rcases X.cy a ⟨_,_,J,L⟩ with z|z
     .exact .inl (t8 a z)
     .exact .inr z
  let sr:SR F' (ad++C.drop ↑f) ⟨δ.sl,df δ.mu f x++g.map ζ⟩ σ H':=by
   refine⟨T.sub,λa ⟨l,D,A,B⟩=>?_,?_,λk l a O D A B e3 e4=>?_,λl D e=>?_,λi y e=>?_,S.len,T.tab,T.nt⟩
   .rcases Q l D a A B with⟨z,_⟩|⟨_,J,L⟩
    .exact Bv a z
    .exact T.off a ⟨_,_,J,L⟩
   .rw[My,My,M,q0j,cD,qa,q3X]
   .rcases Q k O a A e3 with⟨z,_,y1,w1,y2⟩|⟨IU,J,L⟩
    .rcases Q l D a B e4 with⟨_,_,y3,w2,y4⟩|⟨_,J,L⟩
     .exact S.inj k l a _ _ y1 y3 y2 y4
     .exact (Jj _ _ _ J L z).elim
    .rcases Q l D a B e4 with⟨z,_⟩|⟨rR,z3,z4⟩
     .exact (Jj _ _ _ J L z).elim
     .let:=T.inj _ _ a _ _ J z3 L z4
      symm
   .rcases l9 l D e with⟨i,s,E,G,rfl,ho⟩|⟨E,z,q⟩|⟨E,q⟩
    .let⟨_,a,o,A,B,_,_⟩:=b i s G
     let⟨a',o',e3,e4,h5⟩:=T.mu i D (mo i D ho);rw[pre i a A] at e3;cases e3;exact⟨a,o',by rw[OO E];calc B,e4,h5⟩
    .let⟨a,o,A,B,h⟩:=S.mu l D q
     calc⟨a,o,by rw[OO E];calc A,X.keep a o B (λ⟨i,_,y,_⟩=>?_) (I a ⟨l,D,A,q⟩).choose_spec.2,h.same X.same⟩;let⟨_,s,k1,k2,k3⟩:=K i a y;exact z s (ZD.mpr ⟨i,k1⟩) (S.inj _ _ a _ _ k2 A k3 q)
    .let⟨a,o,A,B,h⟩:=T.mu _ _ (mn _ _ q)
     exact⟨a,o,by rw[YD E,q3v];calc A,B,h⟩
   .let⟨v,A,h⟩:=S.sl i y e
    exact⟨v,A,h.ext ex⟩
  calc⟨ex,sr,?_⟩;let N:=P.res
  cases W with
  |p d=>exact N
  |w a=>exact N
  |u t fs=>exact N
  |n ds =>
   let⟨c,us,rfl,n1,n2,n3,n4,n5⟩:=N;calc⟨c,us,rfl,n1,n2,n3,n4,?_⟩;ext ⟨l,D,A,B⟩;rcases Q l D c A B with⟨z,_⟩|⟨_,J,L⟩
   .let⟨o,y,_⟩:=I c z
    rw[n1] at y;cases y
   .calc n5 ⟨_,_,J,L⟩
theorem TH{xs vs}{r:-DV×-(Nat×OV)}{es G n Q E}{K:RK->-OV->-OV->Prop}(S:SR F ad δ σ H)(V:cY F ad xs vs)(hn:↑vs=n)(m:passes δ.mu xs 0=ζ r)(he:rV δ.mu es)(o:jw (r.2++es)=θ)(g:G r.1 ((r.2++es).map (·.2)) K)
  (i:∀f e d v F' h H',K f e d->Ext F ad δ.mu H F' h (df δ.mu (r.2++es) e++d.map ζ) H'->SR F' h ⟨δ.sl,df δ.mu (r.2++es) e++d.map ζ⟩ σ H'->qF F' H H' h (df δ.mu (r.2++es) e++d.map ζ) v f->Q v H'):kQ G n vs H Q E:=by
 let⟨p,_,q,l⟩:12:=Jh S V m he o;calc⟨hn,F,p,r.1,(r.2++es).map (·.2),K,q,g,λf e d s v j h k P=>let⟨a,b,c⟩:=l f e d v j h k P;i f e d v j _ k s a b c⟩
end
def ak(f:aO)(c:-(Nat×OV))(K:DV->aO->Prop)(r:RK)(e b:-OV):Prop:=match r with
 |.p d=>K (.p d) ⟨f.sl,df f.mu c e++b.map ζ⟩
 |.w a=>K (.w a) ⟨f.sl,df f.mu c e++b.map ζ⟩
 |.u t g=>K (.u t g) ⟨f.sl,df f.mu c e++b.map ζ⟩
 |.n h=>K (.p (.lst h)) ⟨f.sl,df f.mu c e++b.map ζ⟩
def aA(d:aO)(b:-(Nat×OV))(K:DV->aO->Prop)(r:RK)(c a:-OV):Prop:=match r with
 |.n e=>K (.o ↑(df d.mu b c++a.map ζ)) ⟨d.sl,df d.mu b c++a.map ζ++[ζ (.lst e)]⟩
 |_=>False
def uQ(o:Bool)(n:Nat)(G:GK)(xs:-DV)(b:aO)(K:DV->aO->Prop):Prop:=∃a,rV b.mu a/\match passes b.mu xs 0 with
 |some r=>(jw (r.2++a)=θ/\↑r.1=n)/\G r.1 ((r.2++a).map (·.2)) (if o then aA b (r.2++a) K else ak b (r.2++a) K)
 |none=>False
section
variable{F F1 H H1:Hp}{ad ml:-O}{δ δ1:aO}{σ:St}{K:DV->aO->Prop}{Q:VK}{xs:-DV}{vs:-V}{n:Nat}{G:GK}{E:XK}{o:Bool}
theorem xb(kk:∀x e,K x e->∀v F' f H',Ext F ad δ.mu H F' f e.mu H'->SR F' f e σ H'->dB F' f x v->Q v H')(g:uQ o n G xs δ1 K)(i:Ext F ad δ.mu H F1 ml δ1.mu H1)(D:SR F1 ml δ1 σ H1)(A:cY F1 ml xs vs):kQ G n vs H1 Q E:=by
 let⟨R,I,g⟩:=g;split at g
 .rename_i r B
  let⟨⟨J,L⟩,g⟩:=g;refine TH D A (by rw[↑A,<-qr B,L]) B I J g λj M C v S N T c k h b=>?_
  cases o with
  |false =>
   cases j with
   |p d=>exact kk _ _ c _ _ _ _ (i.trans k) h b
   |w a=>exact kk _ _ c _ _ _ _ (i.trans k) h b
   |u t O=>exact kk _ _ c _ _ _ _ (i.trans k) h b
   |n P =>
    let⟨a,m,rfl,q,s,l,y,z⟩:=b;exact kk _ _ c _ _ _ _ (i.trans (k.adopt  q l)) (h.adopt l s z) (zI2 a m ⟨Y,bN,y.same (cK l)⟩)
  |true =>
   cases j with
   |p d=>exact c.elim
   |w a=>exact c.elim
   |u t O=>exact c.elim
   |n P =>
    let⟨a,m,rfl,q,s,l,y,z⟩:=b;calc kk _ _ c _ _ _ _ (i.trans (k.cE  q h.cD)) (h.cE l s z ⟨m,Y,y⟩) ⟨a,?_,Y⟩;let:=h.cD;rw[<-this,YD (tm _),q0O];rfl
 .calc g.elim
end
def ax(o:Bool)(n:Nat)(G:GK)(b:WA):WE:=λc K=>b c λd a=>uQ o n G d a K
def aw(o:Bool)(C:O)(m:Z)(n:Nat)(G:GK)(e:WE)(f:WA):WE:=λg K=>e g λx b=>(∃(a:O)(k:Nat)(d:-(Z×FV)),x=.w a/\b.mu[k]?=ζ (ζ (.ins a C d))/\d.lookup m=η)/\f b λh c=>uQ o n G (x::h) c K
def az(C:O)(n:Nat)(G:GK)(d:WA):WE:=λe K=>d e λf b=>∀a,uQ ι n G (.w a::f) ⟨b.sl,b.mu++[ζ (.ins a C [])]⟩ λx c=>x=.p .non/\K (.w a) c
theorem fH.look{a}{R:a->V->Prop}{x:Z}:∀{fs ws},fH R fs ws->(fs.lookup x=η/\ws.lookup x=η)\/∃f v,fs.lookup x=ζ f/\ws.lookup x=ζ v/\R f v
 |[],b,h=>by subst h;exact .inl ⟨Y,Y⟩
 |(y,g)::r,b,⟨v,t,e,c,d⟩=>by
  subst e;rw[ZR,ZR]
  cases q:x==y with
  |true=>exact .inr (zI2 _ _ ⟨Y,Y,c⟩)
  |false=>calc fH.look d
theorem kE.v{F a v}:∀{f},kE F f v->dB F a f.v v
 |.p _,h=>h
 |.w _,h=>h
meta def oj(f:Z)(v:FV):-(Z×FV)->-(Z×FV)
 |[]=>[(f,v)]
 |(g,x)::r=>if g=f then(g,v)::r else(g,x)::oj f v r
theorem oM.put{F x g v}(a:kE F g v):∀{fs ws},oM F fs ws->oM F (oj x g fs) (dH x v ws)
 |[],c,h=>by subst h;exact(zI2 v [] ⟨Y,a,Y⟩)
 |(y,f)::r,c,⟨u,t,e,d,b⟩=>by
  subst e;unfold oj dH;split
  .exact (zI2 v t ⟨Y,a,b⟩)
  .calc (zI2 u _ ⟨Y,d,oM.put a b⟩)
def ah(C:O)(x:Z)(f:WE):WE:=λd K=>f d λy b=>∃(a:O)(k:Nat)(c:-(Z×FV))(v:FV),(y=.w a/\b.mu[k]?=ζ (ζ (.ins a C c))/\c.lookup x=ζ v)/\K v.v b
meta def Bw:OV->Option O
 |.al a _=>ζ a
 |.ac a _=>ζ a
 |.av a _=>ζ a
 |_=>η
def aj(f:WE):WE:=λd K=>f d λy b=>∃(a:O)(k:Nat)(c:OV),(y=.w a/\b.mu[k]?=ζ (ζ c)/\Bw c=ζ a)/\K (.o k) b
def toF(x:DV)(b:aO)(K:FV->aO->Prop):Prop:=match x with
 |.p d=>K (.p d) b
 |.w a=>K (.w a) b
 |.o k=>match b.mu[k]? with
  |some (some (.lst e))=>∀a,K (.w a) ⟨b.sl,b.mu.set k (ζ (.al a e))⟩
  |some (some (.dct c))=>∀a,K (.w a) ⟨b.sl,b.mu.set k (ζ (.ac a c))⟩
  |_=>False
 |.u _ _=>False
 |.t _ _=>False
def ay(C:O)(x:Z)(f h:WE):WS:=λK i=>f i λz c=>h c λy d=>toF z d λg b=>∃(a:O)(k:Nat)(e:-(Z×FV)),(y=.w a/\b.mu[k]?=ζ (ζ (.ins a C e))/\↑e<1000)/\K.nx ⟨b.sl,b.mu.set k (ζ (.ins a C (oj x g e)))⟩
section
variable{F H:Hp}{ad:-O}{δ:aO}{σ:St}
theorem Jk{H a o}(h:H a=ζ o):upd H a o=H:=by
 funext b
 by_cases c:b=a
 .subst c;rw[bN,h]
 .rw[aQ c]
theorem TJ{x v K}(S:SR F ad δ σ H)(V:dB F ad x v)(h:toF x δ K):∃f b,K f b/\Ext F ad δ.mu H F ad b.mu H/\SR F ad b σ H/\kE F f v:=by
 cases x with
 |p d=>exact⟨_,_,h,.refl,S,V⟩
 |w a=>exact⟨_,_,h,.refl,S,V⟩
 |u _ _=>exact h.elim
 |t _ _=>exact h.elim
 |o k =>
  let⟨a,g,rfl⟩:11:=V;unfold toF at h;dsimp only at h;split at h
  .rename_i i e
   let⟨a',o,j,l,c,rfl,m⟩:=S.mu k _ e;rw[g] at j;cases j;let n:fM F a (.al a i) (.lst c):=⟨Y,c,Y,m⟩;let E:=Ext.put (ov:=.al a i) (o:=.lst c) S e g;let T:=S.put e g n;rw[Jk l] at E T;exact⟨_,_,h a,E,T,Y⟩
  .rename_i i e
   let⟨a',o,j,l,c,rfl,m⟩:=S.mu k _ e;rw[g] at j;cases j;let n:fM F a (.ac a i) (.dK c):=⟨Y,c,Y,m⟩;let E:=Ext.put (ov:=.ac a i) (o:=.dK c) S e g;let T:=S.put e g n;rw[Jk l] at E T;exact⟨_,_,h a,E,T,Y⟩
  .calc h.elim
theorem rW{k:Nat}{a C fs}(S:SR F ad δ σ H)(h:δ.mu[k]?=ζ (ζ (.ins a C fs))):∃b ws,ad[k]?=ζ a/\H a=ζ (.ins C b ws)/\oM F fs ws:=by
 let⟨g,o,d,e,rfl,b,c,rfl,f⟩:2321:=S.mu k _ h;calc(zI2 b c ⟨d,e,f⟩)
end
section
variable{X:Cx}{a b o v:υ}{f fo fv:WE}{fa:WA}{C:O}{x m:Z}{pos pos' apos p:Δ}{G:GK}{n k:Nat}{g:O}{fd:FuncData}{ps:-Z}{e:υ}{es:-υ}
theorem eu(c:hD X.K C)(e:bW X.K C x)(he:JE X a (tD f))(g:‹attributeBase a x X.env (eval a X.env)=eval a X.env›):JE X (.Attribute a x pos) (tD (ah C x f)) :=
 (N4 he g).weak λL H Q ⟨F,h,j,K,S,q,k⟩↦⟨F,h,j,_,S,q,λy l m u M n N o d p=>by
  let⟨a,i,O,w,⟨rfl,r,b⟩,s⟩:41:=m;let⟨t,A,P,B,D⟩:22:=rW d r;rcases D.look  with⟨z,_⟩|⟨f,E,G,I,J⟩
  .rw[z] at b;cases b
  .rw[G] at b;cases b
   calc(zI5 a C t A E ⟨p,B,c,e,I,k _ _ s _ _ _ _ o d J.v⟩)⟩
theorem uR(he:JE X a (tD f)):JE X a (tD (aj f)) :=
 he.weak λz H Q ⟨F,j,l,K,S,q,k⟩↦⟨F,j,l,_,S,q,λy m n u A p B r e s=>by
  let⟨a,i,g,⟨rfl,t,c⟩,v⟩:31:=n;let⟨w,o,x,C,d⟩:22:=e.mu i g t
  let:=by
   cases g with
   |al b h=>cases c;exact d.1.symm
   |ac b h=>cases c;exact d.1.symm
   |av b h=>cases c;exact d.1.symm
   |lst _=>cases c
   |dct _=>cases c
   |dtt _=>cases c
   |ins _ _ _=>cases c
  subst this
  calc k _ _ v _ _ _ _ r e ⟨w,x,s⟩⟩
theorem pD[cj](c:hD X.K C)(n:bW X.K C x)(p:JE X o (tD fo))(r:JE X v (tD fv))(s:‹swapsWith v (ζ (.Attribute o x pos')) pos.line X.env=pure ι›):JS X (.Assign [.Attribute o x pos'] v pos) (dc (ay C x fv fo)) :=
 (N5 p r s).weak λD σ H ⟨F,t,A,K,S,q,k⟩↦⟨F,t,A,_,S,q,λz b B u E d H1 G I J=>⟨E,d,b,_,I,B,λy L M w F2 N H2 h O P=>by
  let⟨g,Q,R,T,e,U⟩:23:=TJ O (J.ext h) M;let⟨a,i,fs,⟨rfl,f,V⟩,W⟩:31:=R;let⟨j,Y,l,Z,m⟩:22:=rW e f
  calc(zI4 a C j Y ⟨P,Z,c,n,by rw[↑m];calc V,k.nx _ W _ _ _ _ (((G.trans h).trans T).trans (Ext.put e f l)) (e.put f l ⟨rfl,j,_,rfl,oM.put U m⟩)⟩)⟩⟩
theorem TK o (c:bH X.prog X.w X.K X.mg X.base d7 k g fd ps (kQ G n)) (d:aX k X.A) (f:Gl X x) (h:X.mg x=ζ (.ref g)) (i:Z3 X.K (.ref g)=θ) (j:Binds X.K fd ps [])
  (l:JA X (e::es) (b_ fa)) (a: ~~~(bF x)) (he:‹b7 X e es›) (b:‹cm X pos es›) :
  JE X (.Call (.Name x p) (e::es) [] pos) (tD (ax o n G fa)):=(oF c d f h i j .nil l_ l a he b).weak λC H Q ⟨F,m,r,K,S,q,s⟩↦⟨F,m,r,_,S,q,λD t u E I v J y z B=>by
   rw[dV];calc xb s u y z B⟩
theorem TM{r E}:∀b H Q,tD (aw r C m n G fo fa) b H Q->yK C m (kQ G n) [] E (tD fo) (b_ fa) b H Q:=λb H Q ⟨F,k,l,K,S,q,o⟩=>⟨F,k,l,_,S,q,λy c p u s d P t e g=>by
  let⟨⟨a,i,R,rfl,v,h⟩,w⟩:=p;let⟨x,A,T,B,D⟩:22:=rW e v;rcases D.look  with⟨_,z⟩|⟨f,U,I,V,W⟩
  .refine (zI3 a x A ⟨g,B,z,s,d,c,_,e,w,λX J L Y Z M H2 j N O=>?_⟩)
   rw[dV];exact xb o L (t.trans j) N (zI2 _ _ ⟨rfl,g.ext j,O⟩)
  .rw[I] at h;cases h⟩
theorem TN{h} r (c:hD X.K C) (i:Meth X.K C m g) (j:bH X.prog X.w X.K X.mg X.base d7 k g fd ps (kQ G n)) (l:aX k X.A) (p:Binds X.K fd ps []) (q:JE X o (tD fo)) (s:JA X (e::es) (b_ fa))
  (b:‹b7 X e es›) (d:‹cm X pos es›)
  (t:‹eval (.Call (.Attribute o m apos) (e::es) [] pos) X.env=(do
   let ov <- eval o X.env
   standAt apos.atName
   let(f,a) <- holding [ov] (getMethod ov m h)
   callWith pos f a (backTo pos (starEach (e::es) X.env)) (backToKw pos (keywordEach [] X.env)))›) :
  JE X (.Call (.Attribute o m apos) (e::es) [] pos) (tD (aw r C m n G fo fa)):=(FD q c i j l p .nil l_ s b d t).weak TM
theorem TQ{j:Sem Bool}(r:Bool)(c:hD X.K C)(l:Meth X.K C m g)(p:bH X.prog X.w X.K X.mg X.base d7 k g fd ps (kQ G n))(s:aX k X.A)(t:Binds X.K fd ps [])(v:JE X o (tD fo))
  (x:‹eval (.Call (.Attribute o m apos) [] [] pos) X.env=(do
   let ov <- eval o X.env
   standAt apos.atName
   let(f,b) <- holding [ov] (getMethod ov m j)
   callWith pos f b (backTo pos (starEach [] X.env)) (backToKw pos (keywordEach [] X.env)))›) :
  JE X (.Call (.Attribute o m apos) [] [] pos) (tD (aw r C m n G fo af)):=(FE v c l p s t .nil l_ x).weak λV H Q ⟨F,B,D,K,S,q,E⟩↦⟨F,B,D,_,S,q,λy I J u W L Y M d e=>by
  let⟨⟨a,i,Z,rfl,N,h⟩,h2⟩:=J;let⟨O,P,e1,R,T⟩:22:=rW d N;rcases T.look  with⟨_,z⟩|⟨f,w',U,z2,z3⟩
  .exact (zI3 a O P ⟨e,R,z,xb (xs:=[.w a])  E (h2) M d (zI2 _ _ ⟨rfl,e,rfl⟩)⟩)
  .rw[U] at h;cases h⟩
theorem TR{F H k g:Hp}{m e:-O}{q b:aO}{r:St}{K:DV->aO->Prop}{Q:VK}{E:XK}{xs:-DV}{vs:-V}(kk:∀x c,K x c->∀v F' d H',Ext F m q.mu H F' d c.mu H'->SR F' d c r H'->dB F' d x v->Q v H')
  (B:∀a,uQ ι n G (.w a::xs) ⟨b.sl,b.mu++[ζ (.ins a C [])]⟩ λx l=>x=.p .non/\K (.w a) l) (D:Ext F m q.mu H k e b.mu g) (s:SR k e b r g) (I:cY k e xs vs) {x f:O} (nx:g x=η) (i:g f=η) (J:f≠x) :
  kQ G n (.ref x::vs) (upd (upd g f (.own x)) x (.ins C f [])) (λv H2=>v=.non/\Q (.ref x) H2) E:=by
 let t:=s.al (cK (o:=.own x) i);let u:=Ext.al s (cK (o:=.own x) i);let j:upd g f (.own x) x=η:=by rw[aQ λz=>J z.symm];exact nx
 let A:=Ext.own (o:=.ins C f []) (ov:=.ins x C []) t j;calc xb  (λy c h v L d M X T V=>?_) (B x) ((D.trans u).trans A) (t.own j ⟨Y,f,[],Y,Y⟩) (zI2 _ _ ⟨Y,Y,(I.ext u).ext A⟩);let⟨rfl,h⟩:=h;calc⟨V,kk _ _ h _ _ _ _ X T Y⟩
theorem TU(M:Mk X.K C g)(d:bH X.prog X.w X.K X.mg X.base d7 k g fd ps (kQ G n))(f:aX (k+1) X.A)(h:Gl X x)(i:X.mg x=ζ (.ref C))(j:Binds X.K fd ps [])
  (l:JA X (e::es) (b_ fa)) (a: ~~~(bF x)) (he:‹b7 X e es›) (b:‹cm X pos es›) :
  JE X (.Call (.Name x p) (e::es) [] pos) (tD (az C n G fa)):=(FF M d f h i j .nil l_ l a he b).weak λE H Q ⟨F,m,o,K,S,q,r⟩↦⟨F,m,o,_,S,q,λI s t J L u N v y z x O B c D=>by
   rw[dV];calc TR r t v y z B c D⟩
end
end L2
namespace LJ
open PySem L2
variable[zt:aM]
theorem xc{f g}{op:D->D->(D->Prop)->Prop}{c K}(h:∀i:DV->aO->Prop,i=(λx b=>g b λy a=>iF x a λd=>iF y a λe=>op d e λz=>K (.p z) a)->f c i):d2 f g op c K:=h _ Y
meta def dI(d:D):Int:=match d with
 |.int n=>n
 |_=>0
theorem xf p (us:-Int):((us.map D.int).filter λd=>p (dI d)).map (λd=>d)=(us.filter p).map D.int:=by
 rw[List.map_id',q6g];rfl
inductive Bx (ys:-DV) (aW:-OV) (K:RV->-OV->Prop):Prop
 |mk (m:Int) (ws:-(Int×Int×Int)) (sh:-Int) (q:fG m ws) (q:ys=[.p (aN m ws),.p (bV sh)]) (q:aW=[]) (q:K (.p (bV (pC ws sh))) [])
def By:WS:=(aB (gC (mi (ag (dN (ag (d2 (aa 0) (dC (.int 1)) aS) af) bT) af)) [η,ζ 1] (bZ 0) (dT (d2 (aa 0) (aa 1) (jc θ))) (aa 0)))
theorem TV:Sem 2 0 Bx By:=by
 ext l b o-⟨m,p,a,W,rfl,rfl,k⟩;let e:=W.gY;unfold By bV;simp![aN,cG];calc⟨⋯,?_⟩;rw[q0b,um];refine rL (λd=>μ (dI d∉a)) (λd=>d) (by unfold cC;simp;symm) trivial ?_ ?_
 .ext d f g L h i j
  let⟨n,q,rfl⟩:=ZI.mp f;simp![n_];refine⟨mH a,?_⟩
  by_cases c:n∈a
  .simp![OR c]
   exact j (YC (q3M c))
  .simp![YC c]
   exact⟨h,i (OR c)⟩
 .rw[xf λn=>μ (n∉a)]
  calc cA k
inductive Bz (ys:-DV) (aW:-OV) (K:RV->-OV->Prop):Prop
 |mk (m:Int) (ws:-(Int×Int×Int)) (us:-Int) (q:fG m ws) (q:eR ws us) (q:ys=[.p (aN m ws),.p (bV us)]) (q:aW=[]) (q:K (.p (aN m (jy ws us))) [])
def BA:WS:=(aB (bp (ag (d2 (aa 0) (dC (.int 0)) aS) (ag (dN (ag (gC (cN (aa 1)) [η,ζ 0] (bZ 0) fz (d2 (d2 (aa 1) (dC (.int 1)) aS) (aa 0) aS)) af) wq) af))))
theorem TX:Sem 2 0 Bz BA:=by
 ext s f t-⟨m,a,c,W,S,rfl,rfl,k⟩;let b:=(rS W S).gY;rw[sub_len] at b;unfold BA bV;simp![aN,cq,cG];refine lu (λd=>aV (a.getD (dI d).toNat (0,0,0))) (by rw[qa];symm) trivial ?_ ?_
 .ext d g i L j h
  let⟨n,l,rfl⟩:=ZI.mp g;let⟨o,p⟩:=S.nums n l;let⟨y,q,u,r,_⟩:13:=nX W o p;simp![cG,aN,r];erw[dI,q] at h;exact⟨j,h⟩
 .rw[Z7]
  calc cA ?_;let e:jy a c=c.map λn=>a.getD n.toNat (0,0,0):=Y;unfold aN at k;rw[e,Z7] at k;calc k
inductive xg (ys:-DV) (aW:-OV) (K:RV->-OV->Prop):Prop
 |mk (m:Int) (ws:-(Int×Int×Int)) (n p:Int) (q:fG m ws) (q:(0<=n/\n<(↑ws:Int))) (q:ys=[.p (aN m ws),.p (.int n),.p (.int p)]) (q:aW=[]) (q:K (.p (aN m (ws.set n.toNat ((ws.getD n.toNat (0,0,0)).1,(ws.getD n.toNat (0,0,0)).2.1,p)))) [])
def BB:WS:=(ar (aK 3 (d2 (d2 (aa 0) (dC (.int 1)) aS) (aa 1) aS)) (aB (bp (ag (d2 (aa 0) (dC (.int 0)) aS) (ag (d2 (d2 (dr (d2 (aa 0) (dC (.int 1)) aS) dQ (hV (aa 1))) (bp (ag (bp (ag (d2 (aa 3) (dC (.int 0)) aS) (ag (d2 (aa 3) (dC (.int 1)) aS) (ag (aa 2) af)))) af)) cx) (dr (d2 (aa 0) (dC (.int 1)) aS) (hV (d2 (aa 1) (dC (.int 1)) cx)) dQ) cx) af)))))
theorem TY:Sem 3 1 xg BB:=by
 ext x j z-⟨m,a,n,p,W,d,rfl,rfl,k⟩;let l:=W.gY;let⟨y,h,C,i,_⟩:13:=nX W d.1 d.2;let⟨t,rfl⟩:=q1Q d.1;let o:t<↑a:=by symm
 let e:=Jf (ds:=a.map aV) (t:=t) (by rw[qa];symm);let f:cutD (a.map aV) (ζ (t+1)) η=(a.map aV).drop (t+1):=Je  (t:=t+1) (by rw[qa];symm);let q:↑((a.map aV).take t)=t:=by rw[ZH,qa];symm
 let r:↑((a.map aV).drop (t+1))=↑a-(t+1):=by rw[q0j,qa]
 let s:(a.map aV).take t++[D.tup [.int y.1,.int y.2.1,.int p]]++(a.map aV).drop (t+1)=(a.set t (y.1,y.2.1,p)).map aV:=by
  rw[q2y,ZF o,ZM,ZW,q45,q46,q00];rfl
 rw[q0b] at h k;rw[h] at k;unfold aN at k;rw[<-s] at k;unfold BB aN;generalize E:(a.map aV).take t=A at e q k;generalize F:(a.map aV).drop (t+1)=B at f r k;generalize a.map aV=V at i e f ⊢;calc aJ λN u=>?_;simp![cG,i];subst u;unfold aB bp;calc jx λv b=>?_;simp![cq];subst b;calc jx λv b=>xc λG g=>xc λw c=>?_;simp![cG,e];subst c;calc jx λw c=>?_;subst c;simp!;calc⟨⋯,?_⟩;subst g;simp![cG,f];calc⟨⋯,?_⟩;subst b;simp!;calc cA k
meta def uS(xs ys:-Int):D:=match xs.filter (λn=>μ (n∉ys)) with
 |[]=>.non
 |n::_=>.int n
inductive xh (ys:-DV) (aW:-OV) (K:RV->-OV->Prop):Prop
 |mk (xs zs:-Int) (q:↑xs<=1000) (q:ys=[.p (bV xs),.p (bV zs)]) (q:aW=[]) (q:K (.p (uS xs zs)) [])
def BC:WS:=(ar (aK 2 (gC (cN (aa 0)) [η,ζ 1] (bZ 0) (dT (d2 (aa 0) (aa 1) (jc θ))) (aa 0))) (aB (nv (dT (d2 (dN (ag (aa 2) af) bT) (dC (.int 0)) (oI λi j=>.bl (μ (j<i))))) (d2 (aa 2) (dC (.int 0)) aS) (dC .non))))
theorem TZ:Sem 2 1 xh BC:=by
 ext o b p-⟨e,a,f,rfl,rfl,k⟩;unfold BC bV;refine aJ λN g=>rL (λd=>μ (dI d∉a)) (λd=>d) (by rw[qa];calc f) trivial ?_ ?_
 .ext d h i L j l m
  let⟨n,s,rfl⟩:11:=ZI.mp h;simp![n_];refine⟨mH a,?_⟩
  by_cases c:n∈a
  .simp![OR c]
   exact m (YC (q3M c))
  .simp![YC c]
   exact⟨j,l (OR c)⟩
 .rw[xf λn=>μ (n∉a)]
  subst g;unfold uS at k;generalize e.filter (λn=>μ (n∉a))=q at k ⊢
  cases q with
  |nil=>exact cA k
  |cons n r =>
   simp!;rw[ZF (OR ⋯)];erw[cq];calc cA k
meta def jV(xs ys:-Int):D:=.tup [uS xs ys,uS ys xs]
inductive BE (ys:-DV) (aW:-OV) (K:RV->-OV->Prop):Prop
 |mk (xs zs:-Int) (q:↑xs<=1000) (q:↑zs<=1000) (q:ys=[.p (bV xs),.p (bV zs)]) (q:aW=[]) (q:K (.p (jV xs zs)) [])
def BF:WS:=(aB (bp (ag (au 2 xh (ag (aa 0) (ag (aa 1) af))) (ag (au 2 xh (ag (aa 1) (ag (aa 0) af))) af))))
theorem T1:Sem 2 0 BE BF:=by
 ext f c g-⟨a,b,d,e,rfl,rfl,k⟩;unfold BF;simp!;calc⟨a,b,d,Y,Y,?_⟩;simp!;calc⟨b,a,e,Y,Y,cA k⟩
end LJ
namespace L2
open PySem PySem.Spec PyProof.Rows PySem.W
section
variable{X:Cx}
end
variable[zt:aM]{X:Cx}
end L2
namespace L2
open PySem PySem.Spec PyProof.Rows
variable[zt:aM]{X:Cx}{pins:aF}{σ:St}{F H:Hp}{s:ο}
end L2
local macro_rules|`(tactic|rfl')=>`(tactic|simp![0])
open Lean in
local macro_rules
 |`(tactic|simp![$ls,*] $[$l:location]?)=>do
  let a:=ls.getElems
  let some n:=a[0]?.bind λx=>x.raw[2].isNatLit?|Macro.throwUnsupported
  let t←((("ah aj ay toF aw ax az ak aA FV.v ai dV kb".splitOn " ").take (if n==0 then 13 else 0)).toArray).mapM λs=>`(Parser.Tactic.simpLemma|$(mkIdent s.toName):ident)
  let b:Syntax.TSepArray [`Lean.Parser.Tactic.simpStar,`Lean.Parser.Tactic.simpErase,`Lean.Parser.Tactic.simpLemma] ",":=⟨(Syntax.SepArray.ofElems (sep:=",") (t.map (·.raw)++(a.extract 1 a.size).map (·.raw))).elemsAndSeps⟩
  `(tactic|simp![$b,*] $[$l]?)
namespace LJ
open PySem L2
variable[zt:aM]
abbrev bQ:=-(Int×Int×Int)×-Int
meta def dj(m:Int)(s:bQ):D:=.tup [aN m s.1,bV s.2]
meta def kO(C a b:O)(m:Int)(s:bQ):OV:=.ins a C [("town",.p (aN m s.1)),("shut",.p (bV s.2)),("past",.w b)]
meta def pO(b:O)(m:Int)(ps:-bQ):OV:=.al b (ps.map (dj m))
structure bB(m:Int)(s:bQ):Prop where
 gv:fG m s.1
 sh:eR s.1 s.2
theorem bB.len{m s}(h:bB m s):↑s.2<=30:=by
 let:=(rS h.gv h.sh).gY
 rwa [sub_len] at this
meta abbrev bO(s:bQ):-(Int×Int×Int):=jy s.1 (pC s.1 s.2)
meta def bU(m:Int)(s:bQ)(ns:-Int):-Int:=(mG m (bO s) ns).map (oa (pC s.1 s.2))
theorem jz{K:RK->-OV->-OV->Prop}{d c a b}(h:K (.p d) a []):oh ↑a K (.p d) ⟨c,a.map ζ++b⟩:=(zI3 a [] b ⟨by rw[dV],Y,h⟩)
inductive xi (C:O) (ys:-DV) (aW:-OV) (K:RK->-OV->-OV->Prop):Prop
 |mk (a:O) (m:Int) (ws:-(Int×Int×Int)) (q:fG m ws) (q:ys=[.w a,.p (aN m ws)]) (q:aW=[.ins a C []]) (q:∀b,K (.p .non) [kO C a b m (ws,[])] [pO b m []])
def Jl(c_Keeper:O):WS:=(ar (f7 (au 1 uK (ag (aa 1) af))) (ar (ay c_Keeper "town" (aa 1) (aa 0)) (ar (ay c_Keeper "shut" (bw af) (aa 0)) (ay c_Keeper "past" (nu af) (aa 0)))))
theorem T2 C:∀ys c e,↑ys=2->xi C ys c e->Jl C (ai ↑c e) ⟨ys.map ζ++Gg 0 η,c.map ζ⟩:=by
 ext g c e-⟨a,m,f,W,rfl,rfl,k⟩;calc aJ λN d=>?_;rfl';calc⟨m,f,W,Y,Y,?_⟩;rfl';subst d;calc aJ λN d=>?_;rfl';calc(zI3 a 0 _ ⟨⟨Y,Y,by decide⟩,?_⟩);subst d;calc aJ λN d=>?_;rfl';calc(zI3 a 0 _ ⟨⟨Y,Y,by show 1<1000;decide⟩,?_⟩);subst d;rfl';calcλb=>(zI3 a 0 _ ⟨⟨Y,Y,by show 2<1000;decide⟩,(zI3 _ ([pO b m []]) [] ⟨Y,Y,k b⟩)⟩)
inductive BG (C:O) (ys:-DV) (aW:-OV) (K:RK->-OV->-OV->Prop):Prop
 |mk (a b:O) (m:Int) (s:bQ) (q:ys=[.w a]) (q:aW=[kO C a b m s]) (q:K (.p (aN m s.1)) [kO C a b m s] [])
def Jm(c_Keeper:O):WS:=(aB (ah c_Keeper "town" (aa 0)))
theorem T3 C:∀ys c d,↑ys=1->BG C ys c d->Jm C (ai ↑c d) ⟨ys.map ζ++Gg 0 η,c.map ζ⟩:=by
 ext e c d-⟨a,b,m,s,rfl,rfl,k⟩;calc(zI4 a 0 _ (.p (aN m s.1)) ⟨⟨Y,Y,Y⟩,jz k⟩)
inductive BH (C:O) (ys:-DV) (aW:-OV) (K:RK->-OV->-OV->Prop):Prop
 |mk (a b:O) (m:Int) (s:bQ) (q:bB m s) (q:ys=[.w a]) (q:aW=[kO C a b m s]) (q:K (.n (s.2.map D.int)) [kO C a b m s] [])
def Jn(c_Keeper:O):WS:=(aB (rM (ag (ah c_Keeper "shut" (aa 0)) af) wC))
theorem T5 C:∀ys c d,↑ys=1->BH C ys c d->Jn C (ai ↑c d) ⟨ys.map ζ++Gg 0 η,c.map ζ⟩:=by
 ext e c d-⟨a,b,m,s,O,rfl,rfl,k⟩;calc(zI4 a 0 _ (.p (bV s.2)) ⟨⟨Y,Y,Y⟩,(zI3 [_] [] ([ζ (.lst _)]) ⟨Y,Y,tm _,k⟩)⟩)
inductive rX (C:O) (ys:-DV) (aW:-OV) (K:RK->-OV->-OV->Prop):Prop
 |mk (a b:O) (m:Int) (s:bQ) (q:bB m s) (q:ys=[.w a]) (q:aW=[kO C a b m s]) (q:∀ns,aG (bO s) ns->K (.n ((bU m s ns).map D.int)) [kO C a b m s] [])
def Jo(c_Keeper:O):WS:=(ar (aK 1 (au 2 Bx (ag (ah c_Keeper "town" (aa 0)) (ag (ah c_Keeper "shut" (aa 0)) af)))) (aB (nA (cN (au 1 Bk (ag (au 2 Bz (ag (ah c_Keeper "town" (aa 0)) (ag (aa 1) af))) af))) [η,ζ 1] (bZ 0) fz (d2 (aa 1) (aa 0) aS))))
theorem T6(C:ξ):∀ys c g,↑ys=1->rX C ys c g->Jo C (ai ↑c g) ⟨ys.map ζ++Gg 1 η,c.map ζ⟩:=by
 ext w c g-⟨a,b,m,s,O,rfl,rfl,k⟩;calc aJ λN o=>(zI4 a 0 _ (.p (aN m s.1)) ⟨⟨Y,Y,Y⟩,a,0,_,.p (bV s.2),⟨Y,Y,Y⟩,?_⟩);rfl';calc⟨m,s.1,s.2,O.gv,Y,Y,?_⟩;subst o;calc(zI4 a 0 _ (.p (aN m s.1)) ⟨⟨Y,Y,Y⟩,?_⟩);rfl';calc⟨m,s.1,pC s.1 s.2,O.gv,uM _ _,Y,Y,?_⟩;rfl';let j:fG m (bO s):=rS O.gv (uM s.1 s.2);refine⟨m,bO s,j,Y,Y,λf i=>?_⟩
 let x:↑(mG m (bO s) f)<=30:=by
  let:=wW (m:=m) (ws:=bO s) f;let:=i.len;let:=j.gY;symm
 refine lu (λd=>.int (oa (pC s.1 s.2) (dI d))) (by rw[qa];symm) trivial ?_ ?_
 .ext d q r L t h
  let⟨n,u,rfl⟩:11:=ZI.mp q;let l:=i.nums n (IY f n u);rw[sub_len] at l;simp![0,bV];rw[S9 l];exact⟨t,h⟩
 .refine (zI3 [_] [] ([ζ (.lst _)]) ⟨Y,Y,tm _,?_⟩)
  let e:(q8U D.int (mG m (bO s) f)).map (λd=>D.int (oa (pC s.1 s.2) (dI d)))=(bU m s f).map D.int:=by
   unfold bU;rw[Z7,Z7];rfl
  rw[e];calc k f i
meta def wsum(ws:-(Int×Int×Int))(ns:-Int):Int:=(ns.map λn=>(ws.getD n.toNat (0,0,0)).2.2).sum
theorem BI{m:Int}{s:bQ}{ns:-Int}(O:bB m s)(b:aG (bO s) ns):Nums s.1 (bU m s ns)/\(bU m s ns).Nodup/\↑(bU m s ns)<=30:=by
 let S:=uM s.1 s.2;let h:fG m (bO s):=rS O.gv S
 let d:∀i∈mG m (bO s) ns,0<=i/\i<(↑(pC s.1 s.2)):=λi a=>by
  let k:=b.nums i (IY ns i a)
  rwa [sub_len] at k
 refine⟨λn l=>?_,?_,?_⟩
 .let⟨i,a,rfl⟩:=ZI.mp l
  exact S.nums _ (SY (d i a))
 .refine q1f.mpr ((S8 b).imp_of_mem λ{i j} a o p e=>p ?_)
  let f:=d i a;let g:=d j o
  by_cases c:i<j
  .let:=S.lt f.1 c g.2;symm
  .by_cases q:j<i
   .let:=S.lt g.1 q f.2;symm
   .omega
 .let f:=wW (m:=m) (ws:=bO s) ns
  let g:=b.len;let r:=h.gY;unfold bU;rw[qa];symm
inductive BJ (C:O) (ys:-DV) (aW:-OV) (K:RK->-OV->-OV->Prop):Prop
 |mk (a b:O) (m:Int) (s:bQ) (q:bB m s) (q:ys=[.w a]) (q:aW=[kO C a b m s]) (q:∀ns,aG (bO s) ns->K (.p (.int (wsum s.1 (bU m s ns)))) [kO C a b m s] [])
def Jp(c_Keeper:O):WS:=(aB (au 2 Bq (ag (ah c_Keeper "town" (aa 0)) (ag (aw ι c_Keeper "forest" 1 (rX c_Keeper) (aa 0) af) af))))
theorem T7(C:ξ):∀ys c d,↑ys=1->BJ C ys c d->Jp C (ai ↑c d) ⟨ys.map ζ++Gg 0 η,c.map ζ⟩:=by
 ext i c d-⟨a,b,m,s,O,rfl,rfl,k⟩;calc(zI4 a 0 _ (.p (aN m s.1)) ⟨⟨Y,Y,Y⟩,(zI3 a 0 _ ⟨Y,Y,Y⟩),[(0,kO C a b m s)],⟨Y,trivial⟩,?_⟩);rfl';calc⟨a,b,m,s,O,Y,Y,λe f=>?_⟩;let⟨g,h,j⟩:02:=BI O f;rfl';calc⟨m,s.1,bU m s e,O.gv,g,h,⋯,Y,Y,jz (k e f)⟩
inductive uT (C:O) (ys:-DV) (aW:-OV) (K:RK->-OV->-OV->Prop):Prop
 |mk (a b:O) (m:Int) (s:bQ) (n:Int) (q:bB m s) (q:(0<=n/\n<(↑s.1:Int))) (q:ys=[.w a,.p (.int n)]) (q:aW=[kO C a b m s]) (q:K (.p .non) [kO C a b m s] [])
def Jq(c_Keeper:O):WS:=(aU (cb (dT (au 3 kN (ag (aa 1) (ag (dC (.int 0)) (ag (d2 (dN (ag (d2 (ah c_Keeper "town" (aa 0)) (dC (.int 1)) aS) af) bT) (dC (.int 1)) (oI λi j=>.int (i-j))) af)))))) me bY)
theorem T8(C:ξ):∀ys c d,↑ys=2->uT C ys c d->Jq C (ai ↑c d) ⟨ys.map ζ++Gg 0 η,c.map ζ⟩:=by
 ext f c d-⟨a,b,m,s,n,O,e,rfl,rfl,k⟩;calc(zI4 a 0 _ (.p (aN m s.1)) ⟨⟨Y,Y,Y⟩,?_⟩);simp![0,aN,cG];calc⟨.int n,0,↑s.1-1,Y,Y,?_⟩;rw[AN e.1 ⋯];calc jz k
inductive uU (C:O) (ys:-DV) (aW:-OV) (K:RK->-OV->-OV->Prop):Prop
 |mk (a b:O) (m:Int) (s s':bQ) (q:bB m s) (q:bB m s') (q:ys=[.w a,.p (aN m s'.1),.p (bV s'.2)]) (q:aW=[kO C a b m s]) (q:∀ns fI,aG (bO s) ns->aG (bO s') fI->K (.p (jV (bU m s ns) (bU m s' fI))) [kO C a b m s'] [])
def Jr(c_Keeper:O):WS:=(ar (aK 3 (aw ι c_Keeper "forest" 1 (rX c_Keeper) (aa 0) af)) (ar (ay c_Keeper "town" (aa 1) (aa 0)) (ar (ay c_Keeper "shut" (aa 2) (aa 0)) (aB (au 2 BE (ag (aa 3) (ag (aw ι c_Keeper "forest" 1 (rX c_Keeper) (aa 0) af) af)))))))
theorem T9(C:ξ):∀ys c g,↑ys=3->uU C ys c g->Jr C (ai ↑c g) ⟨ys.map ζ++Gg 1 η,c.map ζ⟩:=by
 ext n c g-⟨a,b,m,s,h,O,i,rfl,rfl,k⟩;calc aJ λN d=>⟨(zI3 a 0 _ ⟨Y,Y,Y⟩),[(0,kO C a b m s)],⟨Y,trivial⟩,?_⟩;rfl';calc⟨a,b,m,s,O,Y,Y,λj l=>?_⟩;rfl';subst d;calc aJ λN d=>?_;rfl';calc(zI3 a 0 _ ⟨⟨Y,Y,by show 3<1000;decide⟩,?_⟩);subst d;calc aJ λN d=>(zI3 a 0 _ ⟨⟨Y,Y,by show 3<1000;decide⟩,?_⟩);subst d;calc⟨(zI3 a 0 _ ⟨Y,Y,Y⟩),[(0,kO C a b m h)],⟨Y,trivial⟩,?_⟩;rfl'
 calc⟨a,b,m,h,i,Y,Y,λe f=>?_⟩;let⟨_,_,o⟩:02:=BI O l;let⟨_,_,p⟩:02:=BI i f;rfl';calc⟨bU m s j,bU m h e,⋯,⋯,Y,Y,jz (k j e l f)⟩
inductive pE (C:O) (ys:-DV) (aW:-OV) (K:RK->-OV->-OV->Prop):Prop
 |mk (a b:O) (m:Int) (s s':bQ) (ps:-bQ) (q:bB m s) (q:bB m s') (q:↑ps<900) (q:ys=[.w a,.p (aN m s'.1),.p (bV s'.2)]) (q:aW=[kO C a b m s,pO b m ps]) (q:∀ns fI,aG (bO s) ns->aG (bO s') fI->K (.p (jV (bU m s ns) (bU m s' fI))) [kO C a b m s',pO b m (ps++[s])] [])
def Js(c_Keeper:O):WS:=(ar (f7 (kc (aj (ah c_Keeper "past" (aa 0))) (ag (bp (ag (ah c_Keeper "town" (aa 0)) (ag (ah c_Keeper "shut" (aa 0)) af))) af))) (aB (aw ι c_Keeper "set_to" 3 (uU c_Keeper) (aa 0) (ag (aa 1) (ag (aa 2) af)))))
theorem T_(C:ξ):∀ys c f,↑ys=3->pE C ys c f->Js C (ai ↑c f) ⟨ys.map ζ++Gg 0 η,c.map ζ⟩:=by
 ext q c f-⟨a,b,m,s,i,d,O,j,r,rfl,rfl,k⟩;calc aJ λN l=>(zI4 a 0 _ (.w b) ⟨⟨Y,Y,Y⟩,b,1,pO b m d,⟨Y,Y,Y⟩,?_⟩);simp![0,pO];calc(zI4 a 0 _ (.p (aN m s.1)) ⟨⟨Y,Y,Y⟩,a,0,_,.p (bV s.2),⟨Y,Y,Y⟩,⟨⋯,?_⟩⟩);subst l;calc⟨(zI3 a 0 _ ⟨Y,Y,Y⟩),[(0,kO C a b m s)],⟨Y,trivial⟩,?_⟩;rfl';calc⟨a,b,m,s,i,O,j,Y,Y,λn g o h=>(zI3 ([kO C a b m i,pO b m (d++[s])]) [] [] ⟨?_,Y,k n g o h⟩)⟩;let e:(d++[s]).map (dj m)=d.map (dj m)++[dj m s]:=ZM;unfold pO;rw[e]
 rfl
meta def uV(ws:-(Int×Int×Int))(n:Int):Int×Int×Int:=ws.getD n.toNat (0,0,0)
meta def ew(ws:-(Int×Int×Int))(n p:Int):-(Int×Int×Int):=ws.set n.toNat ((uV ws n).1,(uV ws n).2.1,p)
theorem Jt{m}{ws:-(Int×Int×Int)}{n p}(W:fG m ws)(hn:0<=n/\n<(↑ws:Int))(a:0<=p/\p<=1000000000):fG m (ew ws n p):=by
 let b:n.toNat<↑ws:=by symm
 let c:uV ws n=ws[n.toNat]:=by unfold uV;rw[Gh,p_ b];rfl
 refine⟨W.m1,W.rz,by unfold ew;rw[q0o];calc W.gY,λy d=>?_,?_⟩
 .rcases q2h d with h|h
  .exact W.ends y h
  .subst h
   let:=W.ends _ (getD_mem hn);exact⟨this.1,this.2.1,this.2.2.1,a.1,a.2⟩
 .let e:(ew ws n p).map (λy=>(y.1,y.2.1))=ws.map λy=>(y.1,y.2.1):=by
   unfold ew;let:=List.set_getElem_self (as:=ws.map λy=>(y.1,y.2.1))  (by rw[qa];calc b);rw[q1c] at this;rw[q7M,c];exact this
  rw[e];calc W.unlike
inductive BK (C:O) (ys:-DV) (aW:-OV) (K:RK->-OV->-OV->Prop):Prop
 |mk (a b:O) (m:Int) (s:bQ) (ps:-bQ) (n p:Int) (q:bB m s) (q:(0<=n/\n<(↑s.1:Int))) (q:(0<=p/\p<=1000000000)) (q:↑ps<900) (q:ys=[.w a,.p (.int n),.p (.int p)]) (q:aW=[kO C a b m s,pO b m ps]) (q:∀ns fI,aG (bO s) ns->aG (bO (ew s.1 n p,s.2)) fI->K (.p (jV (bU m s ns) (bU m (ew s.1 n p,s.2) fI))) [kO C a b m (ew s.1 n p,s.2),pO b m (ps++[s])] [])
def Ju(c_Keeper:O):WS:=(ar (f7 (aw ι c_Keeper "need_way" 2 (uT c_Keeper) (aa 0) (ag (aa 1) af))) (ar (aU (cb (dT (au 3 kN (ag (aa 2) (ag (dC (.int 0)) (ag (dC (.int 1000000000)) af)))))) me bY) (aB (aw ι c_Keeper "changed" 3 (pE c_Keeper) (aa 0) (ag (au 3 xg (ag (ah c_Keeper "town" (aa 0)) (ag (aa 1) (ag (aa 2) af)))) (ag (ah c_Keeper "shut" (aa 0)) af))))))
theorem Jv{ws:-(Int×Int×Int)}{n p us}(S:eR ws us):eR (ew ws n p) us:=⟨S.up,λx a=>by let:=S.nums x a;unfold ew;rwa [q0o]⟩
theorem Ua(C:ξ):∀ys c d,↑ys=3->BK C ys c d->Ju C (ai ↑c d) ⟨ys.map ζ++Gg 0 η,c.map ζ⟩:=by
 ext r c d-⟨a,b,m,s,j,n,p,O,e,f,l,rfl,rfl,k⟩;calc aJ λN g=>⟨(zI3 a 0 _ ⟨Y,Y,Y⟩),[(0,kO C a b m s)],⟨Y,trivial⟩,?_⟩;rfl';calc⟨a,b,m,s,n,O,e,Y,Y,?_⟩;rfl';subst g;calc aJ λN g=>?_;rfl';calc⟨.int p,0,1000000000,Y,Y,?_⟩;rw[AN f.1 f.2];subst g;calc⟨(zI3 a 0 _ ⟨Y,Y,Y⟩),a,0,_,.p (aN m s.1),⟨Y,Y,Y⟩,?_⟩;rfl';refine⟨m,s.1,n,p,O.gv,e,Y,Y,(zI4 a 0 _ (.p (bV s.2)) ⟨⟨Y,Y,Y⟩,[(0,kO C a b m s),(1,pO b m j)],⟨Y,Y,trivial⟩,?_⟩)⟩
 rfl';calc⟨a,b,m,s,(ew s.1 n p,s.2),j,O,⟨Jt O.gv e f,Jv O.sh⟩,l,Y,Y,λo h q i=>jz (k o h q i)⟩
theorem Jw{ws:-(Int×Int×Int)}{a:-Int}{n:Int}(S:eR ws a)(hn:0<=n/\n<(↑ws:Int))(h:n∉a):eR ws (sortI (a++[n])):=by
 let c:=sortI_perm (a++[n]);refine⟨?_,λx b=>?_⟩
 .refine ((Ho _).and (c.nodup_iff.mpr (q06.mpr ⟨S.nd,by simp,λx b y d e=>by rw[ZV] at d;subst d e;calc h b⟩))).imp λh=>?_
  symm
 .rcases ZT.mp (c.mem_iff.mp b) with h|h
  .exact S.nums x h
  .rw[ZV] at h;subst h;calc hn
inductive BL (C:O) (ys:-DV) (aW:-OV) (K:RK->-OV->-OV->Prop):Prop
 |mk (a b:O) (m:Int) (s:bQ) (ps:-bQ) (n:Int) (q:bB m s) (q:(0<=n/\n<(↑s.1:Int))) (q:n∉s.2) (q:↑ps<900) (q:ys=[.w a,.p (.int n)]) (q:aW=[kO C a b m s,pO b m ps]) (q:∀ns fI,aG (bO s) ns->aG (bO (s.1,sortI (s.2++[n]))) fI->K (.p (jV (bU m s ns) (bU m (s.1,sortI (s.2++[n])) fI))) [kO C a b m (s.1,sortI (s.2++[n])),pO b m (ps++[s])] [])
def Jx(c_Keeper:O):WS:=(ar (f7 (aw ι c_Keeper "need_way" 2 (uT c_Keeper) (aa 0) (ag (aa 1) af))) (ar (aU (dT (d2 (aa 1) (ah c_Keeper "shut" (aa 0)) (jc ι))) me bY) (aB (aw ι c_Keeper "changed" 3 (pE c_Keeper) (aa 0) (ag (ah c_Keeper "town" (aa 0)) (ag (dN (ag (d2 (ah c_Keeper "shut" (aa 0)) (bw (ag (aa 1) af)) cx) af) qx) af))))))
theorem Ub(C:ξ):∀ys c d,↑ys=2->BL C ys c d->Jx C (ai ↑c d) ⟨ys.map ζ++Gg 0 η,c.map ζ⟩:=by
 ext t c d-⟨a,b,m,s,h,n,O,i,j,l,rfl,rfl,k⟩;let o:=O.len;calc aJ λN e=>⟨(zI3 a 0 _ ⟨Y,Y,Y⟩),[(0,kO C a b m s)],⟨Y,trivial⟩,?_⟩;rfl';calc⟨a,b,m,s,n,O,i,Y,Y,?_⟩;rfl';subst e;calc aJ λN e=>(zI4 a 0 _ (.p (bV s.2)) ⟨⟨Y,Y,Y⟩,?_⟩);simp![0,bV,n_,YC j];calc⟨mH s.2,?_⟩;subst e;calc⟨(zI3 a 0 _ ⟨Y,Y,Y⟩),a,0,_,.p (aN m s.1),⟨Y,Y,Y⟩,a,0,_,.p (bV s.2),⟨Y,Y,Y⟩,?_⟩;simp![0,bV]
 calc⟨⋯,?_⟩;rw[show s.2.map D.int++[D.int n]=(s.2++[n]).map D.int by rw[ZM];rfl];erw[qx,ud];calc⟨by simp;symm,[(0,kO C a b m s),(1,pO b m h)],⟨Y,Y,trivial⟩,?_⟩;rfl';calc⟨a,b,m,s,(s.1,sortI (s.2++[n])),h,O,⟨O.gv,Jw O.sh i j⟩,l,Y,Y,λq f r g=>jz (k q f r g)⟩
meta def kj(a:-Int)(n:Int):-Int:=a.filter λx=>μ (x≠n)
theorem vy{ws:-(Int×Int×Int)}{a n}(S:eR ws a):eR ws (kj a n):=⟨S.up.filter _,λx b=>S.nums x (q1y.mp b).1⟩
inductive BM (C:O) (ys:-DV) (aW:-OV) (K:RK->-OV->-OV->Prop):Prop
 |mk (a b:O) (m:Int) (s:bQ) (ps:-bQ) (n:Int) (q:bB m s) (q:(0<=n/\n<(↑s.1:Int))) (q:n∈s.2) (q:↑ps<900) (q:ys=[.w a,.p (.int n)]) (q:aW=[kO C a b m s,pO b m ps]) (q:∀ns fI,aG (bO s) ns->aG (bO (s.1,kj s.2 n)) fI->K (.p (jV (bU m s ns) (bU m (s.1,kj s.2 n) fI))) [kO C a b m (s.1,kj s.2 n),pO b m (ps++[s])] [])
def Jy(c_Keeper:O):WS:=(ar (f7 (aw ι c_Keeper "need_way" 2 (uT c_Keeper) (aa 0) (ag (aa 1) af))) (ar (aU (dT (d2 (aa 1) (ah c_Keeper "shut" (aa 0)) (jc θ))) me bY) (aB (aw ι c_Keeper "changed" 3 (pE c_Keeper) (aa 0) (ag (ah c_Keeper "town" (aa 0)) (ag (gC (cN (ah c_Keeper "shut" (aa 0))) [η,ζ 1] (bZ 0) (dT (d2 (aa 0) (aa 1) iV)) (aa 0)) af))))))
theorem Uc(C:ξ):∀ys e f,↑ys=2->BM C ys e f->Jy C (ai ↑e f) ⟨ys.map ζ++Gg 0 η,e.map ζ⟩:=by
 ext D e f-⟨a,b,m,s,j,n,O,l,o,q,rfl,rfl,k⟩;let r:=O.len;calc aJ λN g=>⟨(zI3 a 0 _ ⟨Y,Y,Y⟩),[(0,kO C a b m s)],⟨Y,trivial⟩,?_⟩;rfl';calc⟨a,b,m,s,n,O,l,Y,Y,?_⟩;rfl';subst g;calc aJ λN g=>(zI4 a 0 _ (.p (bV s.2)) ⟨⟨Y,Y,Y⟩,?_⟩);simp![0,bV,n_,OR o];calc⟨mH s.2,?_⟩;subst g;refine⟨(zI3 a 0 _ ⟨Y,Y,Y⟩),a,0,_,.p (aN m s.1),⟨Y,Y,Y⟩,a,0,_,.p (bV s.2),⟨Y,Y,Y⟩,rL (λd=>μ (dI d≠n)) (λd=>d) (by rw[qa];symm) trivial ?_ ?_⟩
 .ext d t u L w y z
  let⟨x,E,rfl⟩:11:=ZI.mp t;simp![0,pB]
  by_cases c:x=n
  .rw[OR c];exact z (YC (q3M c))
  .rw[YC c];exact⟨w,y (OR c)⟩
 .rw[xf λx=>μ (x≠n)]
  calc⟨[(0,kO C a b m s),(1,pO b m j)],⟨Y,Y,trivial⟩,?_⟩;rfl';calc⟨a,b,m,s,(s.1,kj s.2 n),j,O,⟨O.gv,vy O.sh⟩,q,Y,Y,λA h B i=>jz (k A h B i)⟩
inductive BN (C:O) (ys:-DV) (aW:-OV) (K:RK->-OV->-OV->Prop):Prop
 |mk (a b:O) (m:Int) (s s':bQ) (ps:-bQ) (q:bB m s) (q:bB m s') (q:↑ps<900) (q:ys=[.w a]) (q:aW=[kO C a b m s,pO b m (ps++[s'])]) (q:∀ns fI,aG (bO s) ns->aG (bO s') fI->K (.p (jV (bU m s ns) (bU m s' fI))) [kO C a b m s',pO b m ps] [])
def Jz(c_Keeper:O):WS:=(ar (aU (dT (d2 (dN (ag (aj (ah c_Keeper "past" (aa 0))) af) bT) (dC (.int 0)) oEq)) me bY) (ar (aK 1 (nJ (aj (ah c_Keeper "past" (aa 0))))) (aB (aw ι c_Keeper "set_to" 3 (uU c_Keeper) (aa 0) (ag (d2 (aa 1) (dC (.int 0)) aS) (ag (d2 (aa 1) (dC (.int 1)) aS) af))))))
theorem Ud(C:ξ):∀ys c d,↑ys=1->BN C ys c d->Jz C (ai ↑c d) ⟨ys.map ζ++Gg 1 η,c.map ζ⟩:=by
 ext o c d-⟨a,b,m,s,i,e,O,j,p,rfl,rfl,k⟩;calc aJ λN f=>(zI4 a 0 _ (.w b) ⟨⟨Y,Y,Y⟩,b,1,_,⟨Y,Y,Y⟩,?_⟩);simp![0,pO,ZM];rw[pB,YC ⋯,Zx (by decide)];subst f;calc aJ λN f=>(zI4 a 0 _ (.w b) ⟨⟨Y,Y,Y⟩,b,1,_,⟨Y,Y,Y⟩,?_⟩);rfl';rw[show ↑e+1-1=↑(e.map (dj m)) by rw[qa];symm,q15];simp![0,q4E];subst f;calc⟨(zI3 a 0 _ ⟨Y,Y,Y⟩),[(0,kO C a b m s)],⟨Y,trivial⟩,?_⟩;rfl'
 calc⟨a,b,m,s,i,O,j,Y,Y,λl g n h=>(zI3 ([kO C a b m i,pO b m e]) [] [] ⟨Y,Y,k l g n h⟩)⟩
end LJ
namespace LJT
open PySem L2 LJ
variable[zt:aM]
mutual
noncomputable def ig:D->Bool
 |.lst ds=>μ (↑ds<=1000)&&gf ds
 |.tup ds=>μ (↑ds<=1000)&&gf ds
 |_=>θ
noncomputable def gf:-D->Bool
 |[]=>θ
 |d::r=>ig d&&gf r
end
theorem ij:∀{ds},gf ds=θ->∀d∈ds,ig d=θ
 |[],_,d,h=>nomatch h
 |a::r,b,d,h=>by
  erw[gf,ZK] at b;rcases OQ.mp h with rfl|h
  .exact b.1
  .calc ij b.2 d h
inductive bf (n:Nat) (ys:-DV) (aW:-OV) (K:RV->-OV->Prop):Prop
 |mk (d) (q:dep d<=n) (q:n<=50) (q:ig d=θ) (q:ys=[.p d,.p d]) (q:aW=[]) (q:K (.p (.bl θ)) [])
def bC(a:GD):WS:=(ar (aU (dT (d2 (aa 1) (dC .non) ly)) (aB (d2 (aa 0) (dC .non) ly)) bY) (ar (aU (ju (dT (d1 (aa 1) (cn "bool"))) (dT (d1 (aa 0) (cn "bool")))) (aB (jO (d1 (aa 1) (cn "bool")) (jO (d1 (aa 0) (cn "bool")) (d2 (aa 0) (aa 1) oEq)))) bY) (ar (aU (dT (d1 (aa 1) (cn "int"))) (aB (jO (d1 (aa 0) (cn "int")) (d2 (aa 0) (aa 1) oEq))) bY) (ar (aU (dT (d1 (aa 1) (cn "str"))) (aB (jO (d1 (aa 0) (cn "str")) (d2 (aa 0) (aa 1) oEq))) bY) (ar (aU (ju (dT (d2 (d1 (aa 1) (cn "tuple")) (d1 (aa 0) (cn "tuple")) iV)) (dT (d2 (d1 (aa 1) (cn "list")) (d1 (aa 0) (cn "list")) iV))) (aB (dC (.bl ι))) bY) (ar (aU (dT (d2 (dN (ag (aa 0) af) bT) (dN (ag (aa 1) af) bT) iV)) (aB (dC (.bl ι))) bY) (aB (d2 (dC (.bl ι)) (gC (w9 (ag (aa 0) (ag (aa 1) af))) [η,η] (lq 2 (g4 (bZ 0) (g4 (bZ 1) kF))) fz (au 2 a (ag (aa 0) (ag (aa 1) af)))) (jc θ)))))))))
def iX(g:Nat->GD):Nat->GD
 |0=>λ_ _ _=>False
 |n+1=>g n
theorem Ue g {a} (k:a (.p (.bl θ)) []):bC g (iU 0 a) ⟨[ζ (.p .non),ζ (.p .non)],[]⟩:=by
 calc dt k
theorem Ug(g:GD){a:RV->-OV->Prop}(b:Bool)(k:a (.p (.bl θ)) []):bC g (iU 0 a) ⟨[ζ (.p (.bl b)),ζ (.p (.bl b))],[]⟩:=by
 unfold bC;calc aJ λN c=>?_;simp![cJ,mq,mr,mw,mx,my,e8];subst c;calc aJ λN c=>?_;simp![cJ,mq,mr,mw,mx,my,e8];calc dt k
theorem same_int g {c} b (k:c (.p (.bl θ)) []):bC g (iU 0 c) ⟨[ζ (.p (.int b)),ζ (.p (.int b))],[]⟩:=by
 calc aJ λN a=>?_;simp![cJ,mz,mB,mC,mD,mE,e8];subst a;calc aJ λN a=>?_;subst a;simp![cJ,mz,mB,mC,mD,mE,e8];calc dt k
theorem same_str g {c} b (k:c (.p (.bl θ)) []):bC g (iU 0 c) ⟨[ζ (.p (.str b)),ζ (.p (.str b))],[]⟩:=by
 calc aJ λN a=>?_;simp![cJ,lz,lA,lB,lC,lD,e8];subst a;calc aJ λN a=>?_;simp![cJ,lz,lA,lB,lC,lD,e8];subst a;calc aJ λN a=>?_;subst a;simp![cJ,lz,lA,lB,lC,lD,e8];calc dt k
theorem Uh{n l ds}(hd:dep (.lst ds)<=n)(hn:n<=50)(c:ig (.lst ds)=θ)(k:l (.p (.bl θ)) []):bC (iX bf n) (iU 0 l) ⟨[ζ (.p (.lst ds)),ζ (.p (.lst ds))],[]⟩:=by
 calc aJ λN b=>?_;simp![cJ,o_,pa,pb,pd,pe,mq,mr,mw,mx,my,mz,mB,mC,mD,mE,lz,lA,lB,lC,lD,nM,nN,nO,nP,nQ,nR,nS,nT,nU,nW];subst b;calc aJ λN b=>?_;simp![cJ,o_,pa,pb,pd,pe,mq,mr,mw,mx,my,mz,mB,mC,mD,mE,lz,lA,lB,lC,lD,nM,nN,nO,nP,nQ,nR,nS,nT,nU,nW];subst b;calc aJ λN b=>?_;simp![cJ,o_,pa,pb,pd,pe,mq,mr,mw,mx,my,mz,mB,mC,mD,mE,lz,lA,lB,lC,lD,nM,nN,nO,nP,nQ,nR,nS,nT,nU,nW];subst b;calc aJ λN b=>?_;simp![cJ,o_,pa,pb,pd,pe,mq,mr,mw,mx,my,mz,mB,mC,mD,mE,lz,lA,lB,lC,lD,nM,nN,nO,nP,nQ,nR,nS,nT,nU,nW];subst b;calc aJ λN b=>?_;simp![cJ,nR,nS,nT,nU,nW]
 subst b;erw[e8,q1p,Zz,q1e];calc aJ λN b=>?_;simp![e8];subst b;let⟨m,rfl⟩:∃m,n=m+1:=⟨n-1,by erw[dep] at hd;symm⟩;let f:bo ds<=m:=by erw[dep] at hd;symm
 let g:=by erw[ig,ZK] at c;exact c.2
 let i:=by erw[ig,ZK,q0v] at c;exact c.1
 let q:↑(dZ ds ds)<=1000:=by rw[v_];symm
 simp![w9];refine L2.lu (λd=>.bl θ) q trivial ?_ ?_
 .ext d j r L s h
  let⟨a,rfl,o⟩:=AL j;simp!;exact⟨a,Z0 (AK o) f,⋯,ij g a o,Y,Y,⟨s,h⟩⟩
 .let t:((dZ ds ds).map λ_=>D.bl θ).any (λe=>aE e (.bl ι))=ι:=by
   rw[q1g];ext x u;let⟨_,_,rfl⟩:=ZI.mp u;simp[aE]
  calc⟨(AM _),by rw[t];calc dt k⟩
theorem lP{n l ds}(hd:dep (.tup ds)<=n)(hn:n<=50)(c:ig (.tup ds)=θ)(k:l (.p (.bl θ)) []):bC (iX bf n) (iU 0 l) ⟨[ζ (.p (.tup ds)),ζ (.p (.tup ds))],[]⟩:=by
 calc aJ λN b=>?_;simp![cJ,o_,pa,pb,pd,pe,mq,mr,mw,mx,my,mz,mB,mC,mD,mE,lz,lA,lB,lC,lD,nM,nN,nO,nP,nQ,nR,nS,nT,nU,nW];subst b;calc aJ λN b=>?_;simp![cJ,o_,pa,pb,pd,pe,mq,mr,mw,mx,my,mz,mB,mC,mD,mE,lz,lA,lB,lC,lD,nM,nN,nO,nP,nQ,nR,nS,nT,nU,nW];subst b;calc aJ λN b=>?_;simp![cJ,o_,pa,pb,pd,pe,mq,mr,mw,mx,my,mz,mB,mC,mD,mE,lz,lA,lB,lC,lD,nM,nN,nO,nP,nQ,nR,nS,nT,nU,nW];subst b;calc aJ λN b=>?_;simp![cJ,o_,pa,pb,pd,pe,mq,mr,mw,mx,my,mz,mB,mC,mD,mE,lz,lA,lB,lC,lD,nM,nN,nO,nP,nQ,nR,nS,nT,nU,nW];subst b;calc aJ λN b=>?_;simp![cJ,nM,nN,nO,nP,nQ]
 subst b;erw[e8,q1p,Zz,q1e];calc aJ λN b=>?_;simp![e8];subst b;let⟨m,rfl⟩:∃m,n=m+1:=⟨n-1,by erw[dep] at hd;symm⟩;let f:bo ds<=m:=by erw[dep] at hd;symm
 let g:=by erw[ig,ZK] at c;exact c.2
 let i:=by erw[ig,ZK,q0v] at c;exact c.1
 let q:↑(dZ ds ds)<=1000:=by rw[v_];symm
 simp![w9];refine L2.lu (λd=>.bl θ) q trivial ?_ ?_
 .ext d j r L s h
  let⟨a,rfl,o⟩:=AL j;simp!;exact⟨a,Z0 (AK o) f,⋯,ij g a o,Y,Y,⟨s,h⟩⟩
 .let t:((dZ ds ds).map λ_=>D.bl θ).any (λe=>aE e (.bl ι))=ι:=by
   rw[q1g];ext x u;let⟨_,_,rfl⟩:=ZI.mp u;simp[aE]
  calc⟨(AM _),by rw[t];calc dt k⟩
theorem gg(n:Nat):Sem 2 0 (bf n) (bC (iX bf n)):=by
 ext h f i-⟨d,a,c,e,rfl,rfl,k⟩
 .cases d with
  |tup g=>exact lP a c e k
  |non=>exact Ue _ k
  |bl b=>exact Ug _ b k
  |int b=>exact same_int _ b k
  |str b=>exact same_str _ b k
  |lst g=>calc Uh a c e k
end LJT
namespace LJ
open PySem L2
end LJ
namespace LJ
open PySem L2 PySem.Spec PySem.W PyProof.Rows
structure Ev where
 P:ψ
 w:ω
 K:vL
 mg:Z->Option ν
 base:Α
section
variable[zt:aM]
structure Fx(V:Ev)(k:Nat)(x:Z)(ps:-Z)(n:Nat)(G:GD):Prop where
 ex:∃f fd,Fn V.P V.w V.K V.mg V.base k x ps (mf G n) f fd
def Dx(V:Ev)(x:Z)(st:χ):Prop:=∃f a,V.mg x=ζ (.ref f)/\e7 V.K x x st f a
def xj(V:Ev)(x:Z)(st:χ)(T:O)(pos:Δ)(q:Z):Prop:=∃f a,(V.mg x=ζ (.ref f)/\e7 V.K x x st f a)/\h_ V.mg V.base a T pos q
def Ct(V:Ev)(x:Z)(i:Int):Prop:=∃u,V.mg x=ζ u/\RelV (.int i) u
section
variable{X:Cx}{x:Z}{ps:-Z}{G:GD}{e:υ}{es:-υ}{fa:WA}{p pos:Δ}{j k n:Nat}
theorem bP(F:Fx ⟨X.prog,X.w,X.K,X.mg,X.base⟩ j x ps n G)(c:aX k X.A)(d:JA X (e::es) (b_ fa))(hj:‹q2L j k=θ›)(f:‹Gl X x›)(a: ~~~(bF x))(he:‹b7 X e es›)(b:‹cm X pos es›):
  JE X (.Call (.Name x p) (e::es) [] pos) (tD (au n G fa)):=let⟨_,_,F⟩:=F.ex;Qu F.ok (c.mono (q0f hj)) f F.ro F.kp F.bd d a he b
theorem Ui(F:Fx ⟨X.prog,X.w,X.K,X.mg,X.base⟩ j x ps n G)(c:aX k X.A)(d:JA X (e::es) (b_ fa))(hj:‹q2L j k=θ›)(f:‹Gl X x›)(a: ~~~(bF x))(he:‹b7 X e es›)(b:‹cm X pos es›):
  JE X (.Call (.Name x p) (e::es) [] pos) (tD (t6 n G fa)):=let⟨_,_,F⟩:=F.ex;Qv F.ok (c.mono (q0f hj)) f F.ro F.kp F.bd d a he b
theorem BO{i}(C:Ct ⟨X.prog,X.w,X.K,X.mg,X.base⟩ x i)(c:‹Gl X x›)(hd: ~~~(bF x)):JE X (.Name x pos) (tD (dC (.int i))):=let⟨_,a,b⟩:=C;Qg c a b hd
end
theorem _root_.L2.h_.env{e:Z->Option ν}{a:Α}{d:FuncData}{T:O}{f:Δ}{q:Z}{b:ν}(L:h_ e a d T f q)(h:d.code=b):∃c,b=.ref c/\CodeHd a c T:=let⟨c,g,i⟩:=L.code;⟨c,h.symm.trans g,i⟩
meta def Uj:NameKind->Bool
 |.local=>θ
 |.cell=>θ
 |_=>ι
meta def Uk:NameKind->Bool
 |.free=>ι
 |_=>θ
meta def Ul:ScopeKind->Bool
 |.function=>θ
 |_=>ι
meta def kR(N P:-Z)(a:Γ):Bool:=Ul a.kind && !a.isCoroutine && !a.isGenerator&&μ N.Nodup&&μ (N.take ↑P=P)&&(P.all λx=>match a.names.lookup x with
 |some k=>Uj k
 |none=>ι)&&a.names.all λy=>Uk y.2
theorem dy{N P a}(h:kR N P a=θ):kZ N P a:=by
 unfold kR at h;erw[ZK,q2K,q0v,q0c] at h;let⟨⟨⟨⟨⟨⟨b,c⟩,d⟩,f⟩,g⟩,i⟩,j⟩:=h;refine⟨?_,c,d,f,g,λx l=>?_,λy m z=>?_⟩
 .cases q:a.kind<;>rw[q] at b<;>first|rfl|cases b
 .let:=i x l
  split at this
  .rename_i k e
   rw[e];cases k<;>first|exact .inl Y|exact .inr Y|cases this
  .cases this
 .let:=j y m
  rw[z] at this;cases this
def gF(x:Z)(st:χ)(ps:-Z):Prop:=∀(d a e:ν)(f:Option O)(b g:ν)(c:-ν),↑c=↑ps->bindArgs (q0q x x (ja st) (dA st) (bX st) .none d a e f b g) ⟨c,[]⟩=pure (ps.zip c)
section
theorem BP{us:-ν}(h:↑us=1):∃a,us=[a]:=List.length_eq_one_iff.mp h
theorem xk{us:-ν}(h:↑us=2):∃a b,us=[a,b]:=by
 cases us with
 |nil=>cases h
 |cons a r=>let⟨b,rfl⟩:=BP (q7N h);calc(zI2 a b Y)
theorem JB{us:-ν}(h:↑us=3):∃a b c,us=[a,b,c]:=by
 cases us with
 |nil=>cases h
 |cons a r=>let⟨b,c,rfl⟩:2:=xk (q7N h);calc(zI3 a b c Y)
theorem kl{x st ps}(h:‹∀d b e f c ct a,bindArgs (q0q x x (ja st) (dA st) (bX st) .none d b e f c ct) ⟨[a],[]⟩=pure (ps.zip [a])›)(i:‹↑ps=1›):gF x st ps:=λd b e f c g k j=>by
 let⟨a,rfl⟩:=BP (j.trans i);calc h d b e f c g a
theorem gG{x st ps}(h:‹∀e c f g d ct a b,bindArgs (q0q x x (ja st) (dA st) (bX st) .none e c f g d ct) ⟨[a,b],[]⟩=pure (ps.zip [a,b])›)(j:‹↑ps=2›):gF x st ps:=λe c f g d i l k=>by
 let⟨a,b,rfl⟩:2:=xk (k.trans j);calc h e c f g d i a b
theorem mI{x st ps}(h:‹∀f d g i e ct a b c,bindArgs (q0q x x (ja st) (dA st) (bX st) .none f d g i e ct) ⟨[a,b,c],[]⟩=pure (ps.zip [a,b,c])›)(k:‹↑ps=3›):gF x st ps:=λf d g i e j m l=>by
 let⟨a,b,c,rfl⟩:3:=JB (l.trans k);calc h f d g i e j a b c
variable{V:Ev}{x:Z}{st:χ}{N ps:-Z}{k:Nat}{G:GD}
theorem d9(D:Dx V x st)(j:gF x st ps)(h:∀{c A b s H E f},aX k (A.deeper (envOfC x (bX st) ⇑s f c))->N.Nodup->(A.deeper (envOfC x (bX st) ⇑s f c)).units+64<cLine →
   ∃B:WS,cV (bt d7 V.P V.w V.K V.mg V.base N x (bX st) f c A b s H E).jZ (dA st) (dc B)/\∀ys d e,↑ys=↑ps->G ys d e->B (iU ↑d e) ⟨ys.map ζ++Gg (↑N-↑ps) η,d.map ζ⟩)(g:autoParam (kR N ps (bX st)=θ) qz3._auto_1):Fx V (k+1) x ps ↑ps G :=
 let⟨f,l,a,F⟩:=D
 ⟨f,l,F.Qr (dy g) λc A b s H E i=>h i (dy g).nd i.units,a,F.kp,F.binds j⟩
theorem Um{T g q}(D:xj V x st T g q)(m:gF x st ps)(h:∀{b A c s H E f e},h_ V.mg V.base e T g q->e.code=b->aX k (A.deeper (envOfC x (bX st) ⇑s f b))->N.Nodup->(A.deeper (envOfC x (bX st) ⇑s f b)).units+64<cLine →
   ∃B:WS,cV (bt d7 V.P V.w V.K V.mg V.base N x (bX st) f b A c s H E).jZ (dA st) (dc B)/\∀ys d i,↑ys=↑ps->G ys d i->B (iU ↑d i) ⟨ys.map ζ++Gg (↑N-↑ps) η,d.map ζ⟩)(j:autoParam (kR N ps (bX st)=θ) qz3._auto_1):Fx V (k+1) x ps ↑ps G :=
 let⟨f,e,⟨a,F⟩,n⟩:=D
 ⟨f,e,F.Be (dy j) λb A c s H E o l=>h n o l (dy j).nd l.units,a,F.kp,F.binds m⟩
end
end
section
variable{K:vL}{h:Α}{mg:Z->Option ν}
def Dk(K:vL)(x:Z)(st:χ):Prop:=∃f a,Z6 K mainGlobals x=ζ (ζ (.ref f))/\e7 K x x st f a
inductive ik (K:vL):-(Z×χ)->Prop
 |nil:ik K []
 |cons {x st r}:Dk K x st->ik K r->ik K ((x,st)::r)
theorem BQ{x st r f c d e g i j m b ct}(a:Z6 K mainGlobals x=ζ (ζ (.ref f)))(l:K.lookup f=ζ ⟨g,c,.func (q0q x x (ja st) (dA st) (bX st) .none i j m d b ct),e⟩)(q:q1O K b x=θ)(k:Z3 K (.ref f)=θ)(h:ik K r):ik K ((x,st)::r) :=
 .cons (zI2 f _ ⟨a,tr l q k⟩) h
theorem ik.at{ds}(h:ik K ds)(i:Nat){x st}(e:ds[i]?=ζ (x,st)):Dk K x st:=by
 induction h generalizing i with
 |nil=>cases e
 |cons d _ a=>cases i with
  |zero=>cases e;exact d
  |succ i=>calc a i e
def xl(K:vL)(x:Z)(st:χ)(T:O):Prop:=∃f a,(Z6 K mainGlobals x=ζ (ζ (.ref f))/\e7 K x x st f a)/\∃b,a.code=.ref b/\q51 K b T=θ
inductive fB (K:vL):-(Z×χ×O)->Prop
 |nil:fB K []
 |cons {x st T r}:xl K x st T->fB K r->fB K ((x,st,T)::r)
theorem uW{x st T}{r:-(Z×χ×O)}{f b d e g i j m n ct}(a:Z6 K mainGlobals x=ζ (ζ (.ref f)))(l:K.lookup f=ζ ⟨i,d,.func (q0q x x (ja st) (dA st) (bX st) .none j m n e (.ref b) ct),g⟩)(q:q1O K (.ref b) x=θ)(k:Z3 K (.ref f)=θ)(c:q51 K b T=θ)(h:fB K r):fB K ((x,st,T)::r) :=
 .cons (zI2 f _ ⟨⟨a,tr l q k⟩,b,Y,c⟩) h
theorem fB.at{ds:-(Z×χ×O)}(h:fB K ds)(i:Nat){x st T}(e:ds[i]?=ζ (x,st,T)):xl K x st T:=by
 induction h generalizing i with
 |nil=>cases e
 |cons d _ a=>cases i with
  |zero=>cases e;exact d
  |succ i=>calc a i e
theorem fB.code{ds:-(Z×χ×O)}(h:fB K ds){c}(X:K.In c):∀T∈ds.map (·.2.2),∃b,q6E c b T:=by
 induction h with
 |nil=>ext T a;exact nomatch a
 |cons d _ f =>
  ext T a;rcases OQ.mp a with rfl|a
  .let⟨_,_,_,b,_,e⟩:2111:=d
   exact⟨b,q4W X e⟩
  .calc f T a
theorem Uo{x r}(a:Z6 K mainGlobals x=ζ η)(h:∀y∈r,Z6 K mainGlobals y=ζ η):∀y∈x::r,Z6 K mainGlobals y=ζ η:=λy b=>by
 rcases OQ.mp b with rfl|b
 .exact a
 .calc h y b
theorem Uq{ls:-ph}(g:(ls.map (·.T)).Nodup):∀{a b},a∈ls->b∈ls->a.T=b.T->a=b:=by
 induction ls with
 |nil=>ext a b h;exact nomatch h
 |cons c r i =>
  ext a b h j e;rw[ZW,q1Y] at g;rcases OQ.mp h with rfl|d<;>rcases OQ.mp j with rfl|f
  .rfl
  .exact absurd (ZI.mpr ⟨b,f,e.symm⟩) g.1
  .exact absurd (ZI.mpr ⟨a,d,e⟩) g.1
  .calc i g.2 d f e
theorem Dk.v{P w b x st}(d:Dk K x st)(X:K.In h)(G:h.Ns mainGlobals mg):Dx ⟨P,w,K,mg,b⟩ x st :=
 let⟨f,c,a,F⟩:=d
 (zI2 f c ⟨ZY X G a,F⟩)
theorem xl.v{P w c x st ls C T i q}(d:xl K x st T)(X:K.In h)(G:h.Ns mainGlobals mg)(j:K.In c)(k:∀t∈ls,c.BuiltinsAt mg t.T)(l:(ls.map (·.T)).Nodup)(m:∀t∈ls,mainGlobals≠t.T)(g:⟨T,i,q⟩∈ls):@xj (kg ls C) ⟨P,w,K,mg,c⟩ x st T i q :=
 let⟨f,n,⟨a,F⟩,o,p,r⟩:=d
 letI:=kg ls C
 (zI2 f n ⟨⟨ZY X G a,F⟩,⟨o,p,q4W j r⟩,m _ g,k _ g,Sx g λa s b u e=>Uq l s u e⟩)
def Ck(K:vL)(x:Z)(i:Int):Prop:=∃u,Z6 K mainGlobals x=ζ (ζ u)/\RelV (.int i) u
theorem Ck.v{P w b x i}(d:Ck K x i)(X:K.In h)(G:h.Ns mainGlobals mg):Ct ⟨P,w,K,mg,b⟩ x i :=
 let⟨u,a,r⟩:=d
 ⟨u,ZY X G a,r⟩
meta def BR:-Z:=["len", "range", "list", "tuple", "set", "sorted", "min", "max", "sum", "all", "any", "enumerate", "zip", "isinstance", "int", "bool", "str", "repr"]
theorem Ur(X:K.In h)(G:h.Ns mainGlobals mg)(N:∀x∈BR,Z6 K mainGlobals x=ζ η):BT mg :=
 have n:∀i x,BR[i]?=ζ x->mg x=η:=λi x e=>q5j X G (N x (ZZ e))
 ⟨n 0 _ Y,n 1 _ Y,n 2 _ Y,n 3 _ Y,n 4 _ Y,n 5 _ Y,n 6 _ Y,n 7 _ Y,n 8 _ Y,n 9 _ Y,n 10 _ Y,n 11 _ Y,n 12 _ Y,n 13 _ Y,n 14 _ Y,n 15 _ Y,n 16 _ Y,n 17 _ Y⟩
end
end LJ
namespace L2
open PySem PySem.Spec PyProof.Rows
variable[zt:aM]
section
variable{F F' H H':Hp}{ad bL:-O}{δ δ':aO}{σ σ':St}
end
section
variable{X:Cx}{a b e:υ}{es:-υ}{f:WE}{fa:WA}{t:WT}{pos:Δ}
end
end L2
namespace LJ
open PySem L2 PySem.Spec PySem.W PyProof.Rows
section
variable[zt:aM]{X:Cx}{k j n:Nat}{x:Z}{ps:-Z}{p pos:Δ}{e:υ}{es:-υ}{fa:WA}{G:GD}
end
end LJ
namespace L2
open PySem PySem.Spec PyProof.Rows
def gH:-D->(D->Prop)->Prop
 |[.bl b],K=>K (.int (if b then 1 else 0))
 |_,_=>False
variable[zt:aM]{X:Cx}
theorem BS:dJ X (.type "int") gH:=by
 ext a s h H i j Q I r ⟨F,k,K,c,d,q,f⟩;unfold gH at q;split at q
 .rename_i b
  let⟨v,rfl,rfl⟩:11:=je d;let⟨u,rfl,g⟩:=vals1 r;cases g
  refine call_int_bool ⟨.int (if b then 1 else 0),H,I.tok _,⟨_,Y⟩,f _ _ _ q (λ_ _ e=>e) Y⟩
 .calc q.elim
end L2
namespace LJ
open PySem L2
variable[zt:aM]
inductive BU (ys:-DV) (aW:-OV) (K:RV->-OV->Prop):Prop
 |mk (m:Int) (s:bQ) (n p:Int) (q:bB m s) (q:(0<=n/\n<(↑s.1:Int))) (q:ys=[.p (dj m s),.p (.int n),.p (.int p)]) (q:aW=[]) (q:K (.p (dj m (ew s.1 n p,s.2))) [])
def BV:WS:=(ar (iT (d2 (aa 0) (dC (.int 0)) aS) (lq 2 (g4 (bZ 3) (g4 (bZ 4) kF)))) (aB (bp (ag (bp (ag (aa 3) (ag (d2 (d2 (dr (aa 4) dQ (hV (aa 1))) (bp (ag (d2 (dr (d2 (aa 4) (aa 1) aS) dQ (hV (dC (.int 2)))) (bp (ag (aa 2) af)) cx) af)) cx) (dr (aa 4) (hV (d2 (aa 1) (dC (.int 1)) cx)) dQ) cx) af))) (ag (d2 (aa 0) (dC (.int 1)) aS) af)))))
theorem Us:Sem 3 2 BU BV:=by
 ext u i v-⟨m,⟨a,w⟩,n,p,O,b,rfl,rfl,k⟩;let W:=O.gv;let c:=W.gY;dsimp only at W c b k;let⟨y,j,x,h,_⟩:13:=nX W b.1 b.2;let⟨t,rfl⟩:=q1Q b.1;let l:t<↑a:=by symm
 let d:=Jf (ds:=a.map aV) (t:=t) (by rw[qa];symm);let e:cutD (a.map aV) (ζ (t+1)) η=(a.map aV).drop (t+1):=Je  (t:=t+1) (by rw[qa];symm);let o:↑((a.map aV).take t)=t:=by rw[ZH,qa];symm
 let q:↑((a.map aV).drop (t+1))=↑a-(t+1):=by rw[q0j,qa]
 let f:uV a t=y:=j
 let r:(a.map aV).take t++[D.tup [.int y.1,.int y.2.1,.int p]]++(a.map aV).drop (t+1)=(ew a t p).map aV:=by
  unfold ew;rw[f,q0b,q2y,ZF l,ZM,ZW,q45,q46,q00];rfl
 unfold dj aN at k;rw[<-r] at k;unfold BV dj aN;generalize z:(a.map aV).take t=A at d o k;generalize C:(a.map aV).drop (t+1)=B at e q k;generalize E:a.map aV=V at h d e ⊢;calc aJ λN s=>?_;simp![cq];subst s;unfold aB bp;calc jx λF g=>?_;simp![h,d,e,aV,Bs];calc⟨⋯,⋯,?_⟩;subst g;simp![cG];calc cA k
inductive Turn (m:Int):-bQ->bQ->-bQ->bQ->D->Prop
 |back (ps:-bQ) (s s':bQ):Turn m (ps++[s']) s ps s' (.tup [.str "back"])
 |price (ps:-bQ) (s:bQ) (n p:Int) (hn:0<=n/\n<(↑s.1:Int)) (hp:0<=p/\p<=1000000000):Turn m ps s (ps++[s]) (ew s.1 n p,s.2) (.tup [.str "price",.int n,.int p])
 |free (ps:-bQ) (s:bQ) (n:Int) (hn:0<=n/\n<(↑s.1:Int)) (h:n∈s.2):Turn m ps s (ps++[s]) (s.1,kj s.2 n) (.tup [.str "free",.int n])
 |close (ps:-bQ) (s:bQ) (n:Int) (hn:0<=n/\n<(↑s.1:Int)) (h:n∉s.2):Turn m ps s (ps++[s]) (s.1,sortI (s.2++[n])) (.tup [.str "close",.int n])
theorem Turn.ok{m:Int}{ps a:-bQ}{s s':bQ}{d:D}(h:Turn m ps s a s' d)(O:bB m s)(c:∀t∈ps,bB m t):bB m s'/\(∀t∈a,bB m t)/\↑a<=↑ps+1:=by
 cases h with
 |back=>exact⟨c _ (by simp),λt b=>c t (q0h _ b),by simp;symm⟩
 |price _ _ n p f g=>exact⟨⟨Jt O.gv f g,Jv O.sh⟩,λt b=>(ZT.mp b).elim (c t) λe=>by rw[ZV.mp e];calc O,by simp⟩
 |free _ _ n f h=>exact⟨⟨O.gv,vy O.sh⟩,λt b=>(ZT.mp b).elim (c t) λe=>by rw[ZV.mp e];calc O,by simp⟩
 |close _ _ n f h=>calc⟨⟨O.gv,Jw O.sh f h⟩,λt b=>(ZT.mp b).elim (c t) λe=>by rw[ZV.mp e];calc O,by simp⟩
inductive rY (C:O) (ys:-DV) (aW:-OV) (K:RK->-OV->-OV->Prop):Prop
 |mk (a b:O) (m:Int) (s s':bQ) (ps jg:-bQ) (ch:D) (q:Turn m ps s jg s' ch) (q:bB m s) (q:(∀t∈ps,bB m t)) (q:↑ps<900) (q:ys=[.w a,.p ch]) (q:aW=[kO C a b m s,pO b m ps]) (q:∀ns fI,aG (bO s) ns->aG (bO s') fI->K (.p (jV (bU m s ns) (bU m s' fI))) [kO C a b m s',pO b m jg] [])
def JD(c_Keeper:O):WS:=(ar (aU (dT (d2 (d2 (aa 1) (dC (.int 0)) aS) (dC (.str "price")) oEq)) (aB (aw ι c_Keeper "price" 3 (BK c_Keeper) (aa 0) (ag (d2 (aa 1) (dC (.int 1)) aS) (ag (d2 (aa 1) (dC (.int 2)) aS) af)))) bY) (ar (aU (dT (d2 (d2 (aa 1) (dC (.int 0)) aS) (dC (.str "back")) oEq)) (aB (aw ι c_Keeper "back" 1 (BN c_Keeper) (aa 0) af)) bY) (aB (nv (dT (d2 (d2 (aa 1) (dC (.int 0)) aS) (dC (.str "close")) oEq)) (aw ι c_Keeper "close" 2 (BL c_Keeper) (aa 0) (ag (d2 (aa 1) (dC (.int 1)) aS) af)) (aw ι c_Keeper "free" 2 (BM c_Keeper) (aa 0) (ag (d2 (aa 1) (dC (.int 1)) aS) af))))))
theorem Ut(C:ξ):∀ys e q,↑ys=2->rY C ys e q->JD C (ai ↑e q) ⟨ys.map ζ++Gg 0 η,e.map ζ⟩:=by
 ext A e q-⟨a,b,m,s,r,ps,j,B,T,O,t,o,rfl,rfl,k⟩;let u:aE (.str "back") (.str "price")=ι:=Y;let w:aE (.str "free") (.str "price")=ι:=Y;let x:aE (.str "free") (.str "close")=ι:=Y;let y:aE (.str "close") (.str "price")=ι:=Y;refine aJ λN f=>?_
 cases T with
 |price _ _ n p l z =>
  simp![0,cq,(e8 _),cG,at2];calc⟨(zI3 a 0 _ ⟨Y,Y,Y⟩),[(0,kO C a b m s),(1,pO b m ps)],⟨Y,Y,trivial⟩,?_⟩;rfl';exact⟨a,b,m,s,ps,n,p,O,l,z,o,Y,Y,λg c i d=>jz (k g c i d)⟩
 |back =>
  simp![0,cq,u];subst f;calc aJ λN f=>?_;simp![0,cq,(e8 _)];calc⟨(zI3 a 0 _ ⟨Y,Y,Y⟩),[(0,kO C a b m s),(1,pO b m (j++[r]))],⟨Y,Y,trivial⟩,?_⟩;rfl';exact⟨a,b,m,s,r,j,O,t _ (by simp),by simp at o;symm,Y,Y,λg c i d=>jz (k g c i d)⟩
 |free _ _ n l h =>
  simp![0,cq,w];subst f;calc aJ λN f=>?_;subst f;simp![0,cq,x,cG];calc⟨⟨a,0,_,Y,Y,Y⟩,[(0,kO C a b m s),(1,pO b m ps)],⟨Y,Y,trivial⟩,?_⟩;rfl';exact⟨a,b,m,s,ps,n,O,l,h,o,Y,Y,λg c i d=>jz (k g c i d)⟩
 |close _ _ n l h =>
  simp![0,cq,y];subst f;calc aJ λN f=>?_;subst f;simp![0,cq,(e8 _),cG];calc⟨⟨a,0,_,Y,Y,Y⟩,[(0,kO C a b m s),(1,pO b m ps)],⟨Y,Y,trivial⟩,?_⟩;rfl';calc⟨a,b,m,s,ps,n,O,l,h,o,Y,Y,λg c i d=>jz (k g c i d)⟩
theorem xm{l:-D}{x}:eM (l++[x]) (-1)=ζ x:=by
 unfold eM iD;rw[Zx (by decide),ZF (by simp;symm)];let:((-1:Int)+(↑(l++[x]))).toNat=↑l:=by simp;symm
 rw[this];calc q15
theorem Uu{l x}:cutD (l++[x]) η (ζ (-1))=l:=by
 show((l++[x]).drop 0).take ((if -1<0 then((-1:Int)+(↑(l++[x]))).toNat else min (-1:Int).toNat ↑(l++[x]))-0)=l;rw[ZF (by decide)];let:((-1:Int)+(↑(l++[x]))).toNat=↑l:=by simp;symm
 rw[this,q1L,q2C,List.take_left]
theorem uX:cI 10 9:=by unfold cI;decide
theorem Uv{a b c d e f k}(h:0<=k/\k<6):∃p,eM [D.int a,D.int b,D.int c,D.int d,D.int e,D.int f] k=ζ (.int p)/\(p=a\/p=b\/p=c\/p=d\/p=e\/p=f):=by
 let⟨t,rfl⟩:=q1Q h.1;let g:=by symm
 match t,g with
 |0,_=>exact⟨a,iN Y,by simp⟩
 |1,_=>exact⟨b,iN Y,by simp⟩
 |2,_=>exact⟨c,iN Y,by simp⟩
 |3,_=>exact⟨d,iN Y,by simp⟩
 |4,_=>exact⟨e,iN Y,by simp⟩
 |5,_=>calc⟨f,iN Y,by simp⟩
inductive xn (ys:-DV) (aW:-OV) (K:RV->-OV->Prop):Prop
 |mk (n m:Int) (o:OV) (s:bQ) (ps:-bQ) (q:bB m s) (q:(∀t∈ps,bB m t)) (q:s.1≠[]) (q:↑ps<900) (q:ys=[.o 0,.p (.lst ((ps++[s]).map (dj m)))]) (q:aW=[o]) (q:bx n o) (q:n+20<2 ^ 30) (q:∀jg s' ch o',Turn m ps s jg s' ch->bx (n+10) o'->K (.p (.tup [.lst ((jg++[s']).map (dj m)),ch])) [o'])
def BW:WS:=(ar (aK 2 (au 2 fA (ag (aa 0) (ag (dC (.int 8)) af)))) (ar (aK 3 (au 2 fA (ag (aa 0) (ag (dC (.int 6)) af)))) (ar (iT (d2 (aa 1) (d1 (dC (.int 1)) f_) aS) (lq 2 (g4 (bZ 4) (g4 (bZ 5) kF)))) (ar (aU (ju (gB (dT (d2 (aa 2) (dC (.int 0)) oEq)) (dT (d2 (dN (ag (aa 1) af) bT) (dC (.int 1)) (oI λi j=>.bl (μ (j<i)))))) (dT (d2 (d2 (aa 4) (dC (.int 1)) aS) (bp af) oEq))) (aB (nv (dT (d2 (dN (ag (aa 1) af) bT) (dC (.int 1)) (oI λi j=>.bl (μ (j<i))))) (bp (ag (dr (aa 1) dQ (hV (d1 (dC (.int 1)) f_))) (ag (bp (ag (dC (.str "back")) af)) af))) (bp (ag (aa 1) (ag (dC .non) af))))) bY) (ar (aK 6 (au 2 fA (ag (aa 0) (ag (dN (ag (d2 (aa 4) (dC (.int 1)) aS) af) bT) af)))) (ar (aK 7 (d2 (d2 (d2 (aa 4) (dC (.int 1)) aS) (au 2 fA (ag (aa 0) (ag (dN (ag (d2 (aa 4) (dC (.int 1)) aS) af) bT) af))) aS) (dC (.int 2)) aS)) (ar (aK 8 (d2 (bw (ag (au 2 fA (ag (aa 0) (ag (dC (.int 3)) af))) (ag (dC (.int 7)) (ag (au 2 fA (ag (aa 0) (ag (d2 (d2 (dC (.int 10)) (dC (.int 9)) (di cI λi j=>.int (i ^ j.toNat))) (dC (.int 1)) cx) af))) (ag (d2 (dC (.int 10)) (dC (.int 9)) (di cI λi j=>.int (i ^ j.toNat))) (ag (aa 7) (ag (dN (ag (d2 (dC (.int 10)) (dC (.int 9)) (di cI λi j=>.int (i ^ j.toNat))) (ag (d2 (aa 7) (dC (.int 1)) cx) af)) uk) af))))))) (aa 3) aS)) (ar (aU (dT (d2 (aa 2) (dC (.int 4)) oLt)) (aB (bp (ag (d2 (aa 1) (bw (ag (au 3 BU (ag (d2 (aa 1) (d1 (dC (.int 1)) f_) aS) (ag (aa 6) (ag (aa 8) af)))) af)) cx) (ag (bp (ag (dC (.str "price")) (ag (aa 6) (ag (aa 8) af)))) af)))) bY) (ar (aU (dT (d2 (aa 6) (aa 5) (jc ι))) (aB (bp (ag (d2 (aa 1) (bw (ag (bp (ag (aa 4) (ag (gC (cN (aa 5)) [η,ζ 6] (bZ 0) (dT (d2 (aa 0) (aa 1) iV)) (aa 0)) af))) af)) cx) (ag (bp (ag (dC (.str "free")) (ag (aa 6) af))) af)))) bY) (aB (bp (ag (d2 (aa 1) (bw (ag (bp (ag (aa 4) (ag (dN (ag (d2 (aa 5) (bw (ag (aa 6) af)) cx) af) qx) af))) af)) cx) (ag (bp (ag (dC (.str "close")) (ag (aa 6) af))) af)))))))))))))
theorem Uw:Sem 2 7 xn BW:=by
 ext ys Y K'-⟨n,m,o,s,j,O,Os,T,hl,rfl,rfl,P,hn,k⟩;let Z:=O.gv.gY;let s1:1<=↑s.1:=List.length_pos_iff.mpr T;let em:(j++[s]).map (dj m)=j.map (dj m)++[dj m s]:=ZM;unfold BW;calc aJ λN i=>?_;simp!;calc⟨n,8,o,rfl,rfl,P,⋯,⋯,by decide,λkd o1 k0 k1 P1=>?_⟩;simp!;subst i;calc aJ λN i=>?_;simp!;calc⟨n+1,6,o1,rfl,rfl,P1,⋯,⋯,by decide,λpk C p0 p1 U=>?_⟩;simp!;subst i;calc aJ λN i=>?_;simp![em,xm,dj];subst i;refine aJ λN i=>gc λAy Bn hA hB=>?_
 let G:aE (.tup (s.1.map aV)) (.tup [])=ι:=by
  cases q:s.1 with
  |nil=>exact absurd q T
  |cons y r=>simp[aE,dq]
 let dw:dep (.tup (s.1.map aV))<=60:=by erw[dep];exact q5S (Z0 (w_ s.1) (by decide))
 simp![aN,cG,pB,G];let V:bo (s.1.map aV)<=59:=Z0 (w_ s.1) (by decide)
 let W:Bn ⟨[ζ (.o 0),ζ (.p (.lst (j.map (dj m)++[.tup [.tup [.int m,.tup (s.1.map aV)],bV s.2]]))),ζ (.p (.int kd)),ζ (.p (.int pk)),ζ (.p (.tup [.int m,.tup (s.1.map aV)])),ζ (.p (bV s.2)),η,η,η],[ζ C]⟩:=by
  subst hB;simp!;subst i;calc aJ λN i=>?_;simp![cG];calc⟨n+1+1,↑s.1,C,rfl,rfl,U,⋯,⋯,⋯,λh o3 E F P3=>?_⟩;simp!;subst i;calc aJ λN i=>?_;simp![cG];calc⟨n+1+1+1,↑s.1,o3,rfl,rfl,P3,⋯,⋯,⋯,λnr o4 r0 r1 P4=>?_⟩;let⟨y,ey,hy,ea,_⟩:13:=nX O.gv r0 r1;simp![ea,aV,at2];let yp:=(O.gv.ends y hy).2.2.2;subst i;calc aJ λN i=>?_;unfold aK;calc xc λK3 H=>?_;unfold bw;calc jx λA g=>?_;simp!;refine⟨n+1+1+1+1,3,o4,rfl,rfl,P4,⋯,⋯,by decide,λq1 o5 Y7 Y8 P5=>?_⟩
  simp!;subst g;dsimp only;calc jx λA g=>?_;simp!;subst g;dsimp only;calc jx λA g=>?_;simp!;calc⟨uX,n+1+1+1+1+1,10 ^ q0R 9+1,o5,rfl,rfl,P5,⋯,by decide,by decide,λq2 l Y9 I P6=>?_⟩;simp!;subst g;dsimp only;calc jx λA g=>?_;simp!;calc⟨uX,?_⟩;subst g;dsimp only;calc jx λA g=>?_;simp!;subst g;dsimp only;calc jx λA g=>?_;simp!;calc⟨uX,?_⟩;subst g;simp!;subst H;let⟨p,ep,X⟩:11:=Uv (a:=q1) (b:=7) (c:=q2) (d:=10 ^ q0R 9) (e:=y.2.2) (f:=min (10 ^ q0R 9) (y.2.2+1)) ⟨p0,p1⟩
  let t9:(10:Int) ^ q0R 9=1000000000:=by decide
  let J:0<=p/\p<=1000000000:=by
   rw[t9] at X I;rcases X with rfl|rfl|rfl|rfl|rfl|rfl<;>symm
  simp![ep];subst i;calc aJ λN i=>gc λA2 B2 t u=>?_;simp! at ⊢;let v:∀K:bQ,((j++[s])++[K]).map (dj m)=j.map (dj m)++[.tup [.tup [.int m,.tup (s.1.map aV)],bV s.2]]++[dj m K]:=λK=>by rw[ZM,ZM];rfl
  let M:bx (n+10) l:=P6.mono ⋯;let Y_:=O.len;split
  .subst t
   simp![xm];calc⟨m,s,h,p,O,⟨E,F⟩,rfl,rfl,?_⟩;let:=k _ _ _ l (Turn.price j s h p ⟨E,F⟩ J) M;rw[v] at this;simp!;exact⟨⋯,[l],rfl,rfl,this⟩
  .subst u
   simp!;subst i;calc aJ λN i=>gc λA2 B2 t u=>?_;simp![bV,n_];refine⟨mH s.2,?_⟩
   by_cases c:h∈s.2
   .rw[OR c,ZF rfl]
    subst t;unfold aB bp;calc jx λA g=>xc λK5 Q=>?_;simp!;subst Q;simp!;refine L2.rL (λd=>μ (dI d≠h)) (λd=>d) (by rw[qa];symm) trivial ?_ ?_
    .ext d hd acc L ha R B
     let⟨x,hx,rfl⟩:=ZI.mp hd;simp![pB];erw[dI] at R B
     by_cases c:x=h
     .rw[OR c];exact B (YC (q3M c))
     .rw[YC c];exact⟨ha,R (OR c)⟩
    .rw[xf λx=>μ (x≠h)]
     simp!;calc⟨⋯,?_⟩;subst g;simp!;let:=k _ _ _ l (Turn.free j s h ⟨E,F⟩ c) M;rw[v] at this;exact⟨[l],rfl,rfl,this⟩
   .rw[YC c,Zx (by decide)]
    subst u;simp!;subst i;simp! at ⊢;calc⟨⋯,?_⟩;rw[show s.2.map D.int++[D.int h]=(s.2++[h]).map D.int by rw[ZM];rfl];erw[qx,ud];calc⟨by simp;symm,?_⟩;let:=k _ _ _ l (Turn.close j s h ⟨E,F⟩ c) M;rw[v] at this;exact⟨⋯,[l],rfl,rfl,this⟩
 split
 .split
  .rename_i R B
   let B:=q0w B;let⟨w,S,rfl⟩:∃w S,j=w++[S]:=⟨j.dropLast,j.getLast (λz=>by subst z;simp at B),(List.dropLast_concat_getLast _).symm⟩;subst hA;let:=k _ _ _ C (Turn.back w s S) (U.mono ⋯);simp![Uu];rw[ZF (OR ⋯)];exact⟨[C],rfl,rfl,this⟩
  .exact⟨V,W⟩
 .calc⟨V,W⟩
end LJ
namespace L2
open PySem PySem.Spec PyProof.Rows
def lQ(h:Α)(a C:O)(e T:Option O)(f:ν):Prop :=
 ∃b g,h.get? a=ζ ⟨.ref C,e,.fields b,g⟩/\b[1]?=ζ (T.elim q0P Z4)/\∀t,T=ζ t->t≠a/\∃c d,h.get? t=ζ c/\c.data=.fields d/\d[3]?=ζ f
structure lR(fs:-O)(a:O)(T:Option O)(h h':Α):Prop where
 keep:∀b o,b≠a->ζ b≠T->b∉fs->h.get? b=ζ o->h'.get? b=ζ o
 slot:∀b o,b≠a->ζ b≠T->h.get? b=ζ o->∃sl,h'.get? b=ζ {o with slots:=sl}
section
variable{M:Model}{A:Β}{E:br}{s:ο}{env:Ε}{outer:-Ε}{base:Α}{L a C:O}{dx T:Option O}{Q:Unit->ο->Prop}
theorem JH{g hn vs z}(k:A.frames=ζ (env::outer))(q:s.heap.FunFrames base (env::outer))(B:env.frame=ζ L)
  (he:s.heap.get? a=ζ ⟨.ref C,dx,.fields vs,z⟩) (hsz:1<vs.size)
  (h:∀h' r,lQ h' a C dx (ζ r) (rawInt L)->s.heap.get? r=η->lR (fg (env::outer)) a η s.heap h'->Q () {s with heap:=h'}) :
  ρ M A (do let x <- frameOf env;let u <- entryPlaceOf L hn;let b <- EntryCells.newEntry g x .none (rawInt L) .none u;setField (.ref a) 1 b) Q E s:=by
 let F:a∉(env::outer).filterMap (·.frame):=λD=>by
  let⟨_,o,v,l⟩:=q.mem D;rw[he] at v;cases v;exact l vs Y
 calc nh (wpAny_frameOf_fun k q B λi j=>nh (wpAny_entryPlaceOf λu m=>nh (q1C ?_ (m.sizeOk5 _ _ _ _ _))));let d:=(j.2.1 a F).trans he;calc q3u (qc _ d) Y hsz ?_;let w:=q1d (OP d)
 let c:∀b o,b≠a->i.get? b=ζ o->∀y f,((i.push y).update a f).get? b=ζ o:=λb o n e y f=>by
  rw[q04 _ _ (q02 n)];exact qc _ e
 refine h _ i.objs.size (zI2 _ _ ⟨q0H _ (qc _ d) Y,?_,λt e=>?_⟩) ?_ ⟨λb o n _ l e=>?_,λb o n _ e=>?_⟩
 .simp[hsz]
 .cases e
  calc⟨w,_,_,(q04 _ _ (q02 w)).trans (YA i Y),Y,?_⟩;rfl
 .rw[q17]
  rw[j.1];exact tm _
 .exact c b o n ((j.2.1 b l).trans e) _ _
 .let⟨p,G⟩:=j.2.2 b o e
  calc⟨p,c b _ n G _ _⟩
theorem BX{t l}(f:lQ s.heap a C dx (ζ t) l)(h:∀h',lQ h' a C dx (ζ t) .none->lR [] a (ζ t) s.heap h'->Q () {s with heap:=h'}):
  ρ M A (setFlight (.ref a) η) Q E s:=by
 let⟨m,p,g,i,r⟩:22:=f;let⟨n,v,w,j,d,q⟩:0122:=r t Y;let k:=(q0g.mp q).1;let o:∀b,b≠t->(s.heap.update t (q67 (·.setIfInBounds 3 .none))).get? b=s.heap.get? b:=λb c=>q04 _ _ (q02 c);refine wpAny_setFlight_none g Y i j d k (h _ (zI2 m p ⟨(o a (q02 n)).trans g,i,λt' e=>?_⟩) ⟨λb u _ c _ e=>?_,λb u _ c e=>⟨u.slots,?_⟩⟩)
 .cases e
  exact⟨n,_,_,q0H _ j (q2P (q1W d _)),q1W d _,by simp[k]⟩
 .exact (o b λz=>c (by rw[z])).trans e
 .calc (o b λz=>c (by rw[z])).trans e
theorem JJ(d:A.frames=ζ (env::outer))(v:s.heap.FunFrames base (env::outer))(k:env.frame=ζ L)(f:lQ s.heap a C dx T .none)
  (h:∀h' c,lQ h' a C dx (ζ c) (rawInt L)->s.heap.get? c=η->lR (fg (env::outer)) a T s.heap h'->Q () {s with heap:=h'}):ρ M A (noteFrame (.ref a) env) Q E s:=by
 let⟨H,I,l,w,r⟩:22:=f;let x:=(q0g.mp w).1;unfold noteFrame;erw[k];refine nh (q0r l Y w ?_)
 cases T with
 |none =>
  exact JH d v k l x h
 |some t =>
  let⟨n,oT,F,i,j,y⟩:0122:=r t Y;calc nh (q0r i j y (nh (q3u i j ((q0g.mp y).1) ?_)));let o:∀b,b≠t->(s.heap.update t (q67 (·.setIfInBounds 3 q0P))).get? b=s.heap.get? b:=λb g=>q04 _ _ (q02 g);refine JH d (v.of_keeps λb u e m=>⟨u,(o b λz=>?_).trans e,Y⟩) k ((o a (q02 n)).trans l) x λD c G p B=>h D c G ?_ ⟨λb u q g m e=>B.keep b u q (by simp) m ((o b λz=>g (by rw[z])).trans e),λb u q g e=>B.slot b u q (by simp) ((o b λz=>g (by rw[z])).trans e)⟩
  .rw[z,i] at e;cases e
   exact m F j
  .by_cases z:c=t
   .rw[z,q0H _ i (q2P (q1W j _))] at p;cases p
   .calc (o c z).symm.trans p
theorem Ux(d:A.frames=ζ (env::outer))(m:s.heap.FunFrames base (env::outer))(n:env.frame=ζ L)(f:lQ s.heap a C dx T .none)
  (h:∀h' j,lQ h' a C dx (ζ j) .none->s.heap.get? j=η->lR (fg (env::outer)) a T s.heap h'->Q () {s with heap:=h'}):ρ M A (leaving env (.ref a)) Q E s:=by
 refine nh (JJ d m n f λw T' p g k=>BX p λq r l=>h q T' r g ⟨λb o c i t e=>?_,λb o c i e=>?_⟩)
 .exact l.keep b o c (λz=>by cases z;rw[g] at e;cases e) (by simp) (k.keep b o c i t e)
 .let⟨u,v⟩:=k.slot b o c i e
  calc⟨u,l.keep b _ c (λz=>by cases z;rw[g] at e;cases e) (by simp) v⟩
end
def cH(P:ψ)(w:ω):j2:=λb H s E e c=>∃(a C:O)(f:Option O)(T:O)(d:Hp),e=.ref a/\c.os=s.os/\AllBare c.gens/\Un (fg b) [] H d s.heap c.heap/\dk P w d c.heap ∧
 lQ c.heap a C f (ζ T) .none/\d a=η/\d T=η/\s.heap.get? a=η/\s.heap.get? T=η/\E (.ref C) f d
section
variable{X:Cx}{P:ψ}{w:ω}{K:vL}{mg:Z->Option ν}{base:Α}{N:-Z}{qual:Z}{scope:Γ}{f:O}{cd:ν}{A:Β}{outer:-Ε}{s:ο}{H:Hp}{E:XK}
theorem Un.qG{fs:-O}{H H':Hp}{h g h':Α}{a:O}{T:Option O}(u:Un fs [] H H' h g)(p:∀o,h.get? a=ζ o->H a=η->False)(f:∀t,T=ζ t->h.get? t=η)(s:∃o,h'.get? a=ζ o)(x:lR fs a T g h')(r:H' a=η)(v:∀b∈fs,H' b=η):Un fs [] H H' h h' where
 keep:=λb o e n i d=>x.keep b o (λz=>by subst z;calc p o e n) (λz=>by rw[f b z.symm] at e;cases e) i (u.keep b o e n i d)
 slot:=λb o e n i d=>by
  let⟨w,j⟩:=u.slot b o e n i d;let⟨k,l⟩:=x.slot b _ (λz=>by subst z;calc p o e n) (λz=>by rw[f b z.symm] at e;cases e) j;exact⟨k,l⟩
 free:=u.free
 there:=λb o e d=>by
  let⟨y,j⟩:=u.there b o e d
  by_cases c:b=a
  .rw[c];exact s
  .let⟨w,l⟩:=x.slot b y c (λz=>by rw[f b z.symm] at e;cases e) j
   exact⟨_,l⟩
 dF:=u.dF
 eE:=u.eE
 fc:=u.fc
 eF:=λb m o q e d=>x.keep b o (λz=>by subst z;rw[u.dF b m q] at r;cases r) (λz=>by rw[f b z.symm] at e;cases e) (λz=>by let:=v b z;rw[u.dF b m q] at this;cases this) (u.eF b m o q e d)
theorem dk.qG{H':Hp}{g h':Α}{fs:-O}{a:O}{T:Option O}(k:dk P w H' g)(h:H' a=η)(i:∀t,T=ζ t->H' t=η)(j:∀b∈fs,H' b=η)(x:lR fs a T g h'):dk P w H' h':=λb o e=>by
 let f:∀c,(c=b\/H' c=ζ (.own b))->H' c≠η:=λc d z=>by
  rcases d with rfl|d
  .rw[e] at z;cases z
  .rw[d] at z;cases z
 calc(k b o e).ee (λc v d z=>x.keep c v (λq=>f c d (by rw[q];calc h)) (λq=>f c d (i c q.symm)) (λq=>f c d (j c q)) z) (λc z=>z) λc l z=>z
theorem BY{h h' a:Α}:∀{l:-Ε},(∀b∈fg l,∀o,h.get? b=ζ o->∃f,h'.get? b=ζ {o with slots:=f})->h.FunFrames a l->h'.FunFrames a l
 |[],_,_=>trivial
 |c::r,k,⟨g,⟨L,o,d,i,j,m⟩,n⟩=>by
  let p:L∈fg (c::r):=by unfold fg;rw[q07,d];exact YB
  let⟨f,e⟩:=k L p o j;calc⟨g,(zI2 L _ ⟨d,i,e,m⟩),BY (λb q=>k b (by unfold fg;rw[q07,d];calc Yz _ q)) n⟩
theorem JK{d:aF}{D:St}{k H':Hp}{g c:ο}{a C:ξ}{l T:Option ξ}(G:X=bt (cH P w) P w K mg base N qual scope f cd A outer s H E)(I:Inv X d D k g)(L:c.os=g.os)(M:AllBare c.gens)(u:Un (fg X.stack) [] k H' g.heap c.heap)(n:dk P w H' c.heap)(F:lQ c.heap a C l T .none)
  (m:H' a=η) (p:∀t,T=ζ t->H' t=η/\g.heap.get? t=η) (O:∀o,g.heap.get? a=ζ o->k a=η->False) (Q:s.heap.get? a=η) (q:E (.ref C) l H'):X.xe (.ref a) c:=by
 subst G
 let r:∀b∈fg (envOfC qual scope ⇑s f cd::outer),H' b=η:=λb i=>by
  let⟨_,o,R,_⟩:=I.stack.mem i;exact u.free b o R (I.eG b i) (by simp)
 calc Ux   I.ok.frames (BY (λb i o e=>u.any e (I.eG b i) (by simp)) I.stack) rfl F λS j v x y=>?_;let U:=u.qG O (λt e=>(p t e).2) (by let⟨Y,Z,e,_⟩:21:=v;calc⟨_,e⟩) y m r;let J:=I.jC (s':={c with heap:=S}) L U (n.qG m (λt e=>(p t e).1) r y) M (λb z=>absurd z (by simp))
 let h:∀b,c.heap.get? b=η->s.heap.get? b=η:=λb e=>by
  cases q:s.heap.get? b with
  |none=>rfl
  |some o =>
   let⟨V,W⟩:=I.base.there b o q (ZL);let⟨o2,B⟩:=u.there b V W (by simp);rw[e] at B;cases B
 refine(zI5 a C l j H' ⟨rfl,J.os,J.bare,J.base,J.bc,v,m,?_,Q,h j x,q⟩)
 cases z:H' j with
 |none=>rfl
 |some o =>
  let⟨ob,e⟩:=Gw (n j o z);rw[x] at e;cases e
theorem pF:i_ (cH P w) (bt (cH P w) P w K mg base N qual scope f cd A outer s H E) E:=λb n p r e v I h=>by
 let⟨a,C,x,T,y,rfl,g,i,u,j,F,k,l,c,m,q⟩:5901:=h;refine JK Y I g i u j F k (λt e=>by cases e;calc⟨l,m⟩) (λo e _=>by rw[c] at e;cases e) ?_ q
 cases z:s.heap.get? a with
 |none=>rfl
 |some o =>
  let⟨B,d⟩:=I.base.there a o z (ZL);rw[c] at d;cases d
meta def gJ(H:Hp)(a:O):Hp:=λb=>if b=a then η else H b
theorem rZ{H:Hp}{a b:O}(n:b≠a):gJ H a b=H b:=Zx n
theorem Un.del{fs:-O}{H:Hp}{h:Α}{a C:O}{c:Option O}(e:H a=ζ (eN a C c)):Un fs [] H (gJ H a) h h where
 keep:=λ_ _ e _ _ _=>e
 slot:=λ_ o e _ _ _=>⟨o.slots,e⟩
 free:=λb o _ n _=>by
  unfold gJ;split
  .rfl
  .exact n
 there:=λb o e _=>⟨o,e⟩
 dF:=λb d q=>by rw[rZ (mQ q e (by ext z;cases z))];exact q
 eE:=λb o d q=>by rw[rZ (mQ q e (by ext z;cases z))];exact q
 fc:=λb f q=>⟨#[],by rw[rZ (mQ q e (by ext z;cases z)),q];simp⟩
 eF:=λb _ o _ e _=>e
theorem dk.del{H:Hp}{h:Α}{a C:O}{g:Option O}(k:dk P w H h)(e:H a=ζ (eN a C g)):dk P w (gJ H a) h:=λb o q=>by
 rw[rZ (λz=>by unfold gJ at q;rw[ZF z] at q;cases q)] at q;let d:∀c x,H c=ζ x->(∀f,x≠.ext f)->c≠a:=λc x z n y=>by rw[y,e] at z;cases z;exact n _ Y
 calc(k b o q).ee (λc v i z=>z) (λc z=>by rw[rZ (d c _ z (by ext f y;cases y))];calc z) λc j z=>by rw[rZ (d c _ z (by ext f y;cases y))];calc z
theorem cX.exc{l:-ν}(x:cX K l):l.contains (.type "BaseException")=θ:=by
 induction x with
 |base=>decide
 |own _ _ _ a=>rw[q2r,a,q33]
theorem Uy{M:Model}{A:Β}{env:Ε}{E:br}{s:ο}{x:Sem ν}{Q:Flow->ο->Prop}(g:A.handled=η)
  (h:ρ M A x (λv c=>∃a C d b,v=.ref a/\oH K C b/\K.In c.heap/\lQ c.heap a C d η .none/\E (.ref a) c) E s):ρ M A (raiseStmt env (ζ x) η) Q E s:=by
 calc nh (q0F h (λv c i=>?_) λ_ _ z=>z);let⟨a,C,d,b,rfl,m,k,⟨y,B,j,n,_⟩,o⟩:44:=i;let⟨D,q,N,F,p,e,G,r,H,u,I,J,L,O,P,R,l,t,_⟩:9072:=m.zj;let f:=k _ _ l;let w:(Z4 C::p).contains (.type "BaseException")=θ:=by rw[q2r,t.exc,q33]
 repeat(first|with_reducible refine q14 j ?_|with_reducible refine q14 f ?_|(with_reducible calc q4T f ?_;rw[w])|wp_step)
 rw[n];calc y9 (y9 (wpAny_raiseNew_none g o))
def Uz(K:vL)(e:Hp)(f:TE)(E:XK):TS:=λ_ g H=>f g H λv c=>∃(a C:O)(d:Option O)(b:Option ν),v=.ref a/\c a=ζ (eN a C d)/\oH K C b/\e a=η/\E (.ref C) d (gJ c a)
theorem BZ{e:υ}{j:TE}{pos:Δ}(b:X=bt (cH P w) P w K mg base N qual scope f cd A outer s H E)(he:JE X e j):JS X (.Raise (ζ e) η pos) (Uz X.K X.H₀ j E):=by
 calc⟨?_⟩;ext d p x y D I h;let B:X.calm=θ:=by rw[b];rfl
 calc nh (q11 (Uy (K:=X.K) (I.ok.hd B) (nh (bu (he d p x y _ I h) λu G ⟨v,T,c,r,a,C,k,i,J,g,m,L,q⟩=>nh (q11 (y9 ?_))))));subst J;obtain rfl:u=Z4 a:=r;let⟨t,M⟩:=Gv (c.bc a _ g);let F:lQ G.heap a C k η .none:=(zI2 _ _ ⟨M,Y,λ_ z=>nomatch z⟩);calc(zI4 a C k i ⟨Y,m,c.de,F,?_⟩);let O:X.prog=P:=by rw[b];rfl
 let Q:X.w=w:=by rw[b];rfl
 let l:=c.bc;rw[O,Q] at l;calc JK b c Y c.bare (Un.del g) (l.del g) F (ZF Y) (λ_ z=>nomatch z) (λo _ n=>by rw[g] at n;cases n) ?_ q;let R:X.s₀=s:=by rw[b];rfl
 let S:X.ex=[]:=by rw[b];rfl
 cases z:s.heap.get? a with
 |none=>rfl
 |some o =>
  let:=c.base.free a o (by rw[R];calc z) L (by rw[S];calc ZL);rw[g] at this;cases this
end
meta def fD(a C:O)(b:Option O):HO:=.ext λh=>∃c d,h.get? a=ζ ⟨.ref C,b,.fields c,d⟩
theorem UA{P w H h a C f vs g}(e:h.get? a=ζ ⟨.ref C,f,.fields vs,g⟩):bg P w H h a (fD a C f) :=
 ⟨(zI2 vs g e),⟨_,e⟩,λj l b k=>by let⟨c,d,i⟩:2:=b;calc(zI2 c d (k _ i))⟩
theorem JL{P w H h a C b}(x:bg P w H h a (fD a C b)):∃vs c,h.get? a=ζ ⟨.ref C,b,.fields vs,c⟩:=x.1
theorem lR.more{fs a t T h f g}(x:lR fs a T h f)(n:h.get? t=η)(y:lR [] a (ζ t) f g):lR fs a T h g where
 keep:=λb o c d i e=>y.keep b o c (λz=>by cases z;rw[n] at e;cases e) (by simp) (x.keep b o c d i e)
 slot:=λb o c d e=>by
  let⟨j,k⟩:=x.slot b o c d e;calc⟨j,y.keep b _ c (λz=>by cases z;rw[n] at e;cases e) (by simp) k⟩
section
variable{X:Cx}{pins lJ:aF}{σ:St}{H:Hp}{s:ο}{E:br}
theorem Inv.uY(I:Inv X pins σ H s):Inv {X with pn:=X.pn++pins,xe:=E} [] σ H s :=
 ⟨⟨I.ok.mod,I.ok.kind,I.ok.glob,I.ok.blt,I.ok.above,I.ok.inj,I.ok.has,I.ok.mR,I.ok.hd,I.ok.frames,I.ok.pQ,I.ok.sF,I.ok.bs,I.ok.kB,I.ok.g8,I.ok.ji,I.ok.dX,I.ok.kU⟩,I.os,I.bare,I.base,I.loc,I.cell,I.free,I.b8,λp a=>I.pin p a⁻¹,I.bc,I.len⟩
theorem Inv.g6(I:Inv {X with pn:=X.pn++pins,xe:=E} lJ σ H s):Inv X pins σ H s :=
 ⟨⟨I.ok.mod,I.ok.kind,I.ok.glob,I.ok.blt,I.ok.above,I.ok.inj,I.ok.has,I.ok.mR,I.ok.hd,I.ok.frames,I.ok.pQ,I.ok.sF,I.ok.bs,I.ok.kB,I.ok.g8,I.ok.ji,I.ok.dX,I.ok.kU⟩,I.os,I.bare,I.base,I.loc,I.cell,I.free,I.b8,λp a=>I.pin p (q0h _ a),I.bc,I.len⟩
theorem Inv.toSub{A}(I:Inv X pins σ H s)(e:A.frames=X.A.frames):Inv {X with A:=A,calm:=false,xe:=E} pins σ H s :=
 ⟨⟨I.ok.mod,I.ok.kind,I.ok.glob,I.ok.blt,I.ok.above,I.ok.inj,I.ok.has,I.ok.mR,(λz=>by cases z),e.trans I.ok.frames,I.ok.pQ,I.ok.sF,I.ok.bs,I.ok.kB,I.ok.g8,I.ok.ji,I.ok.dX,I.ok.kU⟩,I.os,I.bare,I.base,I.loc,I.cell,I.free,I.b8,I.pin,I.bc,I.len⟩
theorem Inv.uZ{A}(I:Inv {X with A:=A,calm:=false,xe:=E} pins σ H s)(k:X.Ok):Inv X pins σ H s :=
 ⟨k,I.os,I.bare,I.base,I.loc,I.cell,I.free,I.b8,I.pin,I.bc,I.len⟩
theorem Inv.blank(I:Inv X pins σ H s):Inv X pins (Gg ↑σ η) H s :=
 ⟨I.ok,I.os,I.bare,I.base,let⟨m,a,_⟩:=I.loc;⟨m,a,λi x v _ e _=>by rw[q1N] at e;split at e<;>cases e⟩,I.cell,I.free,I.b8,I.pin,I.bc,by rw[q0_];calc I.len⟩
theorem Inv.locs{a:St}{h' l t'}(I:Inv X pins σ H s)(hn:h'.Ns X.env.locals l)(f:q1T X.env.locals s.heap h')
  (B:∀(i:Nat) x v,X.N[i]?=ζ x->a[i]?=ζ (ζ v)->qX X.env.scope x->∃u,RelV v u/\Look X.env h' l x u) (r:↑a=↑X.N):Inv X pins a H {s with heap:=h',toks:=t'}:=by
 let⟨m,⟨L,_,_,C,_⟩,_⟩:=id I.loc;let j:∀b o,X.s₀.heap.get? b=ζ o->b≠X.env.locals:=λb o e=>Zy (ZA (OP e) I.ok.above);refine⟨I.ok,I.os,I.bare,⟨λb o e n t g=>(f.2 b (j b o e)).trans (I.base.keep b o e n t g),λb o e n t g=>?_,I.base.free,λb o e g=>?_,I.base.dF,I.base.eE,I.base.fc,λb D o h e g=>(f.2 b (j b o e)).trans (I.base.eF b D o h e g)⟩,⟨l,hn,B⟩,λy c e=>?_,I.free,I.b8,λp E=>?_,λb F e=>?_,r⟩
 .let⟨G,h⟩:=I.base.slot b o e n t g
  exact⟨G,(f.2 b (j b o e)).trans h⟩
 .let⟨J,h⟩:=I.base.there b o e g
  exact⟨J,(f.2 b (j b o e)).trans h⟩
 .let⟨w,z⟩:=I.cell y c e
  exact⟨w,z.sameBut f (I.sG y c e)⟩
 .let⟨e,n,A,K,d⟩:04:=I.pin p E
  exact⟨(f.2 p.1 A).trans e,n,A,K,d⟩
 .refine (I.bc b F e).ee (λc w k q=>(f.2 c ?_).trans q) (λ_ q=>q) λ_ _ q=>q
  ext rfl;rcases k with rfl|k
  .rw[I.free] at e;cases e
  .rw[I.free] at k;cases k
theorem name_goes{M A}{E:br}{Q:Unit->ο->Prop}{i n pos}(I:Inv X pins σ H s)(t:X.N.Nodup)(d:X.N[i]?=ζ n)(f:X.env.scope.names.lookup n=ζ .local)
  (h:∀s',Inv X pins (σ.set i η) H s'->Q () s'):ρ M A (do bindName X.env n .none;unbindBehindTheSuite X.env n pos) Q E s:=by
 calc nh (wpAny_bindName (vA (v:=.non)  I t d (.inl f) Y (λL x=>?_) (.inr f)));let F:(X.env.scope.kind==.class||(X.env.scope.kind==.module&&X.env.locals != X.env.globals))=ι:=by rw[I.ok.kind];rfl
 let B:X.env.kindOf n=ζ .local:=f;calc q23 (nh (wpAny_point (nh ?_)));unfold deleteName;erw[B,F];let⟨m,G,C⟩:11:=id x.loc;let a:i<↑σ:=by rw[I.len];exact(ri.mp d).1
 let⟨O,P,J⟩:=C i n .non d (by rw[q0a a]) (.inl f)
 let o:(m n).isSome=θ:=by
  rcases J with⟨_,e⟩|⟨k,_⟩
  .rw[e];rfl
  .rcases k with k|k<;>(rw[B] at k;cases k)
 calc nh (wpAny_nsDel_keeps G λR v p b=>?_);rw[o];calc y9 (wpAny_point (h _ (x.locs  p b (λj y w D g K=>?_) (by rw[q0o];calc I.len))));let q:j≠i:=λz=>by rw[z,q0a a] at g;cases g
 rw[q0i (q02 q)] at g;let⟨u,r,l⟩:=C j y w D (by rw[q0i (q02 q)];calc g) K;calc⟨u,r,?_⟩;rcases l with⟨k,e⟩|⟨k,c,e,z⟩
 .refine .inl ⟨k,?_⟩
  let:y≠n:=λe=>q (yd t D (e▸d));simp[this,e]
 .calc .inr ⟨k,c,e,z.sameBut b (I.sG y c e)⟩
end
section
variable{X:Cx}{body fJ:-χ}{b0:χ}{x n:Z}{p1 p2 pos:Δ}{L:O}{i:Nat}{tb:XK->TS}{th:TS}
def UB(K:vL)(L:O)(i k:Nat)(d:TS)(D:Ends):XK:=λC e b=>∃c,C=.ref c/\q2b K C (.ref L)=ζ θ ∧
 ∀a,b a=η->d {nx:=λf H=>D.nx (f.set i η) H,rt:=λ_ _=>False} ((Gg k η).set i (ζ (.ref a))) (upd b a (fD a c e))
def B1(K:vL)(L:O)(i:Nat)(tb:XK->TS)(b:TS):TS:=λD a H=>tb (UB K L i ↑a b D) D a H
theorem UC(j:X.stack=X.env::X.outer)(UD:X.env.frame=ζ X.env.locals)(nd:X.N.Nodup)(hi:X.N[i]?=ζ n)(hk:X.env.scope.names.lookup n=ζ .local)(hg:Gl X x)(hm:X.mg x=ζ (.ref L))(UE:bF x)
  (B:∀pn xe E,i_ (cH X.prog X.w) {X with pn:=pn,xe:=xe} E->cV {X with pn:=pn,xe:=xe} body (tb E)) (hs:∀A xe,cV {X with A:=A,calm:=false,xe:=xe} (b0::fJ) th) :
  JS X (.Try body [.ExceptHandler (ζ (.Name x p1)) (ζ n) (b0::fJ) p2] [] [] pos) (B1 X.K L i tb th):=by
 calc⟨?_⟩;ext g s σ H D I h;calc wpAny_Try_except ?_;refine q0F (B (X.pn++g) (λe l=>ρ (ς X.prog X.w) X.A (noteFrame e X.env) (λ_ s2=>ρ (ς X.prog X.w) X.A (setFlight e η) (λ_ s3=>ρ (ς X.prog X.w) X.A (handleBy e X.env [.ExceptHandler (ζ (.Name x p1)) (ζ n) (b0::fJ) p2]) (SP X g D) X.xe s3) X.xe s2) X.xe l) _ ?_ [] s σ H D I.uY h) (λf l V=>?_) (λe l z=>z)
 .ext lJ d H1 l e s' M hx
  let⟨a,C,dx,T,H',rfl,os,ba,u,ok,F,G,hT,a0,t0,c,ec,em,q⟩:590112:=hx;cases ec
  let hA:X.A.frames=ζ (X.env::X.outer):=by rw[<-j];exact I.ok.frames
  let O:l.heap.FunFrames X.base (X.env::X.outer):=by rw[<-j];exact M.stack
  let P:∀b∈fg (X.env::X.outer),H1 b=η:=by rw[<-j];exact M.eG
  let u:Un (fg (X.env::X.outer)) [] H1 H' l.heap s'.heap:=by rw[<-j];exact u
  let fk:s'.heap.FunFrames X.base (X.env::X.outer):=BY (λb B o e=>u.any e (P b B) (by simp)) O
  let Y:∀b∈fg (X.env::X.outer),H' b=η:=λb B=>by
   let⟨_,o,ho,_⟩:=O.mem B;exact u.free b o ho (P b B) (by simp)
  let na:∀o,l.heap.get? a=ζ o->H1 a=η->False:=λo e _=>by rw[a0] at e;cases e
  let inv:∀h,lR (fg (X.env::X.outer)) a (ζ T) s'.heap h->(∃o,h.get? a=ζ o)->Inv X g d H' {s' with heap:=h}:=λh x e =>
   Inv.g6 (M.jC (s':={s' with heap:=h}) os (by show Un (fg X.stack) _ _ _ _ _;rw[j];calc u.qG na (λt e=>by cases e;calc t0) e x G Y) (ok.qG G (λt e=>by cases e;calc hT) Y x) ba (λb z=>absurd z (by simp)))
  calc JJ hA fk UD F λh4 T4 x1 x2 x3=>?_;calc BX x1 λh5 y1 y2=>?_;let e5:=x3.more x2 y2;let⟨Za,Zb,Q,_⟩:21:=id y1;let J5:=inv h5 e5 ⟨_,Q⟩;calc wpAny_handleBy_cons (codeAny_handlers_test (qY (X:={X with A:=X.A.mark (ζ (.ref a)),calm:=false,xe:=λ_ _=>False}) (J5.toSub rfl) hg hm (q5a (PySem.W.exm_one J5.de ((PySem.W.Looks.ld Q).andThen .now) em) (codeAny_handlers_suite_as (BX y1 λh6 z1 z2=>?_))) UE)) (by ext q;cases q);let e6:=e5.more x2 z2;let⟨Zc,Zd,R,_⟩:21:=id z1;let k:=u.qG na (λt e=>by cases e;calc t0) ⟨_,R⟩ e6 G Y;let S:∀b y,H' b=ζ y->b≠a:=λb y e z=>by rw[z,G] at e;cases e
  let J6:=by
   let:=Inv.blank (Inv.g6 (M.jC (s':={s' with heap:=h6}) (H':=upd H' a (fD a C dx)) os (by
    rw[j]
    calc⟨k.keep,k.slot,λb o e n nx=>by rw[aQ (λz=>by rw[z,a0] at e;cases e)];calc k.free b o e n nx,k.there,λb J e=>by rw[aQ (S _ _ (k.dF b J e))];calc k.dF b J e,λb o J e=>by rw[aQ (S _ _ (k.eE b o J e))];calc k.eE b o J e,λb ps e=>by let⟨U,e'⟩:=k.fc b ps e;calc⟨U,by rw[aQ (S _ _ e')];calc e'⟩,k.eF⟩)
    (λb o e=>by
     by_cases c:b=a
     .subst c;rw[bN] at e;cases e;exact UA R
     .rw[aQ c] at e
      calc((ok.qG G (λt e=>by cases e;calc hT) Y e6) b o e).ee (λ_ _ _ z=>z) (λc z=>by rw[aQ (S _ _ z)];calc z) λc J z=>by rw[aQ (S _ _ z)];calc z) ba (λb z=>absurd z (by simp))))
   rwa [M.len.trans I.len.symm] at this
  refine vA  J6 nd hi (.inl hk) (v:=.ref a) rfl (λs7 I7=>q0F (hs (X.A.mark (ζ (.ref a))) _ g s7 _ _ _ (I7.toSub rfl) (q a G)) (λf s8 Z=>?_) (λe s8 z=>z)) (.inr hk)
  cases f with
  |next =>
   let⟨σ9,H9,I9,m⟩:21:=Z;exact name_goes (I9.uZ I.ok) nd hi hk λs9 J9=>(zI2 _ _ ⟨J9,m⟩)
  |brk=>let⟨_,_,_,m⟩:21:=Z;exact ZQ m
  |cont=>let⟨_,_,_,m⟩:21:=Z;exact ZQ m
  |ret v=>let⟨_,_,_,_,_,m⟩:32:=Z;exact ZQ m
 .cases f with
  |next =>
   let⟨d,H',p,q⟩:=V;exact q28 ⟨d,H',p.g6,q⟩
  |brk=>let⟨d,H',p,q⟩:=V;exact⟨d,H',p.g6,q⟩
  |cont=>let⟨d,H',p,q⟩:=V;exact⟨d,H',p.g6,q⟩
  |ret u=>let⟨v,d,H',p,r,q⟩:32:=V;calc(zI3 v d H' ⟨p.g6,r,q⟩)
end
variable[zt:aM]
section
variable{X:Cx}{body:-χ}{h0:ExceptHandler}{hs:-ExceptHandler}{pos:Δ}
end
section
variable{F H:Hp}{ad:-O}{δ:aO}{σ:St}
variable{X:Cx}{o i e v:υ}{fo fi fv f:WE}{pos apos:Δ}{x:Z}
end
abbrev Ze:=-FV->aO->(aO->Prop)->Prop
section
variable{F H:Hp}{ad:-O}{δ:aO}{σ:St}
variable{X:Cx}{a b e:υ}{es:-υ}{f g:WE}{fa:WA}{pos:Δ}
end
section
variable{F H:Hp}{ad:-O}{δ:aO}{σ:St}
variable{X:Cx}{a b e i o:υ}{es:-υ}{body:-χ}{f g:WE}{fa:WA}{w:WI}{wg:WG}{bs:WS}{pos:Δ}
end
section
variable{F H:Hp}{ad:-O}{δ:aO}{σ:St}
variable{X:Cx}{tg iter elt o i l:υ}{w:WI}{ww:Zf}{g:WG}{pos:Δ}{ifs:-υ}{t:WT}{f fo fi:WE}{fa:WA}{es:-υ}{scope:Γ}
end
end L2
namespace LJ
open PySem L2
variable[zt:aM]
open Classical in
meta def om (ws:List Wy):List Int:=if h:∃ns,aG ws ns then q97 h else[]
theorem JM{m}{ws:-Wy}(W:fG m ws){ns}(h:aG ws ns):ns=om ws:=by
 let a:∃c,aG ws c:=⟨ns,h⟩;unfold om;rw[dif_pos a];let b:=q8f a;calc IV W (h.perm.trans b.perm.symm) h.nums h.up b.up
meta def pG(m:Int)(s:bQ):-Int:=bU m s (om (bO s))
theorem r9{m s}(O:bB m s){ns}(h:aG (bO s) ns):bU m s ns=pG m s:=by
 unfold pG;rw[<-JM (rS O.gv (uM s.1 s.2)) h]
meta def mJ(m:Int)(s:bQ):-D:=[aN m s.1,bV s.2,bV (pG m s),.int (wsum s.1 (pG m s))]
inductive r_ (C:O) (ys:-DV) (aW:-OV) (K:RK->-OV->-OV->Prop):Prop
 |mk (a b:O) (m:Int) (s:bQ) (t:Int) (q:bB m s) (q:0<=t) (q:ys=[.w a,.p (.int t)]) (q:aW=[kO C a b m s]) (q:K (.n (mJ m s)) [kO C a b m s] [])
def B3(c_Keeper:O):WS:=(ar (aK 2 (nu (ag (dC .non) (ag (dC .non) (ag (dC .non) (ag (dC .non) af)))))) (ar (eo (cN (dr (bw (ag (dC (.int 0)) (ag (dC (.int 1)) (ag (dC (.int 2)) (ag (dC (.int 3)) (ag (dC (.int 0)) (ag (dC (.int 1)) (ag (dC (.int 2)) af)))))))) (hV (d2 (aa 1) (dC (.int 4)) (di (λ_ j=>0<j) λi j=>.int (i%j)))) (hV (d2 (d2 (aa 1) (dC (.int 4)) (di (λ_ j=>0<j) λi j=>.int (i%j))) (dC (.int 4)) cx)))) (bZ 3) (aU (dT (d2 (aa 3) (dC (.int 0)) oEq)) (lr (aw ι c_Keeper "web" 1 (BG c_Keeper) (aa 0) af) (aa 2) (dC (.int 0))) (aU (dT (d2 (aa 3) (dC (.int 1)) oEq)) (lr (aw ι c_Keeper "closed" 1 (BH c_Keeper) (aa 0) af) (aa 2) (dC (.int 1))) (aU (dT (d2 (aa 3) (dC (.int 2)) oEq)) (lr (aw ι c_Keeper "forest" 1 (rX c_Keeper) (aa 0) af) (aa 2) (dC (.int 2))) (lr (aw ι c_Keeper "weight" 1 (BJ c_Keeper) (aa 0) af) (aa 2) (dC (.int 3))))))) (aB (aa 2))))
theorem UG{t}(h:0<=t/\t<4):∃xs:-Nat,cutD [D.int 0,.int 1,.int 2,.int 3,.int 0,.int 1,.int 2] (ζ t) (ζ (t+4))=xs.map (λx:Nat=>D.int x)/\(∀x∈xs,x<4)/\∀x<4,x∈xs:=by
 let⟨k,rfl⟩:1:=q1Q h.1;let a:=by symm
 match k,a with
 |0,_=>exact⟨[0,1,2,3],Y,by decide,by decide⟩
 |1,_=>exact⟨[1,2,3,0],Y,by decide,by decide⟩
 |2,_=>exact⟨[2,3,0,1],Y,by decide,by decide⟩
 |3,_=>calc⟨[3,0,1,2],Y,by decide,by decide⟩
meta def km(L:-D)(xs:-Nat):-D:=[0,1,2,3].map λi=>if i∈xs then L.getD i .non else .non
theorem UH L xs {x} (a:x<4):(km L xs).set x (L.getD x .non)=km L (xs++[x]):=by
 unfold km
 match x,a with
 |0,_=>simp[ZT]
 |1,_=>simp[ZT]
 |2,_=>simp[ZT]
 |3,_=>simp[ZT]
theorem UI{a b c d xs}(h:∀x<4,x∈xs):km [a,b,c,d] xs=[a,b,c,d]:=by
 unfold km;simp[h 0 (by decide),h 1 (by decide),h 2 (by decide),h 3 (by decide)]
theorem UJ(C:ξ):∀ys f y,↑ys=2->r_ C ys f y->B3 C (ai ↑f y) ⟨ys.map ζ++Gg 2 η,f.map ζ⟩:=by
 ext Z f y-⟨a,b,m,s,t,O,ht,rfl,rfl,k⟩;let N:=O.gv.gY;let P:=O.len;let Q:0<=t%4/\t%4<4:=⟨q1l _ (by decide),q0U _ (by decide)⟩;let⟨j,R,T,U⟩:12:=UG Q;unfold B3;calc aJ λM z=>?_;rfl';subst z;calc aJ λM z=>oX λg' b' K2 V D W=>?_;rfl';calc⟨by decide,by decide,?_⟩;rw[R];subst V D W;let⟨L,l⟩:∃L,L=mJ m s:=⟨_,rfl⟩;refine kK (λi E=>E=⟨[ζ (.w a),ζ (.p (.int t)),ζ (.o 1),η],[ζ (kO C a b m s),ζ (.lst (km L (j.take i)))]⟩) (by simp[km]) ?_ ?_
 .ext i d E X I rfl F
  rw[OS] at I;let⟨x,J,rfl⟩:=YE.mp I;let K:=T x (ZZ J)
  let n:∀g,g=⟨[ζ (.w a),ζ (.p (.int t)),ζ (.o 1),η],[ζ (kO C a b m s),ζ (.lst ((km L (j.take i)).set x (L.getD x .non)))]⟩->X g:=λg e=>F g (by
   rw[e]
   let:(km L (j.take i)).set x (L.getD x .non)=km L (j.take (i+1)):=by
    rw[q5D,J];exact UH _ _ K
   rw[this])
  let q:↑(km L (j.take i))=4:=rfl;generalize km L (j.take i)=S at n q ⊢;calc⟨trivial,?_⟩;erw[bZ,q0l,q0m];refine gc λA B h c=>?_
  match x,K with
  |0,_ =>
   simp![0,q3x,q2s,show aE (.int 0) (.int 0)=θ from rfl];subst h;rfl';calc⟨(zI3 a 0 _ ⟨rfl,rfl,rfl⟩),[(0,kO C a b m s)],⟨rfl,trivial⟩,?_⟩;rfl';calc⟨a,b,m,s,rfl,rfl,?_⟩;simp![0,q,show iD 4 0=ζ 0 from rfl];exact n _ (by rw[l];rfl)
  |1,_ =>
   let r:aE (.int 1) (.int 0)=ι:=rfl;simp![0,q3x,q2s,r];subst c;calc gc λA B h c=>?_;let u:aE (.int 1) (.int 1)=θ:=rfl;simp![0,u];subst h;rfl';calc⟨(zI3 a 0 _ ⟨rfl,rfl,rfl⟩),[(0,kO C a b m s)],⟨rfl,trivial⟩,?_⟩;rfl';calc⟨a,b,m,s,O,rfl,rfl,?_⟩;simp![0,q,show iD 4 1=ζ 1 from rfl];exact n _ (by rw[l];rfl)
  |2,_ =>
   let r:aE (.int 2) (.int 0)=ι:=rfl;simp![0,q3x,q2s,r];subst c;calc gc λA B h c=>?_;let u:aE (.int 2) (.int 1)=ι:=rfl;simp![0,u];subst c;calc gc λA B h c=>?_;let G:aE (.int 2) (.int 2)=θ:=rfl;simp![0,G];subst h;rfl';calc⟨(zI3 a 0 _ ⟨rfl,rfl,rfl⟩),[(0,kO C a b m s)],⟨rfl,trivial⟩,?_⟩;rfl';calc⟨a,b,m,s,O,rfl,rfl,λY H=>?_⟩;rw[r9 O H]
   simp![0,q,show iD 4 2=ζ 2 from rfl];exact n _ (by rw[l];rfl)
  |3,_ =>
   let r:aE (.int 3) (.int 0)=ι:=rfl;simp![0,q3x,q2s,r];subst c;calc gc λA B h c=>?_;let u:aE (.int 3) (.int 1)=ι:=rfl;simp![0,u];subst c;calc gc λA B h c=>?_;let G:aE (.int 3) (.int 2)=ι:=rfl;simp![0,G];subst c;calc⟨(zI3 a 0 _ ⟨rfl,rfl,rfl⟩),[(0,kO C a b m s)],⟨rfl,trivial⟩,?_⟩;rfl';calc⟨a,b,m,s,O,rfl,rfl,λY H=>?_⟩;rw[r9 O H];simp![0,q,show iD 4 3=ζ 3 from rfl]
   exact n _ (by rw[l];rfl)
 .ext E rfl
  calc⟨trivial,?_⟩;rw[qa,q3W];let e:km L j=L:=by rw[l];exact UI U
  rw[e,l];subst z;calc(zI3 [_] [] ([ζ (.lst _)]) ⟨rfl,rfl,tm _,k⟩)
end LJ
namespace L2
open PySem PySem.Spec PyProof.Rows
section
variable{X:Cx}{pins:aF}{σ:St}{H:Hp}{s:ο}{e:υ}{ta:TE}{pos:Δ}
theorem UK{a f g c b A}{j:br}{Q:br}(I:Inv X pins σ H s)(k:H a=ζ (fD a f g))(l:bS X.K f)(hd:∀d,g=ζ d->∃fs,H d=ζ (.xd fs))
  (e:ZN X.K (.ref f) c=ζ b) (h:∀tk,Q (.bool b) {s with toks:=tk}):ρ (ς X.prog X.w) A (call (.builtin "isinstance") [.ref a,c]) Q j s:=by
 let⟨r,t,i⟩:2:=JL (I.bc a _ k);refine q0A (Pm l) I.de ?_ e (λz=>nomatch z) h
 cases g with
 |none=>exact(zI2 _ η ⟨i,Y,Y,trivial⟩)
 |some d =>
  let⟨q,m⟩:=hd d Y;let⟨u,n,_⟩:=(I.bc d _ m);let⟨o,p,_⟩:=yD n;calc(zI2 _ (ζ o) ⟨i,Y,Y,p⟩)
theorem UL:g_ X (.builtin "isinstance") (λxs H Q=>∃a C f y c b,xs=[.ref a,y]/\nk y=ζ c/\H a=ζ (fD a C f)/\bS X.K C/\(∀d,f=ζ d->∃fs,H d=ζ (.xd fs))/\ZN X.K (.ref C) c=ζ b/\Q (.bl b) H):=by
 ext g s t H r v Q I i h;let⟨a,C,f,y,c,b,rfl,j,k,l,m,e,q⟩:66:=h;let⟨u,w,rfl,n,o⟩:22:=i.two;cases n
 rw[Gy o j];calc UK I k l m e λp=>⟨.bl b,H,I.tok p,Y,q⟩
def JN(K:vL)(ta:TE)(f:Z):TE:=λe H Q=>ta e H λx b=>∃a C d c v,x=.ref a/\b a=ζ (fD a C (ζ d))/\bS K C/\bW K C f/\b d=ζ (.xd c)/\c.lookup f=ζ v/\Q v b
theorem UM{g}(he:JE X e ta)(m:attributeBase e g X.env (eval e X.env)=eval e X.env):JE X (.Attribute e g pos) (JN X.K ta g):=by
 calc⟨λb s o H Q I h=>FC m (bu (he b s o H _ I h) ?_)⟩;ext u J ⟨x,p,i,t,a,C,d,L,v,w,y,c,n,z,l,q⟩;subst w;obtain rfl:u=Z4 a:=t;let⟨M,N,A⟩:2:=JL (i.bc a _ y);let⟨O,B,D⟩:=(i.bc d _ z);let⟨P,E,F⟩:=yD B;let⟨R,j,S,f⟩:12:=c.cd;let r:=D g;rw[l] at r;let⟨u,G,k⟩:=r.some_of;calc Ph i.de ⟨A,Y,Y,E⟩ c.ga c.gh c.base (q4H (by rw[q2D,j];simpa using f) n Y (by rw[F,G])) (Fw k) ⟨v,p,i.tok _,k,q⟩
end
theorem e7.xo{P w K l d x b st f m N ps k sp}(F:e7 K x b st f m)(S:kZ N ps (bX st))(i:∀vs H Q E,sp vs H Q E->↑vs=↑ps)
  (e:∀c A a s H vs Q E,aX k (A.deeper (envOfC b (bX st) ⇑s f c))->sp vs H Q E →
   ∃t,cV (bt (cH P w) P w K l d N b (bX st) f c A a s H E) (dA st) t/\t {nx:=λ_ H'=>Q .non H',rt:=Q} (start N vs) H):bH P w K l d (cH P w) (k+1) f m ps sp:=by
 let⟨v,y,z,o,B,C,c,D,p,rfl,r,j⟩:92:=F.ex;calc yM r j S i λA a s H n Q E u h=>?_;let⟨t,g,q⟩:=e c A a s H n Q E u h;calc⟨t,g,q⟩
variable[zt:aM]
structure Kp(H H':Hp):Prop where
 keep:∀a o,H a=ζ o->a∉aM.ad->H' a=ζ o
 tab:aM.ok H'
theorem Kp.none{H H'}(x:Kp H H'){a}(h:H' a=η):H a=η:=by
 cases e:H a with
 |none=>rfl
 |some o =>
  by_cases c:a∈aM.ad
  .let⟨b,q⟩:=aM.tb x.tab c
   rw[h] at q;cases q
  .rw[x.keep a o e c] at h;cases h
theorem JO{H a o}(h:H a=η):gJ (upd H a o) a=H:=by
 funext b;unfold gJ upd;split
 .rename_i e;rw[e];exact h.symm
 .rfl
abbrev UN(b:vL):-V->Hp->VK->Prop:=λc H Q=>∃p a,c=[.ref p]/\((bG b H p a/\∀l,H l=η->Q (.ref l) (upd H l (.tup a)))\/(b9 b H p a/\Q (.ref p) H))
end L2
namespace LJ
open PySem L2
structure ExcAt(H:Hp)(a C:O)(dx:Option O):Prop where
 ob:H a=ζ (fD a C dx)
 dd:∀d,dx=ζ d->∃fs,H d=ζ (.xd fs)
theorem ExcAt.same{H H' a C b}(x:ExcAt H a C b)(s:aI H H'):ExcAt H' a C b:=⟨s _ _ x.ob,λd e=>let⟨c,h⟩:=x.dd d e;⟨c,s _ _ h⟩⟩
structure B4(K:vL)(L:O)(Cs:-O):Prop where
 len:Cs.length=13
 each:∀(j:Nat)(C:O),Cs[j]?=ζ C->bS K C/\ZN K (.ref C) (.ref L)=ζ θ/\ZN K (.ref C) (.type "ValueError")=ζ θ/\∀(i:Nat)(C':O),Cs[i]?=ζ C'->ZN K (.ref C) (.ref C')=ζ (μ (i=j))
 above:bS K L/\ZN K (.ref L) (.ref L)=ζ θ/\ZN K (.ref L) (.type "ValueError")=ζ θ/\∀(i:Nat)(C':O),Cs[i]?=ζ C'->ZN K (.ref L) (.ref C')=ζ ι
 jW:∀(j:Nat)(C:O),Cs[j]?=ζ C->bW K C "place"
meta def dS:-Z:=["way", "join", "step", "house", "web", "price", "many", "closed", "free", "nothing", "number", "text", "line"]
theorem lS{H a o}(h:H a=η):aI H (upd H a o):=λb u e=>by rw[aQ (cW e h)];calc e
meta def names13:-Z:=["NoWay", "NoJoin", "NoStep", "NoHouse", "NoWeb", "NoPrice", "TooMany", "Closed", "Free", "Nothing", "NoNumber", "NoText", "NoLine"]
meta def eS:-Z:=["way", "join", "step", "house", "web", "price", "many", "closed", "free", "nothing", "number", "text"]
structure B5(mg:Z->Option ν)(L:O)(Cs:-O):Prop where
 B6:mg "isinstance" = η
 VE:mg "ValueError" = η
 UO:mg "LotError" = ζ (.ref L)
 cls:∀(j:Nat)(x:Z),names13[j]?=ζ x->∃C,Cs[j]?=ζ C/\mg x=ζ (.ref C)
theorem UP:bootBuiltins "ValueError" = ζ (.type "ValueError"):=by decide +kernel
section
variable{X:Cx}{a C:O}{dx:Option O}
def u0(a C:O)(b:Option O)(v:Bool):TE:=λc H Q=>c[0]?=ζ (ζ (.ref a))/\ExcAt H a C b/\Q (.bl v) H
def oo(a C:O)(b:Option O)(vs:-Bool):TA:=λc H Q=>c[0]?=ζ (ζ (.ref a))/\ExcAt H a C b/\Q (vs.map V.bl) H
def qH(a C:O)(c:Option O)(vs:-Bool):TE:=λd H Q=>d[0]?=ζ (ζ (.ref a))/\ExcAt H a C c/\∀(l:O)(b:Hp),aI H b->b l=ζ (.lst (vs.map V.bl))->Q (.ref l) b
def lT(a C:O)(e:Option O)(us vs:-Bool):TE:=λc H Q=>∃l:O,c[0]?=ζ (ζ (.ref a))/\c[1]?=ζ (ζ (.ref l))/\H l=ζ (.lst (us.map V.bl))/\ExcAt H a C e/\∀(d:O)(b:Hp),aI H b->b d=ζ (.lst ((us++vs).map V.bl))->Q (.ref d) b
theorem B7{y z p q r pos d c v}(f:JE X (.Name y q) (gy 0))(hz:JE X (.Name z r) (tC d))(g:nk d=ζ c)(h:bS X.K C)(i:ZN X.K (.ref C) c=ζ v)(j:Gl X "isinstance")(k:X.mg "isinstance" = η):
  JE X (.Call (.Name "isinstance" p) [.Name y q,.Name z r] [] pos) (u0 a C dx v) :=
 (sX UL j k q3a (jm f (jm hz bj)) (by decide) (by decide) Y Y).weak λm H Q b=>by let⟨l,e,q⟩:02:=b;calc⟨_,l,a,C,dx,_,_,_,Y,g,e.ob,h,e.dd,i,q⟩
theorem u1:JA X [] (oo a C dx []):=bj.weak λc H Q b=>by let⟨_,_,q⟩:02:=b;calc q
theorem kn{f as es k p v vs}(h:JE X (.Call f as k p) (u0 a C dx v))(r:JA X es (oo a C dx vs)):JA X (.Call f as k p::es) (oo a C dx (v::vs)) :=
 (k_ h r).weak λd H Q b=>by let⟨c,e,q⟩:02:=b;calc⟨c,e,c,e,q⟩
theorem u2{es pos vs}(h:JA X es (oo a C dx vs))(c:↑vs<=20):JE X (.List es pos) (qH a C dx vs) :=
 (mY h).weak λf H Q b=>by let⟨d,e,q⟩:02:=b;calc⟨d,e,(by rw[qa];calc iR c),λl c=>q l _ (lS c) bN⟩
theorem xp{n q p pos es us vs}(d:JE X (.Name n q) (gy 1))(h:JE X (.List es p) (qH a C dx vs))(f:↑us+↑vs<=20):JE X (.BinOp (.Name n q) .Add (.List es p) pos) (lT a C dx us vs) :=
 (pV vK d h).weak λo H Q b=>by let⟨l,g,i,c,e,q⟩:14:=b;calc⟨_,i,g,e,λm r s j=>(zI4 l m _ _ ⟨Y,Y,s _ _ c,j,(by rw[qa,qa];calc iR f),λp k=>q p _ (s.trans (lS k)) (by rw[ZM];calc bN)⟩)⟩
theorem UQ{es pos} a (h:strsOf es=ζ a) (b:↑a<=20):JE X (.List es pos) (λ_ H Q=>∀p,H p=η->Q (.ref p) (upd H p (.lst (a.map V.str)))):=PG h (iR b)
theorem UR{e ta a pos}(he:JE X e ta)(b:attributeBase e a X.env (eval e X.env)=eval e X.env):JE X (.Attribute e a pos) (JN X.K ta a):=⟨UM he b⟩
end
meta def eT(b:Nat->Bool):-Bool:=[b 0,b 1,b 2,b 3,b 4,b 5,b 6,b 7,b 8,b 9,b 10,b 11,b 12]
meta def cnt(us:-Bool):Nat:=(us.map V.bl).countP λz=>hR z (.bl θ)
theorem B8:∀us:-Bool,(us.map V.bl).all kC=θ
 |[]=>Y
 |_::a=>by rw[ZW,q3H,B8 a];rfl
theorem US{j:Nat}(h:j<4):(eS.map V.str)[j]?=ζ (.str (dS.getD j "")):=by
 rcases j with _|_|_|_|j
 .rfl
 .rfl
 .rfl
 .rfl
 .omega
theorem UT{j:Nat}(h:j<13):(eS.map V.str++[V.str "line"])[j]?=ζ (.str (dS.getD j "")):=by
 rcases j with _|_|_|_|_|_|_|_|_|_|_|_|_|j
 .rfl
 .rfl
 .rfl
 .rfl
 .rfl
 .rfl
 .rfl
 .rfl
 .rfl
 .rfl
 .rfl
 .rfl
 .rfl
 .omega
meta def oq(j:Nat)(n:Int):-V:=if j<4 then[.str (dS.getD j ""),.int n] else[.str (dS.getD j "")]
def ko(Cs:-O):Sp:=λe H Q _=>∃(j:Nat)(n:Int)(a C:O)(c:Option O),e=[.ref a]/\j<13/\Cs[j]?=ζ C/\ExcAt H a C c/\(j<4->∃d,c=ζ d/\H d=ζ (.xd [("place",.int n)]))/\∀(l:O)(b:Hp),aI H b->H l=η->b l=ζ (.lst (oq j n))->Q (.ref l) b
theorem UU:∀j:Nat,j<13->cnt (eT λi=>μ (i=j))=1:=by decide
theorem JP{b}{i:Nat}{z}(h:((eT b).map V.bl)[i]?=ζ z):z=.bl (b i):=by
 rw[show eT b=(Z1 13).map b from Y,Z7,OS] at h;let⟨j,e,rfl⟩:=YE.mp h;let⟨_,a⟩:=ri.mp e;rw[q5g] at a;rw[a];rfl
end LJ
namespace LJ
open PySem L2 PySem.Spec PySem.W PyProof.Rows
def u3(C:O):Sp:=λb H Q _=>∃(a:O)(n:Int),b=[.ref a,.int n]/\H a=ζ (eN a C η)/\∀d,H d=η->Q .non (upd (upd H d (.xd [("place",.int n)])) a (eN a C (ζ d)))
def u4(c:Nat)(n:Int)(a:Option O)(H:Hp):Prop:=(c<4/\∃d,a=ζ d/\H d=ζ (.xd [("place",.int n)]))\/(4<=c/\a=η)
abbrev kS:=Nat->Int->Prop
section
variable[zt:aM]
def Kept(a:Hp):-O->-(Option OV)->Hp->Prop:=λc d H=>∀b o,a b=ζ o->b∉aM.ad->H b=ζ o/\¬ Lv c d b
@[reducible] noncomputable def UW (d:kS) (f:Hp):cj:=⟨d,λ_=>Kept f,λE k b o e n=>by
 let⟨a,c⟩:=k b o e n;calc⟨E.keep b o a c n,λl=>?_⟩;rcases E.cy b l with z|z
 .exact c z
 .rw[a] at z;cases z⟩
def UX(Cs:-O)(G:kS->GD)(n:Nat):Sp:=λe H Q E=>∃b:kS,mf (G b) n e H Q E/\∀c p,b c p->∀C d a,Cs[c]?=ζ C->Kp H a->u4 c p d a->E (.ref C) d a
structure qI[cj](Cs:-O)(E:XK)(H0:Hp):Prop where
 go:∀{c p C dx F ad mu H'},cj.ok c p->cj.kp F ad mu H'->aM.ok H'->Cs[c]?=ζ C->u4 c p dx H'->E (.ref C) dx H'
 fr:∀{F ad mu H' a},cj.kp F ad mu H'->aM.ok H'->H' a=η->H0 a=η
structure UY(P:ψ)(w:ω)(K:vL)(mg:Z->Option ν)(base:Α)(x:Z)(C:O):Prop where
 m:mg x=ζ (.ref C)
 ex:∃f fd,oH K C (ζ (.ref f))/\q2c K (.ref f)=θ/\bH P w K mg base d7 1 f fd ["self", "place"] (u3 C)/\Binds K fd ["self", "place"] []
def B9(a:kS)(c:Nat):WS:=λ_ _=>a c 0
section
variable{P:ψ}{w:ω}{K:vL}{mg:Z->Option ν}{base:Α}{N:-Z}{qual:Z}{scope:Γ}{f:O}{cd:ν}{A:Β}{outer:-Ε}{s:ο}{H:Hp}{E:XK}{Cs:-O}{c:Nat}{C:O}{x:Z}{e:υ}{fe:WA}{p p2 pos:Δ}
theorem UZ[cj]{t}(M:oH K C η)(R:qI Cs E H)(h:Cs[c]?=ζ C)(i:4<=c)(j:mg x=ζ (.ref C))(l:‹Gl (bt (cH P w) P w K mg base N qual scope f cd A outer s H E) x›)(b: ~~~(bF x))
  (he:JA (bt (cH P w) P w K mg base N qual scope f cd A outer s H E) [e] (jk (tC (.str t)) iM))
  (m:‹starEach [e] (bt (cH P w) P w K mg base N qual scope f cd A outer s H E).env=(ι,eval e (bt (cH P w) P w K mg base N qual scope f cd A outer s H E).env)::starEach [] (bt (cH P w) P w K mg base N qual scope f cd A outer s H E).env›) (d:‹(backTo p2 (starEach [] (bt (cH P w) P w K mg base N qual scope f cd A outer s H E).env)).any (·.1)=ι›) :
  JS (bt (cH P w) P w K mg base N qual scope f cd A outer s H E) (.Raise (ζ (.Call (.Name x p) [e] [] p2)) η pos) (dc (B9 cj.ok c)):=by
 calc JS.weak ⟨BZ Y (Gx M l j he b m d)⟩ λD n o ⟨F,r,u,v,S,q,k⟩=>⟨by show 1<=sizeLine;decide,λa g=>(zI4 a C η η ⟨Y,bN,M,R.fr k.kp S.tab g,?_⟩)⟩;rw[JO g];calc R.go q k.kp S.tab h (.inr ⟨i,Y⟩)
structure Fy(V:Ev)(Cs:-O)(k:Nat)(x:Z)(ps:-Z)(n:Nat)(G:kS->GD):Prop where
 ex:∃f fd,bH V.P V.w V.K V.mg V.base (cH V.P V.w) k f fd ps (UX Cs G n)/\V.mg x=ζ (.ref f)/\Z3 V.K (.ref f)=θ/\Binds V.K fd ps []
section
variable{X:Cx}{j k n:Nat}{ps:-Z}{G:kS->GD}{es:-υ}{fa:WA}
end
end
def EI(V:Ev)(Cs:-O)(c:Nat)(x:Z):Prop:=c<4/\∃C,Cs[c]?=ζ C/\UY V.P V.w V.K V.mg V.base x C
def ET(V:Ev)(Cs:-O)(c:Nat)(x:Z):Prop:=4<=c/\∃C,Cs[c]?=ζ C/\oH V.K C η/\V.mg x=ζ (.ref C)
section
variable{V:Ev}{N:-Z}{qual:Z}{scope:Γ}{f:O}{cd:ν}{A:Β}{outer:-Ε}{s:ο}{H:Hp}{E:XK}{Cs:-O}{x:Z}{e:υ}{fe:WA}{p p2 pos:Δ}{k:Nat}
theorem U0[cj]{c t}(d:ET V Cs c x)(R:qI Cs E H)(he:JA (bt (cH V.P V.w) V.P V.w V.K V.mg V.base N qual scope f cd A outer s H E) [e] (jk (tC (.str t)) iM))
  (g:‹Gl (bt (cH V.P V.w) V.P V.w V.K V.mg V.base N qual scope f cd A outer s H E) x›) (a: ~~~(bF x))
  (h:‹starEach [e] (bt (cH V.P V.w) V.P V.w V.K V.mg V.base N qual scope f cd A outer s H E).env=(ι,eval e (bt (cH V.P V.w) V.P V.w V.K V.mg V.base N qual scope f cd A outer s H E).env)::starEach [] (bt (cH V.P V.w) V.P V.w V.K V.mg V.base N qual scope f cd A outer s H E).env›) (b:‹(backTo p2 (starEach [] (bt (cH V.P V.w) V.P V.w V.K V.mg V.base N qual scope f cd A outer s H E).env)).any (·.1)=ι›) :
  JS (bt (cH V.P V.w) V.P V.w V.K V.mg V.base N qual scope f cd A outer s H E) (.Raise (ζ (.Call (.Name x p) [e] [] p2)) η pos) (dc (B9 cj.ok c)) :=
 let⟨i,_,j,M,k⟩:=d
 UZ M R j i k g a he h b
end
theorem xo{V Cs x st N ps k G}(D:Dx V x st)(Z:gF x st ps)(hG:∀r ys d K,G r ys d K->d=[])(h:∀{j A i s H E f} [cj],qI Cs E H->aX k (A.deeper (envOfC x (bX st) ⇑s f j))->N.Nodup->(A.deeper (envOfC x (bX st) ⇑s f j)).units+64<cLine →
   ∃B:WS,cV (bt (cH V.P V.w) V.P V.w V.K V.mg V.base N x (bX st) f j A i s H E) (dA st) (dc B)/\∀ys d m,↑ys=↑ps->G cj.ok ys d m->B (iU ↑d m) ⟨ys.map ζ++Gg (↑N-↑ps) η,d.map ζ⟩)(T:autoParam (kR N ps (bX st)=θ) qz3._auto_1):Fy V Cs (k+1) x ps ↑ps G:=by
 let⟨f,fd,a,F⟩:21:=D;calc⟨f,fd,F.xo (dy T) (λvs H Q E h=>let⟨_,h,_⟩:=h;h.1) (λj A i s H vs Q E U hh=>?_),a,F.kp,F.binds Z⟩;let⟨r,⟨W,Fz,X,t,d,m,q,g,Y⟩,hE⟩:=hh;let ho:=hG r t d m g;subst ho;let ea:=q1i.mp q.cD;subst ea;letI:=UW r H;let⟨B,jb,hb⟩:=h (⟨λ{c p C dx F X mu I} o J L hC pl=>hE c p o C dx I hC ⟨λb u e n=>(J b u e n).1,L⟩ pl,λ{F X mu I a} J L e=>Kp.none ⟨λb u e n=>(J b u e n).1,L⟩ e⟩) U (dy T).nd U.units
 let hy:↑t=↑ps:=by
  let:=q.len;rw[qa] at this;rw[<-W,this,qa]
 refine⟨_,jb,Fz,[],⟨t.map ζ++Gg (↑N-↑ps) η,[]⟩,iU 0 m,by rw[<-W];calc q.start,hb t [] m hy g,⟨λl h F' M O I R S=>?_,λl h=>h.elim,λl h=>h.elim,λy l h v F' M O I R S V=>?_,λb o e n=>⟨e,λz'=>by let⟨k,ov,z,_⟩:21:=z';simp at z⟩⟩⟩
 .exact rE   q R S (x:=.p .non)  rfl h Y
 .calc rE   q R S V h Y
end
end LJ
namespace LJ
open PySem L2 PySem.Spec PySem.W
variable[zt:aM]
meta def xq(c:Nat)(n:Int):-D:=if c<4 then[.str (dS.getD c ""),.int n] else[.str (dS.getD c "")]
meta def qJ(tup:Bool)(c:Nat)(n:Int):D:=if tup then .tup (xq c n) else .lst (xq c n)
meta def JQ(tup:Bool)(c:Nat)(n:Int):HO:=if tup then .tup (oq c n) else .lst (oq c n)
theorem JR{F} c n:aq F (xq c n) (oq c n):=by
 unfold xq oq;split
 .exact⟨_,_,Y,Y,⟨_,_,Y,Y,Y⟩⟩
 .calc⟨_,_,Y,Y,Y⟩
def JU(b:vL)(Cs:-O)(a:Nat):Bool->TE
 |false=>sV (ko Cs) [] E0 (jk (gy a) iM)
 |true=>sW (UN b) (jk (sV (ko Cs) [] E0 (jk (gy a) iM)) iM)
section
variable{X:Cx}{body fJ:-χ}{b0 st:χ}{x n:Z}{p1 p2 pos:Δ}{L:O}{ic ie:Nat}{B:kS->WS}{f1:WE}{tup:Bool}{Cs:-O}
end
end LJ
namespace LJ
open PySem L2
variable[zt:aM]
meta def qK:D->Int×Int×Int
 |.tup [.int i,.int j,.int p]=>(i,j,p)
 |_=>(0,0,0)
theorem U1{d}(h:d5 d=θ):∃m ws,d=aN m ws/\fG m ws:=by
 unfold d5 at h;split at h
 .rename_i m n
  rw[ZK] at h;let⟨k,g⟩:01:=h;split at g
  .rename_i i
   cases n with
   |tup f =>
    let g:(μ (↑f<=30)&&(f.all (cz i)&&μ ((f.map pairOf).Nodup)))=θ:=g;erw[ZK,q0v] at g;let⟨a,b,c⟩:02:=g;let k:(μ (1<=i)&&μ (i<=12))=θ:=k;erw[ZK,q0v] at k;let j:=q0c.mp b
    let e:f=(f.map qK).map aV:=by
     rw[Z7]
     conv=>lhs;rw[<-q4C f]
     calc q08 λw l=>?_;let⟨x,y,z,rfl,_⟩:31:=uC (j w l);rfl
    refine⟨i,f.map qK,by show D.tup [.int i,.tup f]=.tup [.int i,.tup _];rw[<-e],?_⟩
    let o:(f.map qK).map (λy=>(y.1,y.2.1))=f.map pairOf:=by
     rw[Z7];calc q08 λw l=>?_;let⟨x,y,z,rfl,_⟩:31:=uC (j w l);rfl
    calc⟨k.1,k.2,by rw[qa];calc a,λy p=>?_,by rw[o];calc c⟩;let⟨w,l,rfl⟩:11:=ZI.mp p;let⟨x,y,z,rfl,q⟩:31:=uC (j w l);exact q
   |_=>cases g
  .cases g
 .cases h
inductive xr (ok:kS) (ys:-DV) (aW:-OV) (K:RV->-OV->Prop):Prop
 |mk (d) (q:ys=[.p d]) (q:aW=[]) (q:(d5 d=ι->ok 4 0)) (q:(d5 d=θ->K (.p .non) []))
theorem U2:∀b ys a K,xr b ys a K->a=[]:=by ext b c a K ⟨_,_,h,_⟩;calc h
def JV(a:kS):WS:=(aU (cb (dT (au 1 uD (ag (aa 0) af)))) (B9 a 4) bY)
theorem U3 a:Sem 1 0 (xr a) (JV a):=by
 ext g b h-⟨d,rfl,rfl,c,k⟩;calc gc λi j e f=>?_;simp!;refine⟨d,Y,Y,?_⟩
 cases q:d5 d with
 |false =>
  subst e;exact c q
 |true =>
  subst f;calc cA (k q)
end LJ
namespace LJ
open PySem L2 PySem.Spec PySem.W PyProof.Rows
section
variable[zt:aM]
structure Kx(K:vL)(C:O)(fs:-Z):Prop where
 c:hD K C
 n:∀f∈fs,bW K C f
theorem Kx.at{K C fs}(h:Kx K C fs) f (e:‹fs.contains f=θ›):bW K C f:=h.n f (q4h.mp e)
structure Fk(V:Ev)(C:O)(k:Nat)(m:Z)(ps:-Z)(n:Nat)(G:GK):Prop where
 ex:∃f fd,Meth V.K C m f/\bH V.P V.w V.K V.mg V.base d7 k f fd ps (kQ G n)/\Binds V.K fd ps []
structure Fq(V:Ev)(k:Nat)(x:Z)(ps:-Z)(n:Nat)(G:GK):Prop where
 ex:∃f fd,Fn V.P V.w V.K V.mg V.base k x ps (kQ G n) f fd
structure Fc(V:Ev)(C:O)(k:Nat)(x:Z)(ps:-Z)(n:Nat)(G:GK):Prop where
 ex:∃f fd,V.mg x=ζ (.ref C)/\Mk V.K C f/\bH V.P V.w V.K V.mg V.base d7 k f fd ps (kQ G n)/\Binds V.K fd ps []
def Dm(V:Ev)(C:O)(m q:Z)(st:χ):Prop:=∃f a,Meth V.K C m f/\e7 V.K m q st f a
def Dc(V:Ev)(C:O)(x q:Z)(st:χ):Prop:=∃f a,(V.mg x=ζ (.ref C)/\Mk V.K C f)/\e7 V.K "__init__" q st f a
section
variable{X:Cx}{C:O}{x m:Z}{ps:-Z}{G:GK}{e o:υ}{es:-υ}{fa:WA}{fo:WE}{p pos apos:Δ}{j k n:Nat}
theorem eU r (F:Fq ⟨X.prog,X.w,X.K,X.mg,X.base⟩ j x ps n G) (c:aX k X.A) (d:JA X (e::es) (b_ fa)) (hj:‹q2L j k=θ›) (f:‹Gl X x›) (a: ~~~(bF x)) (he:‹b7 X e es›) (b:‹cm X pos es›) :
  JE X (.Call (.Name x p) (e::es) [] pos) (tD (ax r n G fa)):=let⟨_,_,F⟩:=F.ex;TK r F.ok (c.mono (q0f hj)) f F.ro F.kp F.bd d a he b
theorem u5(F:Fc ⟨X.prog,X.w,X.K,X.mg,X.base⟩ C j x ps n G)(d:aX k X.A)(f:JA X (e::es) (b_ fa))(hj:‹q2L (j+1) k=θ›)(g:‹Gl X x›)(b: ~~~(bF x))(he:‹b7 X e es›)(c:‹cm X pos es›):
  JE X (.Call (.Name x p) (e::es) [] pos) (tD (az C n G fa)):=let⟨_,_,a,M,F,B⟩:=F.ex;TU M F (d.mono (q0f hj)) g a B f b he c
theorem eA{g} r (c:hD X.K C) (F:Fk ⟨X.prog,X.w,X.K,X.mg,X.base⟩ C j m ps n G) (h:aX k X.A) (i:JE X o (tD fo)) (l:JA X (e::es) (b_ fa)) (hj:‹q2L j k=θ›)
  (b:‹b7 X e es›) (d:‹cm X pos es›)
  (p:‹eval (.Call (.Attribute o m apos) (e::es) [] pos) X.env=(do
   let ov <- eval o X.env
   standAt apos.atName
   let(f,a) <- holding [ov] (getMethod ov m g)
   callWith pos f a (backTo pos (starEach (e::es) X.env)) (backToKw pos (keywordEach [] X.env)))›) :
  JE X (.Call (.Attribute o m apos) (e::es) [] pos) (tD (aw r C m n G fo fa)):=let⟨_,_,M,F,B⟩:=F.ex;TN r c M F (h.mono (q0f hj)) B i l b d p
theorem pH{b} r (c:hD X.K C) (F:Fk ⟨X.prog,X.w,X.K,X.mg,X.base⟩ C j m ps n G) (d:aX k X.A) (e:JE X o (tD fo)) (hj:‹q2L j k=θ›)
  (g:‹eval (.Call (.Attribute o m apos) [] [] pos) X.env=(do
   let ov <- eval o X.env
   standAt apos.atName
   let(f,a) <- holding [ov] (getMethod ov m b)
   callWith pos f a (backTo pos (starEach [] X.env)) (backToKw pos (keywordEach [] X.env)))›) :
  JE X (.Call (.Attribute o m apos) [] [] pos) (tD (aw r C m n G fo af)):=let⟨_,_,M,F,B⟩:=F.ex;TQ r c M F (d.mono (q0f hj)) B e g
end
def jA(x q:Z)(st:χ)(ps:-Z):Prop:=∀(d a e:ν)(f:Option O)(b g:ν)(c:-ν),↑c=↑ps->bindArgs (q0q x q (ja st) (dA st) (bX st) .none d a e f b g) ⟨c,[]⟩=pure (ps.zip c)
theorem sd{x q st ps}(h:‹∀d b e f c ct a,bindArgs (q0q x q (ja st) (dA st) (bX st) .none d b e f c ct) ⟨[a],[]⟩=pure (ps.zip [a])›)(i:‹↑ps=1›):jA x q st ps:=λd b e f c g k j=>by
 let⟨a,rfl⟩:=BP (j.trans i);calc h d b e f c g a
theorem pI{x q st ps}(h:‹∀e c f g d ct a b,bindArgs (q0q x q (ja st) (dA st) (bX st) .none e c f g d ct) ⟨[a,b],[]⟩=pure (ps.zip [a,b])›)(j:‹↑ps=2›):jA x q st ps:=λe c f g d i l k=>by
 let⟨a,b,rfl⟩:2:=xk (k.trans j);calc h e c f g d i a b
theorem xt{x q st ps}(h:‹∀f d g i e ct a b c,bindArgs (q0q x q (ja st) (dA st) (bX st) .none f d g i e ct) ⟨[a,b,c],[]⟩=pure (ps.zip [a,b,c])›)(k:‹↑ps=3›):jA x q st ps:=λf d g i e j m l=>by
 let⟨a,b,c,rfl⟩:3:=JB (l.trans k);calc h f d g i e j a b c
section
variable{V:Ev}{C:O}{x m q:Z}{st:χ}{N ps:-Z}{k:Nat}{G:GK}
abbrev B_(V:Ev)(N ps:-Z)(q:Z)(st:χ)(k:Nat)(G:GK):Prop:=∀{a:ν}{A:Β}{b:-Ε}{s:ο}{H:Hp}{E:XK}{f:O},aX k (A.deeper (envOfC q (bX st) ⇑s f a))->N.Nodup->(A.deeper (envOfC q (bX st) ⇑s f a)).units+64<cLine →
   ∃B:WS,cV (bt d7 V.P V.w V.K V.mg V.base N q (bX st) f a A b s H E).jZ (dA st) (dc B)/\∀d c e,↑d=↑ps->G d c e->B (ai ↑c e) ⟨d.map ζ++Gg (↑N-↑ps) η,c.map ζ⟩
theorem lU(D:Dm V C m q st)(e:jA m q st ps)(h:B_ V N ps q st k G)(c:autoParam (kR N ps (bX st)=θ) qz3._auto_1):Fk V C (k+1) m ps ↑ps G :=
 let⟨f,g,a,F⟩:=D
 ⟨f,g,a,F.Bt (dy c) λi A b s H E d=>h d (dy c).nd d.units,F.binds e⟩
theorem U4(D:Dc V C x q st)(e:jA "__init__" q st ps)(h:B_ V N ps q st k G)(c:autoParam (kR N ps (bX st)=θ) qz3._auto_1):Fc V C (k+1) x ps ↑ps G :=
 let⟨f,g,a,F⟩:=D
 ⟨f,g,a.1,a.2,F.Bt (dy c) λi A b s H E d=>h d (dy c).nd d.units,F.binds e⟩
theorem u6(D:Dx V x st)(e:gF x st ps)(h:B_ V N ps x st k G)(c:autoParam (kR N ps (bX st)=θ) qz3._auto_1):Fq V (k+1) x ps ↑ps G :=
 let⟨f,g,a,F⟩:=D
 ⟨f,g,F.Bt (dy c) λi A b s H E d=>h d (dy c).nd d.units,a,F.kp,F.binds e⟩
end
end
inductive il (K:vL) (C:O):-(Z×Z×χ)->Prop
 |nil:il K C []
 |cons {m q st r}:(∃f fd,Meth K C m f/\e7 K m q st f fd)->il K C r->il K C ((m,q,st)::r)
theorem allM{K C m q st}{r:-(Z×Z×χ)}{f d e g j n o p b ct}(a:q0k K (.ref C) m=ζ (ζ (.ref f)))(i:q2c K (.ref f)=θ)(l:K.lookup f=ζ ⟨j,d,.func (q0q m q (ja st) (dA st) (bX st) .none n o p e b ct),g⟩)(c:q1O K b q=θ)(k:Z3 K (.ref f)=θ)(h:il K C r):il K C ((m,q,st)::r) :=
 .cons (zI2 f _ ⟨⟨a,i,k⟩,tr l c k⟩) h
theorem il.at{K C}{ds:-(Z×Z×χ)}(h:il K C ds)(i:Nat){m q st}(e:ds[i]?=ζ (m,q,st)):∃f a,Meth K C m f/\e7 K m q st f a:=by
 induction h generalizing i with
 |nil=>cases e
 |cons d _ b=>cases i with
  |zero=>cases e;exact d
  |succ i=>calc b i e
abbrev cF:=Nat->Int->-OV->Prop
section
variable[zt:aM]
abbrev U5(F:Hp)(c:-O)(a:-OV)(H:Hp)(b:-OV)(F' H':Hp):Prop:=uP F c a H (.p .non) b [] .non F' c H'
inductive kq (Cs:-O) (G:cF->GK) (n:Nat) (vs:-V) (H:Hp) (Q:VK) (E:XK):Prop
 |mk (ok:cF) (hl:↑vs=n) (F:Hp) (ad:-O) (ys:-DV) (aW:-OV) (K:RK->-OV->-OV->Prop) (S:SR F ad ⟨ys.map ζ,aW.map ζ⟩ (vs.map ζ) H) (g:G ok ys aW K) (k:∀r ows news,K r ows news->∀v F' bL H',uP F ad aW H r ows news v F' bL H'->Q v H')
  (x:∀c p ows,ok c p ows->∀C dx F' H',Cs[c]?=ζ C->U5 F ad aW H ows F' H'->u4 c p dx H'->E (.ref C) dx H')
@[reducible] noncomputable def ot (c:Hp) (a:-O) (b:-(Option OV)) (d:Hp):cj:=⟨λ_ _=>False,λF e f H=>Ext c a b d F e f H,λE k=>k.trans E⟩
structure kr[cj](ok:cF)(n:Nat)(Cs:-O)(E:XK)(H0:Hp):Prop where
 go:∀{c p ows C dx F ad δ σ H'},ok c p ows->↑ows=n->δ.mu.take n=ows.map ζ->cj.kp F ad δ.mu H'->SR F ad δ σ H'->Cs[c]?=ζ C->u4 c p dx H'->E (.ref C) dx H'
 fr:∀{F ad mu H' a},cj.kp F ad mu H'->aM.ok H'->H' a=η->H0 a=η
def JX(d:cF)(n c:Nat)(e:WA):WS:=λ_ f=>e f λg b=>∃(p:Int)(a:-OV),(g=[.p (.int p)]/\↑a=n/\b.mu.take n=a.map ζ)/\d c p a
def u7(b:cF)(n c:Nat):WS:=λ_ d=>∃a:-OV,(↑a=n/\d.mu.take n=a.map ζ)/\b c 0 a
section
variable{V:Ev}{N:-Z}{qual:Z}{scope:Γ}{f:O}{cd:ν}{A:Β}{outer:-Ε}{s:ο}{H:Hp}{E:XK}{Cs:-O}{x:Z}{e:υ}{fe:WA}{p p2 pos:Δ}{k n c:Nat}{ok:cF}
theorem U6[cj](L:EI V Cs c x)(R:kr ok n Cs E H)(O:aX k (A.deeper (envOfC qual scope ⇑s f cd)))(he:JA (bt (cH V.P V.w) V.P V.w V.K V.mg V.base N qual scope f cd A outer s H E) [e] (b_ fe))(Q:‹q2L 2 k=θ›)
  (T:‹Gl (bt (cH V.P V.w) V.P V.w V.K V.mg V.base N qual scope f cd A outer s H E) x›) (j: ~~~(bF x))
  (U:‹starEach [e] (bt (cH V.P V.w) V.P V.w V.K V.mg V.base N qual scope f cd A outer s H E).env=(ι,eval e (bt (cH V.P V.w) V.P V.w V.K V.mg V.base N qual scope f cd A outer s H E).env)::starEach [] (bt (cH V.P V.w) V.P V.w V.K V.mg V.base N qual scope f cd A outer s H E).env›) (l:‹(backTo p2 (starEach [] (bt (cH V.P V.w) V.P V.w V.K V.mg V.base N qual scope f cd A outer s H E).env)).any (·.1)=ι›) :
  JS (bt (cH V.P V.w) V.P V.w V.K V.mg V.base N qual scope f cd A outer s H E) (.Raise (ζ (.Call (.Name x p) [e] [] p2)) η pos) (dc (JX ok n c fe)):=by
 let⟨W,C,X,Y,fi,Z,M,t,FI,bI⟩:=L;calc JS.weak ⟨BZ rfl (Pq M t FI (O.mono (q0f Q)) bI l_ T Y he j U l)⟩ λD σ H1 ⟨F,ad,δ,K1,S,q,k⟩=>⟨F,ad,δ,_,S,q,λxs δ1 h1 vs F1 ml h G u V1=>?_⟩;let⟨m,ows,⟨rfl,o1,o2⟩,o⟩:21:=h1;let⟨v,r,rfl,W1,W2⟩:22:=V1;subst W2 W1;refine⟨by show 1<=sizeLine;decide,λa I=>(zI2 a m ⟨rfl,bN,λd i=>⟨rfl,a,C,ζ d,_,rfl,bN,M,?_,?_⟩⟩)⟩
 .exact R.fr (k.ext G).kp u.tab I
 .let g:d≠a:=λz=>by rw[z,bN] at i;cases i
  let B:=by rw[aQ g] at i;exact i
  let eq:gJ (upd (upd (upd h a (eN a C η)) d (.xd [("place",.int m)])) a (eN a C (ζ d))) a=upd h d (.xd [("place",.int m)]):=by
   funext b;unfold gJ;split
   .rename_i z;subst z;rw[aQ (λz=>g z.symm)];exact I.symm
   .rename_i z
    rw[aQ z]
    by_cases y:b=d
    .subst y;rw[bN,bN]
    .rw[aQ y,aQ y,aQ z]
  rw[eq];let J:aI h (upd h d (.xd [("place",.int m)])):=cK B;calc R.go o o1 o2 (cj.st (Ext.al u J) (k.ext G).kp) (u.al J) X (.inl ⟨W,d,rfl,bN⟩)
theorem xu[cj]{t}(h:ET V Cs c x)(R:kr ok n Cs E H)(he:JA (bt (cH V.P V.w) V.P V.w V.K V.mg V.base N qual scope f cd A outer s H E) [e] (jk (tC (.str t)) iM))
  (i:‹Gl (bt (cH V.P V.w) V.P V.w V.K V.mg V.base N qual scope f cd A outer s H E) x›) (b: ~~~(bF x))
  (j:‹starEach [e] (bt (cH V.P V.w) V.P V.w V.K V.mg V.base N qual scope f cd A outer s H E).env=(ι,eval e (bt (cH V.P V.w) V.P V.w V.K V.mg V.base N qual scope f cd A outer s H E).env)::starEach [] (bt (cH V.P V.w) V.P V.w V.K V.mg V.base N qual scope f cd A outer s H E).env›) (d:‹(backTo p2 (starEach [] (bt (cH V.P V.w) V.P V.w V.K V.mg V.base N qual scope f cd A outer s H E).env)).any (·.1)=ι›) :
  JS (bt (cH V.P V.w) V.P V.w V.K V.mg V.base N qual scope f cd A outer s H E) (.Raise (ζ (.Call (.Name x p) [e] [] p2)) η pos) (dc (u7 ok n c)):=by
 let⟨l,C,m,M,r⟩:0112:=h;calc JS.weak ⟨BZ Y (Gx M i r he b j d)⟩ ?_;ext D z B ⟨F,G,I,J,S,q,k⟩;let⟨u,⟨v,y⟩,o⟩:=q;calc⟨by show 1<=sizeLine;decide,λa g=>(zI4 a C η η ⟨Y,bN,M,R.fr k.kp S.tab g,?_⟩)⟩;rw[JO g];calc R.go o v y k.kp S m (.inr ⟨l,Y⟩)
end
def okIn(f:cF)(e:Nat)(mu:-(Option OV))(a:-(Nat×OV)):cF:=λc p b=>∃d:-OV,(↑d=e/\(df mu a b).take e=d.map ζ)/\f c p d
def fE(o:Bool)(n:Nat)(G:cF->GK)(c:cF)(d:Nat)(xs:-DV)(b:aO)(K:DV->aO->Prop):Prop:=∃a,rV b.mu a/\match passes b.mu xs 0 with
 |some r=>(jw (r.2++a)=θ/\↑r.1=n)/\G (okIn c d b.mu (r.2++a)) r.1 ((r.2++a).map (·.2)) (if o then aA b (r.2++a) K else ak b (r.2++a) K)
 |none=>False
section
variable{F F1 H H0 H1:Hp}{ad ml:-O}{δ δ1:aO}{σ:L2.St}{K:DV->aO->Prop}{Q:VK}{xs:-DV}{vs:-V}{n nn:Nat}{G:cF->GK}{E:XK}{o:Bool}{ok:cF}{Cs:-O}
theorem xv[cj](R:kr ok nn Cs E H0)(T:cj.kp F ad δ.mu H)(kk:∀x h,K x h->∀v F' i H',Ext F ad δ.mu H F' i h.mu H'->SR F' i h σ H'->dB F' i x v->Q v H')(j:fE o n G ok nn xs δ1 K)(q:Ext F ad δ.mu H F1 ml δ1.mu H1)(U:SR F1 ml δ1 σ H1)(N:cY F1 ml xs vs):kq Cs G n vs H1 Q E:=by
 let⟨es,V,j⟩:=j;split at j
 .rename_i r O
  let⟨⟨W,X⟩,j⟩:=j;let⟨S,Y,Z,l⟩:12:=Jh U N O V W;refine⟨_,by rw[↑N,<-qr O,X],F1,S,_,_,_,Z,j,λk m s f v z A B P=>?_,λc p m hx C dx z B hC P pl=>?_⟩
  .let⟨g,e,b⟩:02:=l k m s v z A B P
   cases o with
   |false =>
    cases k with
    |p d=>exact kk _ _ f _ _ _ _ (q.trans g) e b
    |w a=>exact kk _ _ f _ _ _ _ (q.trans g) e b
    |u t fs=>exact kk _ _ f _ _ _ _ (q.trans g) e b
    |n ds =>
     let⟨a,D,rfl,I,J,y,L,M⟩:=b;exact kk _ _ f _ _ _ _ (q.trans (g.adopt  I y)) (e.adopt y J M) (zI2 a D ⟨rfl,bN,L.same (cK y)⟩)
   |true =>
    cases k with
    |p d=>exact f.elim
    |w a=>exact f.elim
    |u t fs=>exact f.elim
    |n ds =>
     let⟨a,D,rfl,I,J,y,L,M⟩:=b;calc kk _ _ f _ _ _ _ (q.trans (g.cE  I e.cD)) (e.cE y J M ⟨D,rfl,L⟩) ⟨a,?_,rfl⟩;let:=e.cD;rw[<-this,YD (tm _),q0O];rfl
  .let⟨os,⟨o1,o2⟩,o⟩:=hx
   let⟨g,e,_⟩:02:=l _ m [] _ z S B P;rw[<-Y,List.drop_length,dV,q39,dV] at g e;exact R.go o o1 o2 (cj.st g (cj.st q T)) e hC pl
 .calc j.elim
end
def iY(o:Bool)(C:O)(m:Z)(n:Nat)(G:cF->GK)(e:cF)(f:Nat)(g:WE)(h:WA):WE:=λi K=>g i λx b=>(∃(a:O)(k:Nat)(d:-(Z×FV)),x=.w a/\b.mu[k]?=ζ (ζ (.ins a C d))/\d.lookup m=η)/\h b λj c=>fE o n G e f (x::j) c K
def JY(o:Bool)(n:Nat)(G:cF->GK)(b:cF)(c:Nat)(d:WA):WE:=λe K=>d e λf a=>fE o n G b c f a K
structure pJ(V:Ev)(Cs:-O)(C:O)(k:Nat)(m:Z)(ps:-Z)(n:Nat)(G:cF->GK):Prop where
 ex:∃f fd,Meth V.K C m f/\bH V.P V.w V.K V.mg V.base (cH V.P V.w) k f fd ps (kq Cs G n)/\Binds V.K fd ps []
structure Ca(V:Ev)(Cs:-O)(k:Nat)(x:Z)(ps:-Z)(n:Nat)(G:cF->GK):Prop where
 ex:∃f fd,bH V.P V.w V.K V.mg V.base (cH V.P V.w) k f fd ps (kq Cs G n)/\V.mg x=ζ (.ref f)/\Z3 V.K (.ref f)=θ/\Binds V.K fd ps []
inductive mK [cj] (f:WE) (σ:L2.St) (H:Hp) (Q:VK):Prop
 |mk (F:Hp) (ad:-O) (δ:aO) (K:DV->aO->Prop) (S:SR F ad δ σ H) (q:f δ K) (kp:cj.kp F ad δ.mu H) (k:∀x δ',K x δ'->∀v F' bL H',Ext F ad δ.mu H F' bL δ'.mu H'->SR F' bL δ' σ H'->dB F' bL x v->Q v H')
section
variable{X:Cx}{C:O}{x m:Z}{ps:-Z}{G:cF->GK}{e o c a b:υ}{es:-υ}{fa:WA}{fo f g:WE}{t:WT}{p pos apos:Δ}{j k n nn:Nat}{ok:cF}{Cs:-O}{E:XK}{H0:Hp}
theorem U7[cj](w:JT X c (dm t))(y:JE X a (mK f))(z:JE X b (mK g)):JE X (.IfExp c a b pos) (mK (nv t f g)) :=
 (sL w y z).weak λE H Q ⟨F,A,B,K,S,q,p,k⟩↦⟨F,A,B,_,S,q,λb d r s e G h u=>by
  cases b with
  |true =>
   exact⟨s,e,d,_,u,r,cj.st h p,λx i j v C l D m n o=>k _ _ j _ _ _ _ (h.trans m) n o⟩
  |false =>
   calc⟨s,e,d,_,u,r,cj.st h p,λx i j v C l D m n o=>k _ _ j _ _ _ _ (h.trans m) n o⟩⟩
theorem ku[cj]{x} r (R:kr ok nn Cs E H0) (D:i_ (cH X.prog X.w) X E) (c:hD X.K C) (F:pJ ⟨X.prog,X.w,X.K,X.mg,X.base⟩ Cs C j m ps n G) (I:aX k X.A) (J:JE X o (tD fo)) (L:JA X (e::es) (b_ fa)) (hj:‹q2L j k=θ›)
  (d:‹b7 X e es›) (g:‹cm X pos es›)
  (N:‹eval (.Call (.Attribute o m apos) (e::es) [] pos) X.env=(do
   let ov <- eval o X.env
   standAt apos.atName
   let(f,b) <- holding [ov] (getMethod ov m x)
   callWith pos f b (backTo pos (starEach (e::es) X.env)) (backToKw pos (keywordEach [] X.env)))›) :
  JE X (.Call (.Attribute o m apos) (e::es) [] pos) (mK (iY r C m n G ok nn fo fa)) :=
 let⟨_,_,M,O,B⟩:=F.ex
 (FD J c M O (I.mono (q0f hj)) B .nil D L d g N).weak fun σ H Q ⟨F,P,T,K,S,q,U,V⟩=>⟨F,P,T,_,S,q,λy h W u Y l H1 Z p s=>by
  let⟨⟨a,i,fs,rfl,hi,t⟩,h2⟩:=W;let⟨dx,ws,e1,e2,e3⟩:22:=rW p hi;rcases e3.look  with⟨_,z⟩|⟨f,w',z1,z2,z3⟩
  .refine (zI3 a dx ws ⟨s,e2,z,Y,l,h,_,p,h2,λxs δ2 h3 vs F2 Bc H2 v S2 V2=>?_⟩)
   rw[dV];exact xv R U V h3 (Z.trans v) S2 (zI2 _ _ ⟨rfl,s.ext v,V2⟩)
  .rw[z1] at t;cases t⟩
theorem U8[cj]{h} r (R:kr ok nn Cs E H0) (l:i_ (cH X.prog X.w) X E) (c:hD X.K C) (F:pJ ⟨X.prog,X.w,X.K,X.mg,X.base⟩ Cs C j m ps n G) (p:aX k X.A) (s:JE X o (tD fo)) (hj:‹q2L j k=θ›)
  (t:‹eval (.Call (.Attribute o m apos) [] [] pos) X.env=(do
   let ov <- eval o X.env
   standAt apos.atName
   let(f,b) <- holding [ov] (getMethod ov m h)
   callWith pos f b (backTo pos (starEach [] X.env)) (backToKw pos (keywordEach [] X.env)))›) :
  JE X (.Call (.Attribute o m apos) [] [] pos) (mK (iY r C m n G ok nn fo af)) :=
 let⟨_,_,M,v,B⟩:=F.ex
 (FE s c M v (p.mono (q0f hj)) B .nil l t).weak fun σ H Q ⟨F,x,D,K,S,q,I,J⟩↦⟨F,x,D,_,S,q,λy L N u F1 O H1 P d e=>by
  let⟨⟨a,i,fs,rfl,T,g⟩,h2⟩:=N;let⟨U,V,e1,W,Y⟩:22:=rW d T;rcases Y.look  with⟨_,z⟩|⟨f,w',Z,z2,z3⟩
  .exact (zI3 a U V ⟨e,W,z,xv (xs:=[.w a])  R I J (h2) P d (zI2 _ _ ⟨rfl,e,rfl⟩)⟩)
  .rw[Z] at g;cases g⟩
theorem Cb[cj] r (R:kr ok nn Cs E H0) (c:i_ (cH X.prog X.w) X E) (F:Ca ⟨X.prog,X.w,X.K,X.mg,X.base⟩ Cs j x ps n G) (d:aX k X.A) (f:JA X (e::es) (b_ fa)) (hj:‹q2L j k=θ›) (g:‹Gl X x›) (a: ~~~(bF x)) (he:‹b7 X e es›) (b:‹cm X pos es›) :
  JE X (.Call (.Name x p) (e::es) [] pos) (mK (JY r n G ok nn fa)) :=
 let⟨_,_,h,i,l,B⟩:=F.ex
 (oF h (d.mono (q0f hj)) g i l B .nil c f a he b).weak λI H Q ⟨F,m,o,K,S,q,s,t⟩↦⟨F,m,o,_,S,q,λJ u v L M y N z C D=>by
   rw[dV];calc xv R s t v z C D⟩
def JZ(d:cF)(b:Nat)(mu:-(Option OV)):kS:=λc p=>∃a:-OV,(↑a=b/\mu.take b=a.map ζ)/\d c p a
def Cc(n:Nat)(G:kS->GD)(c:cF)(d:Nat)(e:WA):WE:=λb K=>e b λf a=>au n (G (JZ c d a.mu)) (λb K=>K f b) a K
theorem Cd[cj]{G}(R:kr ok nn Cs E H0)(h:i_ (cH X.prog X.w) X E)(Y:Fy ⟨X.prog,X.w,X.K,X.mg,X.base⟩ Cs j x ps n G)(i:aX k X.A)(l:JA X (e::es) (b_ fa))(hj:‹q2L j k=θ›)(m:‹Gl X x›)(a: ~~~(bF x))(he:‹b7 X e es›)(b:‹cm X pos es›):
  JE X (.Call (.Name x p) (e::es) [] pos) (mK (Cc n G ok nn fa)) :=
 let⟨_,_,r,s,t,B⟩:=Y.ex
 (oF r (i.mono (q0f hj)) m s t B .nil h l a he b).weak λU H Q ⟨F,u,v,K,S,q,y,D⟩↦⟨F,u,v,_,S,q,λV d I W Z J H1 g f L=>⟨JZ ok nn d.mu,Hc D I g f L,λc p o C dx H' M z N=>by
   let⟨O,⟨P,T⟩,o⟩:=o
   calc R.go o P T (cj.st (Ext.uI f z.keep z.tab) (cj.st g y)) (f.uI z.keep z.tab) M N⟩⟩
structure Ce(V:Ev)(Cs:-O)(C:O)(k:Nat)(x:Z)(ps:-Z)(n:Nat)(G:cF->GK):Prop where
 ex:∃f fd,V.mg x=ζ (.ref C)/\Mk V.K C f/\bH V.P V.w V.K V.mg V.base (cH V.P V.w) k f fd ps (kq Cs G n)/\Binds V.K fd ps []
def J0(C:O)(n:Nat)(G:cF->GK)(d:cF)(e:Nat)(f:WA):WE:=λg K=>f g λh b=>∀a,fE ι n G d e (.w a::h) ⟨b.sl,b.mu++[ζ (.ins a C [])]⟩ λx c=>x=.p .non/\K (.w a) c
theorem U9[cj]{F H k g:Hp}{l e:-O}{m b:aO}{r:L2.St}{K:DV->aO->Prop}{Q:VK}{xs:-DV}{vs:-V}(R:kr ok nn Cs E H0)(B:cj.kp F l m.mu H)(kk:∀x c,K x c->∀v F' d H',Ext F l m.mu H F' d c.mu H'->SR F' d c r H'->dB F' d x v->Q v H')
  (D:∀a,fE ι n G ok nn (.w a::xs) ⟨b.sl,b.mu++[ζ (.ins a C [])]⟩ λx q=>x=.p .non/\K (.w a) q) (I:Ext F l m.mu H k e b.mu g) (s:SR k e b r g) (J:cY k e xs vs) {x f:O} (nx:g x=η) (i:g f=η) (L:f≠x) :
  kq Cs G n (.ref x::vs) (upd (upd g f (.own x)) x (.ins C f [])) (λv H2=>v=.non/\Q (.ref x) H2) E:=by
 let t:=s.al (cK (o:=.own x) i);let u:=Ext.al s (cK (o:=.own x) i);let j:upd g f (.own x) x=η:=by rw[aQ λz=>L z.symm];exact nx
 let A:=Ext.own (o:=.ins C f []) (ov:=.ins x C []) t j;calc xv  R B (λy c h v M d N X T V=>?_) (D x) ((I.trans u).trans A) (t.own j ⟨Y,f,[],Y,Y⟩) (zI2 _ _ ⟨Y,Y,(J.ext u).ext A⟩);let⟨rfl,h⟩:=h;calc⟨V,kk _ _ h _ _ _ _ X T Y⟩
theorem Cf[cj](R:kr ok nn Cs E H0)(f:i_ (cH X.prog X.w) X E)(F:Ce ⟨X.prog,X.w,X.K,X.mg,X.base⟩ Cs C j x ps n G)(g:aX k X.A)(h:JA X (e::es) (b_ fa))(hj:‹q2L (j+1) k=θ›)(i:‹Gl X x›)(b: ~~~(bF x))(he:‹b7 X e es›)(c:‹cm X pos es›):
  JE X (.Call (.Name x p) (e::es) [] pos) (mK (J0 C n G ok nn fa)) :=
 let⟨_,_,a,M,l,B⟩:=F.ex
 (FF M l (g.mono (q0f hj)) i a B .nil f h b he c).weak λL H Q ⟨F,m,o,K,S,q,r,s⟩↦⟨F,m,o,_,S,q,λN t u O P v T y z D x U I d J=>by
   rw[dV];calc U9 R r s u y z D I d J⟩
theorem sg[cj](h:JE X e (mK f))(a:‹swapsWith e η pos.line X.env=pure ι›):JS X (.Expr e pos) (dc (f7 f)) :=
 (Fd h a).weak λD n b ⟨F,c,d,o,S,q,k⟩↦⟨F,c,d,_,S,q,k.kp,λx g i v p j b l m r=>k.nx _ i _ _ _ _ l m⟩
theorem Cg[cj](h:JE X e (mK f)):JS X (.Return (ζ e) pos) (dc (aB f)) :=
 (pR h).weak λD n a ⟨F,b,c,o,S,q,k⟩↦⟨F,b,c,_,S,q,k.kp,λx d g v p i a j l m=>k.rt _ _ g _ _ _ _ _ j l m⟩
end
theorem J2{d b:-O}{n}(hn:↑d=n)(h:∀(k:Nat) a,d[k]?=ζ a->b[k]?=ζ a):b.take n=d:=by
 subst hn;apply q1z;ext i
 by_cases c:i<↑d
 .rw[Z2 c,h i _ (p_ c),p_ c]
 .rw[q0n (by rw[ZH];symm),q0n ⋯]
abbrev xw(V:Ev)(Cs:-O)(N ps:-Z)(q:Z)(st:χ)(k:Nat)(G:cF->GK):Prop:=∀{a:ν}{A:Β}{b:-Ε}{s:ο}{H:Hp}{E:XK}{f:O}{g:cF}{d:Nat}[cj],kr g d Cs E H->aX k (A.deeper (envOfC q (bX st) ⇑s f a))->N.Nodup->(A.deeper (envOfC q (bX st) ⇑s f a)).units+64<cLine →
   ∃B:WS,cV (bt (cH V.P V.w) V.P V.w V.K V.mg V.base N q (bX st) f a A b s H E) (dA st) (dc B)/\∀e c h,↑e=↑ps->↑c=d->G g e c h->B (ai d h) ⟨e.map ζ++Gg (↑N-↑ps) η,c.map ζ⟩
theorem qL{P:ψ}{w:ω}{K:vL}{T:π->Option ν}{d:Α}{x q:π}{st:χ}{f:ξ}{U:FuncData}{N ps:-π}{k:Nat}{G:cF->GK}{Cs:-ξ}(F:e7 K x q st f U)(h:xw ⟨P,w,K,T,d⟩ Cs N ps q st k G)(X:kR N ps (bX st)=θ):
  bH P w K T d (cH P w) (k+1) f U ps (kq Cs G ↑ps) :=
 F.xo (dy X) (λvs H Q E h=>let⟨_,n,_,_,_,_,_,_,_,_,_⟩:=h;n) λeZ A t s H vs Q E Y hh=>by
  let⟨ok,n,Z,ad,u,b,K',l,g,kk,hx⟩:=hh;let al:=by let:=l.cD;rwa [qa] at this
  letI:=ot Z ad (b.map ζ) H
  let R:kr ok ↑b Cs E H:=⟨λ{c p D C dx F I δ σ r} o o1 o2 i S hC pl=>by
   let i:=i;let E2:=i.cut (m:=b.length) ⋯;let S2:=S.cut ↑b;rw[o2,(J2 al i.pre)] at E2 S2
   calc hx c p D o C dx F r hC ⟨by rw[dV];calc E2,by rw[dV];calc S2,o1,rfl⟩ pl,λ{F I mu r a} i _ e=>by
   let i:=i
   cases q:H a with
   |none=>rfl
   |some o =>
    let⟨o',z⟩:=i.iE a o q
    rw[e] at z;cases z⟩
  let⟨B,jb,hb⟩:=h R Y (dy X).nd Y.units
  let hy:↑u=↑ps:=by
   let:=l.len;rw[qa] at this;rw[<-n,this,qa]
  refine⟨_,jb,Z,ad,⟨u.map ζ++Gg (↑N-↑ps) η,b.map ζ⟩,ai ↑b K',by rw[<-n];calc l.start,hb u b K' hy rfl g,⟨λj h F' J L r M O=>?_,λj h=>h.elim,λj h=>h.elim,λy j h v F' J L r M O V=>?_,Ext.refl⟩⟩
  .exact xa  l M O (x:=.p .non)  rfl h kk
  .calc xa  l M O V h kk
section
variable{V:Ev}{Cs:-O}{C:O}{x m q:Z}{st:χ}{N ps:-Z}{k:Nat}{G:cF->GK}
theorem lV(D:Dm V C m q st)(b:jA m q st ps)(h:xw V Cs N ps q st k G)(c:autoParam (kR N ps (bX st)=θ) qz3._auto_1):pJ V Cs C (k+1) m ps ↑ps G :=
 let⟨f,d,a,F⟩:=D
 ⟨f,d,a,qL F h c,F.binds b⟩
theorem Ci(D:Dc V C x q st)(b:jA "__init__" q st ps)(h:xw V Cs N ps q st k G)(c:autoParam (kR N ps (bX st)=θ) qz3._auto_1):Ce V Cs C (k+1) x ps ↑ps G :=
 let⟨f,d,a,F⟩:=D
 ⟨f,d,a.1,a.2,qL F h c,F.binds b⟩
theorem Cj(D:Dx V x st)(b:gF x st ps)(h:xw V Cs N ps x st k G)(c:autoParam (kR N ps (bX st)=θ) qz3._auto_1):Ca V Cs (k+1) x ps ↑ps G :=
 let⟨f,d,a,F⟩:=D
 ⟨f,d,qL F h c,a,F.kp,F.binds b⟩
end
end
end LJ
namespace LJ
open PySem L2 PySem.Spec PySem.W
variable[zt:aM]
def u9(f g:Nat)(B:cF->Nat->WS)(h:WE)(tup:Bool):WS:=λK d=>∃a:-OV,(d.mu=a.map ζ/\f<↑d.sl/\g<↑d.sl)/\B (λc p e=>K.rt (.p (qJ tup c p)) ⟨[],e.map ζ⟩) ↑a ⟨λb=>b.sl[f]?=ζ (ζ (.p .non))/\h b K.rt,λ_ _=>False,λ_=>False,λ_=>False⟩ d
theorem J7{F H F2 H' b d}{a:-OV}{mu K D tup c n z}(k:rC F d mu H K D)(i:Ext F d mu H F2 d (a.map ζ) H')(e:SR F2 d ⟨[],a.map ζ⟩ [] H')(f:aI H' b)(hz:H' z=η)(j:b z=ζ (JQ tup c n))(h:K.rt (.p (qJ tup c n)) ⟨[],a.map ζ⟩):D.rt (.ref z) b:=by
 calc k.rt _ _ h (.ref z) _ _ _ _ (i.trans (Ext.al e f)) (e.al f) ?_;let g:Nw F2 H' b z=ζ (JQ tup c n):=by unfold Nw;rw[hz];exact j
 cases tup
 .exact⟨z,oq c n,Y,g,JR c n⟩
 .calc⟨z,oq c n,Y,g,JR c n⟩
theorem U_{F H F2 H' m}{f:-OV}{mu j K D I Cs tup c v n a C b}(k:rC F m mu H K D)(w:Ext F m mu H F2 m (f.map ζ) H')(x:SR F2 m ⟨[],f.map ζ⟩ [] H')(h:K.rt (.p (qJ tup c n)) ⟨[],f.map ζ⟩)(y:c<13)(z:Cs[c]?=ζ C)(A:u4 c n b H')(J:H' a=η)(B:j[v]?=ζ (ζ (.ref a))):
  JU I Cs v tup j (upd H' a (fD a C b)) D.rt:=by
 let i:aI H' (upd H' a (fD a C b)):=cK J
 let E:ExcAt (upd H' a (fD a C b)) a C b:=by
  calc⟨bN,λd e=>?_⟩;rcases A with⟨_,d',g,s⟩|⟨_,g⟩
  .rw[e] at g;cases g;exact⟨_,i _ _ s⟩
  .rw[e] at g;cases g
 let P:c<4->∃d,b=ζ d/\upd H' a (fD a C b) d=ζ (.xd [("place",.int n)]):=λO=>by
  rcases A with⟨_,L,g,s⟩|⟨Q,_⟩
  .exact⟨L,g,i _ _ s⟩
  .omega
 let M:∀{l},upd H' a (fD a C b) l=η->H' l=η:=λ{l} e=>by
  cases q:H' l with
  |none=>rfl
  |some o=>rw[i l o q] at e;cases e
 cases tup
 .exact⟨.ref a,B,c,n,a,C,b,Y,y,z,E,P,λl N r G e=>J7 (tup:=false) k w x (i.trans r) (M G) e h⟩
 .refine⟨.ref a,B,c,n,a,C,b,Y,y,z,E,P,λl N r G e=>(zI2 l _ ⟨Y,.inl ⟨bG.of e,λt u=>J7  k w x ((i.trans r).trans (cK u)) ?_ bN h⟩⟩)⟩
  cases q:H' t with
  |none=>rfl
  |some o=>rw[(i.trans r) t o q] at u;cases u
section
variable{X:Cx}{body fJ:-χ}{b0 st:χ}{x n:Z}{p1 p2 pos:Δ}{L:O}{ic ie:Nat}{B:cF->Nat->WS}{f1:WE}{tup:Bool}{Cs:-O}
theorem J8(O:X.stack=X.env::X.outer)(P:X.env.frame=ζ X.env.locals)(nd:X.N.Nodup)(hi:X.N[ie]?=ζ n)(hk:X.env.scope.names.lookup n=ζ .local)(hg:Gl X x)(hm:X.mg x=ζ (.ref L))(hL:∀c C,Cs[c]?=ζ C->c<13/\q2b X.K (.ref C) (.ref L)=ζ θ)(Q:ic≠ie)
  (hb:∀{pn xe E H0 i j}[cj],i_ (cH X.prog X.w) {X with pn:=pn,xe:=xe} E->kr i j Cs E H0->cV {X with pn:=pn,xe:=xe} body (dc (B i j))) (hs:∀A xe,cV {X with A:=A,calm:=false,xe:=xe} (b0::fJ) (eg (gy ie) (jF ic)))
  (hr:JS X st (sN (Fb (tB (sI (gy ic))) (tD f1) (JU X.K Cs ic tup)))) (T: ~~~(bF x)) :
  cV X [.Try body [.ExceptHandler (ζ (.Name x p1)) (ζ n) (b0::fJ) p2] [] [] pos,st] (dc (u9 ic ie B f1 tup)):=by
 refine(qZ (UC (tb:=λE D l H=>∃(U:cj)(i:cF)(j:Nat),@kr _ U i j Cs E H/\@dc _ U (B i j) D l H) O P nd hi hk hg hm T (λpn xe E hp=>⟨λr s l H D I h=>?_⟩) λA xe=>(hs A xe)) (mU hr)).weak λD l H ⟨F,y,G,K,S,⟨f,⟨Y,J_,hle⟩,q⟩,k⟩=>?_
 .let⟨U,i,j,R,h⟩:31:=h
  exact(hb hp R) r s l H D I h
 .let al:=by let:=S.cD;rw[Y] at this;rwa [qa] at this
  let Z:=k.rt;refine(zI3 (ot F y G.mu H) ((λc p t=>K.rt (.p (qJ tup c p)) ⟨[],t.map ζ⟩)) ↑f ⟨?_,?_⟩)
  .letI:=ot F y G.mu H
   refine⟨λ{c p t C dx F2 u δ2 σ2 H'} o o1 o2 d S2 hC pl=>?_,λ{F2 u mu H' a} d _ e=>?_⟩
   .let d:=d
    let J:=d.cut (m:=f.length) ⋯;let S3:=S2.cut ↑f;rw[o2,(J2 al d.pre)] at J S3;let⟨Va,hx⟩:=hL c C hC;calc⟨C,rfl,hx,λa ha=>?_⟩;let hl:=S.len
    let M:((((Gg ↑l (η:Option V)).set ie (ζ (.ref a))).set ic (ζ (.ref a))).set ie η)[ic]?=ζ (ζ (.ref a)):=by
     rw[q0i (λz=>Q z.symm),q0a (by rw[q0o,q0_];symm)]
    exact⟨.ref a,(q0a (by rw[q0_];symm)),.ref a,M,ι,rfl,U_ k J S3 o Va hC pl ha M⟩
   .let d:=d
    cases q:H a with
    |none=>rfl
    |some o =>
     let⟨o',z⟩:=d.iE a o q;rw[e] at z;cases z
  .letI:=ot F y G.mu H
   calc⟨F,y,G,⟨λb=>b.sl[ic]?=ζ (ζ (.p .non))/\f1 b K.rt,λ_ _=>False,λ_=>False,λ_=>False⟩,S,q,⟨λb ⟨h1,h2⟩ F' bL σ' H' E' S'=>?_,λg h=>h.elim,λg h=>h.elim,λx g h=>h.elim,Ext.refl⟩⟩;let⟨v,M,e2⟩:=S'.sl ic _ h1;subst e2;calc⟨.non,M,θ,rfl,⟨F',bL,b,_,S',h2,λx g h v F2 u H2 J S2 V2=>Z _ _ h _ _ _ _ _ (E'.trans J) S2 V2⟩⟩
end
section
variable{X:Cx}{body fJ:-χ}{b0 st:χ}{x n w:Z}{p1 p2 pos:Δ}{L:O}{ic ie:Nat}{B:kS->WS}{Cs:-O}
end
end LJ
namespace LJ
open PySem L2
theorem Ka{m}{ws:-(Int×Int×Int)}(h:fG m ws):d5 (aN m ws)=θ:=by
 show(dE (.int m) 1 12&&o8 m (.tup (ws.map aV)))=θ
 let f:dE (.int m) 1 12=θ:=by
  show(μ (1<=m)&&μ (m<=12))=θ;rw[OR h.m1,OR h.rz];rfl
 rw[f,q64];show(μ (↑(ws.map aV)<=30)&&((ws.map aV).all (cz m)&&μ (((ws.map aV).map pairOf).Nodup)))=θ
 let g:(ws.map aV).all (cz m)=θ:=by
  calc q0c.mpr λd i=>?_;let⟨y,j,rfl⟩:=ZI.mp i;let⟨a,b,c,d,e⟩:04:=h.ends y j;show(((μ (0<=y.1)&&μ (y.1<=m-1))&&(μ (y.1+1<=y.2.1)&&μ (y.2.1<=m-1)))&&(μ (0<=y.2.2)&&μ (y.2.2<=1000000000)))=θ;rw[OR a,OR ⋯,OR ⋯,OR ⋯,OR d,OR e];rfl
 let k:(ws.map aV).map pairOf=ws.map λy=>(y.1,y.2.1):=by rw[Z7];rfl
 rw[g,k,OR h.unlike,qa,OR h.gY];rfl
variable[zt:aM]
meta def fS(s:bQ)(d:D):Bool:=dE d 0 ((↑s.1:Int)-1)
inductive u_ (C:O) (ok:cF) (ys:-DV) (aW:-OV) (K:RK->-OV->-OV->Prop):Prop
 |mk (a b:O) (m:Int) (s:bQ) (d:D) (q:ys=[.w a,.p d]) (q:aW=[kO C a b m s]) (q:(fS s d=ι->ok 0 0 [kO C a b m s])) (q:(fS s d=θ->K (.p .non) [kO C a b m s] []))
def Kb(c_Keeper:O)(a:cF)(b:Nat):WS:=(aU (cb (dT (au 3 kN (ag (aa 1) (ag (dC (.int 0)) (ag (d2 (dN (ag (d2 (ah c_Keeper "town" (aa 0)) (dC (.int 1)) aS) af) bT) (dC (.int 1)) (oI λi j=>.int (i-j))) af)))))) (JX a b 0 (ag (dC (.int 0)) af)) bY)
theorem Vb C g e:∀ys c f,↑ys=2->↑c=e->u_ C g ys c f->Kb C g e (ai e f) ⟨ys.map ζ++Gg 0 η,c.map ζ⟩:=by
 ext i c f-h ⟨a,b,m,s,d,rfl,rfl,o,k⟩;subst h;calc(zI4 a 0 _ (.p (aN m s.1)) ⟨⟨Y,Y,Y⟩,?_⟩);simp![0,aN,cG];refine⟨d,0,↑s.1-1,Y,Y,?_⟩
 cases q:dE d 0 (↑s.1-1) with
 |false =>
  exact(zI2 0 ([kO C a b m s]) ⟨⟨Y,Y,Y⟩,o q⟩)
 |true =>
  calc jz (k q)
inductive Cm (C:O) (ok:cF) (ys:-DV) (aW:-OV) (K:RK->-OV->-OV->Prop):Prop
 |mk (a b:O) (m:Int) (s:bQ) (ps:-bQ) (d e:D) (q:ys=[.w a,.p d,.p e]) (q:aW=[kO C a b m s,pO b m ps]) (q:(fS s d=ι->ok 0 0 [kO C a b m s,pO b m ps])) (q:(fS s d=θ->dE e 0 1000000000=ι/\ok 5 0 [kO C a b m s,pO b m ps]))
def Kc(c_Keeper:O)(a:cF)(b:Nat):WS:=(ar (f7 (iY ι c_Keeper "need_way" 2 (u_ c_Keeper) a b (aa 0) (ag (aa 1) af))) (ar (aU (cb (dT (au 3 kN (ag (aa 2) (ag (dC (.int 0)) (ag (dC (.int 1000000000)) af)))))) (u7 a b 5) bY) (aB (aw ι c_Keeper "changed" 3 (pE c_Keeper) (aa 0) (ag (au 3 xg (ag (ah c_Keeper "town" (aa 0)) (ag (aa 1) (ag (aa 2) af)))) (ag (ah c_Keeper "shut" (aa 0)) af))))))
theorem Vc C h f:∀ys c g,↑ys=3->↑c=f->Cm C h ys c g->Kc C h f (ai f g) ⟨ys.map ζ++Gg 0 η,c.map ζ⟩:=by
 ext r c g-j ⟨a,b,m,s,i,d,e,rfl,rfl,o,k⟩;subst j;calc aJ λN l=>⟨(zI3 a 0 _ ⟨Y,Y,Y⟩),[(0,kO C a b m s)],⟨Y,trivial⟩,?_⟩;rfl';refine⟨a,b,m,s,d,Y,Y,λq=>?_,λq=>?_⟩
 .exact⟨[kO C a b m s,pO b m i],⟨Y,Y⟩,o q⟩
 .subst l
  let⟨n,p⟩:=k q;rfl';calc⟨e,0,1000000000,Y,Y,?_⟩;rw[n];calc⟨[kO C a b m s,pO b m i],⟨Y,Y⟩,p⟩
theorem qM{s d}(h:fS s d=θ):∃n:Int,d=.int n/\0<=n/\n<(↑s.1:Int):=by
 unfold fS dE at h;cases d<;>simp at h
 calc⟨_,Y,⋯,⋯⟩
inductive Co (C:O) (ok:cF) (ys:-DV) (aW:-OV) (K:RK->-OV->-OV->Prop):Prop
 |mk (a b:O) (m:Int) (s:bQ) (ps:-bQ) (d:D) (q:↑s.2<=30) (q:ys=[.w a,.p d]) (q:aW=[kO C a b m s,pO b m ps]) (q:(fS s d=ι->ok 0 0 [kO C a b m s,pO b m ps])) (q:(∀n,d=.int n->0<=n->n<(↑s.1:Int)->n∈s.2/\ok 7 0 [kO C a b m s,pO b m ps]))
def Kd(c_Keeper:O)(a:cF)(b:Nat):WS:=(ar (f7 (iY ι c_Keeper "need_way" 2 (u_ c_Keeper) a b (aa 0) (ag (aa 1) af))) (ar (aU (dT (d2 (aa 1) (ah c_Keeper "shut" (aa 0)) (jc ι))) (u7 a b 7) bY) (aB (aw ι c_Keeper "changed" 3 (pE c_Keeper) (aa 0) (ag (ah c_Keeper "town" (aa 0)) (ag (dN (ag (d2 (ah c_Keeper "shut" (aa 0)) (bw (ag (aa 1) af)) cx) af) qx) af))))))
theorem Vd C g e:∀ys c f,↑ys=2->↑c=e->Co C g ys c f->Kd C g e (ai e f) ⟨ys.map ζ++Gg 0 η,c.map ζ⟩:=by
 ext x c f-j ⟨a,b,m,s,h,d,l,rfl,rfl,o,k⟩;subst j;calc aJ λN i=>⟨(zI3 a 0 _ ⟨Y,Y,Y⟩),[(0,kO C a b m s)],⟨Y,trivial⟩,?_⟩;rfl';refine⟨a,b,m,s,d,Y,Y,λq=>?_,λq=>?_⟩
 .exact⟨[kO C a b m s,pO b m h],⟨Y,Y⟩,o q⟩
 .rfl'
  subst i;let⟨n,rfl,r,t⟩:12:=qM q;let⟨u,w⟩:=k n Y r t;calc aJ λN i=>(zI4 a 0 _ (.p (bV s.2)) ⟨⟨Y,Y,Y⟩,?_⟩);simp![0,bV];rw[n_,OR u];calc⟨mH s.2,[kO C a b m s,pO b m h],⟨Y,Y⟩,w⟩
inductive Cp (C:O) (ok:cF) (ys:-DV) (aW:-OV) (K:RK->-OV->-OV->Prop):Prop
 |mk (a b:O) (m:Int) (s:bQ) (ps:-bQ) (d:D) (q:↑s.2<=30) (q:ys=[.w a,.p d]) (q:aW=[kO C a b m s,pO b m ps]) (q:(fS s d=ι->ok 0 0 [kO C a b m s,pO b m ps])) (q:(∀n,d=.int n->0<=n->n<(↑s.1:Int)->n∉s.2/\ok 8 0 [kO C a b m s,pO b m ps]))
def Ke(c_Keeper:O)(a:cF)(b:Nat):WS:=(ar (f7 (iY ι c_Keeper "need_way" 2 (u_ c_Keeper) a b (aa 0) (ag (aa 1) af))) (ar (aU (dT (d2 (aa 1) (ah c_Keeper "shut" (aa 0)) (jc θ))) (u7 a b 8) bY) (aB (aw ι c_Keeper "changed" 3 (pE c_Keeper) (aa 0) (ag (ah c_Keeper "town" (aa 0)) (ag (gC (cN (ah c_Keeper "shut" (aa 0))) [η,ζ 1] (bZ 0) (dT (d2 (aa 0) (aa 1) iV)) (aa 0)) af))))))
theorem Ve C g e:∀ys c f,↑ys=2->↑c=e->Cp C g ys c f->Ke C g e (ai e f) ⟨ys.map ζ++Gg 0 η,c.map ζ⟩:=by
 ext x c f-j ⟨a,b,m,s,h,d,l,rfl,rfl,o,k⟩;subst j;calc aJ λN i=>⟨(zI3 a 0 _ ⟨Y,Y,Y⟩),[(0,kO C a b m s)],⟨Y,trivial⟩,?_⟩;rfl';refine⟨a,b,m,s,d,Y,Y,λq=>?_,λq=>?_⟩
 .exact⟨[kO C a b m s,pO b m h],⟨Y,Y⟩,o q⟩
 .rfl'
  subst i;let⟨n,rfl,r,t⟩:12:=qM q;let⟨u,w⟩:=k n Y r t;calc aJ λN i=>(zI4 a 0 _ (.p (bV s.2)) ⟨⟨Y,Y,Y⟩,?_⟩);simp![0,bV];rw[n_,YC u];calc⟨mH s.2,[kO C a b m s,pO b m h],⟨Y,Y⟩,w⟩
inductive Cq (C:O) (ok:cF) (ys:-DV) (aW:-OV) (K:RK->-OV->-OV->Prop):Prop
 |mk (a b:O) (m:Int) (s:bQ) (ps:-bQ) (q:bB m s) (q:↑ps<900) (q:ys=[.w a]) (q:aW=[kO C a b m s,pO b m ps]) (q:(ps=[]->ok 9 0 [kO C a b m s,pO b m ps])) (q:(∀jg s',ps=jg++[s']->bB m s'/\∀ns fI,aG (bO s) ns->aG (bO s') fI->K (.p (jV (bU m s ns) (bU m s' fI))) [kO C a b m s',pO b m jg] []))
def Kf(c_Keeper:O)(a:cF)(b:Nat):WS:=(ar (aU (dT (d2 (dN (ag (aj (ah c_Keeper "past" (aa 0))) af) bT) (dC (.int 0)) oEq)) (u7 a b 9) bY) (ar (aK 1 (nJ (aj (ah c_Keeper "past" (aa 0))))) (aB (aw ι c_Keeper "set_to" 3 (uU c_Keeper) (aa 0) (ag (d2 (aa 1) (dC (.int 0)) aS) (ag (d2 (aa 1) (dC (.int 1)) aS) af))))))
theorem Vf(C:ξ)(l:cF)(e:Nat):∀ys c f,↑ys=1->↑c=e->Cq C l ys c f->Kf C l e (ai e f) ⟨ys.map ζ++Gg 1 η,c.map ζ⟩:=by
 ext x c f-p ⟨a,b,m,s,q,O,y,rfl,rfl,o,k⟩;subst p;calc aJ λN g=>?_;rfl';calc(zI4 a 0 _ (.w b) ⟨⟨Y,Y,Y⟩,b,1,_,⟨Y,Y,Y⟩,?_⟩);rcases q4n q with rfl|⟨d,h,n⟩
 .exact⟨[kO C a b m s,pO b m []],⟨Y,Y⟩,o Y⟩
 .rw[q4o] at n
  subst n;let⟨r,k⟩:=k d h Y;simp![0,pO,ZM];rw[pB,YC ⋯,Zx (by decide)];subst g;calc aJ λN g=>(zI4 a 0 _ (.w b) ⟨⟨Y,Y,Y⟩,b,1,_,⟨Y,Y,Y⟩,?_⟩);rfl';rw[show ↑d+1-1=↑(d.map (dj m)) by rw[qa];symm,q15];simp![0,q4E];subst g;calc⟨(zI3 a 0 _ ⟨Y,Y,Y⟩),[(0,kO C a b m s)],⟨Y,trivial⟩,?_⟩;rfl';calc⟨a,b,m,s,h,O,r,Y,Y,λt i u j=>(zI3 ([kO C a b m h,pO b m d]) [] [] ⟨Y,Y,k t i u j⟩)⟩
inductive lW (s:bQ) (ps:-bQ):D->Nat->Int->Prop
 |pw (d e:D) (h:fS s d=ι):lW s ps (.tup [.str "price",d,e]) 0 0
 |pp (d e:D) (h:fS s d=θ) (h2:dE e 0 1000000000=ι):lW s ps (.tup [.str "price",d,e]) 5 0
 |cw (d:D) (h:fS s d=ι):lW s ps (.tup [.str "close",d]) 0 0
 |cc (n:Int) (hn:0<=n/\n<(↑s.1:Int)) (h:n∈s.2):lW s ps (.tup [.str "close",.int n]) 7 0
 |fw (d:D) (h:fS s d=ι):lW s ps (.tup [.str "free",d]) 0 0
 |ff (n:Int) (hn:0<=n/\n<(↑s.1:Int)) (h:n∉s.2):lW s ps (.tup [.str "free",.int n]) 8 0
 |bk (h:ps=[]):lW s ps (.tup [.str "back"]) 9 0
theorem xx{s:bQ}{n:Int}(hn:0<=n/\n<(↑s.1:Int)):fS s (.int n)=θ:=by
 calc AN hn.1 ⋯
inductive Cr (C:O) (ok:cF) (ys:-DV) (aW:-OV) (K:RK->-OV->-OV->Prop):Prop
 |mk (a b:O) (m:Int) (s:bQ) (ps:-bQ) (ch:D) (q:bB m s) (q:↑ps<900) (q:ys=[.w a,.p ch]) (q:aW=[kO C a b m s,pO b m ps]) (q:((∃c p,lW s ps ch c p/\ok c p [kO C a b m s,pO b m ps])\/(ch=.tup [.str "back"]/\∃jg s',ps=jg++[s']/\bB m s'/\∀ns fI,aG (bO s) ns->aG (bO s') fI->K (.p (jV (bU m s ns) (bU m s' fI))) [kO C a b m s',pO b m jg] [])))
def Cu(c_Keeper:O)(a:cF)(b:Nat):WS:=(ar (aU (dT (d2 (d2 (aa 1) (dC (.int 0)) aS) (dC (.str "price")) oEq)) (aB (iY ι c_Keeper "price" 3 (Cm c_Keeper) a b (aa 0) (ag (d2 (aa 1) (dC (.int 1)) aS) (ag (d2 (aa 1) (dC (.int 2)) aS) af)))) bY) (ar (aU (dT (d2 (d2 (aa 1) (dC (.int 0)) aS) (dC (.str "back")) oEq)) (aB (iY ι c_Keeper "back" 1 (Cq c_Keeper) a b (aa 0) af)) bY) (aB (nv (dT (d2 (d2 (aa 1) (dC (.int 0)) aS) (dC (.str "close")) oEq)) (iY ι c_Keeper "close" 2 (Co c_Keeper) a b (aa 0) (ag (d2 (aa 1) (dC (.int 1)) aS) af)) (iY ι c_Keeper "free" 2 (Cp c_Keeper) a b (aa 0) (ag (d2 (aa 1) (dC (.int 1)) aS) af))))))
theorem Vg(C:ξ)(E:cF)(x:Nat):∀ys i y,↑ys=2->↑i=x->Cr C E ys i y->Cu C E x (ai x y) ⟨ys.map ζ++Gg 0 η,i.map ζ⟩:=by
 ext S i y-r ⟨a,b,m,s,g,T,O,F,rfl,rfl,h⟩;subst r;let j:=O.len;let G:aE (.str "price") (.str "price")=θ:=e8 _;let H:aE (.str "back") (.str "price")=ι:=Y;let u:aE (.str "back") (.str "back")=θ:=e8 _;let w:aE (.str "free") (.str "price")=ι:=Y;let U:aE (.str "free") (.str "back")=ι:=Y;let I:aE (.str "free") (.str "close")=ι:=Y;let J:aE (.str "close") (.str "price")=ι:=Y;let V:aE (.str "close") (.str "back")=ι:=Y;let K:aE (.str "close") (.str "close")=θ:=e8 _;unfold Cu;calc aJ λN f=>?_;rcases h with⟨c,p,R,o⟩|⟨rfl,l,s',rfl,L,k⟩
 .cases R with
  |pw d e h =>
   simp![0,cq,G,cG,at2,iY,fE];calc⟨⟨a,0,_,Y,Y,Y⟩,[(0,kO C a b m s),(1,pO b m g)],⟨Y,Y,trivial⟩,?_⟩;rfl';exact⟨a,b,m,s,g,d,e,Y,Y,λ_=>⟨_,⟨Y,Y⟩,o⟩,λq=>by rw[h] at q;cases q⟩
  |pp d e h M =>
   simp![0,cq,G,cG,at2,iY,fE];calc⟨⟨a,0,_,Y,Y,Y⟩,[(0,kO C a b m s),(1,pO b m g)],⟨Y,Y,trivial⟩,?_⟩;rfl';exact⟨a,b,m,s,g,d,e,Y,Y,λq=>(by rw[h] at q;cases q),λ_=>⟨M,_,⟨Y,Y⟩,o⟩⟩
  |bk h =>
   simp![0,cq,H];subst f;calc aJ λN f=>?_;simp![0,cq,u,iY,fE];calc⟨⟨a,0,_,Y,Y,Y⟩,[(0,kO C a b m s),(1,pO b m g)],⟨Y,Y,trivial⟩,?_⟩;rfl';exact⟨a,b,m,s,g,O,F,Y,Y,λ_=>⟨_,⟨Y,Y⟩,o⟩,λl W e=>by rw[h] at e;simp at e⟩
  |cw d h =>
   simp![0,cq,J];subst f;calc aJ λN f=>?_;subst f;simp![0,cq,K,cG,iY,fE];calc⟨⟨a,0,_,Y,Y,Y⟩,[(0,kO C a b m s),(1,pO b m g)],⟨Y,Y,trivial⟩,?_⟩;rfl';exact⟨a,b,m,s,g,d,j,Y,Y,λ_=>⟨_,⟨Y,Y⟩,o⟩,λn e z A=>by subst e;rw[xx ⟨z,A⟩] at h;cases h⟩
  |cc n r h =>
   simp![0,cq,J];subst f;calc aJ λN f=>?_;subst f;simp![0,cq,K,cG,iY,fE];calc⟨⟨a,0,_,Y,Y,Y⟩,[(0,kO C a b m s),(1,pO b m g)],⟨Y,Y,trivial⟩,?_⟩;rfl';exact⟨a,b,m,s,g,.int n,j,Y,Y,λq=>(by rw[xx r] at q;cases q),λk e _ _=>by cases e;calc⟨h,_,⟨Y,Y⟩,o⟩⟩
  |fw d h =>
   simp![0,cq,w];subst f;calc aJ λN f=>?_;subst f;simp![0,cq,I,cG,iY,fE];calc⟨⟨a,0,_,Y,Y,Y⟩,[(0,kO C a b m s),(1,pO b m g)],⟨Y,Y,trivial⟩,?_⟩;rfl';exact⟨a,b,m,s,g,d,j,Y,Y,λ_=>⟨_,⟨Y,Y⟩,o⟩,λn e z A=>by subst e;rw[xx ⟨z,A⟩] at h;cases h⟩
  |ff n r h =>
   simp![0,cq,w];subst f;calc aJ λN f=>?_;subst f;simp![0,cq,I,cG,iY,fE];calc⟨⟨a,0,_,Y,Y,Y⟩,[(0,kO C a b m s),(1,pO b m g)],⟨Y,Y,trivial⟩,?_⟩;rfl';exact⟨a,b,m,s,g,.int n,j,Y,Y,λq=>(by rw[xx r] at q;cases q),λk e _ _=>by cases e;calc⟨h,_,⟨Y,Y⟩,o⟩⟩
 .simp![0,cq,H]
  subst f;calc aJ λN f=>?_;simp![0,cq,u,iY,fE];calc⟨(zI3 a 0 _ ⟨Y,Y,Y⟩),[(0,kO C a b m s),(1,pO b m (l++[s']))],⟨Y,Y,trivial⟩,?_⟩;rfl';calc⟨a,b,m,s,l++[s'],O,F,Y,Y,λe=>by simp at e,λX t e=>?_⟩;let⟨u,w⟩:=List.append_inj' e Y;cases w
  subst u;calc⟨L,λP B Q D=>jz (k P B Q D)⟩
inductive Cv (C:O) (ok:cF) (ys:-DV) (aW:-OV) (K:RK->-OV->-OV->Prop):Prop
 |mk (a:O) (d:D) (q:ys=[.w a,.p d]) (q:aW=[.ins a C []]) (q:(d5 d=ι->ok 4 0 [.ins a C []])) (q:(∀m ws,d=aN m ws->fG m ws->∀b,K (.p .non) [kO C a b m (ws,[])] [pO b m []]))
def Kg(c_Keeper:O)(a:cF)(b:Nat):WS:=(ar (f7 (Cc 1 xr a b (ag (aa 1) af))) (ar (ay c_Keeper "town" (aa 1) (aa 0)) (ar (ay c_Keeper "shut" (bw af) (aa 0)) (ay c_Keeper "past" (nu af) (aa 0)))))
theorem Vh(C:O)(i:cF)(f:Nat):∀ys c g,↑ys=2->↑c=f->Cv C i ys c g->Kg C i f (ai f g) ⟨ys.map ζ++Gg 0 η,c.map ζ⟩:=by
 ext p c g-j ⟨a,d,rfl,rfl,o,k⟩;subst j;calc aJ λN e=>?_;simp![0,Cc];calc⟨d,Y,Y,λl=>⟨[.ins a C []],⟨Y,Y⟩,o l⟩,λh=>?_⟩;let⟨m,n,rfl,W⟩:21:=U1 h;rfl';subst e;calc aJ λN e=>?_;rfl';calc(zI3 a 0 _ ⟨⟨Y,Y,by decide⟩,?_⟩);subst e;calc aJ λN e=>?_;rfl';calc(zI3 a 0 _ ⟨⟨Y,Y,by show 1<1000;decide⟩,?_⟩);subst e;rfl'
 calcλb=>(zI3 a 0 _ ⟨⟨Y,Y,by show 2<1000;decide⟩,(zI3 _ ([pO b m []]) [] ⟨Y,Y,(k m n Y W) b⟩)⟩)
inductive Cw (C:O) (ys:-DV) (aW:-OV) (K:RK->-OV->-OV->Prop):Prop
 |mk (d) (q:ys=[.p d]) (q:aW=[]) (q:K (.p (if d5 d=θ then .non else .lst [.str "web"])) [] [])
def Kh(c_Keeper:O):WS:=(ar (aK 1 (dC .non)) (u9 1 2 (λa b=>(f7 (J0 c_Keeper 2 (Cv c_Keeper) a b (ag (aa 0) af)))) (dC .non) ι))
theorem Vi(C:O):∀ys c f,↑ys=1->Cw C ys c f->Kh C (ai ↑c f) ⟨ys.map ζ++Gg 2 η,c.map ζ⟩:=by
 ext j c f-⟨d,rfl,rfl,k⟩;calc aJ λM g=>?_;subst g;simp![0,u9];calc⟨[],Y,λa=>⟨[(0,.ins a C [])],⟨Y,trivial⟩,?_⟩⟩;rfl';refine⟨a,d,Y,Y,λh=>?_,λm i e W b=>?_⟩
 .rw[h] at k
  exact⟨[],⟨Y,Y⟩,[],[],[],Y,Y,k⟩
 .subst e
  rw[Ka W] at k;simp![0] at k ⊢;calc(zI3 [] [] ([ζ (kO C a b m (i,[])),ζ (pO b m [])]) ⟨Y,Y,k⟩)
inductive si (C:O) (ys:-DV) (aW:-OV) (K:RK->-OV->-OV->Prop):Prop
 |mk (a b:O) (m:Int) (s:bQ) (ps:-bQ) (ch:D) (q:bB m s) (q:↑ps<900) (q:ys=[.w a,.p ch]) (q:aW=[kO C a b m s,pO b m ps]) (q:((∃c p,lW s ps ch c p/\K (.p (qJ ι c p)) [kO C a b m s,pO b m ps] [])\/(ch=.tup [.str "back"]/\∃jg s',ps=jg++[s']/\bB m s'/\K (.p (.lst [.str "told"])) [kO C a b m s',pO b m jg] [])))
def Ki(c_Keeper:O):WS:=(ar (aK 2 (dC .non)) (u9 2 3 (λa b=>(f7 (JY ι 2 (Cr c_Keeper) a b (ag (aa 0) (ag (aa 1) af))))) (bw (ag (dC (.str "told")) af)) ι))
theorem Vj(C:ξ):∀ys d g,↑ys=2->si C ys d g->Ki C (ai ↑d g) ⟨ys.map ζ++Gg 2 η,d.map ζ⟩:=by
 ext t d g-⟨a,b,m,s,e,j,O,l,rfl,rfl,h⟩;calc aJ λM n=>?_;subst n;simp![0,u9];calc⟨[kO C a b m s,pO b m e],Y,⟨[(0,kO C a b m s),(1,pO b m e)],⟨Y,Y,trivial⟩,?_⟩⟩;rfl';calc⟨a,b,m,s,e,j,O,l,Y,Y,?_⟩;rcases h with⟨c,p,R,k⟩|⟨rfl,f,i,rfl,o,k⟩
 .exact .inl ⟨c,p,R,[kO C a b m s,pO b m e],⟨Y,Y⟩,[kO C a b m s,pO b m e],[],[],Y,Y,k⟩
 .refine .inr ⟨Y,f,i,Y,o,λu q w r=>?_⟩
  rfl';calc(zI3 ([kO C a b m i,pO b m f]) [] [] ⟨Y,Y,k⟩)
def Cy:WS:=(aU (cb (dT (au 1 uD (ag (aa 0) af)))) me bY)
theorem Vk:Sem 1 0 uK Cy:=by
 ext b a c-⟨m,d,W,rfl,rfl,k⟩;unfold Cy;simp!;calc⟨_,Y,Y,?_⟩;rw[Ka W];calc cA k
inductive xy where
 |price (d e:D)|close (d:D)|free (d:D)|back
meta def ou:xy->D
 |.price d e=>.tup [.str "price",d,e]
 |.close d=>.tup [.str "close",d]
 |.free d=>.tup [.str "free",d]
 |.back=>.tup [.str "back"]
meta def ip(x:Z):D:=.lst [.str x]
meta def mL(s:bQ)(d:D):Bool:=(s.2.map D.int).any λe=>aE e d
meta def cB(s:bQ)(ps:-bQ):xy->D
 |.back=>if ps=[] then ip "nothing" else ip "told"
 |.price d e=>if fS s d=θ then(if dE e 0 1000000000=θ then ip "told" else ip "price") else .lst [.str "way",.int 0]
 |.close d=>if fS s d=θ then(if mL s d=θ then ip "closed" else ip "told") else .lst [.str "way",.int 0]
 |.free d=>if fS s d=θ then(if mL s d=θ then ip "told" else ip "free") else .lst [.str "way",.int 0]
theorem Kj{s ps} c:cB s ps c=ip "told" \/ ∃k p,lW s ps (ou c) k p/\qJ ι k p=cB s ps c:=by
 cases c with
 |back =>
  by_cases h:ps=[]
  .exact .inr ⟨9,0,.bk h,by simp only[cB,h,↓reduceIte];rfl⟩
  .exact .inl (by simp only[cB,h,↓reduceIte])
 |price d e =>
  cases q:fS s d with
  |false=>exact .inr ⟨0,0,.pw d e q,by simp only[cB,q,↓reduceIte,Zz];rfl⟩
  |true =>
   cases r:dE e 0 1000000000 with
   |true=>exact .inl (by simp only[cB,q,r,↓reduceIte])
   |false=>exact .inr ⟨5,0,.pp d e q r,by simp only[cB,q,r,↓reduceIte,Zz];rfl⟩
 |close d =>
  cases q:fS s d with
  |false=>exact .inr ⟨0,0,.cw d q,by simp only[cB,q,↓reduceIte,Zz];rfl⟩
  |true =>
   let⟨n,rfl,a,b⟩:=qM q
   cases r:mL s (.int n) with
   |false=>exact .inl (by simp only[cB,q,r,↓reduceIte,Zz])
   |true =>
    let z:=r;unfold mL at z;rw[n_] at z;exact .inr ⟨7,0,.cc n ⟨a,b⟩ (q0w z),by simp only[cB,q,r,↓reduceIte];rfl⟩
 |free d =>
  cases q:fS s d with
  |false=>exact .inr ⟨0,0,.fw d q,by simp only[cB,q,↓reduceIte,Zz];rfl⟩
  |true =>
   let⟨n,rfl,a,b⟩:=qM q
   cases r:mL s (.int n) with
   |true=>exact .inl (by simp only[cB,q,r,↓reduceIte])
   |false =>
    let z:=r;unfold mL at z;rw[n_] at z;calc .inr ⟨8,0,.ff n ⟨a,b⟩ (of_decide_eq_false z),by simp only[cB,q,r,↓reduceIte,Zz];rfl⟩
theorem Kk{s ps d k p}(h:lW s ps d k p):dep (qJ ι k p)<=60:=by
 cases h<;>(decide)
theorem Vl{s ps} c:dep (cB s ps c)<=60:=by
 rcases Kj   c with h|⟨k,p,R,h⟩
 .rw[h];decide
 .rw[<-h];calc Kk R
inductive Cz (ys:-DV) (aW:-OV) (K:RV->-OV->Prop):Prop
 |mk (m:Int) (s:bQ) (ps:-bQ) (c:xy) (q:bB m s) (q:↑ps<900) (q:ys=[.p (.lst ((ps++[s]).map (dj m))),.p (ou c)]) (q:aW=[]) (q:K (.p (cB s ps c)) [])
def CA:WS:=(ar (iT (d2 (aa 0) (d1 (dC (.int 1)) f_) aS) (lq 2 (g4 (bZ 2) (g4 (bZ 3) kF)))) (ar (aU (dT (d2 (d2 (aa 1) (dC (.int 0)) aS) (dC (.str "back")) oEq)) (aB (d2 (bw (ag (bw (ag (dC (.str "told")) af)) (ag (bw (ag (dC (.str "nothing")) af)) af))) (dN (ag (d2 (dN (ag (aa 0) af) bT) (dC (.int 1)) oEq) af) gH) aS)) bY) (ar (aU (cb (dT (au 3 o9 (ag (d2 (aa 1) (dC (.int 1)) aS) (ag (dC (.int 0)) (ag (d2 (dN (ag (d2 (aa 2) (dC (.int 1)) aS) af) bT) (dC (.int 1)) (oI λi j=>.int (i-j))) af)))))) (aB (bw (ag (dC (.str "way")) (ag (dC (.int 0)) af)))) bY) (ar (aU (dT (d2 (d2 (aa 1) (dC (.int 0)) aS) (dC (.str "price")) oEq)) (aB (d2 (bw (ag (bw (ag (dC (.str "price")) af)) (ag (bw (ag (dC (.str "told")) af)) af))) (dN (ag (au 3 o9 (ag (d2 (aa 1) (dC (.int 2)) aS) (ag (dC (.int 0)) (ag (d2 (dC (.int 10)) (dC (.int 9)) (di cI λi j=>.int (i ^ j.toNat))) af)))) af) gH) aS)) bY) (ar (aU (dT (d2 (d2 (aa 1) (dC (.int 0)) aS) (dC (.str "close")) oEq)) (aB (d2 (bw (ag (bw (ag (dC (.str "told")) af)) (ag (bw (ag (dC (.str "closed")) af)) af))) (dN (ag (d2 (d2 (aa 1) (dC (.int 1)) aS) (aa 3) (jc ι)) af) gH) aS)) bY) (aB (d2 (bw (ag (bw (ag (dC (.str "free")) af)) (ag (bw (ag (dC (.str "told")) af)) af))) (dN (ag (d2 (d2 (aa 1) (dC (.int 1)) aS) (aa 3) (jc ι)) af) gH) aS)))))))
theorem Vm:Sem 2 2 Cz CA:=by
 ext C l E-⟨m,s,g,c,O,F,rfl,rfl,k⟩;let o:=O.len;let p:aE (.str "price") (.str "price")=θ:=e8 _;let G:aE (.str "back") (.str "price")=ι:=Y;let u:aE (.str "back") (.str "back")=θ:=e8 _;let v:aE (.str "free") (.str "price")=ι:=Y;let w:aE (.str "free") (.str "back")=ι:=Y;let x:aE (.str "free") (.str "close")=ι:=Y;let y:aE (.str "close") (.str "price")=ι:=Y;let z:aE (.str "close") (.str "back")=ι:=Y;let A:aE (.str "close") (.str "close")=θ:=e8 _;let h:aE (.str "price") (.str "back")=ι:=Y;let B:(g++[s]).map (dj m)=g.map (dj m)++[dj m s]:=ZM
 unfold CA;calc aJ λN a=>?_;simp![B,xm,dj];subst a;refine aJ λN a=>?_
 cases c with
 |back =>
  simp![ou,cq,u];rcases g with _|⟨t,r⟩
  .rw[pB,OR (by rfl)]
   exact cA k
  .rw[pB,YC (by erw[Ge];symm)]
   exact cA k
 |price d e =>
  simp![ou,cq,h];subst a;calc aJ λN a=>?_;simp![cG,aN];calc⟨d,0,(↑s.1:Int)-1,Y,Y,?_⟩;simp!
  cases q:dE d 0 ((↑s.1:Int)-1) with
  |false =>
   let b:fS s d=ι:=q;simp!;simp only[cB,b,↓reduceIte,Zz] at k;exact cA k
  |true =>
   let b:fS s d=θ:=q;let⟨n,rfl,i,j⟩:12:=qM b;simp!;subst a;calc aJ λN a=>?_;simp![cq,p,at2];calc⟨uX,e,0,_,Y,Y,?_⟩;rw[show(10:Int) ^ q0R 9=1000000000 from Y]
   cases r:dE e 0 1000000000 with
   |true =>
    simp only[cB,b,r,↓reduceIte] at k;exact cA k
   |false =>
    simp only[cB,b,r,↓reduceIte,Zz] at k;exact cA k
 |close d =>
  simp![ou,cq,z];subst a;calc aJ λN a=>?_;simp![cG,aN];calc⟨d,0,(↑s.1:Int)-1,Y,Y,?_⟩;simp!
  cases q:dE d 0 (↑s.1-1) with
  |false =>
   let b:fS s d=ι:=q;simp only[cB,b,↓reduceIte,Zz] at k;exact cA k
  |true =>
   let b:fS s d=θ:=q;let⟨n,rfl,i,j⟩:=qM b;simp!;subst a;calc aJ λN a=>?_;simp![cq,y];subst a;calc aJ λN a=>?_;simp![cq,A,cG,bV];refine⟨mH s.2,?_⟩
   cases r:(q8U D.int s.2).any λe=>aE e (D.int n) with
   |true =>
    let f:mL s (.int n)=θ:=r;simp only[cB,b,f,↓reduceIte] at k;exact cA k
   |false =>
    let f:mL s (.int n)=ι:=r;simp only[cB,b,f,↓reduceIte,Zz] at k;exact cA k
 |free d =>
  simp![ou,cq,w];subst a;calc aJ λN a=>?_;simp![cG,aN];refine⟨d,0,↑s.1-1,Y,Y,?_⟩
  cases q:dE d 0 (↑s.1-1) with
  |false =>
   let b:fS s d=ι:=q;simp only[cB,b,↓reduceIte,Zz] at k;exact cA k
  |true =>
   let b:fS s d=θ:=q;let⟨n,rfl,i,j⟩:=qM b;simp!;subst a;calc aJ λN a=>?_;simp![cq,v];subst a;calc aJ λN a=>?_;simp![cq,x];subst a;simp![cG,bV];refine⟨mH s.2,?_⟩
   cases r:(q8U D.int s.2).any λe=>aE e (D.int n) with
   |true =>
    let f:mL s (.int n)=θ:=r;simp only[cB,b,f,↓reduceIte] at k;exact cA k
   |false =>
    let f:mL s (.int n)=ι:=r;simp only[cB,b,f,↓reduceIte,Zz] at k;calc cA k
theorem CB:cI 10 20:=by unfold cI;decide
meta def va(n:Int):-D:=[.int (-1),.int n,.int (10 ^ q0R 20),.bl θ,.bl ι,.non,.str "0",.lst [.int 0],.tup [.int 0],.lst [],.int (0-n),.int (10 ^ q0R 9+1)]
theorem Vn(n:Int):↑(va n)=12:=rfl
theorem Vo n:bo (va n)<=3:=by simp[va,bo,dep]
inductive CD (C:O) (ys:-DV) (aW:-OV) (K:RK->-OV->-OV->Prop):Prop
 |mk (a b:O) (m:Int) (s:bQ) (ps:-bQ) (q:bB m s) (q:↑ps<900) (q:ys=[.p (.lst ((ps++[s]).map (dj m))),.w a]) (q:aW=[kO C a b m s,pO b m ps]) (q:K (.p (.bl θ)) [kO C a b m s,pO b m ps] [])
def CF(c_Keeper:O):WS:=(ar (aK 2 (dN (ag (d2 (d2 (d2 (aa 0) (d1 (dC (.int 1)) f_) aS) (dC (.int 0)) aS) (dC (.int 1)) aS) af) bT)) (ar (aK 3 (bw (ag (d1 (dC (.int 1)) f_) (ag (aa 2) (ag (d2 (dC (.int 10)) (dC (.int 20)) (di cI λi j=>.int (i ^ j.toNat))) (ag (dC (.bl θ)) (ag (dC (.bl ι)) (ag (dC .non) (ag (dC (.str "0")) (ag (bw (ag (dC (.int 0)) af)) (ag (bp (ag (dC (.int 0)) af)) (ag (bw af) (ag (d2 (dC (.int 0)) (aa 2) (oI λi j=>.int (i-j))) (ag (d2 (d2 (dC (.int 10)) (dC (.int 9)) (di cI λi j=>.int (i ^ j.toNat))) (dC (.int 1)) cx) af)))))))))))))) (ar (eo (cN (d2 (wu (ag (aa 2) af)) (aa 3) cx)) (bZ 4) (ar (aK 5 (d2 (bw (ag (bp (ag (dC (.str "close")) (ag (aa 4) af))) (ag (bp (ag (dC (.str "free")) (ag (aa 4) af))) af))) (gC (cN (aa 3)) [η,ζ 4] (bZ 0) fz (bp (ag (dC (.str "price")) (ag (aa 1) (ag (aa 0) af))))) cx)) (eo (cN (aa 5)) (bZ 6) (ar (aK 7 (au 2 Cz (ag (aa 0) (ag (aa 6) af)))) (aU (gB (dT (d2 (aa 7) (bw (ag (dC (.str "told")) af)) iV)) (dT (d2 (ax ι 2 (si c_Keeper) (ag (aa 1) (ag (aa 6) af))) (aa 7) iV))) (aB (dC (.bl ι))) bY))))) (aB (qk (d2 (dN (ag (aa 0) af) bT) (dC (.int 1)) (oI λi j=>.bl (μ (j<i)))) (d2 (ax ι 2 (si c_Keeper) (ag (aa 1) (ag (bp (ag (dC (.str "back")) af)) af))) (bw (ag (dC (.str "nothing")) af)) oEq))))))
theorem Vp(C:ξ):∀ys l G,↑ys=2->CD C ys l G->CF C (ai ↑l G) ⟨ys.map ζ++Gg 6 η,l.map ζ⟩:=by
 ext ys l G-⟨a,b,m,s,ps,O,H,rfl,rfl,k⟩;let V:=O.gv.gY;let T:(ps++[s]).map (dj m)=ps.map (dj m)++[dj m s]:=ZM;unfold CF;calc aJ λN A=>?_;simp![0,T,xm,dj,cq,aN,cG];subst A;calc aJ λN A=>?_;rfl';calc⟨CB,uX,?_⟩;show N ⟨[ζ (.p (.lst (ps.map (dj m)++[.tup [.tup [.int m,.tup (s.1.map aV)],bV s.2]]))),ζ (.w a),ζ (.p (.int ↑s.1)),ζ (.p (.lst (va ↑s.1))),η,η,η,η],[ζ (kO C a b m s),ζ (pO b m ps)]⟩;let I:=Vn ↑s.1;let W:=Vo ↑s.1
 generalize va ↑s.1=z at I W ⊢;subst A;calc aJ λN A=>oX λX Y Z J n K=>?_;rfl';calc⟨⟨⋯,⋯⟩,by rw[kH];symm,?_⟩;subst J n K;refine kK (λi o=>∃P u x y,o=⟨[ζ (.p (.lst (ps.map (dj m)++[.tup [.tup [.int m,.tup (s.1.map aV)],bV s.2]]))),ζ (.w a),ζ (.p (.int ↑s.1)),ζ (.p (.lst z)),P,u,x,y],[ζ (kO C a b m s),ζ (pO b m ps)]⟩) (zI4 _ _ _ _ rfl) ?_ ?_
 .ext i d o L hi f hL;let⟨P,u,x,y,rfl⟩:4:=f
  calc⟨trivial,?_⟩;erw[bZ,q0l,q0m];calc aJ λM Q=>?_;rfl';refine lu (λe=>.tup [.str "price",d,e]) (by rw[I];symm) trivial ?_ ?_
  .ext e he acc U ha h
   rfl';exact⟨ha,h⟩
  .rfl'
   calc⟨⋯,?_⟩;subst Q;calc oX λX Y Z J n K=>?_;rfl';let⟨B,ec,cl⟩:∃B:-xy,B.map ou=[D.tup [.str "close",d],.tup [.str "free",d]]++z.map (λe=>.tup [.str "price",d,e])/\↑B<=14:=⟨[.close d,.free d]++z.map (λe=>.price d e),by rw[ZM,Z7];rfl,by rw[My,qa,I];calc tm _⟩;show kG _ _ _ _ _ ([D.tup [.str "close",d],.tup [.str "free",d]]++z.map (λe=>.tup [.str "price",d,e])) _;rw[<-ec];subst J n K;refine kK (λi o=>∃u x y,o=⟨[ζ (.p (.lst (ps.map (dj m)++[.tup [.tup [.int m,.tup (s.1.map aV)],bV s.2]]))),ζ (.w a),ζ (.p (.int ↑s.1)),ζ (.p (.lst z)),ζ (.p d),u,x,y],[ζ (kO C a b m s),ζ (pO b m ps)]⟩) (zI3 _ _ _ rfl) ?_ ?_
   .ext j e o U E f S;let⟨u,x,y,rfl⟩:3:=f
    let⟨c,hc,rfl⟩:∃c,B[j]?=ζ c/\ou c=e:=by
     rw[OS] at E
     cases q:B[j]? with
     |none=>rw[q] at E;cases E
     |some c=>rw[q] at E;exact⟨c,rfl,by cases E;rfl⟩
    calc⟨trivial,?_⟩;erw[bZ,q0l,q0m];calc aJ λM Q=>?_;rfl';calc⟨m,s,ps,c,O,H,by rw[T];rfl,rfl,?_⟩;rfl';subst Q;rfl';calc⟨Vl c,?_⟩;let F:∀y5 y6 y7,U ⟨[ζ (.p (.lst (ps.map (dj m)++[.tup [.tup [.int m,.tup (s.1.map aV)],bV s.2]]))),ζ (.w a),ζ (.p (.int ↑s.1)),ζ (.p (.lst z)),ζ (.p d),y5,y6,y7],[ζ (kO C a b m s),ζ (pO b m ps)]⟩:=λ_ _ _=>S _ (zI3 _ _ _ rfl)
    cases q:aE (cB s ps c) (D.lst [D.str "told"]) with
    |true =>
     rw[Zx (by simp)];exact F _ _ _
    |false =>
     rw[ZF (by simp)];rcases Kj (s:=s) (ps:=ps) c with h|⟨k2,p,R,h⟩
     .rw[h] at q;cases q
     .refine⟨[(0,kO C a b m s),(1,pO b m ps)],⟨rfl,rfl,trivial⟩,?_⟩
      rfl';calc⟨a,b,m,s,ps,ou c,O,H,rfl,rfl,.inl (zI2 k2 p ⟨R,?_⟩)⟩;calc⟨Kk R,?_⟩;rw[h,e8,Zx (by simp)];exact F _ _ _
   .ext o g;let⟨u,x,y,rfl⟩:3:=g
    exact⟨trivial,hL _ (zI4 _ _ _ _ rfl)⟩
 .ext o g;let⟨P,u,x,y,rfl⟩:4:=g
  subst A;rfl';rcases ps with _|⟨t,r⟩
  .refine⟨[(0,kO C a b m s),(1,pO b m [])],⟨rfl,rfl,trivial⟩,?_⟩
   rfl';exact⟨a,b,m,s,[],_,O,H,rfl,rfl,.inl (zI2 9 0 ⟨.bk rfl,⟨by decide,jz k⟩⟩)⟩
  .rw[ZF (by erw[Ge];calc OR ⋯)]
   exact jz k
mutual
noncomputable def ky:D->Nat
 |.tup ds=>max ↑ds (iq ds)
 |.lst ds=>max ↑ds (iq ds)
 |_=>0
noncomputable def iq:-D->Nat
 |[]=>0
 |d::ds=>max (ky d) (iq ds)
end
theorem eV{l}:∀{ds},iq ds<=l↔∀d∈ds,ky d<=l
 |[]=>by simp[iq]
 |d::r=>by
  erw[iq,OQ,forall_eq_or_imp,<-eV];symm
theorem eW{l}:∀{ds},bo ds<=l↔∀d∈ds,dep d<=l
 |[]=>by simp[bo]
 |d::r=>by
  erw[bo,OQ,forall_eq_or_imp,<-eW];symm
def Bd(l m:Nat)(d:D):Prop:=ky d<=l/\dep d<=m
theorem Bd.mono{l l' m a d}(h:Bd l m d)(b:l<=l')(c:m<=a):Bd l' a d:=⟨Z0 h.1 b,Z0 h.2 c⟩
theorem cQ{l m ds}:Bd l (m+1) (.tup ds)↔↑ds<=l/\∀d∈ds,Bd l m d:=by
 unfold Bd;erw[ky,dep]
 constructor
 .ext ⟨f,e⟩
  let a:iq ds<=l:=by symm
  let b:bo ds<=m:=by symm
  exact⟨⋯,λd c=>⟨eV.mp a d c,eW.mp b d c⟩⟩
 .ext ⟨f,e⟩
  let a:=eV.mpr λd c=>(e d c).1;let b:=eW.mpr λd c=>(e d c).2;symm
theorem qN{l m ds}:Bd l (m+1) (.lst ds)↔↑ds<=l/\∀d∈ds,Bd l m d:=by
 unfold Bd;erw[ky,dep]
 constructor
 .ext ⟨f,e⟩
  let a:iq ds<=l:=by symm
  let b:bo ds<=m:=by symm
  exact⟨⋯,λd c=>⟨eV.mp a d c,eW.mp b d c⟩⟩
 .ext ⟨f,e⟩
  let a:=eV.mpr λd c=>(e d c).1;let b:=eW.mpr λd c=>(e d c).2;symm
theorem xA{b}{xs:-b}{k}(c:0<=k)(d:k<(↑xs:Int)):∃x∈xs,eM xs k=ζ x:=by
 let⟨i,rfl⟩:∃i:Nat,k=i:=⟨k.toNat,⋯⟩;let a:i<↑xs:=by symm
 calc⟨xs[i],q0N a,iN (p_ a)⟩
theorem vb{ds a b d}(h:d∈cutD ds a b):d∈ds:=q4s (q4A h)
theorem vc ds a b:↑(cutD ds a b)<=↑ds:=by
 unfold cutD;rw[ZH,q0j];symm
inductive pK (n:Nat) (ys:-DV) (aW:-OV) (K:RV->-OV->Prop):Prop
 |mk (N deep:Int) (l m:Nat) (d:D) (o:OV) (q:ys=[.o 0,.p d,.p (.int deep)]) (q:aW=[o]) (q:bx N o) (q:N+10*(n+1)<2 ^ 30) (q:deep<=n) (q:n<=3) (q:Bd l m d) (q:l<=400) (q:1<=l) (q:m<=40) (q:∀d' o',Bd (l+1) (m+1) d'->bx (N+4*(n+1)) o'->K (.p d') [o'])
meta def qO:-D:=[.non,.bl θ,.bl ι,.str "",.str "0",.tup [],.lst [],.int (10 ^ q0R 20),.int (-1),.int 0,.int 1,.int (10 ^ q0R 9),.int (10 ^ q0R 9+1),.tup [.int 0],.lst [.int 0],.int 12]
theorem Vq:∀x∈qO,Bd 1 1 x:=by
 ext x a;erw[qO,OQ,ZL,q05] at a;rcases a with rfl|rfl|rfl|rfl|rfl|rfl|rfl|rfl|rfl|rfl|rfl|rfl|rfl|rfl|rfl|rfl<;>calc⟨by simp[ky,iq],by simp[dep,bo]⟩
def CG(a:GD):WS:=(ar (aK 3 (au 2 fA (ag (aa 0) (ag (dC (.int 8)) af)))) (ar (aK 4 (au 2 fA (ag (aa 0) (ag (dC (.int 16)) af)))) (ar (aK 5 (d2 (au 2 fA (ag (aa 0) (ag (dC (.int 9)) af))) (dC (.int 2)) (oI λi j=>.int (i-j)))) (ar (aU (gB (dT (d1 (aa 1) (cn "tuple"))) (gB (dT (d2 (aa 1) (bp af) iV)) (gB (dT (d2 (aa 2) (dC (.int 0)) (oI λi j=>.bl (μ (j<i))))) (dT (d2 (aa 4) (dC (.int 3)) (oI λi j=>.bl (μ (j<i)))))))) (ar (aK 6 (au 2 fA (ag (aa 0) (ag (dN (ag (aa 1) af) bT) af)))) (aB (d2 (d2 (dr (aa 1) dQ (hV (aa 6))) (bp (ag (au 3 a (ag (aa 0) (ag (d2 (aa 1) (aa 6) aS) (ag (d2 (aa 2) (dC (.int 1)) (oI λi j=>.int (i-j))) af)))) af)) cx) (dr (aa 1) (hV (d2 (aa 6) (dC (.int 1)) cx)) dQ) cx))) bY) (ar (aK 7 (bw (ag (dC .non) (ag (dC (.bl θ)) (ag (dC (.bl ι)) (ag (dC (.str "")) (ag (dC (.str "0")) (ag (bp af) (ag (bw af) (ag (d2 (dC (.int 10)) (dC (.int 20)) (di cI λi j=>.int (i ^ j.toNat))) (ag (d1 (dC (.int 1)) f_) (ag (dC (.int 0)) (ag (dC (.int 1)) (ag (d2 (dC (.int 10)) (dC (.int 9)) (di cI λi j=>.int (i ^ j.toNat))) (ag (d2 (d2 (dC (.int 10)) (dC (.int 9)) (di cI λi j=>.int (i ^ j.toNat))) (dC (.int 1)) cx) (ag (bp (ag (dC (.int 0)) af)) (ag (bw (ag (dC (.int 0)) af)) (ag (dC (.int 12)) af)))))))))))))))))) (ar (aU (dT (d1 (aa 1) (cn "tuple"))) (ar (aK 8 (bw (ag (dN (ag (aa 1) af) z8) (ag (d2 (aa 1) (dr (aa 1) dQ (hV (dC (.int 1)))) cx) (ag (dr (aa 1) dQ (hV (d1 (dC (.int 1)) f_))) (ag (d1 (aa 1) wH) (ag (d2 (aa 1) (bp (ag (aa 5) af)) cx) (ag (dr (aa 1) (hV (dC (.int 1))) dQ) (ag (bp (ag (aa 1) af)) af))))))))) (aB (d2 (d2 (aa 8) (bw (ag (d2 (aa 7) (aa 4) aS) af)) cx) (aa 3) aS))) bY) (ar (aU (dT (au 1 wM (ag (aa 1) af))) (aB (d2 (bw (ag (d2 (aa 1) (dC (.int 1)) cx) (ag (d2 (aa 1) (dC (.int 1)) (oI λi j=>.int (i-j))) (ag (d2 (dC (.int 0)) (aa 1) (oI λi j=>.int (i-j))) (ag (aa 5) (ag (aa 5) (ag (d2 (aa 1) (dC (.int 1)) oEq) (ag (d2 (dC (.int 13)) (aa 1) (oI λi j=>.int (i-j))) (ag (d2 (aa 7) (aa 4) aS) af))))))))) (aa 3) aS)) bY) (aB (d2 (aa 7) (aa 4) aS)))))))))
def CH(g:Nat->GD):Nat->GD
 |0=>λ_ _ _=>False
 |n+1=>g n
theorem Vr(n:Nat):Sem 3 6 (pK n) (CG (CH pK n)):=by
 ext ys aW K'-⟨N,t,l,m,d,o,rfl,rfl,P,Zg,Q,Zh,M,hl,R,hm,S⟩;unfold CG;let j:∀(C:D)(E:OV)(sl:-(Option DV))(mu:-(Option OV)),Bd (l+1) (m+1) C->bx (N+4*(n+1)) E->gD 1 K' (.p C) ⟨sl,ζ E::mu⟩:=λC E sl mu h1 F=>⟨[E],rfl,rfl,S C E h1 F⟩;calc aJ λs f=>?_;simp!;calc⟨N,8,o,rfl,rfl,P,⋯,⋯,⋯,λg o1 k0 k8 P1=>?_⟩;simp!;subst f;calc aJ λs f=>?_;simp!;calc⟨N+1,16,o1,rfl,rfl,P1,⋯,⋯,⋯,λe o2 p0 Zi P2=>?_⟩;simp!;subst f;calc aJ λs f=>?_;simp!;refine⟨N+1+1,9,o2,rfl,rfl,P2,⋯,⋯,⋯,λG T n0 n9 P3=>?_⟩
 simp!;subst f;let U:bx (N+4*(n+1)) T:=P3.mono ⋯;let⟨B,V,H⟩:=xA (xs:=qO) (k:=e) p0 (by show e<16;symm);let w:Bd (l+1) (m+1) B:=(Vq B V).mono ⋯ ⋯;let tail:∀s:aO->Prop,True:=λ_=>trivial;refine aJ λs f=>?_
 by_cases ht:∃a,d=.tup a
 .let⟨a,rfl⟩:=ht
  let⟨I,rfl⟩:∃I,m=I+1:=⟨m-1,by let:=M.2;erw[dep] at this;symm⟩;let⟨b1,O⟩:=cQ.mp M
  let u:s ⟨[ζ (.o 0),ζ (.p (.tup a)),ζ (.p (.int t)),ζ (.p (.int g)),ζ (.p (.int e)),ζ (.p (.int (G-2))),η,η,η],[ζ T]⟩:=by
   subst f;calc aJ λs f=>?_;simp!;calc⟨⟨by decide,by decide,by decide⟩,⟨by decide,by decide,by decide⟩,⟨by decide,by decide,by decide⟩,?_⟩;subst f;calc aJ λs f=>?_;let c1:=vc a η (ζ 1);let h:eM [D.non,D.bl θ,D.bl ι,D.str (q2e ""),D.str (q2e "0"),D.tup [],D.lst [],D.int (10 ^ q0R 20),D.int (-1),D.int 0,D.int 1,D.int (10 ^ q0R 9),D.int (10 ^ q0R 9+1),D.tup [D.int 0],D.lst [D.int 0],D.int 12] e=ζ B:=H;simp![cJ,show aZ "tuple" "tuple" = θ from rfl,h];let⟨r,J,W⟩:11:=xA (xs:=[D.lst a,D.tup (a++cutD a η (ζ 1)),D.tup (cutD a η (ζ (-1))),D.tup a.reverse,D.tup (a++[D.int (G-2)]),D.tup (cutD a (ζ 1) η),D.tup [D.tup a],B]) (k:=g) k0 (by show g<8;symm)
   rw[W];calc⟨⋯,⋯,j _ _ _ _ ?_ U⟩;erw[OQ,ZL,q05] at J;let z:∀y∈a,Bd (l+1) (I+1) y:=λy b=>(O y b).mono ⋯ ⋯;let ib:Bd (l+1) (I+1) (.int (G-2)):=⟨q0d _,q0d _⟩;rcases J with rfl|rfl|rfl|rfl|rfl|rfl|rfl|rfl
   .exact qN.mpr ⟨⋯,z⟩
   .refine cQ.mpr ⟨?_,λy b=>?_⟩
    .rw[My]
     let:↑(cutD a η (ζ 1))<=1:=by
      unfold cutD;rw[ZH];let:HT.bK ↑a ↑a (ζ 1)=min 1 ↑a:=HT.m9 ↑a ↑a 1;rw[this];symm
     symm
    .rcases ZT.mp b with b|b
     .exact z y b
     .exact z y (vb b)
   .exact cQ.mpr ⟨by let:=vc a η (ζ (-1));symm,λy b=>z y (vb b)⟩
   .exact cQ.mpr ⟨by rw[q1J];symm,λy b=>z y (List.mem_reverse.mp b)⟩
   .refine cQ.mpr ⟨by rw[My,Z8];symm,λy b=>?_⟩
    rcases ZT.mp b with b|b
    .exact z y b
    .rw[ZV.mp b];exact ib
   .exact cQ.mpr ⟨by let:=vc a (ζ 1) η;symm,λy b=>z y (vb b)⟩
   .refine cQ.mpr ⟨by show 1<=l+1;symm,λy b=>?_⟩
    rw[ZV.mp b];exact M.mono ⋯ ⋯
   .exact w
  calc gc λX Y K v=>?_;simp![cJ,show aZ "tuple" "tuple" = θ from rfl,aE];calc⟨by let:=M.2;erw[dep] at this;symm,?_⟩;cases q:dq a []
  .erw[q2a,q1S]
   by_cases hd:0<t
   .rw[ZF (OR hd)]
    by_cases hp:3<e
    .rw[ZF (OR hp)]
     let dn:0<↑a:=by
      cases a with
      |nil=>cases q
      |cons _ _=>exact q2z _
     subst K;calc aJ λN2 Z=>?_;simp![cJ,show aZ "tuple" "tuple" = θ from rfl,aE];calc⟨N+1+1+1,↑a,T,rfl,rfl,P3,⋯,⋯,⋯,λc o4 a0 a1 P4=>?_⟩;let⟨x,hx,ex⟩:=xA (xs:=a) (k:=c) a0 a1;let⟨nn,rfl⟩:∃nn:Nat,n=nn+1:=⟨n-1,⋯⟩;simp![ex];subst Z;simp![ex];calc⟨N+1+1+1+1,t-1,l,I,x,o4,rfl,rfl,P4,⋯,⋯,⋯,O x hx,hl,R,⋯,λC o5 b5 P5=>?_⟩;let c1:=vc a η (ζ c);let c2:=vc a (ζ (c+1)) η;simp!;refine⟨⋯,⋯,j _ _ _ _ (cQ.mpr ⟨?_,λy b=>?_⟩) (P5.mono ⋯)⟩
     .let e1:↑(cutD a η (ζ c))=c.toNat:=by
       unfold cutD;rw[ZH,q0j];let:HT.bK ↑a 0 η=0:=rfl
       let F:HT.bK ↑a ↑a (ζ c)=min c.toNat ↑a:=by
        let⟨A,rfl⟩:∃A:Nat,c=A:=⟨c.toNat,⋯⟩;exact HT.m9 ↑a ↑a A
       rw[this,F];symm
      let e2:↑(cutD a (ζ (c+1)) η)=↑a-(c.toNat+1):=by
       unfold cutD;rw[ZH,q0j];let:HT.bK ↑a ↑a η=↑a:=rfl
       let F:HT.bK ↑a 0 (ζ (c+1))=min (c.toNat+1) ↑a:=by
        let⟨A,rfl⟩:∃A:Nat,c=A:=⟨c.toNat,⋯⟩;exact HT.m9 ↑a 0 (A+1)
       rw[this,F];symm
      rw[My,My,e1,e2,Z8];symm
     .rcases ZT.mp b with b|b
      .rcases ZT.mp b with b|b
       .exact (O y (vb b)).mono ⋯ ⋯
       .rw[ZV.mp b];exact b5
      .exact (O y (vb b)).mono ⋯ ⋯
    .rw[Zx (by rw[YC hp];decide)]
     subst v;exact u
   .rw[Zx (by rw[YC hd];decide)]
    subst v;exact u
  .erw[q1p,Zz,q1e]
   subst v;exact u
 .let nt:∀K2:KS,True:=λ_=>trivial
  let h:eM [D.non,D.bl θ,D.bl ι,D.str (q2e ""),D.str (q2e "0"),D.tup [],D.lst [],D.int (10 ^ q0R 20),D.int (-1),D.int 0,D.int 1,D.int (10 ^ q0R 9),D.int (10 ^ q0R 9+1),D.tup [D.int 0],D.lst [D.int 0],D.int 12] e=ζ B:=H
  let L:aZ (cJ d) "tuple" = ι:=by
   cases d with
   |tup a=>exact absurd ⟨a,rfl⟩ ht
   |_=>rfl
  calc gc λX Y K v=>?_;simp![L];subst v;show s _;subst f;calc aJ λs f=>?_;simp!;calc⟨⟨by decide,by decide,by decide⟩,⟨by decide,by decide,by decide⟩,⟨by decide,by decide,by decide⟩,?_⟩;subst f;calc aJ λs f=>gc λX Y K v=>?_;simp![L];subst v;show s _;subst f;calc aJ λs f=>gc λX Y K v=>?_;simp!;calc⟨d,rfl,rfl,?_⟩;simp!
  by_cases hi:∃i,d=.int i
  .let⟨i,rfl⟩:=hi
   simp![uz,h,aE];subst K;simp![uz,h,aE];let⟨r,J,W⟩:11:=xA (xs:=[D.int (i+1),D.int (i-1),D.int (0-i),D.int (G-2),D.int (G-2),D.bl (i==1),D.int (13-i),B]) (k:=g) k0 (by show g<8;symm);rw[W];calc j _ _ _ _ ?_ U;erw[OQ,ZL,q05] at J;rcases J with rfl|rfl|rfl|rfl|rfl|rfl|rfl|rfl
   all_goals first|exact w|exact⟨q0d _,q0d _⟩
  .let hw:uz d=ι:=by
    cases d with
    |int i=>exact absurd ⟨i,rfl⟩ hi
    |_=>rfl
   rw[hw];erw[Zz,q1e];subst v;show s _;subst f;simp![h];calc j _ _ _ _ w U
abbrev xB:=LJT.bf 5
meta abbrev KL:KS:=⟨λ_=>False,λx _=>x=.p (.bl θ),λ_=>False,λ_=>False⟩
theorem Kl us (h:↑us<=1000):LJT.ig (bV us)=θ:=by
 let:∀a:-Int,LJT.gf (a.map D.int)=θ:=λa=>by
  induction a with
  |nil=>rfl
  |cons n r b=>erw[ZW,LJT.gf,LJT.ig,b,q63]
 unfold bV LJT.ig;rw[this,qa,OR h];rfl
theorem Vs m (ws:-(Int×Int×Int)) (h:↑ws<=30):LJT.ig (aN m ws)=θ:=by
 let:∀a:-(Int×Int×Int),LJT.gf (a.map aV)=θ:=λb=>by
  induction b with
  |nil=>rfl
  |cons n r c=>erw[ZW,LJT.gf,c,q3K];rfl
 let e:LJT.ig (.tup (ws.map aV))=θ:=by unfold LJT.ig;rw[this,qa,OR ⋯];rfl
 unfold aN;erw[LJT.ig,LJT.gf] at e ⊢;rw[e];rfl
theorem Vt m (ws:-(Int×Int×Int)):dep (aN m ws)<=3:=by
 let:∀a:-(Int×Int×Int),bo (a.map aV)<=1:=λa=>by
  induction a with
  |nil=>simp[bo]
  |cons n r b=>erw[ZW,bo,dep,aV];symm
 let:=this ws;erw[aN,dep,bo];symm
theorem Vu{m s}(O:bB m s):↑(pG m s)<=30:=by
 unfold pG bU;rw[qa]
 by_cases h:∃a,aG (bO s) a
 .let⟨a,h⟩:=h
  let b:=rS O.gv (uM s.1 s.2);rw[<-JM b h];let c:=wW (m:=m) (ws:=bO s) a;let d:=h.len;let e:↑(bO s)<=30:=b.gY;symm
 .unfold om
  rw[dif_neg h];let c:=wW (m:=m) (ws:=bO s) [];rw[q1j] at c;symm
theorem look_same{m s}(O:bB m s):dep (.lst (mJ m s))<=4/\LJT.ig (.lst (mJ m s))=θ:=by
 let d:=O.len;let e:=Vu O;let f:=Vt m s.1;let g:=Bp s.2;let h:=Bp (pG m s)
 constructor
 .erw[mJ,bV,dep,bo]
  symm
 .let a:=Vs m s.1 O.gv.gY
  let b:=Kl s.2 ⋯;let c:=Kl (pG m s) ⋯;erw[mJ,LJT.ig,LJT.gf] at a b c ⊢;rw[a,b,c];rfl
theorem Km xs ys:dep (jV xs ys)<=3/\LJT.ig (jV xs ys)=θ:=by
 unfold jV uS
 constructor
 .cases xs.filter (λn=>μ (n∉ys))<;>cases ys.filter (λn=>μ (n∉xs))<;>simp[dep,bo]
 .cases xs.filter (λn=>μ (n∉ys))<;>cases ys.filter (λn=>μ (n∉xs))<;>rfl
theorem Turn.len{m ps c s s' d k}(h:Turn m ps s c s' d)(b:↑s.1=k)(f:∀t∈ps,↑t.1=k):↑s'.1=k/\∀t∈c,↑t.1=k:=by
 cases h with
 |back=>exact⟨f _ (by simp),λt a=>f t (q0h _ a)⟩
 |price _ _ n p g i=>exact⟨by unfold ew;rw[q0o];calc b,λt a=>(ZT.mp a).elim (f t) λe=>by rw[ZV.mp e];calc b⟩
 |free _ _ n g h=>exact⟨b,λt a=>(ZT.mp a).elim (f t) λe=>by rw[ZV.mp e];calc b⟩
 |close _ _ n g h=>calc⟨b,λt a=>(ZT.mp a).elim (f t) λe=>by rw[ZV.mp e];calc b⟩
def CI(c_Keeper:O):WS:=(ar (eo (mi (ag (dC (.int 3)) af)) (bZ 2) (ar (aK 3 (au 3 Ax (ag (au 1 Ar (ag (aa 1) af)) (ag (dC (.int 8)) (ag (dC (.int 14)) af))))) (ar (aK 4 (au 3 (pK 3) (ag (aa 1) (ag (aa 3) (ag (dC (.int 3)) af))))) (ar (aU (cb (dT (au 2 xB (ag (ax ι 1 (Cw c_Keeper) (ag (aa 4) af)) (ag (nv (dT (au 1 AI (ag (aa 4) af))) (dC .non) (bw (ag (dC (.str "web")) af))) af))))) (aB (dC (.bl ι))) bY) (ar (aK 5 (az c_Keeper 2 (xi c_Keeper) (ag (aa 3) af))) (ar (aK 6 (az c_Keeper 2 (xi c_Keeper) (ag (aa 3) af))) (ar (aK 7 (bw (ag (bp (ag (aa 3) (ag (bw af) af))) af))) (ar (eo (mi (ag (d2 (au 2 fA (ag (aa 1) (ag (dC (.int 6)) af))) (dN (ag (d2 (d2 (aa 3) (dC (.int 1)) aS) (bp af) iV) af) gH) f9) af)) (bZ 8) (ar (iT (au 2 xn (ag (aa 1) (ag (aa 7) af))) (lq 2 (g4 (bZ 7) (g4 (bZ 9) kF)))) (ar (f7 (ax ι 2 (rY c_Keeper) (ag (aa 5) (ag (aa 9) af)))) (f7 (ax ι 2 (rY c_Keeper) (ag (aa 6) (ag (aa 9) af))))))) (ar (aK 10 (ax ι 2 (r_ c_Keeper) (ag (aa 5) (ag (au 2 fA (ag (aa 1) (ag (dC (.int 4)) af))) af)))) (ar (aU (ju (cb (dT (ax ι 2 (CD c_Keeper) (ag (aa 7) (ag (aa 5) af))))) (cb (dT (au 2 xB (ag (ax ι 2 (r_ c_Keeper) (ag (aa 5) (ag (dC (.int 3)) af))) (ag (aa 10) af)))))) (aB (dC (.bl ι))) bY) (eo (mi (ag (d2 (dC (.int 2)) (dN (ag (d2 (d2 (aa 3) (dC (.int 1)) aS) (bp af) iV) af) gH) f9) af)) (bZ 8) (ar (iT (au 2 xn (ag (aa 1) (ag (aa 7) af))) (lq 2 (g4 (bZ 7) (g4 (bZ 9) kF)))) (ar (aU (cb (dT (au 2 xB (ag (ax ι 2 (rY c_Keeper) (ag (aa 5) (ag (aa 9) af))) (ag (ax ι 2 (rY c_Keeper) (ag (aa 6) (ag (aa 9) af))) af))))) (aB (dC (.bl ι))) bY) (ar (aK 11 (au 2 fA (ag (aa 1) (ag (dC (.int 4)) af)))) (ar (aU (dT (d2 (ax ι 2 (si c_Keeper) (ag (aa 5) (ag (bp (ag (dC (.str "back")) af)) af))) (ax ι 2 (si c_Keeper) (ag (aa 6) (ag (bp (ag (dC (.str "back")) af)) af))) iV)) (aB (dC (.bl ι))) bY) (ar (aU (cb (dT (au 2 xB (ag (ax ι 2 (r_ c_Keeper) (ag (aa 5) (ag (aa 11) af))) (ag (ax ι 2 (r_ c_Keeper) (ag (aa 6) (ag (d2 (aa 11) (dC (.int 1)) cx) af))) af))))) (aB (dC (.bl ι))) bY) (aK 7 (dr (aa 7) dQ (hV (dN (ag (dC (.int 1)) (ag (d2 (dN (ag (aa 7) af) bT) (dC (.int 1)) (oI λi j=>.int (i-j))) af)) wt)))))))))))))))))))) (aB (dC (.bl θ))))
theorem Vv{m}{ws:-(Int×Int×Int)}(h:fG m ws):Bd 30 3 (aN m ws):=by
 calc cQ.mpr ⟨by show 2<=30;symm,λd a=>?_⟩;erw[OQ,ZL,q05] at a;rcases a with rfl|rfl
 .exact⟨q0d _,q0d _⟩
 .refine cQ.mpr ⟨by rw[qa];calc h.gY,λd a=>?_⟩
  let⟨y,_,rfl⟩:=ZI.mp a;calc cQ.mpr ⟨by show 3<=30;symm,λd a=>?_⟩;erw[OQ,ZL,q05] at a;rcases a with rfl|rfl|rfl<;>calc⟨q0d _,q0d _⟩
theorem Vw(ds:-D) k (h:k<=↑ds):cutD ds η (ζ (k:Int))=ds.take k:=by
 unfold cutD;rw[HT.m9,HT.vF,q1L,q2C,q4g h]
theorem Vx(C:ξ)(ns:-Int)(hn:ns.length<=63):CI C KL ⟨η::ζ (.o 0)::Gg 10 η,[ζ (kf ns 0 0)]⟩:=by
 unfold CI;calc aJ λN hN=>?_;rfl';calc⟨by decide,?_⟩;refine kK (λi J=>∃o,bx (10000*i) o/\J=⟨η::ζ (.o 0)::Gg 10 η,[ζ o]⟩) ⟨kf ns 0 0,⟨ns,0,0,rfl,hn,⋯,⋯⟩,rfl⟩ ?_ ?_
 .ext j d J L hj y hL;let⟨o,P,rfl⟩:11:=y
  let⟨Kn,rfl⟩:=mj hj;let Kn:j<3:=Kn;calc⟨trivial,?_⟩;erw[bZ,q1I,q4V,q0l,q0m];calc aJ λR e=>?_;rfl';calc⟨10000*j,o,rfl,rfl,P,λo1 P1=>?_⟩;rfl';calc⟨10000*j,8,14,o1,rfl,rfl,P1,⋯,⋯,⋯,⋯,⋯,λm k o2 W _ _ P2=>?_⟩;rfl';subst e;calc aJ λR e=>?_;rfl';refine⟨10000*j+300,3,30,3,aN m k,o2,rfl,rfl,P2,⋯,⋯,⋯,Vv W,⋯,⋯,⋯,λF o3 _ P3=>?_⟩
  rfl';subst e;refine aJ λR e=>gc λAy Bn hA S=>?_
  let go:Bn ⟨[η,ζ (.o 0),ζ (.p (.int (0+(j:Int)))),ζ (.p (aN m k)),ζ (.p F),η,η,η,η,η,η,η],[ζ o3]⟩:=by
   subst S;show R _;subst e;let O0:bB m (k,[]):=⟨W,q3D,λn hn=>absurd hn ZL⟩;calc aJ λR e=>?_;rfl';ext a;calc⟨[(1,.ins a C [])],⟨rfl,trivial⟩,?_⟩;rfl';calc⟨a,m,k,W,rfl,rfl,λb=>?_⟩;rfl';subst e;calc aJ λR e=>?_;rfl';ext u;calc⟨[(3,.ins u C [])],⟨rfl,trivial⟩,?_⟩;rfl';calc⟨u,m,k,W,rfl,rfl,λl=>?_⟩;rfl'
   subst e;calc aJ λR e=>?_;rfl';subst e;calc aJ λR e=>oX λg' b' K2 hg CJ hK=>?_;rfl';calc⟨10000*j+300+16,6,o3,rfl,rfl,P3,⋯,⋯,by decide,λq o4 q0 q1 P4=>?_⟩;simp![0,aN,cG];calc⟨Z0 (w_ k) (by decide),?_⟩;let wl:∀b:Bool,b=aE (D.tup (k.map aV)) (.tup [])->b=ι->k≠[]:=λb e1 e2 z=>by subst z;rw[e2] at e1;simp[aE,dq] at e1
   generalize hw:aE (D.tup (k.map aV)) (.tup [])=wb at wl ⊢;let wl:=wl wb rfl;erw[gH];let⟨c,hc⟩:∃c:Int,c=if(!wb)=θ then 1 else 0:=⟨_,rfl⟩;rw[<-hc]
   let CK:(c=0\/c=1)/\(c=1->wb=ι):=by
    rw[hc];cases wb<;>simp
   let⟨r,hr⟩:∃r:Int,r=q*c:=⟨_,rfl⟩
   let qC:0<=r/\r<=6/\(0<r->wb=ι):=by
    rcases CK.1 with z|z<;>subst z
    .rw[Int.mul_zero] at hr;exact⟨⋯,⋯,λ_=>by symm⟩
    .rw[q4t] at hr;exact⟨⋯,⋯,λ_=>CK.2 rfl⟩
   rw[<-hr];calc⟨.inl ⟨⋯,⋯⟩,⋯,?_⟩;subst hg CJ hK
   refine kK (λi J=>∃o f s Z x9,bx (10000*j+400+30*i) o/\bB m s/\(∀t∈f,bB m t)/\↑s.1=k.length/\(∀t∈f,↑t.1=k.length)/\↑f<=i/\J=⟨[η,ζ (.o 0),ζ (.p (.int (0+(j:Int)))),ζ (.p (.tup [.int m,.tup (k.map aV)])),ζ (.p F),ζ (.w a),ζ (.w u),ζ (.p (.lst ((f++[s]).map (dj m)))),Z,x9,η,η],[ζ o,ζ (kO C a b m s),ζ (pO b m f),ζ (kO C u l m s),ζ (pO l m f)]⟩)
    (zI5 o4 [] (k,[]) η η ⟨P4.mono ⋯,O0,(λt ht=>absurd ht ZL),rfl,(λt ht=>absurd ht ZL),tm _,rfl⟩) ?_ ?_
   .ext i d J L2 hi y CL;let⟨o5,f,s,Z,x9,U,O,H,M,G,V,rfl⟩:56:=y
    let⟨Vy,rfl⟩:=mj hi;let Vz:(i:Int)<r:=by symm
    let CM:s.1≠[]:=λz=>wl (qC.2.2 ⋯) (by rw[z] at M;calc q1i.mp M.symm);calc⟨trivial,?_⟩;erw[bZ,q0l,q0m];calc aJ λN3 g=>?_;rfl';calc⟨10000*j+400+30*i,m,o5,s,f,O,H,CM,⋯,rfl,rfl,U,⋯,λh A ch o6 T P6=>?_⟩;let⟨X,K,rR⟩:02:=T.ok O H;let⟨CN,B⟩:01:=T.len M G;rfl';subst g;calc aJ λN3 g=>?_;rfl';calc⟨[(1,kO C a b m s),(2,pO b m f)],⟨rfl,rfl,trivial⟩,?_⟩;rfl'
    calc⟨a,b,m,s,A,f,h,ch,T,O,H,⋯,rfl,rfl,λn1 n2 h1 h2=>?_⟩;rfl';subst g;rfl';calc⟨[(3,kO C u l m s),(4,pO l m f)],⟨rfl,rfl,trivial⟩,?_⟩;rfl';calc⟨u,l,m,s,A,f,h,ch,T,O,H,⋯,rfl,rfl,λn3 n4 h3 h4=>?_⟩;rfl';refine CL _ (zI5 o6 h A _ _ ⟨P6.mono ⋯,X,K,CN,B,⋯,rfl⟩)
   .ext J ⟨o5,f,Q,Z,x9,U,O,H,M,G,V,rfl⟩
    calc⟨trivial,?_⟩;subst e;rw[kH] at U V;dsimp only;calc aJ λR e=>?_;rfl';calc⟨10000*j+600,4,o5,rfl,rfl,U.mono ⋯,⋯,⋯,by decide,λz o6 z0 z1 P6=>?_⟩;rfl';calc⟨[(1,kO C a b m Q)],⟨rfl,trivial⟩,?_⟩;rfl';calc⟨a,b,m,Q,z,O,z0,rfl,rfl,?_⟩;rfl';subst e;calc aJ λR e=>gc λAy Bn hA S=>?_;rfl';refine⟨[(1,kO C a b m Q),(2,pO b m f)],⟨rfl,rfl,trivial⟩,?_⟩
    rfl';calc⟨a,b,m,Q,f,O,⋯,rfl,rfl,?_⟩;rfl';calc⟨[(1,kO C a b m Q)],⟨rfl,trivial⟩,?_⟩;rfl';calc⟨a,b,m,Q,3,O,⋯,rfl,rfl,?_⟩;rfl';calc⟨.lst (mJ m Q),Z0 (look_same O).1 (by decide),by decide,(look_same O).2,rfl,rfl,?_⟩;rfl';subst S;rfl';subst e;refine oX λg' b' K2 hg CJ hK=>?_
    simp![0,aN,cG];calc⟨Z0 (w_ k) (by decide),?_⟩;rw[hw];erw[gH];rw[<-hc];let⟨r3,VA⟩:∃r3:Int,r3=2*c:=⟨_,rfl⟩;let VB:0<=r3/\r3<=2/\(0<r3->wb=ι):=⟨⋯,⋯,λz=>CK.2 ⋯⟩;rw[<-VA];calc⟨.inl ⟨⋯,⋯⟩,⋯,?_⟩;subst hg CJ hK
    refine kK (λi J=>∃o f s Z x9 CO,bx (10000*j+700+40*i) o/\bB m s/\(∀t∈f,bB m t)/\↑s.1=k.length/\(∀t∈f,↑t.1=k.length)/\↑f<=10+i/\J=⟨[η,ζ (.o 0),ζ (.p (.int (0+(j:Int)))),ζ (.p (.tup [.int m,.tup (k.map aV)])),ζ (.p F),ζ (.w a),ζ (.w u),ζ (.p (.lst ((f++[s]).map (dj m)))),Z,x9,ζ (.p (.lst (mJ m Q))),CO],[ζ o,ζ (kO C a b m s),ζ (pO b m f),ζ (kO C u l m s),ζ (pO l m f)]⟩)
     (zI6 o6 f Q Z x9 η ⟨P6.mono ⋯,O,H,M,G,⋯,rfl⟩) ?_ ?_
    .ext i d J L2 hi y CL;let⟨o5,f,s,Z,x9,CO,U,O,H,M,G,V,rfl⟩:66:=y
     let⟨Vy,rfl⟩:=mj hi;let Vz:(i:Int)<r3:=by symm
     let CM:s.1≠[]:=λz=>wl (VB.2.2 ⋯) (by rw[z] at M;calc q1i.mp M.symm);calc⟨trivial,?_⟩;erw[bZ,q0l,q0m];calc aJ λN3 g=>?_;rfl';calc⟨10000*j+700+40*i,m,o5,s,f,O,H,CM,⋯,rfl,rfl,U,⋯,λh A ch o6 T P6=>?_⟩;let⟨X,K,rR⟩:02:=T.ok O H;let⟨CN,B⟩:01:=T.len M G;rfl';subst g;calc aJ λN3 g=>gc λAy Bn hA S=>?_;rfl';calc⟨[(1,kO C a b m s),(2,pO b m f)],⟨rfl,rfl,trivial⟩,?_⟩;rfl'
     calc⟨a,b,m,s,A,f,h,ch,T,O,H,⋯,rfl,rfl,λn1 n2 h1 h2=>?_⟩;rfl';calc⟨[(3,kO C u l m s),(4,pO l m f)],⟨rfl,rfl,trivial⟩,?_⟩;rfl';calc⟨u,l,m,s,A,f,h,ch,T,O,H,⋯,rfl,rfl,λn3 n4 h3 h4=>?_⟩;rw[r9 O h1,r9 X h2,r9 O h3,r9 X h4];rfl';calc⟨jV _ _,Z0 (Km _ _).1 (by decide),by decide,(Km _ _).2,rfl,rfl,?_⟩;rfl';subst S;rfl';subst g
     calc aJ λN3 g=>?_;rfl';calc⟨10000*j+700+40*i+10,4,o6,rfl,rfl,P6.mono ⋯,⋯,⋯,by decide,λz o7 z0 z1 P7=>?_⟩;rfl';subst g;refine aJ λN3 g=>gc λAy Bn hA S=>?_
     let tl:∀(I:bQ)(E:-bQ),bB m I->(∀t∈E,bB m t)->↑I.1=k.length->(∀t∈E,↑t.1=k.length)->↑E<=10+(i+1)->cutD ((h++[A]).map (dj m)) η (ζ (max 1 (((↑h+1:Nat):Int)-1)))=(E++[I]).map (dj m)->Bn ⟨[η,ζ (.o 0),ζ (.p (.int (0+(j:Int)))),ζ (.p (.tup [.int m,.tup (k.map aV)])),ζ (.p F),ζ (.w a),ζ (.w u),ζ (.p (.lst ((h++[A]).map (dj m)))),ζ (.p (.int (0+(i:Int)))),ζ (.p ch),ζ (.p (.lst (mJ m Q))),ζ (.p (.int z))],[ζ o7,ζ (kO C a b m I),ζ (pO b m E),ζ (kO C u l m I),ζ (pO l m E)]⟩:=by
      ext I E O2 VC VD CP VF ce;subst S;show N3 _;subst g;calc aJ λN3 g=>gc λAy Bn hA S=>?_;rfl';calc⟨[(1,kO C a b m I)],⟨rfl,trivial⟩,?_⟩;rfl';calc⟨a,b,m,I,z,O2,z0,rfl,rfl,?_⟩;rfl';calc⟨[(3,kO C u l m I)],⟨rfl,trivial⟩,?_⟩;rfl';calc⟨u,l,m,I,z+1,O2,⋯,rfl,rfl,?_⟩;rfl';refine⟨.lst (mJ m I),Z0 (look_same O2).1 (by decide),by decide,(look_same O2).2,rfl,rfl,?_⟩
      rfl';subst S;rfl';subst g;rfl';rw[ce];exact CL _ (zI6 o7 E I _ _ _ ⟨P7.mono ⋯,O2,VC,VD,CP,VF,rfl⟩)
     rfl';rcases q4n h with e0|⟨Y,t,e0⟩
     .subst e0
      calc⟨[(1,kO C a b m A),(2,pO b m [])],⟨rfl,rfl,trivial⟩,?_⟩;rfl';calc⟨a,b,m,A,[],_,X,by decide,rfl,rfl,.inl ⟨9,0,.bk rfl,?_⟩⟩;rfl';calc⟨[(3,kO C u l m A),(4,pO l m [])],⟨rfl,rfl,trivial⟩,?_⟩;rfl';calc⟨u,l,m,A,[],_,X,by decide,rfl,rfl,.inl ⟨9,0,.bk rfl,?_⟩⟩;rfl';calc⟨by show 1<=60;decide,?_⟩;rw[e8,Zx (by simp)];exact tl A [] X K CN B (by simp) rfl
     .rw[q4o] at e0
      subst e0;let Ot:=K t (by simp);calc⟨[(1,kO C a b m A),(2,pO b m (Y++[t]))],⟨rfl,rfl,trivial⟩,?_⟩;rfl';calc⟨a,b,m,A,Y++[t],_,X,⋯,rfl,rfl,.inr ⟨rfl,Y,t,rfl,Ot,?_⟩⟩;rfl';calc⟨[(3,kO C u l m A),(4,pO l m (Y++[t]))],⟨rfl,rfl,trivial⟩,?_⟩;rfl';calc⟨u,l,m,A,Y++[t],_,X,⋯,rfl,rfl,.inr ⟨rfl,Y,t,rfl,Ot,?_⟩⟩;rfl';refine tl t Y Ot (λx hx=>K x (q0h _ hx)) (B t (by simp)) (λx hx=>B x (q0h _ hx)) (by simp at rR;symm) ?_
      let e1:max 1 (((↑(Y++[t])+1:Nat):Int)-1)=(↑Y+1:Nat):=by
       rw[My,Z8];symm
      rw[e1,Vw _ _ (by simp),ZM,q6i (by simp)]
    .ext J lH;let⟨o5,f,s,Z,x9,CO,U,O,H,M,G,V,rfl⟩:66:=lH
     calc⟨trivial,?_⟩;rw[kH] at U;exact hL _ ⟨o5,U.mono ⋯,rfl⟩
  calc⟨[],trivial,?_⟩;rfl';calc⟨F,rfl,rfl,?_⟩;rfl';refine⟨F,rfl,rfl,?_⟩
  cases q:d5 F with
  |true =>
   exact⟨.non,by decide,by decide,rfl,rfl,rfl,go⟩
  |false =>
   exact⟨.lst [.str "web"],by decide,by decide,rfl,rfl,rfl,go⟩
 .ext J ⟨o,P,rfl⟩
  calc⟨trivial,?_⟩;subst hN;rfl'
end LJ
namespace LJ
open PySem L2 PySem.Spec PySem.W PyProof.Rows
variable[zt:aM]
end LJ
namespace HT
open PySem PySem.Spec PyProof.Rows
section
open PySem.SeqAt
open PySem.AutoSeq1 (wpAny_loadPart')
open PySem.MeetsSeq PySem.MeetsSeq2 PySem.MeetsSeq3
end
section
variable{prog:ψ}{w:ω}{A:Β}{E:br}{s:ο}
end
end HT
namespace L2
open PySem PySem.Spec PyProof.Rows PySem.W
section
variable{X:Cx}{pins:aF}{σ:St}{H:Hp}{s:ο}{E:br}{l q I S:O}{P:-V->Hp->Prop}{xs:-V}{d:ν}{R:Result->ο->Prop}
end
variable[zt:aM]
section
variable{X:Cx}{params:Arguments}{body:υ}{scope:Γ}{fP:Δ}{x:Z}{Nb:-Z}{cp:-(Option Nat)}{fb:WE}{T:O}
variable{e:υ}{f:WE}{p1 q1 m8 VG:Δ}
end
end L2
namespace L2
open PySem PySem.Spec PyProof.Rows
meta def VH:υ->-Z
 |.Name x _=>[x]
 |.Tuple a _ _=>a.filterMap fun
  |.Name x _=>ζ x
  |_=>η
 |_=>[]
meta def dz(N:-Z)(cp:-(Option Nat))(a:υ):-Z:=VH a++cp.filterMap λc=>c.bind λi=>N[i]?
variable[zt:aM]
section
variable{X:Cx}{tg iter elt:υ}{ifs:-υ}{scope:Γ}{pos:Δ}{w:WI}{g:WG}{t:WT}{f:WE}{cp:-(Option Nat)}
theorem VI(a:JI X tg iter (jQ w))(b:∀d,(dz X.N cp tg).Nodup->JG (cZ X scope (dz X.N cp tg) d) tg (jP g))(c:∀d,JF (cZ X scope (dz X.N cp tg) d) ifs (dm t))(he:∀d,JE (cZ X scope (dz X.N cp tg) d) elt (tD f))(e:‹X.calm=θ›)(hn:autoParam (μ (dz X.N cp tg).Nodup=θ) qz0._auto_1)
  (h:‹scope.kind=.function›) (i:autoParam (k6 X.N X.env.scope scope (dz X.N cp tg) cp=θ) qz0._auto_1) (j:‹∀x,foldedSetIterable iter X.env x=pure x›) :
  JE X (.ListComp elt [⟨tg,iter,ifs,0⟩] scope pos) (tD (gC w cp g t f)):=tX cp _ e a (λd=>b d (q0w hn)) c he h i j
theorem VJ(a:JI X tg iter (jQ w))(b:∀d,(dz X.N cp tg).Nodup->JG (cZ X scope (dz X.N cp tg) d) tg (jP g))(c:∀d,JF (cZ X scope (dz X.N cp tg) d) ifs (dm t))(he:∀d,JE (cZ X scope (dz X.N cp tg) d) elt (tD f))(e:‹X.calm=θ›)(hn:autoParam (μ (dz X.N cp tg).Nodup=θ) qz0._auto_1)
  (h:‹scope.kind=.function›) (i:autoParam (k6 X.N X.env.scope scope (dz X.N cp tg) cp=θ) qz0._auto_1) (j:‹∀x,foldedSetIterable iter X.env x=pure x›) :
  JE X (.ListComp elt [⟨tg,iter,ifs,0⟩] scope pos) (tD (nA w cp g t f)):=Ha cp _ e a (λd=>b d (q0w hn)) c he h i j
theorem VL[cj]{i x a b}(j:X.N.Nodup)(c:JI X tg iter (jQ w))(k:∀d,(dz X.N cp tg).Nodup->JG (cZ X scope (dz X.N cp tg) d) tg (jP g))(l:∀d,JF (cZ X scope (dz X.N cp tg) d) ifs (dm t))(he:∀d,JE (cZ X scope (dz X.N cp tg) d) elt (tD f))(m:‹X.N[i]?=ζ x›)(n:autoParam (Loc X.env.scope x) qz8._auto_1)(o:‹X.calm=θ›)(hn:autoParam (μ (dz X.N cp tg).Nodup=θ) qz0._auto_1)
  (p:‹scope.kind=.function›) (q:autoParam (k6 X.N X.env.scope scope (dz X.N cp tg) cp=θ) qz0._auto_1) (r:‹∀x,foldedSetIterable iter X.env x=pure x›)
  (e:‹swapsWith (.ListComp elt [⟨tg,iter,ifs,0⟩] scope pos) (ζ (.Name x a)) b.line X.env=pure θ›)
  (h:autoParam (fK X x) qz1._auto_1) :
  JS X (.Assign [.Name x a] (.ListComp elt [⟨tg,iter,ifs,0⟩] scope pos) b) (dc (aK i (gC w cp g t f))):=Qp cp _ j m n o c (λd=>k d (q0w hn)) l he p q r e h
end
end L2
namespace LJ
open PySem L2 PySem.Spec PySem.W PyProof.Rows
section
variable[zt:aM]{X:Cx}{Z:Ev}{x:π}{ps:-π}{G:GD}{e:υ}{es:-υ}{fa:WA}{p pos:Δ}{j k n:Nat}
end
section
variable[zt:aM]
end
end LJ
namespace LJ
open PySem L2
meta def top(i:Nat):χ:=PySem.Challenge.pw_lotjoin_k61_changes_refused.main.body.getD i (.Pass ⟨0,0,0,0⟩)
section
variable[zt:aM]{Z:Ev}
set_option hygiene false
open Lean in
local macro_rules | `(tactic| ac_rfl) => do
  let b:String->MacroM Term:=fun s=>match s with
    |"?"=>`(?_)
    |"_"=>`(_)
    |"%a"=>`(by assumption)
    |"%b"=>`(by rfl)
    |"%c"=>`(λ_ _=>rfl)
    |"%d"=>`(λd nd=>?_)
    |"%e"=>`(λd=>?_)
    |"%f"=>`(by trivial)
    |s=>if s.front=='.' then `(.$(mkIdent (s.drop 1).toName)) else if s.front=='=' then do
      let f←`(f (op:=.$(mkIdent (s.drop 1).toName)))
      pure ⟨f.raw[1][0]⟩
     else pure (mkIdent s.toName)
  let g:=fun (c:String)(b:String->MacroM Term)(s:String)=>do
    let l←(s.splitOn c).mapM b
    pure (if l.length==1 then l.head! else Syntax.mkApp l.head! l.tail.toArray)
  let b:=g " " (g "/" (g "," b))
  let a←("JE _ .Name/_/_ _;dv _|BO %a#JE _ .Constant/_/_/_ _;bh|jr|j9|gZ#JA _ _ _;aP|aD ? ?|a_ ? ?|c_ ? ?|cM ? ?|fN ? ?|j_ ? ?|cL ? ?#JE _ .Call/_/_/_/_ _;bP %a hr ?|Ui %a hr ?|g0 kJ %b B.len q0B ?|g0 QQ/rfl %b B.sum Q0 ?|g0 QR/rfl %b B.all P9 ?|g0 QS/rfl %b B.min Q1 ?|g0 Hw/rfl %b B.max HJ ?|g0 z9 %b B.sorted uw ?|Q2 Q5 %b B.sorted uw ?|tP QP %b B.tuple rq ?|tP BS %b B.int rp ?|iJ z_ %b B.isinstance %b B.int rp ?|iJ uo %b B.isinstance %b B.bool tJ ?|iJ uq %b B.isinstance %b B.tuple rq ?|iJ Aa %b B.isinstance %b B.list qh ?|Hx rfl %b B.list qh %b B.range Ah ?|RW rfl hu %b B.len q0B %b B.set P8 ?|JE.weak rg/q0t/q3N/q3O/yZ/?/? Hz|JE.weak rg/q0t/PySem.F.slot_list_extend/PySem.F.type_list_extend/OL/?/? QT|JE.weak rg/q0t/q2Q/q2R/OM/?/? QU#JE _ .Subscript/_/_/_ _;dM dP ? ? %c|oW ? ? ?#JE _ .BinOp/_/_/_/_ _;dg =Add jf ? ?|dg =Sub mm ? ?|dg =Mult z5 ? ?|dg =Mod z6 ? ?|dg =FloorDiv RM ? ?|dg =Pow rK ? ?|Q6 ? ?#JE _ .Compare/_/_/_/_ _;jN =Eq iI/hu ? ? %b|jN =Lt Hj/hu ? ? %b|jN =Gt ug ? ? %b|jN =In wj/hu ? ? %b|QM Hk Hk ? ? ?#JE _ _ _;gu ?|vY ?|iG ?|tU ? ?|tT ?|Qk ?|uj ?|zD ? ? ?|S_|VI ? %d %e %e|VJ ? %d %e %e#JS _ _ _;U0 %a R f6/mS/bj|dh ?|dY ? ? ?|VL nd ? %d %e %e|fq nd rfl %f ?|ny ?|Td hu ? ? ?|JS.weak pT/?/q9,?,?,set_list ur|zE ? ?|qo q1m rfl ? ? ?|rN#cV _ _ _;bR ?|bM ? ?|eC#JT _ _ _;dW =Eq iI/hu ? ? %b|dW =NotEq kI/hu ? ? %b|dW =Lt Hj/hu ? ? %b|dW =Gt ug ? ? %b|dW =GtE QJ ? ? %b|dW =In wj/hu ? ? %b|dW =NotIn wk/hu ? ? %b|Tc hu ? ?|ma ?|JW.jt tR/?/?|JW.jt rB/?/?|iH ?#JW _ _ _;tR ? ?|v3 ?|rB ? ?|zC ?#;qw|nF ?|wa %b B.range ?|QH %b B.range ?|QG %b B.enumerate ?|oO ?|iS nd rfl %f|v7 rfl ?|v5|ql ? ?|v8|zI ?".splitOn "#").mapM fun s=>match s.splitOn ";" with
    |[h,r]=>do
      let a←(r.splitOn "|").mapM fun s=>do `(tacticSeq|refine $(←b s))
      let a:=a.toArray
      let r←`(tactic|first $[|$a]*)
      if h=="" then `(tacticSeq|$r:tactic) else `(tacticSeq|show $(←b h);$r:tactic)
    |_=>`(tacticSeq|skip)
  let a:=a.toArray
  `(tactic|repeat' first $[|$a]*)
meta abbrev Ko:χ:=top 19
abbrev Kq(Z:Ev):Prop:=Fx Z 1 "is_whole" ["thing"] 1 wK
theorem VM(D:Dx Z "is_whole" Ko)(B:BT Z.mg):Kq Z:=d9 (N:=["thing"]) D kl λhr nd hu=>⟨AA,(by ac_rfl),Ir⟩
meta abbrev Kr:χ:=top 20
abbrev oy(Z:Ev):Prop:=Fx Z 2 "is_within" ["thing", "least", "most"] 3 kN
theorem VN(D:Dx Z "is_within" Kr)(B:BT Z.mg)(Zj:Kq Z):oy Z:=d9 (N:=["thing", "least", "most"]) D mI λhr nd hu=>⟨AB,(by ac_rfl),Iu⟩
meta abbrev Ks:χ:=top 21
abbrev CQ(Z:Ev):Prop:=Fx Z 1 "is_tuple_of" ["thing", "size"] 2 wL
theorem VO(D:Dx Z "is_tuple_of" Ks)(B:BT Z.mg):CQ Z:=d9 (N:=["thing", "size"]) D gG λhr nd hu=>⟨AD,(by ac_rfl),RX⟩
meta abbrev Kt:χ:=top 22
abbrev Ku(Z:Ev):Prop:=Fx Z 3 "are_ends" ["many", "one", "other"] 3 AE
theorem VP(D:Dx Z "are_ends" Kt)(B:BT Z.mg)(lX:oy Z):Ku Z:=d9 (N:=["many", "one", "other"]) D mI λhr nd hu=>⟨AF,(by ac_rfl),RZ⟩
meta abbrev Kv:χ:=top 23
abbrev Kw(Z:Ev):Prop:=Fx Z 4 "is_way" ["many", "thing"] 2 AG
theorem VQ(D:Dx Z "is_way" Kv)(B:BT Z.mg)(xC:Ct Z "MOST_PRICE" 1000000000)(VR:CQ Z)(Zk:Ku Z)(lX:oy Z):Kw Z:=d9 (N:=["many", "thing"]) D gG λhr nd hu=>⟨Iv,(by ac_rfl),R0⟩
meta abbrev Ky:χ:=top 24
abbrev Kz(Z:Ev):Prop:=Fx Z 5 "are_ways" ["many", "thing"] 2 AH
theorem VS(D:Dx Z "are_ways" Ky)(B:BT Z.mg)(Zl:Ct Z "MOST_WAYS" 30)(Zm:Kw Z):Kz Z:=d9 (N:=["many", "thing"]) D gG λhr nd hu=>⟨Iy,(by ac_rfl),R1⟩
meta abbrev KC:χ:=top 25
abbrev CS(Z:Ev):Prop:=Fx Z 6 "is_web" ["thing"] 1 uD
theorem VT(D:Dx Z "is_web" KC)(B:BT Z.mg)(Zn:Ct Z "MOST_HOUSES" 12)(VR:CQ Z)(lX:oy Z)(Zo:Kz Z):CS Z:=d9 (N:=["thing"]) D kl λhr nd hu=>⟨Iz,(by ac_rfl),R3⟩
meta abbrev CT:χ:=top 26
abbrev xD(Z:Ev):Prop:=Fx Z 7 "need_web" ["web"] 1 uK
theorem VU(D:Dx Z "need_web" CT)(B:BT Z.mg)(VV:CS Z):xD Z:=d9 (N:=["web"]) D kl λhr nd hu=>⟨Cy,(by ac_rfl),Vk⟩
meta abbrev KD:χ:=top 27
abbrev KG(Z:Ev):Prop:=Fx Z 1 "rank_of" ["way"] 1 Bh
theorem VW(D:Dx Z "rank_of" KD)(B:BT Z.mg):KG Z:=d9 (N:=["way"]) D kl λhr nd hu=>⟨Bi,(by ac_rfl),SQ⟩
meta abbrev KH:χ:=top 28
abbrev KI(Z:Ev):Prop:=Fx Z 11 "order_of" ["web"] 1 Bj
theorem VX{T:O}(D:xj Z "order_of" KH T ⟨72,40,72,76⟩ ((("order_of" : π)++".<locals>.")++"<lambda>"))(B:BT Z.mg)(xE:xD Z)(VY:KG Z):KI Z:=Um (N:=["web", "ways"]) D kl λLD hc hr nd hu=>⟨IW,(bM (ny (bP xE hr (aD (dv 0) aP))) (bM (fq (i:=1) nd Y (by trivial) (dM dP (dv 0) bh (λ_ _=>Y))) (bR (dh (SK (jT.mk (x:="number") (Nb:=["ways"]) (cp:=[ζ 1]) ⟨LD.env hc,LD.ng,LD.blt⟩ LD.tbl Y Y (by first|rfl|kernel_rfl) Y Y (λ_ _ _ _ _=>Y) ⟨1,hr.mono (by decide),λd hr=>(bP VY hr (cM (dM dP (dv 1) (dv 0) (λ_ _=>Y)) aP))⟩) Y (by rfl) B.sorted uw (by rfl) B.range Ah (c_ (g0 kJ (by rfl) B.len q0B (aD (dv 1) aP)) aP)))))),SV⟩
meta abbrev KJ:χ:=top 30
abbrev KN(Z:Ev):Prop:=Fx Z 8 "need_ways" ["web", "ways"] 2 Bo
theorem VZ(D:Dx Z "need_ways" KJ)(B:BT Z.mg)(xE:xD Z)(lX:oy Z):KN Z:=d9 (N:=["web", "ways", "last", "seen", "place", "number"]) D gG λhr nd hu=>⟨Ja,(by ac_rfl),Tg⟩
meta abbrev KO:χ:=top 31
abbrev CU(Z:Ev):Prop:=Fx Z 1 "joined" ["firsts", "one", "other"] 3 uF
theorem V0(D:Dx Z "joined" KO)(B:BT Z.mg):CU Z:=d9 (N:=["firsts", "one", "other", "gone", "kept"]) D mI λhr nd hu=>⟨AO,(by ac_rfl),R8⟩
meta abbrev KP:χ:=top 32
abbrev KQ(Z:Ev):Prop:=Fx Z 2 "firsts_of" ["web", "ways"] 2 AR
theorem V6(D:Dx Z "firsts_of" KP)(B:BT Z.mg)(V7:CU Z):KQ Z:=d9 (N:=["web", "ways", "firsts", "number", "way"]) D gG λhr nd hu=>⟨IG,(by ac_rfl),R9⟩
meta abbrev KR:χ:=top 33
abbrev KU(Z:Ev):Prop:=Fx Z 9 "weight_of" ["web", "ways"] 2 Bq
theorem V8(D:Dx Z "weight_of" KR)(B:BT Z.mg)(Zp:KN Z):KU Z:=d9 (N:=["web", "ways"]) D gG λhr nd hu=>⟨Jb,(by ac_rfl),Th⟩
meta abbrev KW:χ:=top 35
abbrev KY(Z:Ev):Prop:=Fx Z 12 "forest_of" ["web"] 1 Bk
theorem V9(D:Dx Z "forest_of" KW)(B:BT Z.mg)(Zq:KI Z)(Zr:KQ Z)(V7:CU Z):KY Z:=d9 (N:=["web", "order", "forest", "firsts", "number", "way"]) D kl λhr nd hu=>⟨Bl,(by ac_rfl),SX⟩
meta abbrev KZ:χ:=top 37
abbrev K0(Z:Ev):Prop:=Fx Z 1 "ways_but" ["web", "closed"] 2 Bx
theorem V_(D:Dx Z "ways_but" KZ)(B:BT Z.mg):K0 Z:=d9 (N:=["web", "closed"]) D gG λhr nd hu=>⟨By,(by ac_rfl),TV⟩
meta abbrev K4:χ:=top 38
abbrev K6(Z:Ev):Prop:=Fx Z 1 "web_of" ["web", "numbers"] 2 Bz
theorem Wa(D:Dx Z "web_of" K4)(B:BT Z.mg):K6 Z:=d9 (N:=["web", "numbers"]) D gG λhr nd hu=>⟨BA,(by ac_rfl),TX⟩
meta abbrev K7:χ:=top 39
abbrev CV(Z:Ev):Prop:=Fx Z 1 "priced" ["web", "number", "price"] 3 xg
theorem Wb(D:Dx Z "priced" K7)(B:BT Z.mg):CV Z:=d9 (N:=["web", "number", "price", "way"]) D mI λhr nd hu=>⟨BB,(by ac_rfl),TY⟩
meta abbrev K8:χ:=top 40
abbrev K9(Z:Ev):Prop:=Fx Z 1 "first_missing" ["numbers", "others"] 2 xh
theorem Wc(D:Dx Z "first_missing" K8)(B:BT Z.mg):K9 Z:=d9 (N:=["numbers", "others", "missing"]) D gG λhr nd hu=>⟨BC,(by ac_rfl),TZ⟩
meta abbrev K_:χ:=top 41
abbrev La(Z:Ev):Prop:=Fx Z 2 "exchange_of" ["ahead", "behind"] 2 BE
theorem Wd(D:Dx Z "exchange_of" K_)(B:BT Z.mg)(Zs:K9 Z):La Z:=d9 (N:=["ahead", "behind"]) D gG λhr nd hu=>⟨BF,(by ac_rfl),T1⟩
meta abbrev CW:χ:=inClass (top 42) 0
abbrev Lb(Z:Ev)(c_Keeper:O):Prop:=Fc Z c_Keeper 8 "Keeper" ["self", "web"] 2 (xi c_Keeper)
theorem We{c_Keeper:O}(D:Dc Z c_Keeper "Keeper" "Keeper.__init__" CW)(B:BT Z.mg)(ae:Kx Z.K c_Keeper ["town", "shut", "past"])(xE:xD Z):Lb Z c_Keeper:=U4 (N:=["self", "web"]) D pI λhr nd hu=>⟨Jl c_Keeper,(bM (ny (bP xE hr (aD (dv 1) aP))) (bM (pD ae.c (ae.at "town") (dv 0) (dv 1)) (bM (pD ae.c (ae.at "shut") (dv 0) (gu aP)) (bR (pD ae.c (ae.at "past") (dv 0) (vY aP)))))),T2 c_Keeper⟩
meta abbrev Lc:χ:=inClass (top 42) 1
abbrev Ld(Z:Ev)(c_Keeper:O):Prop:=Fk Z c_Keeper 1 "web" ["self"] 1 (BG c_Keeper)
theorem Wf{c_Keeper:O}(D:Dm Z c_Keeper "web" "Keeper.web" Lc)(B:BT Z.mg)(ae:Kx Z.K c_Keeper ["town", "shut", "past"]):Ld Z c_Keeper:=lU (N:=["self"]) D sd λhr nd hu=>⟨Jm c_Keeper,(bR (dh (eu ae.c (ae.at "town") (dv 0)))),T3 c_Keeper⟩
meta abbrev Le:χ:=inClass (top 42) 2
abbrev Lf(Z:Ev)(c_Keeper:O):Prop:=Fk Z c_Keeper 1 "closed" ["self"] 1 (BH c_Keeper)
theorem Wg{c_Keeper:O}(D:Dm Z c_Keeper "closed" "Keeper.closed" Le)(B:BT Z.mg)(ae:Kx Z.K c_Keeper ["town", "shut", "past"]):Lf Z c_Keeper:=lU (N:=["self"]) D sd λhr nd hu=>⟨Jn c_Keeper,(bR (dh (Q3 Q4 (by rfl) B.list qh (cL (eu ae.c (ae.at "shut") (dv 0)) aP)))),T5 c_Keeper⟩
meta abbrev Lg:χ:=inClass (top 42) 3
abbrev xF(Z:Ev)(c_Keeper:O):Prop:=Fk Z c_Keeper 13 "forest" ["self"] 1 (rX c_Keeper)
theorem Wh{c_Keeper:O}(D:Dm Z c_Keeper "forest" "Keeper.forest" Lg)(B:BT Z.mg)(ae:Kx Z.K c_Keeper ["town", "shut", "past"])(Wi:K0 Z)(Wj:KY Z)(Wk:K6 Z):xF Z c_Keeper:=lU (N:=["self", "numbers"]) D sd λhr nd hu=>⟨Jo c_Keeper,(bM (fq (i:=1) nd Y (by trivial) (bP Wi hr (cL (eu ae.c (ae.at "town") (dv 0)) (cL (eu ae.c (ae.at "shut") (dv 0)) aP)))) (bR (dh (Ha [η,ζ 1] ["place", "numbers"] Y (oO (bP Wj hr (c_ (bP Wk hr (cL (eu ae.c (ae.at "town") (dv 0)) (aD (dv 1) aP))) aP))) (λd=>(iS (i:=0) (show(["place", "numbers"]:-π).Nodup by decide +kernel) Y (by trivial))) (λd=>v8) (λd=>(dM dP (dv 1) (dv 0) (λ_ _=>Y))))))),T6 c_Keeper⟩
meta abbrev Lh:χ:=inClass (top 42) 4
abbrev Li(Z:Ev)(c_Keeper:O):Prop:=Fk Z c_Keeper 14 "weight" ["self"] 1 (BJ c_Keeper)
theorem Wl{c_Keeper:O}(D:Dm Z c_Keeper "weight" "Keeper.weight" Lh)(B:BT Z.mg)(ae:Kx Z.K c_Keeper ["town", "shut", "past"])(Wm:KU Z)(bz:xF Z c_Keeper):Li Z c_Keeper:=lU (N:=["self"]) D sd λhr nd hu=>⟨Jp c_Keeper,(bR (dh (bP Wm hr (cL (eu ae.c (ae.at "town") (dv 0)) (c_ (pH ι ae.c bz hr (dv 0)) aP))))),T7 c_Keeper⟩
meta abbrev CY:χ:=inClass (top 42) 9
abbrev xG(Z:Ev)(c_Keeper:O):Prop:=Fk Z c_Keeper 3 "need_way" ["self", "number"] 2 (uT c_Keeper)
theorem Wn{c_Keeper:O}(D:Dm Z c_Keeper "need_way" "Keeper.need_way" CY)(B:BT Z.mg)(ae:Kx Z.K c_Keeper ["town", "shut", "past"])(lX:oy Z):xG Z c_Keeper:=lU (N:=["self", "number"]) D pI λhr nd hu=>⟨Jq c_Keeper,(bR (dY (ma (iH (bP lX hr (aD (dv 1) (a_ bh (cL (dg mm (g0 kJ (by rfl) B.len q0B (cM (dM dP (eu ae.c (ae.at "town") (dv 0)) bh (λ_ _=>Y)) aP)) bh) aP)))))) (bR rN) eC)),T8 c_Keeper⟩
meta abbrev Lj:χ:=inClass (top 42) 11
abbrev xH(Z:Ev)(c_Keeper:O):Prop:=Fk Z c_Keeper 14 "set_to" ["self", "web", "shut"] 3 (uU c_Keeper)
theorem Wo{c_Keeper:O}(D:Dm Z c_Keeper "set_to" "Keeper.set_to" Lj)(B:BT Z.mg)(ae:Kx Z.K c_Keeper ["town", "shut", "past"])(bz:xF Z c_Keeper)(Wq:La Z):xH Z c_Keeper:=lU (N:=["self", "web", "shut", "ahead"]) D xt λhr nd hu=>⟨Jr c_Keeper,(bM (fq (i:=3) nd Y (by trivial) (pH ι ae.c bz hr (dv 0))) (bM (pD ae.c (ae.at "town") (dv 0) (dv 1)) (bM (pD ae.c (ae.at "shut") (dv 0) (dv 2)) (bR (dh (bP Wq hr (aD (dv 3) (c_ (pH ι ae.c bz hr (dv 0)) aP)))))))),T9 c_Keeper⟩
meta abbrev Lk:χ:=inClass (top 42) 10
abbrev qP(Z:Ev)(c_Keeper:O):Prop:=Fk Z c_Keeper 15 "changed" ["self", "web", "shut"] 3 (pE c_Keeper)
theorem Wr{c_Keeper:O}(D:Dm Z c_Keeper "changed" "Keeper.changed" Lk)(B:BT Z.mg)(ae:Kx Z.K c_Keeper ["town", "shut", "past"])(bJ:xH Z c_Keeper):qP Z c_Keeper:=lU (N:=["self", "web", "shut"]) D xt λhr nd hu=>⟨Js c_Keeper,(bM (ny ((rg q0t q3N q3O yZ (uR (eu ae.c (ae.at "past") (dv 0))) (fN (iG (cL (eu ae.c (ae.at "town") (dv 0)) (cL (eu ae.c (ae.at "shut") (dv 0)) aP))) aP)).weak Hz)) (bR (dh (eA ι ae.c bJ hr (dv 0) (aD (dv 1) (aD (dv 2) aP)))))),T_ c_Keeper⟩
meta abbrev CZ:χ:=inClass (top 42) 5
abbrev Ll(Z:Ev)(c_Keeper:O):Prop:=Fk Z c_Keeper 16 "price" ["self", "number", "price"] 3 (BK c_Keeper)
theorem Ws{c_Keeper:O}(D:Dm Z c_Keeper "price" "Keeper.price" CZ)(B:BT Z.mg)(xC:Ct Z "MOST_PRICE" 1000000000)(ae:Kx Z.K c_Keeper ["town", "shut", "past"])(bD:xG Z c_Keeper)(lX:oy Z)(aH:qP Z c_Keeper)(C0:CV Z):Ll Z c_Keeper:=lU (N:=["self", "number", "price"]) D xt λhr nd hu=>⟨Ju c_Keeper,(bM (ny (eA ι ae.c bD hr (dv 0) (aD (dv 1) aP))) (bM (dY (ma (iH (bP lX hr (aD (dv 2) (a_ bh (aD (BO xC) aP)))))) (bR rN) eC) (bR (dh (eA ι ae.c aH hr (dv 0) (c_ (bP C0 hr (cL (eu ae.c (ae.at "town") (dv 0)) (aD (dv 1) (aD (dv 2) aP)))) (cL (eu ae.c (ae.at "shut") (dv 0)) aP))))))),Ua c_Keeper⟩
meta abbrev C1:χ:=inClass (top 42) 6
abbrev Lm(Z:Ev)(c_Keeper:O):Prop:=Fk Z c_Keeper 16 "close" ["self", "number"] 2 (BL c_Keeper)
theorem Wt{c_Keeper:O}(D:Dm Z c_Keeper "close" "Keeper.close" C1)(B:BT Z.mg)(ae:Kx Z.K c_Keeper ["town", "shut", "past"])(bD:xG Z c_Keeper)(aH:qP Z c_Keeper):Lm Z c_Keeper:=lU (N:=["self", "number"]) D pI λhr nd hu=>⟨Jx c_Keeper,(bM (ny (eA ι ae.c bD hr (dv 0) (aD (dv 1) aP))) (bM (dY (dW (wj hu) (dv 1) (eu ae.c (ae.at "shut") (dv 0)) (by rfl)) (bR rN) eC) (bR (dh (eA ι ae.c aH hr (dv 0) (cL (eu ae.c (ae.at "town") (dv 0)) (c_ (g0 z9 (by rfl) B.sorted uw (cL (dg jf (eu ae.c (ae.at "shut") (dv 0)) (gu (aD (dv 1) aP))) aP)) aP))))))),Ub c_Keeper⟩
meta abbrev C2:χ:=inClass (top 42) 7
abbrev Ln(Z:Ev)(c_Keeper:O):Prop:=Fk Z c_Keeper 16 "free" ["self", "number"] 2 (BM c_Keeper)
theorem Wu{c_Keeper:O}(D:Dm Z c_Keeper "free" "Keeper.free" C2)(B:BT Z.mg)(ae:Kx Z.K c_Keeper ["town", "shut", "past"])(bD:xG Z c_Keeper)(aH:qP Z c_Keeper):Ln Z c_Keeper:=lU (N:=["self", "number"]) D pI λhr nd hu=>⟨Jy c_Keeper,(bM (ny (eA ι ae.c bD hr (dv 0) (aD (dv 1) aP))) (bM (dY (dW (wk hu) (dv 1) (eu ae.c (ae.at "shut") (dv 0)) (by rfl)) (bR rN) eC) (bR (dh (eA ι ae.c aH hr (dv 0) (cL (eu ae.c (ae.at "town") (dv 0)) (cL (tX [η,ζ 1] ["way", "number"] Y (oO (eu ae.c (ae.at "shut") (dv 0))) (λd=>(iS (i:=0) (show(["way", "number"]:-π).Nodup by decide +kernel) Y (by trivial))) (λd=>(zI (dW (kI hu) (dv 0) (dv 1) (by rfl)))) (λd=>(dv 0))) aP))))))),Uc c_Keeper⟩
meta abbrev C3:χ:=inClass (top 42) 8
abbrev Lo(Z:Ev)(c_Keeper:O):Prop:=Fk Z c_Keeper 15 "back" ["self"] 1 (BN c_Keeper)
theorem Wv{c_Keeper:O}(D:Dm Z c_Keeper "back" "Keeper.back" C3)(B:BT Z.mg)(ae:Kx Z.K c_Keeper ["town", "shut", "past"])(bJ:xH Z c_Keeper):Lo Z c_Keeper:=lU (N:=["self", "last"]) D sd λhr nd hu=>⟨Jz c_Keeper,(bM (dY (dW (iI hu) (g0 kJ (by rfl) B.len q0B (cL (uR (eu ae.c (ae.at "past") (dv 0))) aP)) bh (by rfl)) (bR rN) eC) (bM (fq (i:=1) nd Y (by trivial) ((F0 q0t q2Q q2R Ga (uR (eu ae.c (ae.at "past") (dv 0)))).weak HA)) (bR (dh (eA ι ae.c bJ hr (dv 0) (cM (dM dP (dv 1) bh (λ_ _=>Y)) (cM (dM dP (dv 1) bh (λ_ _=>Y)) aP))))))),Ud c_Keeper⟩
meta abbrev Lp:χ:=top 44
abbrev Lq(Z:Ev):Prop:=Fx Z 1 "_law_spread" ["cell", "at"] 2 Ap
theorem Ww(D:Dx Z "_law_spread" Lp)(B:BT Z.mg):Lq Z:=d9 (N:=["cell", "at", "primes", "one", "two", "three"]) D gG λhr nd hu=>⟨Aq,(by ac_rfl),RO⟩
meta abbrev Lr:χ:=top 46
abbrev Ls(Z:Ev):Prop:=Fx Z 1 "_law_anew" ["pen"] 1 Ar
theorem Wx(D:Dx Z "_law_anew" Lr)(B:BT Z.mg):Ls Z:=d9 (N:=["pen"]) D kl λhr nd hu=>⟨Im,(by ac_rfl),RP⟩
meta abbrev Lu:χ:=top 47
abbrev qQ(Z:Ev):Prop:=Fx Z 2 "_law_take" ["pen", "many"] 2 fA
theorem Wz(D:Dx Z "_law_take" Lu)(B:BT Z.mg)(Zt:Lq Z):qQ Z:=d9 (N:=["pen", "many", "at", "cell", "found"]) D gG λhr nd hu=>⟨As,(by ac_rfl),RQ⟩
meta abbrev Lw:χ:=top 48
abbrev xI(Z:Ev):Prop:=Fx Z 1 "_law_is_whole" ["thing"] 1 wM
theorem WB(D:Dx Z "_law_is_whole" Lw)(B:BT Z.mg):xI Z:=d9 (N:=["thing"]) D kl λhr nd hu=>⟨IA,(by ac_rfl),R4⟩
meta abbrev Lx:χ:=top 50
abbrev Ly(Z:Ev):Prop:=Fx Z 3 "_law_pairs_of" ["pen", "kind", "many"] 3 Au
theorem WC(D:Dx Z "_law_pairs_of" Lx)(B:BT Z.mg)(jX:qQ Z):Ly Z:=d9 (N:=["pen", "kind", "many", "every", "other", "ring", "half"]) D mI λhr nd hu=>⟨Av,(by ac_rfl),RS⟩
meta abbrev Lz:χ:=top 51
abbrev LA(Z:Ev):Prop:=Fx Z 4 "_law_web" ["pen", "houses", "most"] 3 Ax
theorem WD(D:Dx Z "_law_web" Lz)(B:BT Z.mg)(jX:qQ Z)(Zu:Ly Z):LA Z:=d9 (N:=["pen", "houses", "most", "kind", "prices", "many", "pairs", "ways", "k", "one", "other", "price"]) D mI λhr nd hu=>⟨Az,(by ac_rfl),RT⟩
meta abbrev LB:χ:=top 52
abbrev C4(Z:Ev):Prop:=Fx Z 2 "_law_is_in" ["thing", "low", "high"] 3 o9
theorem WH(D:Dx Z "_law_is_in" LB)(B:BT Z.mg)(vd:xI Z):C4 Z:=d9 (N:=["thing", "low", "high"]) D mI λhr nd hu=>⟨IB,(by ac_rfl),R5⟩
meta abbrev LC:χ:=top 53
abbrev LF(Z:Ev):Prop:=Fx Z 3 "_law_is_web" ["thing"] 1 AI
theorem WJ(D:Dx Z "_law_is_web" LC)(B:BT Z.mg)(WK:C4 Z):LF Z:=d9 (N:=["thing", "pairs", "way"]) D kl λhr nd hu=>⟨AJ,(by ac_rfl),R7⟩
meta abbrev LG:χ:=top 56
abbrev LH(Z:Ev):Prop:=Fx Z 1 "_law_priced" ["state", "number", "price"] 3 BU
theorem WL(D:Dx Z "_law_priced" LG)(B:BT Z.mg):LH Z:=d9 (N:=["state", "number", "price", "many", "ways"]) D mI λhr nd hu=>⟨BV,(by ac_rfl),Us⟩
meta abbrev LI:χ:=top 57
abbrev LL(Z:Ev):Prop:=Fx Z 3 "_law_turn" ["pen", "states"] 2 xn
theorem WM(D:Dx Z "_law_turn" LI)(B:BT Z.mg)(jX:qQ Z)(Zv:LH Z):LL Z:=d9 (N:=["pen", "states", "kind", "pick", "web", "shut", "number", "near", "price"]) D gG λhr nd hu=>⟨BW,(by ac_rfl),Uw⟩
meta abbrev C5:χ:=top 58
abbrev LM(Z:Ev)(c_Keeper:O):Prop:=Fq Z 17 "_law_turned" ["keeper", "change"] 2 (rY c_Keeper)
theorem WN{c_Keeper:O}(D:Dx Z "_law_turned" C5)(B:BT Z.mg)(ae:Kx Z.K c_Keeper ["town", "shut", "past"])(gi:Ll Z c_Keeper)(gK:Lo Z c_Keeper)(gj:Lm Z c_Keeper)(gL:Ln Z c_Keeper):LM Z c_Keeper:=u6 (N:=["keeper", "change"]) D gG λhr nd hu=>⟨JD c_Keeper,(bM (dY (dW (iI hu) (dM dP (dv 1) bh (λ_ _=>Y)) gZ (by rfl)) (bR (dh (eA ι ae.c gi hr (dv 0) (cM (dM dP (dv 1) bh (λ_ _=>Y)) (cM (dM dP (dv 1) bh (λ_ _=>Y)) aP))))) eC) (bM (dY (dW (iI hu) (dM dP (dv 1) bh (λ_ _=>Y)) gZ (by rfl)) (bR (dh (pH ι ae.c gK hr (dv 0)))) eC) (bR (dh (zD (dW (iI hu) (dM dP (dv 1) bh (λ_ _=>Y)) gZ (by rfl)) (eA ι ae.c gj hr (dv 0) (cM (dM dP (dv 1) bh (λ_ _=>Y)) aP)) (eA ι ae.c gL hr (dv 0) (cM (dM dP (dv 1) bh (λ_ _=>Y)) aP))))))),Ut c_Keeper⟩
meta abbrev LN:χ:=top 60
abbrev LO(Z:Ev):Prop:=Fx Z 3 "_law_due" ["states", "change"] 2 Cz
theorem WQ(D:Dx Z "_law_due" LN)(B:BT Z.mg)(WK:C4 Z):LO Z:=d9 (N:=["states", "change", "web", "shut"]) D gG λhr nd hu=>⟨CA,(by ac_rfl),Vm⟩
meta abbrev LP:χ:=top 61
abbrev LQ(Z:Ev)(c_Keeper:O):Prop:=Fq Z 15 "_law_keeper_look" ["keeper", "turn"] 2 (r_ c_Keeper)
theorem WR{c_Keeper:O}(D:Dx Z "_law_keeper_look" LP)(B:BT Z.mg)(ae:Kx Z.K c_Keeper ["town", "shut", "past"])(ir:Ld Z c_Keeper)(fT:Lf Z c_Keeper)(bz:xF Z c_Keeper)(fU:Li Z c_Keeper):LQ Z c_Keeper:=u6 (N:=["keeper", "turn", "found", "at"]) D gG λhr nd hu=>⟨B3 c_Keeper,(bM (fq (i:=2) nd Y (by trivial) (vY (a_ j9 (a_ j9 (a_ j9 (a_ j9 aP)))))) (bM (qo q1m Y (oO (oW (gu (a_ bh (a_ bh (a_ bh (a_ bh (a_ bh (a_ bh (a_ bh aP)))))))) (nF (dg z6 (dv 1) bh)) (nF (dg jf (dg z6 (dv 1) bh) bh)))) (iS (i:=3) nd Y (by trivial)) (bR (dY (dW (iI hu) (dv 3) bh (by rfl)) (bR ((pT (pH ι ae.c ir hr (dv 0)) (q9 (dv 2) bh set_list)).weak ur)) (bR (dY (dW (iI hu) (dv 3) bh (by rfl)) (bR ((pT (pH ι ae.c fT hr (dv 0)) (q9 (dv 2) bh set_list)).weak ur)) (bR (dY (dW (iI hu) (dv 3) bh (by rfl)) (bR ((pT (pH ι ae.c bz hr (dv 0)) (q9 (dv 2) bh set_list)).weak ur)) (bR ((pT (pH ι ae.c fU hr (dv 0)) (q9 (dv 2) bh set_list)).weak ur))))))))) (bR (dh (dv 2))))),UJ c_Keeper⟩
abbrev LR(Z:Ev)(Cs:-O):Prop:=Fy Z Cs 7 "need_web" ["web"] 1 xr
theorem WU{Cs:-O}(D:Dx Z "need_web" CT)(B:BT Z.mg)(xJ:ET Z Cs 4 "NoWeb")(VV:CS Z):LR Z Cs:=xo (N:=["web"]) D kl U2 λR hr nd hu=>⟨JV cj.ok,(by ac_rfl),U3 cj.ok⟩
meta abbrev ve:χ:=inClass (top 2) 0
theorem WV{f C:O}{fd:FuncData}(F:e7 Z.K "__init__" "NoWay.__init__" ve f fd)(c:bS Z.K C)(n:bW Z.K C "place"):bH Z.P Z.w Z.K Z.mg Z.base d7 1 f fd ["self", "place"] (u3 C):=by
 refine F.rk (N:=["self", "place"]) (dy (by decide +kernel)) (λvs H Q E h=>?_) (λeZ A outer s H vs Q E hr h=>?_)
 .let⟨a,n,rfl,_⟩:21:=h
  rfl
 .let⟨a,m,rfl,ha,fin⟩:22:=h
  calc⟨_,mU (Pt (jv 0) (jv 1) Y),⟨_,Y,_,Y,a,C,Y,ha,c,n,fin⟩⟩
meta abbrev eX:χ:=top 55
meta abbrev LU:χ:=eX
meta abbrev xR(Z:Ev)(f:O)(eZ:ν)(A:Β)(outer:-Ε)(s:ο)(H:Hp)(E:XK):Cx:=(bt d7 Z.P Z.w Z.K Z.mg Z.base ["caught", "some", "words", "at"] "_law_refusal" (bX eX) f eZ A outer s H E).jZ
theorem pL:kZ ["caught", "some", "words", "at"] ["caught"] (bX eX):=dy (by decide +kernel)
theorem WW{f L:O}{Cs:-O}{fd:FuncData}{sp:Sp}(F:e7 Z.K "_law_refusal" "_law_refusal" eX f fd)(T:B5 Z.mg L Cs)(len:∀vs H Q E,sp vs H Q E->↑vs=1)
  (AX:∀vs H Q E,sp vs H Q E->∃(a C:O)(dx:Option O)(b:Nat->Bool),vs=[.ref a]/\ExcAt H a C dx/\bS Z.K C/\(∀(i:Nat)(C':O),Cs[i]?=ζ C'->ZN Z.K (.ref C) (.ref C')=ζ (b i))/\ZN Z.K (.ref C) (.ref L)=ζ θ/\ZN Z.K (.ref C) (.type "ValueError")=ζ θ ∧
   (cnt (eT b)≠1->∀(l:O)(H':Hp),aI H H'->H' l=ζ (.lst [.str "odd"])->Q (.ref l) H') ∧
   (cnt (eT b)=1->∃j:Nat,j<13/\(∀z,((eT b).map V.bl)[j]?=ζ z->hR z (.bl θ)=θ)/\(∀m z,m<j->((eT b).map V.bl)[m]?=ζ z->hR z (.bl θ)=ι) ∧
    (j<4->bW Z.K C "place" /\ ∃(d:O)(n:Int),dx=ζ d/\H d=ζ (.xd [("place",.int n)])/\∀(l:O)(H':Hp),aI H H'->H l=η->H' l=ζ (.lst [.str (dS.getD j ""),.int n])->Q (.ref l) H') ∧
    (4<=j->∀(l:O)(H':Hp),aI H H'->H l=η->H' l=ζ (.lst [.str (dS.getD j "")])->Q (.ref l) H'))):bH Z.P Z.w Z.K Z.mg Z.base d7 1 f fd ["caught"] sp:=by
 calc F.rk pL (λvs H Q E h=>len vs H Q E h) (λeZ A outer s H vs Q E hr h=>?_);let⟨a,C,dx,b,rfl,E0,cl,kt,kL,kV,odd,good⟩:47:=AX vs H Q E h;let nd:=pL.nd;let gI:Gl (xR Z f eZ A outer s H E) "isinstance" := by rfl
 let v0:∀q,JE (xR Z f eZ A outer s H E) (.Name "caught" q) (gy 0):=λq=>jv 0;let v1:∀q,JE (xR Z f eZ A outer s H E) (.Name "some" q) (gy 1):=λq=>jv 1
 let nI:∀(i:Nat)(x:π),names13[i]?=ζ x->Gl (xR Z f eZ A outer s H E) x->bF x->∀p q r t,JE (xR Z f eZ A outer s H E) (.Call (.Name "isinstance" p) [.Name "caught" q,.Name x r] [] t) (u0 a C dx (b i)):=λi x hx g d p q r t=>by
  let⟨c,e,m⟩:11:=T.cls i x hx;exact B7 (v0 q) (yf (v:=.ref c) g m Y d) Y cl (kt i c e) gI T.B6
 let nL:∀p q r t,JE (xR Z f eZ A outer s H E) (.Call (.Name "isinstance" p) [.Name "caught" q,.Name "LotError" r] [] t) (u0 a C dx θ):=λp q r t=>B7 (v0 q) (yf (v:=.ref L) (by rfl) T.UO Y) Y cl kL gI T.B6;let nV:∀p q r t,JE (xR Z f eZ A outer s H E) (.Call (.Name "isinstance" p) [.Name "caught" q,.Name "ValueError" r] [] t) (u0 a C dx θ):=λp q r t=>B7 (v0 q) (E7 (by rfl) T.VE UP (v:=.ty "ValueError") Y) Y cl kV gI T.B6;let h0:JS (xR Z f eZ A outer s H E) ((dA eX).getD 0 (.Pass ⟨0,0,0,0⟩)) (eg (qH a C dx [b 0,b 1,b 2]) (jF 1)):=GB nd Y (q2o Y) (u2 (kn (nI 0 _ Y Y Y _ _ _ _) (kn (nI 1 _ Y Y Y _ _ _ _) (kn (nI 2 _ Y Y Y _ _ _ _) u1))) (by show 3<=20;decide)) (.inr Y)
 let h1:JS (xR Z f eZ A outer s H E) ((dA eX).getD 1 (.Pass ⟨0,0,0,0⟩)) (eg (lT a C dx ([b 0,b 1,b 2]) [b 3,b 4,b 5]) (jF 1)):=vR nd Y (q2o Y) (xp (v1 _) (u2 (kn (nI 3 _ Y Y Y _ _ _ _) (kn (nI 4 _ Y Y Y _ _ _ _) (kn (nI 5 _ Y Y Y _ _ _ _) u1))) (by show 3<=20;decide)) (by show 3+3<=20;decide)) (.inr Y);let h2:JS (xR Z f eZ A outer s H E) ((dA eX).getD 2 (.Pass ⟨0,0,0,0⟩)) (eg (lT a C dx ([b 0,b 1,b 2]++[b 3,b 4,b 5]) [b 6,b 7,b 8]) (jF 1)):=vR nd Y (q2o Y) (xp (v1 _) (u2 (kn (nI 6 _ Y Y Y _ _ _ _) (kn (nI 7 _ Y Y Y _ _ _ _) (kn (nI 8 _ Y Y Y _ _ _ _) u1))) (by show 3<=20;decide)) (by show 6+3<=20;decide)) (.inr Y)
 let h3:JS (xR Z f eZ A outer s H E) ((dA eX).getD 3 (.Pass ⟨0,0,0,0⟩)) (eg (lT a C dx ([b 0,b 1,b 2]++[b 3,b 4,b 5]++[b 6,b 7,b 8]) [b 9,b 10,b 11]) (jF 1)):=vR nd Y (q2o Y) (xp (v1 _) (u2 (kn (nI 9 _ Y Y Y _ _ _ _) (kn (nI 10 _ Y Y Y _ _ _ _) (kn (nI 11 _ Y Y Y _ _ _ _) u1))) (by show 3<=20;decide)) (by show 9+3<=20;decide)) (.inr Y);let h4:JS (xR Z f eZ A outer s H E) ((dA eX).getD 4 (.Pass ⟨0,0,0,0⟩)) (eg (lT a C dx ([b 0,b 1,b 2]++[b 3,b 4,b 5]++[b 6,b 7,b 8]++[b 9,b 10,b 11]) [b 12]) (jF 1)):=vR nd Y (q2o Y) (xp (v1 _) (u2 (kn (nI 12 _ Y Y Y _ _ _ _) u1) (by show 1<=20;decide)) (by show 12+1<=20;decide)) (.inr Y)
 let h5:JS (xR Z f eZ A outer s H E) ((dA eX).getD 5 (.Pass ⟨0,0,0,0⟩)) (λD σ H1=>∃l:O,σ[0]?=ζ (ζ (.ref a))/\σ[1]?=ζ (ζ (.ref l))/\H1 l=ζ (.lst ((eT b).map V.bl))/\ExcAt H1 a C dx/\(cnt (eT b)≠1->∀(l':O)(H':Hp),aI H1 H'->H' l'=ζ (.lst [.str "odd"])->D.rt (.ref l') H')/\(cnt (eT b)=1->D.nx σ H1)):=by
  calc(Fe (JW.jt (yj (yC NH (rg q0t PySem.F.slot_list_count PySem.F.type_list_count Px (v1 _) (f6 ye bj)) kW (Ft _)) (yj (yk (yh (nL _ _ _ _))) (E_ (yk (yh (nV _ _ _ _))))))) (mU (pR (mY (f6 mS bj)))) jD).weak ?_;ext D σ H1 qR;let⟨l,e0,e1,hl,e,od,gd⟩:15:=qR;refine⟨_,e1,.inl ⟨Y,_,bG.of hl⟩,l,_,_,Y,Y,bG.of hl,Y,B8 _,Y,_,Y,?_⟩
  by_cases hc:cnt (eT b)=1
  .refine OU (congrArg (λn:Nat=>V.int n) hc) ?_
   exact⟨e0,e,_,Y,qe ⟨e0,e,_,Y,qe (gd hc)⟩⟩
  .refine PJ (λz=>hc (q3J (V.int.inj z))) ?_
   exact za ⟨iR (by show 1<=20;decide),λp hp=>od hc p _ (lS hp) bN⟩
 let h6:JS (xR Z f eZ A outer s H E) ((dA eX).getD 6 (.Pass ⟨0,0,0,0⟩)) (eg (λ_ H Q=>∀p,H p=η->Q (.ref p) (upd H p (.lst (eS.map V.str)))) (jF 2)):=GB (i:=2) nd Y (q2o Y) (UQ eS Y (by decide)) (.inr Y)
 let h7:JS (xR Z f eZ A outer s H E) ((dA eX).getD 7 (.Pass ⟨0,0,0,0⟩)) (λD σ H1=>∃(l:O)(j:Nat),σ[1]?=ζ (ζ (.ref l))/\H1 l=ζ (.lst ((eT b).map V.bl))/\j<13/\(∀z,((eT b).map V.bl)[j]?=ζ z->hR z (.bl θ)=θ)/\(∀m z,m<j->((eT b).map V.bl)[m]?=ζ z->hR z (.bl θ)=ι)/\D.nx (σ.set 3 (ζ (.int (j:Nat)))) H1):=by
  calc(PH (i:=3) nd Y (q2o Y) (rg q0t PySem.F.slot_list_index PySem.F.type_list_index PA (v1 _) (f6 ye bj)) (.inr Y)).weak ?_;ext D σ H1 qR;let⟨l,j,e1,hl,hj,i1,i2,gd⟩:25:=qR;exact⟨_,e1,.inl ⟨Y,_,bG.of hl⟩,l,_,_,j,Y,Y,bG.of hl,Y,B8 _,hj,i1,i2,gd⟩
 let h8:JS (xR Z f eZ A outer s H E) ((dA eX).getD 8 (.Pass ⟨0,0,0,0⟩)) _:=pR (sL (yC Fs (jv 3) kW (Ft _)) (mY (qg (vH vI (jv 2) (jv 3) (λ_ _=>Y)) (zp (UR (v0 _) Y) bj))) (mY (qg (vH vI (pV vK (jv 2) (mY (f6 mS bj))) (jv 3) (λ_ _=>Y)) bj)));calc⟨_,PL (oK (by decide) h0 (oK (by decide) h1 (oK (by decide) h2 (oK (by decide) h3 (oK (by decide) h4 (oK (by decide) h5 (oK (by decide) h6 (oK (by decide) h7 (PK (by rfl) h8))))))))),?_⟩;calc⟨Y,E0,λl1 H1 s1 q1=>?_⟩;calc⟨l1,Y,Y,q1,E0.same s1,λl2 H2 s2 q2=>?_⟩;let LV:=s1.trans s2;refine⟨l2,Y,Y,q2,E0.same LV,λl3 H3 s3 q3=>?_⟩
 let LW:=LV.trans s3;calc⟨l3,Y,Y,q3,E0.same LW,λl4 H4 s4 q4=>?_⟩;let LX:=LW.trans s4;calc⟨l4,Y,Y,q4,E0.same LX,λl5 H5 s5 q5=>?_⟩;let C6:=LX.trans s5;calc⟨l5,Y,Y,q5,E0.same C6,λnc l H' sH hH=>odd nc l H' (C6.trans sH) hH,λhc=>?_⟩;let⟨j,hj,i1,i2,jh,many⟩:14:=good hc;ext p hp;let sj:aI H (upd H5 p (.lst (eS.map V.str))):=C6.trans (lS hp);calc(zI2 l5 j ⟨Y,(lS hp) _ _ q5,hj,i1,i2,?_⟩);refine⟨_,Y,_,_,Y,Y,_,Y,zb (λJ_=>?_) (λWX=>?_)⟩
 .let vf:j<4:=by let:=q0w J_;symm
  let⟨na,d,n,ed,hd,fin⟩:0122:=jh vf;subst ed;let E6:=E0.same sj;calc⟨_,Y,_,Y,p,_,_,_,Y,Y,bG.of bN,iN (US vf),_,Y,a,C,d,_,_,Y,E6.ob,cl,na,sj _ _ hd,Y,iR (by show 2<=20;decide),λl hl=>?_⟩;exact fin l _ (sj.trans (lS hl)) (sj.free hl) bN
 .let C7:4<=j:=by
   by_cases z:j<4
   .exact absurd (OR (show(j:Int)<4 by symm)) WX
   .omega
  calc⟨_,Y,iR (by show 1<=20;decide),λm hm=>(zI4 p m _ _ ⟨Y,Y,(by rw[aQ (cW bN hm)];calc bN),bN,iR (by show 13<=20;decide),λr hr=>⟨_,Y,r,_,_,_,Y,Y,bG.of bN,iN (UT hj),iR (by show 1<=20;decide),λl hl=>?_⟩⟩)⟩;calc many C7 l _ (((sj.trans (lS hm)).trans (lS hr)).trans (lS hl)) (((sj.trans (lS hm)).trans (lS hr)).free hl) bN
theorem WY{f L:O}{Cs:-O}{fd:FuncData}(F:e7 Z.K "_law_refusal" "_law_refusal" eX f fd)(T:B5 Z.mg L Cs)(W:B4 Z.K L Cs):bH Z.P Z.w Z.K Z.mg Z.base d7 1 f fd ["caught"] (ko Cs):=by
 refine WW F T (λvs H Q E h=>?_) (λvs H Q E h=>?_)
 .let⟨_,_,_,_,_,rfl,_⟩:51:=h;rfl
 .let⟨j,n,a,C,dx,rfl,hj,hC,E0,hd,fin⟩:55:=h
  let⟨cl,kL,kV,kt⟩:03:=W.each j C hC;refine(zI4 a C dx (λi=>μ (i=j)) ⟨Y,E0,cl,kt,kL,kV,λnc=>absurd (UU j hj) nc,λ_=>⟨j,hj,λz hz=>?_,λm z hm hz=>?_,λh4=>?_,λh4 l H' s hl hH=>fin l H' s hl ?_⟩⟩)
  .rw[JP hz];show hR (.bl (μ (j=j))) (.bl θ)=θ;rw[OR Y];rfl
  .rw[JP hz];show hR (.bl (μ (m=j))) (.bl θ)=ι;rw[YC ⋯];rfl
  .let⟨d,ed,hd⟩:11:=hd h4
   calc⟨W.jW j C hC,d,n,ed,hd,λl H' s hl hH=>fin l H' s hl ?_⟩;rw[hH,oq,ZF h4]
  .rw[hH,oq,Zx ⋯]
abbrev LY(Z:Ev)(Cs:-O)(c_Keeper:O):Prop:=Ce Z Cs c_Keeper 8 "Keeper" ["self", "web"] 2 (Cv c_Keeper)
theorem WZ{Cs:-O}{c_Keeper:O}(D:Dc Z c_Keeper "Keeper" "Keeper.__init__" CW)(B:BT Z.mg)(ae:Kx Z.K c_Keeper ["town", "shut", "past"])(W0:LR Z Cs):LY Z Cs c_Keeper:=Ci (N:=["self", "web"]) D pI @λ_ _ _ _ _ _ _ ok nn _ R hr nd hu=>⟨Kg c_Keeper ok nn,(bM (sg (Cd R pF W0 hr (aD (dv 1) aP))) (bM (pD ae.c (ae.at "town") (dv 0) (dv 1)) (bM (pD ae.c (ae.at "shut") (dv 0) (gu aP)) (bR (pD ae.c (ae.at "past") (dv 0) (vY aP)))))),Vh c_Keeper ok nn⟩
abbrev xK(Z:Ev)(Cs:-O)(c_Keeper:O):Prop:=pJ Z Cs c_Keeper 3 "need_way" ["self", "number"] 2 (u_ c_Keeper)
theorem W4{Cs:-O}{c_Keeper:O}(D:Dm Z c_Keeper "need_way" "Keeper.need_way" CY)(B:BT Z.mg)(oz:EI Z Cs 0 "NoWay")(ae:Kx Z.K c_Keeper ["town", "shut", "past"])(lX:oy Z):xK Z Cs c_Keeper:=lV (N:=["self", "number"]) D pI @λ_ _ _ _ _ _ _ ok nn _ R hr nd hu=>⟨Kb c_Keeper ok nn,(bR (dY (ma (iH (bP lX hr (aD (dv 1) (a_ bh (cL (dg mm (g0 kJ (by rfl) B.len q0B (cM (dM dP (eu ae.c (ae.at "town") (dv 0)) bh (λ_ _=>Y)) aP)) bh) aP)))))) (bR (U6 oz R hr (a_ bh aP))) eC)),Vb c_Keeper ok nn⟩
abbrev LZ(Z:Ev)(Cs:-O)(c_Keeper:O):Prop:=pJ Z Cs c_Keeper 16 "price" ["self", "number", "price"] 3 (Cm c_Keeper)
theorem W5{Cs:-O}{c_Keeper:O}(D:Dm Z c_Keeper "price" "Keeper.price" CZ)(B:BT Z.mg)(xC:Ct Z "MOST_PRICE" 1000000000)(kz:ET Z Cs 5 "NoPrice")(ae:Kx Z.K c_Keeper ["town", "shut", "past"])(lX:oy Z)(aH:qP Z c_Keeper)(C0:CV Z)(bE:xK Z Cs c_Keeper):LZ Z Cs c_Keeper:=lV (N:=["self", "number", "price"]) D xt @λ_ _ _ _ _ _ _ ok nn _ R hr nd hu=>⟨Kc c_Keeper ok nn,(bM (sg (ku ι R pF ae.c bE hr (dv 0) (aD (dv 1) aP))) (bM (dY (ma (iH (bP lX hr (aD (dv 2) (a_ bh (aD (BO xC) aP)))))) (bR (xu kz R (f6 mS bj))) eC) (bR (dh (eA ι ae.c aH hr (dv 0) (c_ (bP C0 hr (cL (eu ae.c (ae.at "town") (dv 0)) (aD (dv 1) (aD (dv 2) aP)))) (cL (eu ae.c (ae.at "shut") (dv 0)) aP))))))),Vc c_Keeper ok nn⟩
abbrev L0(Z:Ev)(Cs:-O)(c_Keeper:O):Prop:=pJ Z Cs c_Keeper 16 "close" ["self", "number"] 2 (Co c_Keeper)
theorem W6{Cs:-O}{c_Keeper:O}(D:Dm Z c_Keeper "close" "Keeper.close" C1)(B:BT Z.mg)(lY:ET Z Cs 7 "Closed")(ae:Kx Z.K c_Keeper ["town", "shut", "past"])(aH:qP Z c_Keeper)(bE:xK Z Cs c_Keeper):L0 Z Cs c_Keeper:=lV (N:=["self", "number"]) D pI @λ_ _ _ _ _ _ _ ok nn _ R hr nd hu=>⟨Kd c_Keeper ok nn,(bM (sg (ku ι R pF ae.c bE hr (dv 0) (aD (dv 1) aP))) (bM (dY (dW (wj hu) (dv 1) (eu ae.c (ae.at "shut") (dv 0)) (by rfl)) (bR (xu lY R (f6 mS bj))) eC) (bR (dh (eA ι ae.c aH hr (dv 0) (cL (eu ae.c (ae.at "town") (dv 0)) (c_ (g0 z9 (by rfl) B.sorted uw (cL (dg jf (eu ae.c (ae.at "shut") (dv 0)) (gu (aD (dv 1) aP))) aP)) aP))))))),Vd c_Keeper ok nn⟩
abbrev L1(Z:Ev)(Cs:-O)(c_Keeper:O):Prop:=pJ Z Cs c_Keeper 16 "free" ["self", "number"] 2 (Cp c_Keeper)
theorem W7{Cs:-O}{c_Keeper:O}(D:Dm Z c_Keeper "free" "Keeper.free" C2)(B:BT Z.mg)(qS:ET Z Cs 8 "Free")(ae:Kx Z.K c_Keeper ["town", "shut", "past"])(aH:qP Z c_Keeper)(bE:xK Z Cs c_Keeper):L1 Z Cs c_Keeper:=lV (N:=["self", "number"]) D pI @λ_ _ _ _ _ _ _ ok nn _ R hr nd hu=>⟨Ke c_Keeper ok nn,(bM (sg (ku ι R pF ae.c bE hr (dv 0) (aD (dv 1) aP))) (bM (dY (dW (wk hu) (dv 1) (eu ae.c (ae.at "shut") (dv 0)) (by rfl)) (bR (xu qS R (f6 mS bj))) eC) (bR (dh (eA ι ae.c aH hr (dv 0) (cL (eu ae.c (ae.at "town") (dv 0)) (cL (tX [η,ζ 1] ["way", "number"] Y (oO (eu ae.c (ae.at "shut") (dv 0))) (λd=>(iS (i:=0) (show(["way", "number"]:-π).Nodup by decide +kernel) Y (by trivial))) (λd=>(zI (dW (kI hu) (dv 0) (dv 1) (by rfl)))) (λd=>(dv 0))) aP))))))),Ve c_Keeper ok nn⟩
abbrev L3(Z:Ev)(Cs:-O)(c_Keeper:O):Prop:=pJ Z Cs c_Keeper 15 "back" ["self"] 1 (Cq c_Keeper)
theorem W8{Cs:-O}{c_Keeper:O}(D:Dm Z c_Keeper "back" "Keeper.back" C3)(B:BT Z.mg)(kA:ET Z Cs 9 "Nothing")(ae:Kx Z.K c_Keeper ["town", "shut", "past"])(bJ:xH Z c_Keeper):L3 Z Cs c_Keeper:=lV (N:=["self", "last"]) D sd @λ_ _ _ _ _ _ _ ok nn _ R hr nd hu=>⟨Kf c_Keeper ok nn,(bM (dY (dW (iI hu) (g0 kJ (by rfl) B.len q0B (cL (uR (eu ae.c (ae.at "past") (dv 0))) aP)) bh (by rfl)) (bR (xu kA R (f6 mS bj))) eC) (bM (fq (i:=1) nd Y (by trivial) ((F0 q0t q2Q q2R Ga (uR (eu ae.c (ae.at "past") (dv 0)))).weak HA)) (bR (dh (eA ι ae.c bJ hr (dv 0) (cM (dM dP (dv 1) bh (λ_ _=>Y)) (cM (dM dP (dv 1) bh (λ_ _=>Y)) aP))))))),Vf c_Keeper ok nn⟩
abbrev L4(Z:Ev)(Cs:-O)(c_Keeper:O):Prop:=Ca Z Cs 17 "_law_turned" ["keeper", "change"] 2 (Cr c_Keeper)
theorem W9{Cs:-O}{c_Keeper:O}(D:Dx Z "_law_turned" C5)(B:BT Z.mg)(ae:Kx Z.K c_Keeper ["town", "shut", "past"])(gm:LZ Z Cs c_Keeper)(gM:L3 Z Cs c_Keeper)(gq:L0 Z Cs c_Keeper)(gN:L1 Z Cs c_Keeper):L4 Z Cs c_Keeper:=Cj (N:=["keeper", "change"]) D gG @λ_ _ _ _ _ _ _ ok nn _ R hr nd hu=>⟨Cu c_Keeper ok nn,(bM (dY (dW (iI hu) (dM dP (dv 1) bh (λ_ _=>Y)) gZ (by rfl)) (bR (Cg (ku ι R pF ae.c gm hr (dv 0) (cM (dM dP (dv 1) bh (λ_ _=>Y)) (cM (dM dP (dv 1) bh (λ_ _=>Y)) aP))))) eC) (bM (dY (dW (iI hu) (dM dP (dv 1) bh (λ_ _=>Y)) gZ (by rfl)) (bR (Cg (U8 ι R pF ae.c gM hr (dv 0)))) eC) (bR (Cg (U7 (dW (iI hu) (dM dP (dv 1) bh (λ_ _=>Y)) gZ (by rfl)) (ku ι R pF ae.c gq hr (dv 0) (cM (dM dP (dv 1) bh (λ_ _=>Y)) aP)) (ku ι R pF ae.c gN hr (dv 0) (cM (dM dP (dv 1) bh (λ_ _=>Y)) aP))))))),Vg c_Keeper ok nn⟩
meta abbrev L5:χ:=top 62
abbrev L6(Z:Ev)(c_Keeper:O):Prop:=Fq Z 10 "_law_made" ["thing"] 1 (Cw c_Keeper)
theorem W_{Cs:-O}{L fR:O}{vg:FuncData}{c_Keeper:O}(D:Dx Z "_law_made" L5)(B:BT Z.mg)(ae:Kx Z.K c_Keeper ["town", "shut", "past"])(GR:Fn Z.P Z.w Z.K Z.mg Z.base 1 "_law_refusal" ["caught"] (ko Cs) fR vg)(hL:Z.mg "LotError" = ζ (.ref L))(hX:∀(c:Nat) (C:O),Cs[c]?=ζ C->c<13/\q2b Z.K (.ref C) (.ref L)=ζ θ)(gO:LY Z Cs c_Keeper):L6 Z c_Keeper:=u6 (N:=["thing", "caught", "e"]) D kl λhr nd hu=>⟨Kh c_Keeper,(bM (fq (i:=1) nd Y (by trivial) j9) (J8 (tup:=false) Y Y nd Y Y (by rfl) hL hX (by decide) (λhp R=>(bR (sg (Cf R hp gO hr (aD (dv 0) aP))))) (λA xe=>mU (oE (i:=1) nd Y (by trivial) (jv 2))) (pR (sL (yg (E8 (jv 1))) j9 (oF GR.ok (hr.mono (by decide)) (by rfl) GR.ro GR.kp GR.bd .nil l_ (jm (jv 1) bj)))))),Vi c_Keeper⟩
meta abbrev L7:χ:=top 59
abbrev C8(Z:Ev)(c_Keeper:O):Prop:=Fq Z 18 "_law_told" ["keeper", "change"] 2 (si c_Keeper)
theorem Xa{Cs:-O}{L fR:O}{vg:FuncData}{c_Keeper:O}(D:Dx Z "_law_told" L7)(B:BT Z.mg)(ae:Kx Z.K c_Keeper ["town", "shut", "past"])(GR:Fn Z.P Z.w Z.K Z.mg Z.base 1 "_law_refusal" ["caught"] (ko Cs) fR vg)(hL:Z.mg "LotError" = ζ (.ref L))(hX:∀(c:Nat) (C:O),Cs[c]?=ζ C->c<13/\q2b Z.K (.ref C) (.ref L)=ζ θ)(Xb:L4 Z Cs c_Keeper):C8 Z c_Keeper:=u6 (N:=["keeper", "change", "caught", "e"]) D gG λhr nd hu=>⟨Ki c_Keeper,(bM (fq (i:=2) nd Y (by trivial) j9) (J8 (tup:=false) Y Y nd Y Y (by rfl) hL hX (by decide) (λhp R=>(bR (sg (Cb ι R hp Xb hr (aD (dv 0) (aD (dv 1) aP)))))) (λA xe=>mU (oE (i:=2) nd Y (by trivial) (jv 3))) (pR (sL (yg (E8 (jv 2))) (gu (a_ gZ aP)) (oF GR.ok (hr.mono (by decide)) (by rfl) GR.ro GR.kp GR.bd .nil l_ (jm (jv 2) bj)))))),Vj c_Keeper⟩
meta abbrev L8:χ:=top 63
abbrev L9(Z:Ev)(c_Keeper:O):Prop:=Fq Z 19 "_law_all_refused" ["states", "keeper"] 2 (CD c_Keeper)
theorem Xc{c_Keeper:O}(D:Dx Z "_law_all_refused" L8)(B:BT Z.mg)(ae:Kx Z.K c_Keeper ["town", "shut", "past"])(Xd:LO Z)(vh:C8 Z c_Keeper):L9 Z c_Keeper:=u6 (N:=["states", "keeper", "many", "odd", "number", "changes", "change", "due"]) D gG λhr nd hu=>⟨CF c_Keeper,(bM (fq (i:=2) nd Y (by trivial) (g0 kJ (by rfl) B.len q0B (cM (dM dP (dM dP (dM dP (dv 0) (uj bh) (λ_ _=>Y)) bh (λ_ _=>Y)) bh (λ_ _=>Y)) aP))) (bM (fq (i:=3) nd Y (by trivial) (gu (cL (uj bh) (aD (dv 2) (cL (dg rK bh bh) (a_ jr (a_ jr (a_ j9 (a_ gZ (j_ (gu (a_ bh aP)) (fN (iG (a_ bh aP)) (j_ (gu aP) (cL (dg mm bh (dv 2)) (cL (dg jf (dg rK bh bh) bh) aP)))))))))))))) (bM (qo q1m Y (oO (dg jf (Hx Y (by rfl) B.list qh (by rfl) B.range Ah (aD (dv 2) aP)) (dv 3))) (iS (i:=4) nd Y (by trivial)) (bM (fq (i:=5) nd Y (by trivial) (dg jf (gu (fN (iG (a_ gZ (aD (dv 4) aP))) (fN (iG (a_ gZ (aD (dv 4) aP))) aP))) (tX [η,ζ 4] ["price", "number"] Y (oO (dv 3)) (λd=>(iS (i:=0) (show(["price", "number"]:-π).Nodup by decide +kernel) Y (by trivial))) (λd=>v8) (λd=>(iG (a_ gZ (aD (dv 1) (aD (dv 0) aP)))))))) (bR (qo q1m Y (oO (dv 5)) (iS (i:=6) nd Y (by trivial)) (bM (fq (i:=7) nd Y (by trivial) (bP Xd hr (aD (dv 0) (aD (dv 6) aP)))) (bR (dY (JW.jt (rB (dW (kI hu) (dv 7) (gu (a_ gZ aP)) (by rfl)) (zC (dW (kI hu) (eU ι vh hr (aD (dv 1) (aD (dv 6) aP))) (dv 7) (by rfl))))) (bR (dh jr)) eC))))))) (bR (dh (Qj (jN ug (g0 kJ (by rfl) B.len q0B (aD (dv 0) aP)) bh (by rfl)) (tT (jN (iI hu) (eU ι vh hr (aD (dv 1) (fN (iG (a_ gZ aP)) aP))) (gu (a_ gZ aP)) (by rfl))))))))),Vp c_Keeper⟩
meta abbrev C9:χ:=top 49
theorem C_{x:π}{st:χ}{ps:-π}{n:Nat}(D:Dx Z x st)(bd:gF x st ps):Fx Z 0 x ps n (λ_ _ _=>False) :=
 let⟨f,fd,a,F⟩:=D
 ⟨f,fd,⟨λvs H Q E h=>by let⟨_,_,_,_,_,_,_,hF,_⟩:=h;calc hF.elim,λA outer s H args us vs Q E _ _ _ _ h=>by let⟨_,_,_,_,_,_,_,hF,_⟩:=h;calc hF.elim⟩,a,F.kp,F.binds bd⟩
theorem L_(D:Dx Z "_law_same" C9)(B:BT Z.mg)(n:Nat)(sk:Fx Z n "_law_same" ["found", "due"] 2 (LJT.iX LJT.bf n)):Fx Z (n+1) "_law_same" ["found", "due"] 2 (LJT.bf n):=d9 (N:=["found", "due"]) D gG λhr nd hu=>⟨LJT.bC (LJT.iX LJT.bf n),(bM (dY (dW Ij (dv 1) j9 (by rfl)) (bR (dh (jN Ij (dv 0) j9 (by rfl)))) eC) (bM (dY (JW.jt (tR (iH (iJ uo (by rfl) B.isinstance (by rfl) B.bool tJ (dv 1))) (v3 (iH (iJ uo (by rfl) B.isinstance (by rfl) B.bool tJ (dv 0)))))) (bR (dh (tU (iJ uo (by rfl) B.isinstance (by rfl) B.bool tJ (dv 1)) (tU (iJ uo (by rfl) B.isinstance (by rfl) B.bool tJ (dv 0)) (tT (jN (iI hu) (dv 0) (dv 1) (by rfl))))))) eC) (bM (dY (iH (iJ z_ (by rfl) B.isinstance (by rfl) B.int rp (dv 1))) (bR (dh (tU (iJ z_ (by rfl) B.isinstance (by rfl) B.int rp (dv 0)) (tT (jN (iI hu) (dv 0) (dv 1) (by rfl)))))) eC) (bM (dY (iH (iJ Hy (by rfl) B.isinstance (by rfl) B.str GU (dv 1))) (bR (dh (tU (iJ Hy (by rfl) B.isinstance (by rfl) B.str GU (dv 0)) (tT (jN (iI hu) (dv 0) (dv 1) (by rfl)))))) eC) (bM (dY (JW.jt (tR (dW (kI hu) (iJ uq (by rfl) B.isinstance (by rfl) B.tuple rq (dv 1)) (iJ uq (by rfl) B.isinstance (by rfl) B.tuple rq (dv 0)) (by rfl)) (v3 (dW (kI hu) (iJ Aa (by rfl) B.isinstance (by rfl) B.list qh (dv 1)) (iJ Aa (by rfl) B.isinstance (by rfl) B.list qh (dv 0)) (by rfl))))) (bR (dh jr)) eC) (bM (dY (dW (kI hu) (g0 kJ (by rfl) B.len q0B (aD (dv 0) aP)) (g0 kJ (by rfl) B.len q0B (aD (dv 1) aP)) (by rfl)) (bR (dh jr)) eC) (bR (dh (jN (wk hu) jr (tX [η,η] ["one", "other"] Y (TB (by rfl) B.zip (aD (dv 0) (aD (dv 1) aP))) (λd=>(v7 Y (ql (iS (i:=0) (show(["one", "other"]:-π).Nodup by decide +kernel) Y (by trivial)) (ql (iS (i:=1) (show(["one", "other"]:-π).Nodup by decide +kernel) Y (by trivial)) v5)))) (λd=>v8) (λd=>(bP (hj:=q4p (tm _)) sk hr (aD (dv 0) (aD (dv 1) aP))))) (by rfl)))))))))),LJT.gg n⟩
abbrev Xe(Z:Ev):Prop:=Fx Z 6 "_law_same" ["found", "due"] 2 (LJT.bf 5)
theorem Xf(D:Dx Z "_law_same" C9)(B:BT Z.mg)(n:Nat):Fx Z (n+1) "_law_same" ["found", "due"] 2 (LJT.bf n):=by
 induction n with
 |zero=>exact L_ D B 0 (C_ D gG)
 |succ m ih=>calc L_ D B (m+1) ih
meta abbrev Dd:χ:=top 54
theorem De{k:Nat}{x:π}{st:χ}{ps:-π}{n:Nat}(D:Dx Z x st)(bd:gF x st ps):Fx Z k x ps n (λ_ _ _=>False) :=
 let⟨f,fd,a,F⟩:=D
 ⟨f,fd,⟨λvs H Q E h=>by let⟨_,_,_,_,_,_,_,hF,_⟩:=h;calc hF.elim,λA outer s H args us vs Q E _ _ _ _ h=>by let⟨_,_,_,_,_,_,_,hF,_⟩:=h;calc hF.elim⟩,a,F.kp,F.binds bd⟩
theorem Ma(D:Dx Z "_law_bent" Dd)(B:BT Z.mg)(jX:qQ Z)(vd:xI Z)(n:Nat)(Df:Fx Z (n+2) "_law_bent" ["pen", "thing", "deep"] 3 (CH pK n)):Fx Z (n+3) "_law_bent" ["pen", "thing", "deep"] 3 (pK n):=d9 (N:=["pen", "thing", "deep", "kind", "pick", "number", "at", "odd", "some"]) D mI λhr nd hu=>⟨CG (CH pK n),(bM (fq (i:=3) nd Y (by trivial) (bP jX hr (aD (dv 0) (a_ bh aP)))) (bM (fq (i:=4) nd Y (by trivial) (bP jX hr (aD (dv 0) (a_ bh aP)))) (bM (fq (i:=5) nd Y (by trivial) (dg mm (bP jX hr (aD (dv 0) (a_ bh aP))) bh)) (bM (dY (JW.jt (rB (iH (iJ uq (by rfl) B.isinstance (by rfl) B.tuple rq (dv 1))) (rB (dW (kI hu) (dv 1) (iG aP) (by rfl)) (rB (dW ug (dv 2) bh (by rfl)) (zC (dW ug (dv 4) bh (by rfl))))))) (bM (fq (i:=6) nd Y (by trivial) (bP jX hr (aD (dv 0) (c_ (g0 kJ (by rfl) B.len q0B (aD (dv 1) aP)) aP)))) (bR (dh (dg jf (dg jf (oW (dv 1) qw (nF (dv 6))) (iG (c_ (bP (hj:=q4p (tm _)) Df hr (aD (dv 0) (cM (dM dP (dv 1) (dv 6) (λ_ _=>Y)) (cL (dg mm (dv 2) bh) aP)))) aP))) (oW (dv 1) (nF (dg jf (dv 6) bh)) qw))))) eC) (bM (fq (i:=7) nd Y (by trivial) (gu (a_ j9 (a_ jr (a_ jr (a_ gZ (a_ gZ (fN (iG aP) (j_ (gu aP) (cL (dg rK bh bh) (cL (uj bh) (a_ bh (a_ bh (cL (dg rK bh bh) (cL (dg jf (dg rK bh bh) bh) (fN (iG (a_ bh aP)) (j_ (gu (a_ bh aP)) (a_ bh aP)))))))))))))))))) (bM (dY (iH (iJ uq (by rfl) B.isinstance (by rfl) B.tuple rq (dv 1))) (bM (fq (i:=8) nd Y (by trivial) (gu (c_ (tP QO (by rfl) B.list qh (aD (dv 1) aP)) (cL (dg jf (dv 1) (oW (dv 1) qw (nF bh))) (cM (oW (dv 1) qw (nF (uj bh))) (cM (RL (dv 1)) (cL (dg jf (dv 1) (iG (aD (dv 5) aP))) (cM (oW (dv 1) (nF bh) qw) (fN (iG (aD (dv 1) aP)) aP))))))))) (bR (dh (dM dP (dg jf (dv 8) (gu (cM (dM dP (dv 7) (dv 4) (λ_ _=>Y)) aP))) (dv 3) (λ_ _=>Y))))) eC) (bM (dY (iH (bP vd hr (aD (dv 1) aP))) (bR (dh (dM dP (gu (cL (dg jf (dv 1) bh) (cL (dg mm (dv 1) bh) (cL (dg mm bh (dv 1)) (aD (dv 5) (aD (dv 5) (cL (jN (iI hu) (dv 1) bh (by rfl)) (cL (dg mm bh (dv 1)) (cM (dM dP (dv 7) (dv 4) (λ_ _=>Y)) aP))))))))) (dv 3) (λ_ _=>Y)))) eC) (bR (dh (dM dP (dv 7) (dv 4) (λ_ _=>Y))))))))))),Vr n⟩
abbrev Xg(Z:Ev):Prop:=Fx Z 6 "_law_bent" ["pen", "thing", "deep"] 3 (pK 3)
theorem Xh(D:Dx Z "_law_bent" Dd)(B:BT Z.mg)(jX:qQ Z)(vd:xI Z)(n:Nat):Fx Z (n+3) "_law_bent" ["pen", "thing", "deep"] 3 (pK n):=by
 induction n with
 |zero=>exact Ma D B jX vd 0 (De D mI)
 |succ m ih=>calc Ma D B jX vd (m+1) ih
meta abbrev xM:χ:=top 45
theorem lZ:kZ ["script", "cells", "k", "cell"] ["script"] (bX xM):=dy (by decide +kernel)
theorem Xi{f:O}{fd:FuncData}(F:e7 Z.K "_law_open" "_law_open" xM f fd)(h1:Z.mg "list" = η)(h2:Z.mg "enumerate" = η):bH Z.P Z.w Z.K Z.mg Z.base d7 1 f fd ["script"] (IK Z.K):=by
 refine F.rk lZ (λvs H Q E h=>?_) (λeZ A outer s H vs Q E hr h=>?_)
 .let⟨a,ns,rfl,_⟩:21:=h
  rfl
 .let⟨a,ns,rfl,hS,hlen,fin⟩:23:=h
  let nd:=lZ.nd
  refine⟨_,qZ (oE (i:=1) nd Y (q2o Y) (pY ti (by rfl) h1 PyProof.Rows.boot_list (jH (yN hJ (jv 0) FP (vG kW)) bj)))
   (qZ (Fj q1m Y (Pa (by rfl) h2 (jH (yN hJ (jv 0) (vG kW) (vG kW)) bj)) (Ff Y (yt (yq (i:=2) nd Y (q2o Y)) (yt (yq (i:=3) nd Y (q2o Y)) jG)))
    (mU (pT (pV Fm (vH vI (jv 1) (pV yA (jv 2) kW) (λ_ _=>Y)) (jv 3)) (q9 (jv 1) (pV yA (jv 2) kW) set_list))))
   (mU (pR (mY (jH (jv 1) (jH kW (jH kW bj))))))),?_⟩
  calc⟨_,Y,_,Y,a,_,Y,hS,λl1 n1=>(zI2 l1 _ ⟨Y,.inl (bG.of bN),λc nc=>?_⟩)⟩;let s1:aI H (upd (upd H l1 (.lst (en (ns.map V.int) η (ζ 12)))) c (.lst (en (ns.map V.int) η (ζ 12)))):=(rQ n1).trans (rQ nc);calc⟨_,Y,_,Y,_,Y,a,_,Y,s1.seq hS,λl2 n2=>⟨l2,Y,⟨_,bG.of bN⟩,?_⟩⟩;let Xj:H c=η:=(rQ n1).free nc;let Xk:=n2
  let Xl:∃ms:-Int,↑ms=min 12 ns.length/\en (ns.map V.int) η (ζ 12)=ms.map V.int:=by
   calc⟨_,?_,AS ns η (ζ 12)⟩;rw[ZH,q0j];let e1:HT.bK ns.length 0 η=0:=HT.vF _ _;let e2:HT.bK ns.length ns.length (ζ 12)=min 12 ns.length:=HT.m9 ns.length ns.length 12;rw[e1,e2];symm
  let Ba:↑(en (ns.map V.int) (ζ 12) (ζ 63))=ns.length-12:=by
   rw[AS,qa,ZH,q0j];let e1:HT.bK ns.length 0 (ζ 12)=min 12 ns.length:=HT.m9 ns.length 0 12;let e2:HT.bK ns.length ns.length (ζ 63)=min 63 ns.length:=HT.m9 ns.length ns.length 63;rw[e1,e2,Nat.min_eq_right hlen,q35];symm
  let Mb:∀i x,(en (ns.map V.int) (ζ 12) (ζ 63))[i]?=ζ x->∃n:Int,x=V.int n:=λi x e=>by
   rw[AS,OS] at e
   cases q:((ns.drop (HT.bK ns.length 0 (ζ 12))).take (HT.bK ns.length ns.length (ζ 63)-HT.bK ns.length 0 (ζ 12)))[i]? with
   |none=>rw[q] at e;cases e
   |some n=>rw[q] at e;exact⟨n,(ZX e).symm⟩
  generalize en (ns.map V.int) (ζ 12) (ζ 63)=rest at Ba Mb n2 ⊢;let⟨ms,Xm,Xn⟩:11:=Xl
  refine PB (K:=Z.K) (a:=l2) (xs:=rest) (λi σ H2=>∃(ks:-Int)(v1 v2:Option V),σ=[ζ (.ref a),ζ (.ref c),v1,v2]/\H2 c=ζ (.lst (ks.map V.int))/\↑ks=min 12 ns.length/\H2 l2=ζ (.lst rest)/\aI H H2)
   (zI3 ms η η ⟨Y,?_,Xm,bN,?_⟩) (λi σ H2 _ Dg=>by let⟨_,_,_,_,_,_,q,_⟩:34:=Dg;calc bG.of q) ?_ ?_
  .rw[aQ (cW bN n2),bN,Xn]
  .exact s1.trans (rQ n2)
  .ext i x T σ H2 hi Dh hT;let⟨ks,v1,v2,rfl,hc,hk,w6,sm⟩:34:=Dh
   let⟨n,rfl⟩:=Mb i x hi;let ua:i<↑rest:=(ri.mp hi).1;let Xo:↑ks=12:=by symm
   let cT:c≠T:=cW hc hT;let Mc:upd H2 T (.tup [.int i,.int n]) c=ζ (.lst (ks.map V.int)):=by rw[aQ cT];exact hc
   let j0:0<=((i:Int))%12:=q1l _ (by decide);let j1:((i:Int))%12<12:=q0U _ (by decide);let⟨m,em⟩:=R_ (ns:=ks) j0 ⋯
   let ix:iD ↑(ks.map V.int) ((i:Int)%12)=ζ ((i:Int)%12).toNat:=by
    unfold iD;rw[ZF j0,ZF (by rw[qa];symm)]
   calc(zI2 T _ ⟨Y,b9.of bN,Y,_,_,Y,_,_,Y,Y,?_⟩);calc⟨_,Y,_,Y,_,_,Y,Y,(show(0:Int)<12 by decide),_,_,_,_,Y,Y,bG.of Mc,em,_,Y,_,_,Y,Y,_,Y,_,Y,_,_,Y,Y,(show(0:Int)<12 by decide),_,_,_,_,Y,Y,Mc,ix,?_⟩;refine(zI3 (ks.set ((i:Int)%12).toNat (m+n)) _ _ ⟨Y,?_,by rw[q0o];calc hk,?_,?_⟩)
   .rw[bN,q7M]
   .let Xp:l2≠c:=by
     ext z;subst z;exact absurd Xk (by rw[bN];ext y;cases y)
    rw[aQ Xp,aQ (cW w6 hT)];exact w6
   .ext b o e
    rw[aQ (cW e Xj)];exact rQ hT b o (sm b o e)
  .ext σ H2 qp;let⟨ks,v1,v2,rfl,hc,hk,w6,sm⟩:34:=qp
   calc⟨_,Y,(by show 3<=sizeLine;decide),λp np=>?_⟩;let Xq:H p=η:=sm.free np;calc fin p c _ (sm.trans (rQ np)) Xq ⟨bN,⟨ks,by rw[aQ (cW hc np)];calc hc,⋯⟩,Int.le_refl 0⟩
meta abbrev so:χ:=top 64
theorem Xr{c_Keeper:O}{f qT:O}{fd oA:FuncData}(F:e7 Z.K "law" "law" so f fd)(B:BT Z.mg)(GO:Fn Z.P Z.w Z.K Z.mg Z.base 1 "_law_open" ["script"] (IK Z.K) qT oA)(ae:Kx Z.K c_Keeper ["town", "shut", "past"])(Xs:LA Z)(Xt:Ls Z)(Df:Xg Z)(sk:Xe Z)(Xu:LF Z)(Xv:L6 Z c_Keeper)(d_:Lb Z c_Keeper)(jX:qQ Z)(Md:LL Z)(xN:LM Z c_Keeper)(xO:LQ Z c_Keeper)(Xw:L9 Z c_Keeper)(vh:C8 Z c_Keeper):bH Z.P Z.w Z.K Z.mg Z.base d7 27 f fd ["script"] (wO Z.K):=by
 let sc:kZ ["script", "pen", "turn", "web", "bad", "keeper", "alone", "states", "k", "change", "ahead", "start"] ["script"] (bX so):=dy (by decide +kernel);refine F.rk (k:=26) sc (λvs H Q E h=>?_) (λeZ A outer s H vs Q E hr h=>?_)
 .let⟨a,ns,rfl,_⟩:21:=h
  rfl
 let⟨a,ns,rfl,hS,hlen,hT,fin⟩:24:=h;let nd:=sc.nd;let hu:=hr.units;let rest:cV (bt d7 Z.P Z.w Z.K Z.mg Z.base ["script", "pen", "turn", "web", "bad", "keeper", "alone", "states", "k", "change", "ahead", "start"] "law" (bX so) f eZ A outer s H E).jZ ((dA so).drop 1) (dc (CI c_Keeper)):=(bM (qo q1m Y (wa (by rfl) B.range (a_ bh aP)) (iS (i:=2) nd Y (by trivial)) (bM (fq (i:=3) nd Y (by trivial) (bP Xs hr (c_ (bP Xt hr (aD (dv 1) aP)) (a_ bh (a_ bh aP))))) (bM (fq (i:=4) nd Y (by trivial) (bP Df hr (aD (dv 1) (aD (dv 3) (a_ bh aP))))) (bM (dY (ma (iH (bP sk hr (c_ (eU ι Xv hr (aD (dv 4) aP)) (cL (zD (iH (bP Xu hr (aD (dv 4) aP))) j9 (gu (a_ gZ aP))) aP))))) (bR (dh jr)) eC) (bM (fq (i:=5) nd Y (by trivial) (u5 d_ hr (aD (dv 3) aP))) (bM (fq (i:=6) nd Y (by trivial) (u5 d_ hr (aD (dv 3) aP))) (bM (fq (i:=7) nd Y (by trivial) (gu (fN (iG (aD (dv 3) (j_ (gu aP) aP))) aP))) (bM (qo q1m Y (wa (by rfl) B.range (cL (dg z5 (bP jX hr (aD (dv 1) (a_ bh aP))) (tP BS (by rfl) B.int rp (cL (jN (kI hu) (dM dP (dv 3) bh (λ_ _=>Y)) (iG aP) (by rfl)) aP))) aP)) (iS (i:=8) nd Y (by trivial)) (bM (zE (bP Md hr (aD (dv 1) (aD (dv 7) aP))) (v7 Y (ql (iS (i:=7) nd Y (by trivial)) (ql (iS (i:=9) nd Y (by trivial)) v5)))) (bM (ny (eU ι xN hr (aD (dv 5) (aD (dv 9) aP)))) (bR (ny (eU ι xN hr (aD (dv 6) (aD (dv 9) aP)))))))) (bM (fq (i:=10) nd Y (by trivial) (eU ι xO hr (aD (dv 5) (c_ (bP jX hr (aD (dv 1) (a_ bh aP))) aP)))) (bM (dY (JW.jt (tR (ma (iH (eU ι Xw hr (aD (dv 7) (aD (dv 5) aP))))) (v3 (ma (iH (bP sk hr (c_ (eU ι xO hr (aD (dv 5) (a_ bh aP))) (aD (dv 10) aP)))))))) (bR (dh jr)) eC) (bR (qo q1m Y (wa (by rfl) B.range (cL (dg z5 bh (tP BS (by rfl) B.int rp (cL (jN (kI hu) (dM dP (dv 3) bh (λ_ _=>Y)) (iG aP) (by rfl)) aP))) aP)) (iS (i:=8) nd Y (by trivial)) (bM (zE (bP Md hr (aD (dv 1) (aD (dv 7) aP))) (v7 Y (ql (iS (i:=7) nd Y (by trivial)) (ql (iS (i:=9) nd Y (by trivial)) v5)))) (bM (dY (ma (iH (bP sk hr (c_ (eU ι xN hr (aD (dv 5) (aD (dv 9) aP))) (c_ (eU ι xN hr (aD (dv 6) (aD (dv 9) aP))) aP))))) (bR (dh jr)) eC) (bM (fq (i:=11) nd Y (by trivial) (bP jX hr (aD (dv 1) (a_ bh aP)))) (bM (dY (dW (kI hu) (eU ι vh hr (aD (dv 5) (fN (iG (a_ gZ aP)) aP))) (eU ι vh hr (aD (dv 6) (fN (iG (a_ gZ aP)) aP))) (by rfl)) (bR (dh jr)) eC) (bM (dY (ma (iH (bP sk hr (c_ (eU ι xO hr (aD (dv 5) (aD (dv 11) aP))) (c_ (eU ι xO hr (aD (dv 6) (cL (dg jf (dv 11) bh) aP))) aP))))) (bR (dh jr)) eC) (bR (fq (i:=7) nd Y (by trivial) (oW (dv 7) qw (nF (g0 (Hw Y) (by rfl) B.max HJ (a_ bh (cL (dg mm (g0 kJ (by rfl) B.len q0B (aD (dv 7) aP)) bh) aP)))))))))))))))))))))))) (bR (dh jr)))
 calc⟨_,qZ (oE (i:=1) nd Y (by trivial) (oF GO.ok (hr.mono (by decide)) (by rfl) GO.ro GO.kp GO.bd .nil l_ (jm (jv 0) bj))) rest,?_⟩;calc⟨_,Y,a,ns,Y,hS,hlen,λp c H1 sm hp N1=>?_⟩;let⟨F',ms,hm,S⟩:21:=Sa (a:=a) (n:=10) (aM.same hT sm) N1;calc Sb S (Vx c_Keeper ms hm) fin
end
meta def eB:-ph:=[⟨274,⟨72,40,72,76⟩,(("order_of" : Z)++".<locals>.")++"<lambda>"⟩]
meta def Di:-(Z×χ×O):=[("order_of",KH,274)]
meta abbrev dp(x:Z)(s:χ):Z×χ:=(x,s)
meta def Me:-(Z×χ):=[dp "is_whole" Ko,dp "is_within" Kr,dp "is_tuple_of" Ks,dp "are_ends" Kt,dp "is_way" Kv,dp "are_ways" Ky,dp "is_web" KC,dp "need_web" CT,dp "rank_of" KD,dp "need_ways" KJ,dp "joined" KO,dp "firsts_of" KP,dp "weight_of" KR,dp "forest_of" KW,dp "ways_but" KZ,dp "web_of" K4,dp "priced" K7,dp "first_missing" K8,dp "exchange_of" K_,dp "_law_spread" Lp,dp "_law_open" xM,dp "_law_anew" Lr,dp "_law_take" Lu,dp "_law_is_whole" Lw,dp "_law_same" C9,dp "_law_pairs_of" Lx,dp "_law_web" Lz,dp "_law_is_in" LB,dp "_law_is_web" LC,dp "_law_priced" LG,dp "_law_turn" LI,dp "_law_turned" C5,dp "_law_due" LN,dp "_law_keeper_look" LP,dp "_law_all_refused" L8,dp "_law_bent" Dd,dp "_law_refusal" LU,dp "_law_made" L5,dp "_law_told" L7,dp "law" so]
meta def Xx:-(Z×Z×χ):=[("web", "Keeper.web",Lc),("closed", "Keeper.closed",Le),("forest", "Keeper.forest",Lg),("weight", "Keeper.weight",Lh),("need_way", "Keeper.need_way",CY),("set_to", "Keeper.set_to",Lj),("changed", "Keeper.changed",Lk),("price", "Keeper.price",CZ),("close", "Keeper.close",C1),("free", "Keeper.free",C2),("back", "Keeper.back",C3)]
meta def xP(K:vL)(C:O):Bool :=
 (match PySem.W.clsIn K C with|some cd=>iQ cd.mro&&cd.hasDict|none=>ι) &&
 (q0k K (.ref C) "__getattribute__" == ζ (ζ (.builtin "BaseException.__getattribute__"))) &&
 (q0k K (.ref C) "__getattr__" == ζ η) &&
 (q0k K (.ref C) "__setattr__" == ζ (ζ (.builtin "object.__setattr__"))) &&
 (q0k K (.ref C) "__class__" == ζ (ζ (.builtin "object.__class__"))) &&
 (q5t K (.builtin "object.__class__") "__get__" == ζ (ζ (.builtin "getset_descriptor.__get__"))) &&
 (q58 K (.builtin "object.__class__")==ζ θ)
theorem Mf{K:vL}{C:O}(h:xP K C=θ):bS K C:=by
 unfold xP at h;erw[ZK] at h;let⟨⟨⟨⟨⟨⟨h1,h2⟩,h3⟩,h4⟩,h5⟩,h6⟩,h7⟩:=h;calc⟨?_,ZJ h2,ZJ h3,ZJ h4,ZJ h5,ZJ h6,ZJ h7⟩;split at h1
 .rename_i cd e
  erw[ZK] at h1;exact⟨cd,e,h1.1,h1.2⟩
 .cases h1
meta def Dj(K:vL)(L:O)(Cs:-O):Bool :=
 xP K L&&(ZN K (.ref L) (.ref L)==ζ θ)&&(ZN K (.ref L) (.type "ValueError")==ζ θ) &&
 (Cs.zipIdx.all λz=>ZN K (.ref L) (.ref z.1)==ζ ι) &&
 (Cs.zipIdx.all λy=>xP K y.1&&(q0k K (.ref y.1) "place" == ζ η)&&(ZN K (.ref y.1) (.ref L)==ζ θ)&&(ZN K (.ref y.1) (.type "ValueError")==ζ θ) &&
  Cs.zipIdx.all λz=>ZN K (.ref y.1) (.ref z.1)==ζ (μ (z.2=y.2)))
theorem Xy{K:vL}{L:O}{Cs:-O}(hl:Cs.length=13)(h:Dj K L Cs=θ):B4 K L Cs:=by
 unfold Dj at h;erw[ZK] at h;let⟨⟨⟨⟨h1,h2⟩,h3⟩,h4⟩,h5⟩:=h;let at_:∀{i:Nat}{C:O},Cs[i]?=ζ C->(C,i)∈Cs.zipIdx:=λ{i C} e=>List.mk_mem_zipIdx_iff_getElem?.mpr e;let each:∀(j:Nat)(C:O),Cs[j]?=ζ C->_:=λj C e=>q0c.mp h5 (C,j) (at_ e);refine⟨hl,λj C e=>?_,⟨Mf h1,ZJ h2,ZJ h3,λi C' e=>ZJ (q0c.mp h4 (C',i) (at_ e))⟩,λj C e=>?_⟩
 .let:=each j C e
  erw[ZK] at this;let⟨⟨⟨⟨a,_⟩,c⟩,d⟩,f⟩:=this;exact⟨Mf a,ZJ c,ZJ d,λi C' e'=>ZJ (q0c.mp f (C',i) (at_ e'))⟩
 .let:=each j C e
  erw[ZK] at this;calc ZJ this.1.1.1.2
meta def nsOk(K:vL)(N:O)(name:Z)(r:Option ν):Bool:=match q1B N K with
 |some ⟨_,_,.dict es _,_⟩=>(es.all λe=>match e.key with|.str _ _=>θ|_=>ι)&&(nsFind es name==r)
 |_=>ι
theorem Mg{K:vL}{N:O}{name:Z}{r:Option ν}(h:nsOk K N name r=θ):tF K N name r:=by
 unfold nsOk at h;split at h
 .rename_i oc od es ep sl e
  erw[ZK] at h;exact⟨oc,od,es,ep,sl,e,h.1,ZJ h.2⟩
 .cases h
theorem su{K:vL}{L C N:O}{nm q:Z}{bs:-ν}{j7:Bool}{sn:-Z}{sub:-ν}{ab:Bool}{col:Option Bool}{dd:Option O}{k0 k1 k2 k3 k5:Option ν}{vQ:Option ν}(T:cX K (.ref L::kD))
  (l:K.lookup C=ζ (excClassObj nm q C N bs (.ref L::kD) j7 sn sub ab col dd k0 k1 k2 k3 k5 "ValueError.__new__")) (n:nsOk K N "__init__" vQ=θ) (kp:Z3 K (.ref C)=θ):oH K C vQ :=
 ⟨⟨_,_,N,_,_,_,_,_,_,_,_,_,_,_,_,_,l,T,Mg n⟩,kp⟩
theorem Xz{c_Keeper eY:O}{fF:FuncData}{L N0 c0 c1 c2 c3 c4 c5 c6 c7 c8 c9 gP gQ gR:O}{XA XB:π}{XC:-ν}{XD:Bool}{XE:-π}{Dl:-ν}{XF:Bool}{Dp:Option Bool}{XG:Option O}{XH XI XJ XM XN:Option ν}{M0:O}{Dq Dr:π}{Ds:-ν}{Dt:Bool}{Du:-π}{vi:-ν}{Dv:Bool}{vj:Option Bool}{Dw:Option O}{Dy Dz DA DB DC:Option ν}{sv:O}{XO XP:Option O}{Am:Array (Option ν)}{XQ XR XS XT Mh XU:ν}{M4:O}{DD DE:π}{DF:-ν}{DG:Bool}{DH:-π}{vk:-ν}{DI:Bool}{vl:Option Bool}{DJ:Option O}{DK DL DM DN DO:Option ν}{M5:O}{DP DQ:π}{DR:-ν}{DT:Bool}{DU:-π}{vm:-ν}{DW:Bool}{vn:Option Bool}{DX:Option O}{DY DZ D0 D1 D2:Option ν}{M7:O}{D3 D4:π}{D5:-ν}{D6:Bool}{D7:-π}{vo:-ν}{D8:Bool}{vp:Option Bool}{D9:Option O}{D_ Ea Eb Ec Ed:Option ν}{M8:O}{Ee Ef:π}{Eg:-ν}{Eh:Bool}{Ei:-π}{vq:-ν}{Ej:Bool}{vr:Option Bool}{Ek:Option O}{El Em En Eo Ep:Option ν}{M9:O}{Er Es:π}{Et:-ν}{Eu:Bool}{Ew:-π}{vt:-ν}{Ex:Bool}{vu:Option Bool}{Ey:Option O}{Ez EA EB EC ED:Option ν}{l:q6h}{w:ω}{K:vL}{h:Α}{mg:π->Option ν}{fa:O}(X:K.In h)(G:h.Ns mainGlobals mg)(XW:mg "law" = ζ (.ref fa))(DS:ik K Me)(LS:fB K Di)(N:∀x∈BR,Z6 K mainGlobals x=ζ η)(iZ:Z6 K mainGlobals "Keeper" = ζ (ζ (.ref c_Keeper)))(ae:Kx K c_Keeper ["town", "shut", "past"])(bq:il K c_Keeper Xx)(i5:Mk K c_Keeper eY)(i7:e7 K "__init__" "Keeper.__init__" CW eY fF)(iu:Ck K "MOST_HOUSES" 12)(jB:Ck K "MOST_WAYS" 30)(dU:Ck K "MOST_PRICE" 1000000000)(aL:Z6 K mainGlobals "LotError" = ζ (ζ (.ref L)))(lL:K.lookup L=ζ (excClassObj XA XB L N0 XC (kD) XD XE Dl XF Dp XG XH XI XJ XM XN "ValueError.__new__"))(nL:nsOk K N0 "__init__" η=θ)(aC0:Z6 K mainGlobals "NoWay" = ζ (ζ (.ref c0)))(aC1:Z6 K mainGlobals "NoJoin" = ζ (ζ (.ref c1)))(aC2:Z6 K mainGlobals "NoStep" = ζ (ζ (.ref c2)))(aC3:Z6 K mainGlobals "NoHouse" = ζ (ζ (.ref c3)))(aC4:Z6 K mainGlobals "NoWeb" = ζ (ζ (.ref c4)))(aC5:Z6 K mainGlobals "NoPrice" = ζ (ζ (.ref c5)))(aC6:Z6 K mainGlobals "TooMany" = ζ (ζ (.ref c6)))(aC7:Z6 K mainGlobals "Closed" = ζ (ζ (.ref c7)))(aC8:Z6 K mainGlobals "Free" = ζ (ζ (.ref c8)))(aC9:Z6 K mainGlobals "Nothing" = ζ (ζ (.ref c9)))(aC10:Z6 K mainGlobals "NoNumber" = ζ (ζ (.ref gP)))(aC11:Z6 K mainGlobals "NoText" = ζ (ζ (.ref gQ)))(aC12:Z6 K mainGlobals "NoLine" = ζ (ζ (.ref gR)))(kit:Dj K L [c0,c1,c2,c3,c4,c5,c6,c7,c8,c9,gP,gQ,gR]=θ)(exm:([c0,c1,c2,c3,c4,c5,c6,c7,c8,c9,gP,gQ,gR].all λc=>q2b K (.ref c) (.ref L)==ζ θ)=θ)(zVE:Z6 K mainGlobals "ValueError" = ζ η)(aI0:q0k K (.ref c0) "__init__" = ζ (ζ (.ref sv)))(lI0:K.lookup sv=ζ ⟨XQ,XO,.func (q0q "__init__" "NoWay.__init__" (ja ve) (dA ve) (bX ve) .none XR XS XT XP Mh XU),Am⟩)(qI0:q1O K Mh "NoWay.__init__" = θ)(kI0:Z3 K (.ref sv)=θ)(iI0:q2c K (.ref sv)=θ)(lC0:K.lookup c0=ζ (excClassObj Dq Dr c0 M0 Ds (.ref L::kD) Dt Du vi Dv vj Dw Dy Dz DA DB DC "ValueError.__new__"))(nC0:nsOk K M0 "__init__" (ζ (.ref sv))=θ)(kC0:Z3 K (.ref c0)=θ)(lC4:K.lookup c4=ζ (excClassObj DD DE c4 M4 DF (.ref L::kD) DG DH vk DI vl DJ DK DL DM DN DO "ValueError.__new__"))(nC4:nsOk K M4 "__init__" η=θ)(kC4:Z3 K (.ref c4)=θ)(lC5:K.lookup c5=ζ (excClassObj DP DQ c5 M5 DR (.ref L::kD) DT DU vm DW vn DX DY DZ D0 D1 D2 "ValueError.__new__"))(nC5:nsOk K M5 "__init__" η=θ)(kC5:Z3 K (.ref c5)=θ)(lC7:K.lookup c7=ζ (excClassObj D3 D4 c7 M7 D5 (.ref L::kD) D6 D7 vo D8 vp D9 D_ Ea Eb Ec Ed "ValueError.__new__"))(nC7:nsOk K M7 "__init__" η=θ)(kC7:Z3 K (.ref c7)=θ)(lC8:K.lookup c8=ζ (excClassObj Ee Ef c8 M8 Eg (.ref L::kD) Eh Ei vq Ej vr Ek El Em En Eo Ep "ValueError.__new__"))(nC8:nsOk K M8 "__init__" η=θ)(kC8:Z3 K (.ref c8)=θ)(lC9:K.lookup c9=ζ (excClassObj Er Es c9 M9 Et (.ref L::kD) Eu Ew vt Ex vu Ey Ez EA EB EC ED "ValueError.__new__"))(nC9:nsOk K M9 "__init__" η=θ)(kC9:Z3 K (.ref c9)=θ)
  : ∃fd:FuncData,(∀(s:ο)(v:ν),BindsTo s fd ⟨[v],[]⟩ [("script",v)])/\∀base:Α,K.In base->base.Ns mainGlobals mg->(∀t∈eB,base.BuiltinsAt mg t.T)->bH l.prog w K mg base d7 27 fa fd ["script"] (@wO (A0 eB) K):=by
 let⟨f,fd,a,F⟩:=DS.at (x:="law") (st:=so) 39 Y;cases XW.symm.trans (ZY X G a)
 letI:aM:=A0 eB;let B:=Ur X G N;calc⟨fd,λs v=>by let⟨_,_,_,_,_,_,_,_,_,rfl,_⟩:=F.ex;calc .of_eq Y,λbase KB _ hB=>?_⟩;let D:∀(i:Nat){x:π}{st:χ},Me[i]?=ζ (x,st)->Dx ⟨l.prog,w,K,mg,base⟩ x st:=λi _ _ e=>(DS.at i e).v X G;let M:∀(i:Nat){x:π}{st:χ}{T:O}{lp:Δ}{q:π},Di[i]?=ζ (x,st,T)->eB[i]?=ζ ⟨T,lp,q⟩->xj ⟨l.prog,w,K,mg,base⟩ x st T lp q:=λi _ _ _ _ _ e e2=>(LS.at i e).v X G KB hB (by decide) (by decide) (ZZ e2);let W:B4 K L [c0,c1,c2,c3,c4,c5,c6,c7,c8,c9,gP,gQ,gR]:=Xy Y kit
 let T:B5 mg L [c0,c1,c2,c3,c4,c5,c6,c7,c8,c9,gP,gQ,gR]:=by
  calc⟨B.isinstance,q5j X G zVE,ZY X G aL,λj x hx=>?_⟩;unfold names13 at hx;rcases j with _|_|_|_|_|_|_|_|_|_|_|_|_|j<;>simp at hx<;>subst hx
  .exact⟨_,Y,ZY X G aC0⟩
  .exact⟨_,Y,ZY X G aC1⟩
  .exact⟨_,Y,ZY X G aC2⟩
  .exact⟨_,Y,ZY X G aC3⟩
  .exact⟨_,Y,ZY X G aC4⟩
  .exact⟨_,Y,ZY X G aC5⟩
  .exact⟨_,Y,ZY X G aC6⟩
  .exact⟨_,Y,ZY X G aC7⟩
  .exact⟨_,Y,ZY X G aC8⟩
  .exact⟨_,Y,ZY X G aC9⟩
  .exact⟨_,Y,ZY X G aC10⟩
  .exact⟨_,Y,ZY X G aC11⟩
  .exact⟨_,Y,ZY X G aC12⟩
 let TL:cX K (.ref L::kD):=.own lL (Mg nL) .base;let hX:∀(c:Nat)(C:O),([c0,c1,c2,c3,c4,c5,c6,c7,c8,c9,gP,gQ,gR]:-O)[c]?=ζ C->c<13/\q2b K (.ref C) (.ref L)=ζ θ:=λc C e=>⟨(ri.mp e).1,ZJ (q0c.mp exm C (ZZ e))⟩;let Mi:=tr (st:=ve) lI0 qI0 kI0;let qU:EI ⟨l.prog,w,K,mg,base⟩ [c0,c1,c2,c3,c4,c5,c6,c7,c8,c9,gP,gQ,gR] 0 "NoWay" := ⟨by decide,c0,Y,ZY X G aC0,sv,_,su TL lC0 nC0 kC0,iI0,WV Mi (W.each 0 c0 Y).1 (W.jW 0 c0 Y),Mi.binds (ps:=["self", "place"]) λ_ _ _ _ _ _ us hl=>by let⟨_,_,rfl⟩:=xk hl;rfl⟩;let qV:ET ⟨l.prog,w,K,mg,base⟩ [c0,c1,c2,c3,c4,c5,c6,c7,c8,c9,gP,gQ,gR] 4 "NoWeb" := ⟨by decide,c4,Y,su TL lC4 nC4 kC4,ZY X G aC4⟩
 let l0:ET ⟨l.prog,w,K,mg,base⟩ [c0,c1,c2,c3,c4,c5,c6,c7,c8,c9,gP,gQ,gR] 5 "NoPrice" := ⟨by decide,c5,Y,su TL lC5 nC5 kC5,ZY X G aC5⟩;let oB:ET ⟨l.prog,w,K,mg,base⟩ [c0,c1,c2,c3,c4,c5,c6,c7,c8,c9,gP,gQ,gR] 7 "Closed" := ⟨by decide,c7,Y,su TL lC7 nC7 kC7,ZY X G aC7⟩;let vv:ET ⟨l.prog,w,K,mg,base⟩ [c0,c1,c2,c3,c4,c5,c6,c7,c8,c9,gP,gQ,gR] 8 "Free" := ⟨by decide,c8,Y,su TL lC8 nC8 kC8,ZY X G aC8⟩;let l6:ET ⟨l.prog,w,K,mg,base⟩ [c0,c1,c2,c3,c4,c5,c6,c7,c8,c9,gP,gQ,gR] 9 "Nothing" := ⟨by decide,c9,Y,su TL lC9 nC9 kC9,ZY X G aC9⟩;let XX:=VM (D 0 Y) B;let pM:=VN (D 1 Y) B XX;let Mj:=VO (D 2 Y) B
 let XY:=VP (D 3 Y) B pM;let XZ:=VQ (D 4 Y) B (dU.v X G) Mj XY pM;let X0:=VS (D 5 Y) B (jB.v X G) XZ;let Ml:=VT (D 6 Y) B (iu.v X G) Mj pM X0;let X1:=WU (Cs:=[c0,c1,c2,c3,c4,c5,c6,c7,c8,c9,gP,gQ,gR]) (D 7 Y) B qV Ml;let EE:=VU (D 7 Y) B Ml;let X7:=VW (D 8 Y) B;let X8:=VX (M 0 Y Y) B EE X7;let X9:=VZ (D 9 Y) B EE pM;let Mm:=V0 (D 10 Y) B;let X_:=V6 (D 11 Y) B Mm;let Ya:=V8 (D 12 Y) B X9;let Yb:=V9 (D 13 Y) B X8 X_ Mm;let Yc:=V_ (D 14 Y) B;let Yd:=Wa (D 15 Y) B;let Mn:=Wb (D 16 Y) B;let Ye:=Wc (D 17 Y) B;let Yf:=Wd (D 18 Y) B Ye;let iw:=WZ (Z:=⟨l.prog,w,K,mg,base⟩) (Cs:=[c0,c1,c2,c3,c4,c5,c6,c7,c8,c9,gP,gQ,gR]) ⟨eY,fF,⟨ZY X G iZ,i5⟩,i7⟩ B ae X1
 let iy:=We (Z:=⟨l.prog,w,K,mg,base⟩) ⟨eY,fF,⟨ZY X G iZ,i5⟩,i7⟩ B ae EE;let i8:=Wf (Z:=⟨l.prog,w,K,mg,base⟩) (bq.at 0 Y) B ae;let gr:=Wg (Z:=⟨l.prog,w,K,mg,base⟩) (bq.at 1 Y) B ae;let cR:=Wh (Z:=⟨l.prog,w,K,mg,base⟩) (bq.at 2 Y) B ae Yc Yb Yd;let gs:=Wl (Z:=⟨l.prog,w,K,mg,base⟩) (bq.at 3 Y) B ae Ya cR;let cf:=W4 (Z:=⟨l.prog,w,K,mg,base⟩) (Cs:=[c0,c1,c2,c3,c4,c5,c6,c7,c8,c9,gP,gQ,gR]) (bq.at 4 Y) B qU ae pM;let cg:=Wn (Z:=⟨l.prog,w,K,mg,base⟩) (bq.at 4 Y) B ae pM;let cS:=Wo (Z:=⟨l.prog,w,K,mg,base⟩) (bq.at 5 Y) B ae cR Yf;let bA:=Wr (Z:=⟨l.prog,w,K,mg,base⟩) (bq.at 6 Y) B ae cS
 let gT:=W5 (Z:=⟨l.prog,w,K,mg,base⟩) (Cs:=[c0,c1,c2,c3,c4,c5,c6,c7,c8,c9,gP,gQ,gR]) (bq.at 7 Y) B (dU.v X G) l0 ae pM bA Mn cf;let gU:=Ws (Z:=⟨l.prog,w,K,mg,base⟩) (bq.at 7 Y) B (dU.v X G) ae cg pM bA Mn;let gW:=W6 (Z:=⟨l.prog,w,K,mg,base⟩) (Cs:=[c0,c1,c2,c3,c4,c5,c6,c7,c8,c9,gP,gQ,gR]) (bq.at 8 Y) B oB ae bA cf;let gX:=Wt (Z:=⟨l.prog,w,K,mg,base⟩) (bq.at 8 Y) B ae cg bA;let iz:=W7 (Z:=⟨l.prog,w,K,mg,base⟩) (Cs:=[c0,c1,c2,c3,c4,c5,c6,c7,c8,c9,gP,gQ,gR]) (bq.at 9 Y) B vv ae bA cf;let iA:=Wu (Z:=⟨l.prog,w,K,mg,base⟩) (bq.at 9 Y) B ae cg bA;let iB:=W8 (Z:=⟨l.prog,w,K,mg,base⟩) (Cs:=[c0,c1,c2,c3,c4,c5,c6,c7,c8,c9,gP,gQ,gR]) (bq.at 10 Y) B l6 ae cS
 let iC:=Wv (Z:=⟨l.prog,w,K,mg,base⟩) (bq.at 10 Y) B ae cS;let Yg:=Ww (D 19 Y) B;let Yh:=Wx (D 21 Y) B;let vw:=Wz (D 22 Y) B Yg;let Mo:=WB (D 23 Y) B;let Yi:=Xf (D 24 Y) B 5;let Yj:=Xh (D 35 Y) B vw Mo 3;let⟨fR,vg,aR,FR⟩:=D 36 (x:="_law_refusal") (st:=LU) Y;let GR:Fn l.prog w K mg base 1 "_law_refusal" ["caught"] (ko [c0,c1,c2,c3,c4,c5,c6,c7,c8,c9,gP,gQ,gR]) fR vg:=⟨WY (Z:=⟨l.prog,w,K,mg,base⟩) FR T W,aR,FR.kp,FR.binds kl⟩;let Yk:=WC (D 25 Y) B vw;let Yl:=WD (D 26 Y) B vw Yk;let Mp:=WH (D 27 Y) B Mo;let Ym:=WJ (D 28 Y) B Mp;let Yn:=WL (D 29 Y) B;let Yo:=WM (D 30 Y) B vw Yn
 let Yp:=W9 (Z:=⟨l.prog,w,K,mg,base⟩) (Cs:=[c0,c1,c2,c3,c4,c5,c6,c7,c8,c9,gP,gQ,gR]) (D 31 Y) B ae gT iB gW iz;let Yq:=WN (c_Keeper:=c_Keeper) (D 31 Y) B ae gU iC gX iA;let Yr:=WQ (D 32 Y) B Mp;let Ys:=WR (c_Keeper:=c_Keeper) (D 33 Y) B ae i8 gr cR gs;let Yt:=W_ (c_Keeper:=c_Keeper) (D 37 Y) B ae GR (ZY X G aL) hX iw;let Mq:=Xa (c_Keeper:=c_Keeper) (D 38 Y) B ae GR (ZY X G aL) hX Yp;let Yu:=Xc (c_Keeper:=c_Keeper) (D 34 Y) B ae Yr Mq;let⟨fo,Zw,ao,Fo⟩:=D 20 (x:="_law_open") (st:=xM) Y;calc Xr (Z:=⟨l.prog,w,K,mg,base⟩) F B ⟨Xi Fo B.list B.enumerate,ao,Fo.kp,Fo.binds kl⟩ ae Yl Yh Yj Yi Ym Yt iy vw Yo Yq Ys Yu Mq
theorem Yv{K:vL}{h:Α}(X:K.In h)(LS:fB K Di):∀t∈eB,∃cc,q6E h cc t.T:=λt ht=>LS.code X t.T (show t.T∈eB.map (·.T) from q1n ht)
end LJ
open PySem PySem.W PyProof.Rows
end
open LJ L2
inductive PySem.W.Fast:Prop|tw11469226048309020422|tw15767206368450856793|tw1826524287845381417|tw11734633544594546818|tw895593030802534492|tw9421008418270016212|tw11821667429155416760|tw9589012846893413428|tw2689705475344571717|tw17059351839945213836|tw17194318718528572096|tw2278675803906975503|tw14256273903860200707|tw9916353923207623046|tw7146794470355018526|tw4660878995306589654|tw4396016908357183302|tw17613636276566359945|tw4264601850125364412|tw10682561678426436035|tw8893218392021769294|tw17363465380957442189|tw3728670901255471073|tw15507239746213332610|tw15279399875105207718|tw8334055131570060704|tw6005947462839363561|tw6434668505398279682|tw6195909482754542989|tw10243734248220653355|tw16640057909196013848|tw2673747303963273354|tw13067545557305200698|tw8997126560853184766|tw6870464187826067608|tw7832003527633736115|tw14127581487897589759|tw17569446808794779872|tw6786049079218255682|tw11135999101777439860|tw2429787668305470137|tw5587029860300849333|tw8242344310820799644|tw14581299315524014328|tw8260426273809732291|tw14051008143753575779|tw4712914138339115046|tw3362205656892794713|tw6061149160272225929|tw15600360840842952444|tw10091874021240113659|tw14603595750302949210|tw9175050695640080386|tw12902467284031730725|tw11459082592136980944|tw9902450432298886268|tw11687907996353977094|tw13684199002224257275|tw3396647480870725536|tw6420194155045438293|tw11094372363214040926|tw5498764726276195271|tw6815088231707103912|tw12285984593675232328|tw11206050664612576290|tw14007725456969899295|tw1658944389172006868|tw8487346444443026623|tw8808997439061601742|tw7142658377475418929|tw17130078028901309488|tw795930071337149872|tw15037248722165668538|tw16027417240171003727|tw3772413412717250843|tw4407044767839363140|tw1812601403862231333|tw14458024330611422739|tw16312591982535949945|tw2115372588693066114|tw245242619670423194|tw11601020509953933268|tw7005335093124279244|tw5527377698181125745|tw14137931021159026123|tw1842451937035317460|tw9049897797727422976|tw7592179435222644019|tw16510910494346090353|tw7980341990123684047|tw12088058355645196772|tw15820567032126129506|tw3467751395554563935|tw3259380813047319702|tw14759098312833460900|tw4181320076092907290|tw1326434089751238300|tw6394846843218370181|tw14448954924481924108|tw2343950131962564015|tw2440458772572917971|tw2501477750773511246|tw12310535400834373800|tw16385256627925549993|tw3459641462990787832|tw11945047112018143685|tw4625642002264596108|tw8331881581032656889|tw3808211673714877968|tw9058728747671972722|tw3431128866703900746|tw2417094534781433556|tw2405788512883621642|tw16679601904901169028|tw3967101160858943576|tw9494585840006207408|tw15471882076323206419|tw17827672489051259069|tw10906643737346686146|tw10467521015343945738|tw17862210509258897723|tw4691198569449236089|tw17708305499906720821|tw15848500904910432048|tw5675711439111427691|tw254859298721919242|tw12956371255622407836|tw7443951155819647588|tw7941822744859986469|tw5346545601626319165|tw13589817022036092770|tw2534084382677788645|tw4212644479781218891|tw1539914924436947027|tw9934753669192367021|tw10193423728220437810|tw7077829478484228397|tw5701015132321894905|tw7642949257122517599|tw4528600836835670175|tw14081836003258480376|tw8322613235853271910|tw10101914524065107179|tw5857414340390652846|tw3510595885254655427|tw3147170815363542092|tw10621024162318016904|tw9682577453523309771|tw18247277612387476020|tw16013313039298590068|tw18002330099430822788|tw737068005237415277|tw9045702127446132065|tw18341007282043072653|tw4985701614916491804|tw10209857430919827205|tw10400375170700211143|tw2013543096580278893|tw17859624966512260713|tw1477063127147034488|tw17791018823850650009|tw202859633789052201|tw14995140432502379221|tw18052822357200052204|tw14534796249828523564|tw17840427054369493670|tw11104442201771821621|tw3750930819890301360|tw6304873711397240709|tw100678806528811815|tw2570143869383726330|tw4428241400819698293|tw8606847504689598423|tw13978963371168189066|tw5663285572751498299|tw6657028506055252004|tw1999504927746440699|tw8730813856497360477|tw1338026002591954712|tw4521024537413371280|tw12579596513759967701|tw14508953076517906754|tw10198409673541487878|tw6740737689581004806|tw15794453849936180811|tw7265210360756345829|tw1918272820873994569|tw2009323737819780682|tw8273449788462194867|tw7245382471767028975|tw10395699964862129988|tw3610799912661739315|tw5440190538904409186|tw3774998914437952130|tw11975823901722824402|tw18439624765719962271|tw1624828416169067322|tw2024038588715712417|tw9978186292605247216|tw9797912682163033817|tw18233774077434808550|tw9661566928619092028|tw10216109663364829328|tw5308113330832789446|tw11529929689582116203|tw18128540433795730185|tw11017148493536365213|tw7015064569289481057|tw3228870722094102628|tw10931986629028348880|tw11214078553415403524|tw5354391024241050041|tw1073375392709275761|tw2564654367884004341|tw7459022339287210525|tw8934841298468738869|tw1103998334046523052|tw12517011245680424052|tw8823491972464619466|tw5041983279238596607|tw5140968560996084952|tw17271447031939313882|tw11389302822354910020|tw12210986605867694885|tw2011411870741996993|tw10052462044477854151|tw6940345388288146785|tw8008902179173559529|tw14149841004064728688|tw10248246116752070613|tw15334165575472991602|tw3889385037424559674|tw4808804158955664397|tw2567398478321322421|tw12270255167595303787|tw560267733011349527|tw512461908987577673|tw15963383158550239370|tw17944011214528100733|tw4877858208877751377|tw6366444757287348569|tw8702522012759357232|tw17202400136927727652|tw8234450511500654987|tw10902368968692254648|tw5032557213087063039|tw17471139103993763639|tw8402127369490812492|tw15792142773911601946|tw6640605482875937692|tw4299538278325041663|tw16167727049422908059|tw15372128055786958499|tw11703129099828562042|tw13524601789375285091|tw11867966486922044631|tw517871013119533632|tw8110300104035994418|tw6561910078492557361|tw9551734830569999724|tw814247811195937469|tw16153444152459248498|tw2399723983845685819|tw11138874677877641861|tw7012910239739161478|tw18023116653034812851|tw8052351652949483468|tw7397059571985425159|tw16511524986053662092|tw16453348077881247088|tw3226506547477241916|tw2245407144034181085|tw1977895421156250994|tw17283826732404866897|tw8890808833166336047|tw5588185607684166726|tw7407302539909095861|tw8251164104622871701|tw858213340785854704|tw84508988768888654|tw14163634566487865403|tw16767361151850659618|tw159198630115916054|tw10905750277628009991|tw17102916326245860581|tw12815079053987480816|tw13626064394335412369|tw2622278480898780890|tw5627216381304818501|tw3449762398698223924|tw11767413141499879993|tw2575407409426894859|tw11649552233955324137|tw18060403444774528217|tw14767725543337784395|tw6089210427662627726|tw14963756726069373734|tw13477516727673116647|tw2291733614279193790|tw5628982094606280298|tw5761642086811405755|tw17401716526970611494|tw4304590698142753837|tw4627700458416765764|tw3266467971431905231|tw8789722378416818291|tw4792340217157737697|tw3867158678538964716|tw8149450275309377774|tw13885339268650698086|tw3224147155784749479|tw16579046767670496182|tw9473205573939748998|tw10768229003165973447|tw8466309861960567604|tw5954661158116141097|tw9761501736159955922|tw17875296579559905761|tw10615530581529471940|tw5074298136838726229|tw16829407852672966375|tw5385908671195235809|tw16202978385449012721|tw18184383776127672607|tw7331022195389571447|tw16162646351212243466|tw3985524564776176390|tw12054328386180937559|tw14827282678111542121|tw11541376172107153482|tw3978006937979465825|tw12197419631404648279|tw13457106126986412831|tw3654571560285223178|tw4058838069741635564|tw17432196159462997001|tw4989312913180636036|tw16412922577230389785|tw2145787424261651632|tw5777423457493279050|tw1213439977959190379|tw7885015491689968604|tw11412273456380322332|tw1116639479547211657|tw9978996511397472535|tw5876896438613084989|tw6257877062422877743|tw8353112628467647763|tw4207016099017276567|tw7613924285379631215|tw10911000792215801952|tw13938142265190685131|tw6422644759563643895|tw10758394559310845805|tw2211413914634683557|tw14823601447676161824|tw16407908314112010497|tw11749076090929108077|tw9045313523788802329|tw14149833018420675656|tw9415156069525609267|tw6644966852020330969|tw3180615687201527129|tw6657054296822398627
set_option maxRecDepth 100000 in
set_option maxHeartbeats 0 in
theorem PySem.Challenge.cw_lotjoin_k61_changes_refused_holds : PySem.Challenge.rw_lotjoin_k61_changes_refused.Holds := by
 w_on;o_law;k_head;(case hw=>w_witness2)
 k_fill
 refine LJ.SO (l:=PySem.Challenge.rw_lotjoin_k61_changes_refused) (kk:=27) LJ.eB rfl rfl rfl ⟨rfl,by decide,by decide,rfl⟩ ?C (λP=>by kernel_rfl) ?F
 case C =>
  intro w h KX;refine LJ.Yv KX ?_
  repeat' first|exact LJ.fB.nil|refine LJ.uW (by k_is) (by k_is) (by k_is) (by k_is) (by kernel_rfl) ?_
 case F =>
  intro w mg fa h KX G y_;refine' LJ.Xz KX G y_ ?dD ?dL ?dN ?aKeeper ?kKeeper ?mKeeper ?iKeeper ?fKeeper ⟨_,by k_is,_,rfl⟩ ⟨_,by k_is,_,rfl⟩ ⟨_,by k_is,_,rfl⟩ ?aL ?lL ?nL ?aC0 ?aC1 ?aC2 ?aC3 ?aC4 ?aC5 ?aC6 ?aC7 ?aC8 ?aC9 ?aC10 ?aC11 ?aC12 ?kit ?exm ?zVE ?aI0 ?lI0 ?qI0 ?kI0 ?iI0 ?lC0 ?nC0 ?kC0 ?lC4 ?nC4 ?kC4 ?lC5 ?nC5 ?kC5 ?lC7 ?nC7 ?kC7 ?lC8 ?nC8 ?kC8 ?lC9 ?nC9 ?kC9
  (case dD=>repeat' first|exact LJ.ik.nil|refine LJ.BQ (by k_is) (by k_is) (by k_is) (by k_is) ?_)
  (case dL=>repeat' first|exact LJ.fB.nil|refine LJ.uW (by k_is) (by k_is) (by k_is) (by k_is) (by kernel_rfl) ?_)
  (case dN=>repeat' first|exact q4X _|refine LJ.Uo (by k_is) ?_)
  (case aKeeper=>k_is)
  (case kKeeper=>exact⟨⟨by k_is,by k_is,by k_is,by k_is⟩,by repeat' first|exact q4X _|refine List.forall_mem_cons.mpr ⟨(by k_is:q0k _ _ _=_),?_⟩⟩)
  (case mKeeper=>repeat' first|exact LJ.il.nil|refine LJ.allM (by k_is) (by k_is) (by k_is) (by k_is) (by k_is) ?_)
  (case iKeeper=>exact⟨by k_is,by k_is,by k_is,by k_is⟩)
  (case fKeeper=>exact L2.tr (by k_is) (by k_is) (by k_is))
  (case aL=>k_is)
  (case aC0=>k_is)
  (case aC1=>k_is)
  (case aC2=>k_is)
  (case aC3=>k_is)
  (case aC4=>k_is)
  (case aC5=>k_is)
  (case aC6=>k_is)
  (case aC7=>k_is)
  (case aC8=>k_is)
  (case aC9=>k_is)
  (case aC10=>k_is)
  (case aC11=>k_is)
  (case aC12=>k_is)
  (case lL=>k_is)
  (case nL=>kernel_rfl)
  (case kit=>kernel_rfl)
  (case exm=>kernel_rfl)
  (case zVE=>k_is)
  (case aI0=>k_is)
  (case lI0=>k_is)
  (case qI0=>k_is)
  (case kI0=>k_is)
  (case iI0=>k_is)
  (case lC0=>k_is)
  (case nC0=>kernel_rfl)
  (case kC0=>k_is)
  (case lC4=>k_is)
  (case nC4=>kernel_rfl)
  (case kC4=>k_is)
  (case lC5=>k_is)
  (case nC5=>kernel_rfl)
  (case kC5=>k_is)
  (case lC7=>k_is)
  (case nC7=>kernel_rfl)
  (case kC7=>k_is)
  (case lC8=>k_is)
  (case nC8=>kernel_rfl)
  (case kC8=>k_is)
  (case lC9=>k_is)
  (case nC9=>kernel_rfl)
  (case kC9=>k_is)
