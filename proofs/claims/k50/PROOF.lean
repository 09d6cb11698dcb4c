import PyProof.Rows.All
import Wide.All
import OpenK.AllK
import Wide.FinOn
import Lean
import PyProof.Rows.SetFrom
import PyProof.TupleKey
import PyProof.SetRoads
import PySem.SetOps
import PyProof.EqAt
import PyProof.EqKinds
import PyProof.TupleCall
import KE.KDictList
import KE.KDictLaws
import PyProof.NeKinds
import PyProof.Draws
import KE.KSortTup
import KE.KLam
import PyProof.ListRange
import PyProof.TupleOfSeq
import KE.KNestM
import KE.KMinKey
import PyProof.MinMaxWalk
import KE.KDictSum
import PySem.Challenge.RW_lotjoin_k50_whole_nights_till_all_know
set_option bootstrap.genMatcherCode false
set_option compiler.extract_closed false
set_option compiler.reuse false
open List renaming append_nil->qE,foldl_cons->uX,foldl_nil->uY,length_map->ye,getElem?_eq_getElem->D9,getElem?_eq_some_iff->Ll,length_append->Lo,getD_eq_getElem?_getD->My,length_cons->Uh,getElem?_map->Uj,size_toArray->Uk,getElem?_append_left->q0a,mem_cons->q0c,mem_cons_self->q0d,getElem?_append_right->q0i,mem_map->q0j,mem_iff_getElem?->q0m,mem_append_right->q0n,mem_cons_of_mem->q0p,replicate->q0q,map_append->q0s,mem_append->q0w,mem_filter->q0x,map_map->q0y,mem_singleton->q0z,map_cons->q0C,lookup_cons->q0E,range->q0F,mem_range->q0H,mem_of_getElem?->q0I,length_singleton->q0J,length_take->q0K,not_mem_nil->q0L,length_filter_le->q0S,mem_append_left->q0U,getElem?_take_of_lt->q0W,toArray->q01,map_congr_left->q02,length_range->q03,pairwise_cons->q05,getElem?_set_self->q07,getElem?_set_ne->q08,set_cons_zero->q1a,set_cons_succ->q1b,getElem?_eq_none->q1c,length_eq_zero_iff->q1h,take_of_length_le->q1i,mem_iff_getElem->q1j,nodup_append->q1k,length_nil->q1p,filter_cons->q1r,pairwise_map->q1s,getElem_map->q1z,getElem?_range->q1A,length_set->q1H,filter_map->q1I,all_eq_true->q1J,getElem_mem->q1M,exists_cons_of_length_eq_add_one->q1N,append_assoc->q12,pairwise_lt_range->q13,map_nil->q19,ext_getElem?->q2e,filter_cons_of_pos->q2i,filter_cons_of_neg->q2j,nodup_cons->q2k,mem_map_of_mem->q2n,filter_eq_nil_iff->q2o,length_drop->q2q,getElem_inj->q2r,take_length->q2s,zip_cons_cons->q2u,take_succ->q2w,filter_append->q2x,getElem?_toArray->q2y,pairwise_iff_getElem->q2z,any_eq_false->q2D,any_cons->q2H,replicate_succ->q2J,countP_cons->q2L,lookup->q2Q,find?_cons->q2U,foldl_append->q2Z,range_eq_range'->q25,drop_eq_getElem_cons->q28,eq_of_mem_replicate->q2_,range_succ->q3f,mem_filterMap->q3i,getElem?_replicate->q3l,nodup_nil->q3u,find?_cons_of_pos->q3C,find?_cons_of_neg->q3D,length_filterMap_eq_countP->q3E,Perm.append_left->q3G,length_replicate->q3I,nodup_range->q3J,any_eq_true->q3P,Nodup.length_le_of_subset->q3Q,mem_of_mem_drop->q3U,map_id->q3W,reverse_reverse->q3X,find?_some->q3Y,nil_append->q33,filterMap_cons->q39,filter_eq_self->q4b,length_pos_iff->q4c,find?_eq_none->q4j,Perm.refl->q4p,length_eraseIdx_of_lt->q4q,Perm.swap->q4r,mem_or_eq_of_mem_set->q4C,mem_of_find?_eq_some->q4G,zip_nil_left->q4L,range'->q4O,cons.inj->q4W,filterMap_cons_none->q4X,cons_append->q45,getElem?_cons_succ->q46,drop_of_length_le->q5i,length_eq_one_iff->q5l,of_mem_zip->q5q,contains_iff_mem->q5u,countP_eq_length->q5v,mem_of_mem_take->q5F,drop_zero->q5G,pairwise_append->q5H,Perm.cons->q5I,take_succ_cons->q5Z,replicate_zero->q50,filter_sublist->q51,map_eq_nil_iff->q52,forall_mem_nil->q54,filterMap_map->q6d,zip_nil_right->q6m,getElem?_drop->q6q,take_sublist->q6u,Pairwise.nil->q6w,flatten_cons->q6O,Sublist.refl->q6T,map_id'->q6Y,flatMap_cons->q6Z,mem_flatMap->q7a,append_inj'->q7f,range'_succ->q7g,cons.injEq->q7E,Perm.of_eq->q7F,filter_nil->q7G,Perm.trans->q7J,foldl->q7Y,sum_cons->q8R,any_map->q9z,map_set->q9G,length->x0t,filter->x02,drop->x2G,Perm->x2H,map->x2_
open Nat renaming reduceBEq->uW,le_refl->Ln,ne_of_lt->q0o,lt_of_lt_of_le->q0v,zero_add->q0D,le_trans->q0N,zero_le->q0V,lt_succ_of_lt->q0Z,le_of_lt->q1e,sub_self->q1l,le_of_ble_eq_true->q1O,lt_succ_self->q1U,ne_of_gt->q15,succ.inj->q2d,lt_irrefl->q2G,le_of_lt_succ->q3p,le_add_right->q3L,succ_le_succ->q3O,le_succ->q3V,le_of_eq->q4f,lt_of_le_of_lt->q4o,succ_ne_self->q44,add_sub_cancel_left->q47,ble->q5U,lt_trans->q6t,min_self->q6R,le_succ_of_le->q6X,le_of_not_lt->q61,zero_lt_one->q7z,min_eq_left->q7I,mul_le_mul->q8d,reduceAdd->q8M,succ_add->q8_,succ_pos->q9a,mul_comm->q9b,sub_zero->q9c,succ_mul->q9j,add_zero->q9F,mod_lt->x1N,not_lt->x11
open Classical renaming byContradiction->wd,choose_spec->q5B,choose->x20
open PySem renaming wpAny_bind->Aw,Heap.get?_push_of_some->Lm,wpAny_pure->Ui,W.Frag->q0b,Heap.get?_push_size->q0f,Heap.lt_size->q0h,Spec->q0A,F.plainAttrs_list->q0M,Heap.SameBut.update->q0O,Obj.mapSeq->q0Q,wpAny_holding->q0R,Value.none->q0T,F.slot_list_append->q0X,F.type_list_append->q0Y,codeAny_builtin->q09,Heap.get?_update_self->q1d,W.fnOf->q1f,sizeLine_eq->q1g,Value.int->q1m,Value.ref->q1n,W.keepIn->q1q,Around.under_plainId->q1t,F.called_set->q1u,Heap.get?_update_other->q1v,wpAny_loadPart'->q1w,boot_len->q1x,wpAny_call_entry->q1y,mem_of_lookup->q1B,wpAny_mono->q1C,Heap.size_push->q1E,W.kia_one->q1G,W.findIn->q1P,W.kitOne->q1Q,W.nsIn->q1S,wpAny_callSpecial?_slot->q1V,plainId_quiet->q1X,NameKind.free->q1Y,NameKind.cell->q1Z,wpAny_setState_of->q11,Value.type->q14,wpAny_newObj_type->q16,wpAny_truthy_bool->q17,wpAny_Call_Name_kw->q2a,Str.ofString->q2c,wpAny_pyIter_list->q2f,wpAny_pyIter_enum->q2h,PassesOwn.never->q2l,SetTable.layClean.free->q2p,Obj.data_mapFields->q2t,F.slot_tuple_iterator_next->q2v,Builtin.Slice.slicePlaces->q2A,codeAny_mono->q2C,W.emptyDict->q2E,SetTable.fill->q2F,SetTable->q2K,Builtin.Range.rangeSize->q2O,wpAny_pyIter_tuple->q2R,W.instObj->q2T,wpAny_standAt->q2W,wpAny_newList->q2X,wpAny_runValue->q21,W.codeIn->q23,Heap.SameBut->q26,wpAny_askSetting->q27,Calls.call_function_entry->q29,F.args_tuple_add_2->q3a,Builtin.List.listTooLong->q3b,W.mg_of->q3d,wpAny_updateSeq->q3g,wpAny_passesOwn->q3h,Value.bool->q3j,tupleKind_room_in1->q3k,F.entry_tuple_add->q3m,wpAny_field->q3n,F.plainAttrs_dict->q3o,wpAny_storeSet_of->q3r,wpAny_seqItems->q3t,wpAny_setField->q3w,W.cellsFrom_some->q3x,F.slot_tuple_add->q3y,Calls.callWith_builtin->q3z,Builtin.Tuple.tupleCompareSizes->q3F,Obj.isFreed_of_fields->q3H,intKind_is->q3K,Walks.list->q3M,W.plainGet->q3N,SetTable.fits->q3R,wpAny_specialOf->q30,Builtin.Frozenset.updateFrom->q31,wpAny_execs_nil->q32,F.slot_dict_setdefault->q35,F.args_tuple_iterator_next_1->q36,wpAny_setEntries_of->q38,W.plainGet_of->q3_,wpAny_typeOf->q4d,Builtin.List.listExtendWith->q4e,F.entry_tuple_iterator_next->q4g,SetTable.probe.go->q4i,Obj.putSet->q4l,wpAny_rule->q4s,wpAny_load->q4t,Calls.Name_function_global->q4u,W.lookIn->q4v,W.callWith_K->q4w,Builtin.Tuple.tupleItemsOf->q4x,wpAny_letOwnedTupleGo_enum->q4y,wpAny_tryCatch->q4A,Builtin.Slice.sliceAdjust->q4E,Builtin.SmallTypes.nextOf->q4F,Value.isInt_shape->q4H,Obj.cls_mapFields->q4I,F.plain_list_iadd->q4J,W.hasDictIn->q4K,wpAny_letGo->q4N,Builtin.List.listSameRef->q4S,AutoSeq1.sub_tuple_tuple->q4U,F.slot_dict_values->q4V,F.slot_list_extend->q4Y,F.type_list_extend->q4Z,wpAny_forIn_list->q41,wpAny_eqBool_int->q42,noFill_tuple_add->q43,wpAny_call->q49,SeqAt.EqAt->q5a,W.isFn->q5b,richCompare_meets_room->q5e,call_meets->q5g,codeAny_of_tree->q5n,wpAny_ite_split->q5o,W.takerIn->q5p,SeqAt.EqAt.same->q5r,weight_type_call_type->q5w,F.entry_proto_collect->q5x,wpAny_isTrue_Compare1->q5y,W.methodCall_KW->q5z,F.slot_dict_pop->q5A,codeAny_call_builtin->q5J,F.sub_list_frozenset->q5K,wpAny_of_eq->q5L,Around.frames_deeper->q5M,Value.notImplemented->q5O,Calls.evalArgs_plain->q5P,W.callWith_K0->q5W,call_enumerate_list->q5Y,W.codeHd_of_K->q53,wpAny_attempt->q56,Paired.length->q58,rangeSize_one->q59,seq_tuple_add->q5_,PlainL.isList->q6a,Code.quiet_builtin->q6e,Around.under_plain->q6f,SeqAt.EqAt.int_str->q6i,SeqAt.EqAt.str_int->q6j,Calls.spliced_cons->q6k,SeqAt.EqAt.int_int->q6l,SeqAt.EqAt.of_refs->q6p,F.entry_type_call->q6v,wpAny_pyIter_slot->q6x,F.entry_list_iadd->q6y,Within->q6z,wpAny_assign_Name->q6A,W.plainOver->q6B,W.kitx_list->q6C,W.kitx_dict->q6D,Calls.spliced_nil->q6E,concat_meets->q6F,wpAny_sequenceKey->q6G,seqIndex_neg->q6H,slot_list_getitem->q6N,call_meetsIn->q6Q,wpAny_collect_seq->q6W,putSet_of->q60,F.typeCall_set_1->q62,F.entry_set_init->q63,check_set_init_1->q64,wpAny_isInstance->q65,wpAny_execs_cons->q66,W.handedIn->q67,W.codeHdIn->q7j,seqIndex_of->q7p,F.plain_set_new->q7s,F.slot_set_iter->q7t,W.makesIn->q7u,F.slot_int_rmul->q7w,pushCells_keeps->q7x,W.OpenLaw->q7D,SetTable.grown->q7N,F.sub_list_set->q7P,entryFor_alias->q7R,wpAny_Name->q7S,typeIs_int->q7X,fitsIndex_both->q70,call->q72,SeqAt.RcAt->q74,wpAny_newTuple->q8a,W.CodeHd->q8c,Shared.TypeIs->q8h,Obj.mapFields->q8i,wpAny_handled->q8j,Value.isStrOf->q8l,intBits_le_64->q8m,call_list_seq->q8o,Value.str->q8V,small_one->q8W,Fin->q87
open Option renaming map_eq_some_iff->q0e,some.inj->q0P,map_some->q3Z,isSome_map->q4M,isSome_iff_exists->q4T,getD_none->q40,isSome->q55,isSome_some->q6o,none->x0v,map->x1P
open Array renaming length_toList->q0k,getElem?_eq_getElem->q0B,getElem?_toList->q0G,getD_eq_getD_getElem?->q06,getElem?_eq_none->q1L,toList_setIfInBounds->q10,getElem?_eq_some_iff->q20,perm_iff_toList_perm->q24,toList_push->q3q,size_map->q3s,getElem_mem_toList->q4Q,size_setIfInBounds->q4R,toList_filterMap->q48,getD->q4_,size_push->q5m,Perm.refl->q5s,toList_extract->q5D,toList_append->q5V,foldl_toList->q6b,size_extract->q6c,size_append->q6s,replicate->q7r,toList->q9g
open Int renaming toNat_natCast->q0t,emod_lt_of_pos->q2b,emod_nonneg->q2B,eq_ofNat_of_zero_le->q2P,ofNat.inj->q3S,cast_ofNat_Int->q4B,le_refl->q4P,zero_add->q5h,natCast_add->q5t,ofNat->q6_,max_eq_right->q7d,min_eq_right->q7e,mul_one->q7o,min_eq_left->q7A,max_eq_left->q7B,le_of_lt->q9y,toNat->x2Y
open Bool renaming and_eq_true->q04,false_ne_true->q1F,false_eq_true->q1T,not_eq_true'->q3A,or_eq_true->q34,or_false->q57,not_eq_true->q7c,false_and->q7T,and_false->q7Z,false_bne->q8b,and_true->q8p,true_and->q8S,true_or->q9k
open PyProof renaming Rows.slot_tuple_getitem->q1o,Rows.callWith_type1->q1W,Rows.F.entry_set_update_loop->q2M,Rows.F.plain_set_update_loop->q2N,Rows.get?_update_seq->q2V,Rows.listUpdate_at->q3c,Rows.entry_list_sort->q37,Rows.lt_int->q4a,Rows.slot_list_sort->q4z,Rows.subscriptTail_builtinR->q5f,Rows.plain_sorted->q5j,Rows.entry_sorted->q5k,Rows.kind_sorted->q5Q,Rows.args_list_sort->q5R,Rows.seqEpoch_at->q5S,Rows.entry_tuple_getitem->q5X,Rows.args_tuple_getitem->q6n,Rows.args_sorted1->q6S,Rows.listItems_at->q6U,Rows.evalAll_cons->q6V
open False renaming elim->q1D
open LawfulBEq renaming eq_of_beq->q1K
open ForInStep renaming yield->q1R
open True renaming intro->q18
open Ne renaming symm->q1_
open Sum renaming inl->q2g,inl.inj->q22,inr->q5T
open Or renaming inl->q4h,inr->q5C
open Function renaming comp->q8N
open Prod renaming fst->x0x
open Iff renaming rfl->x2z
set_option Elab.async false
set_option linter.all false
set_option maxRecDepth 100000
abbrev bz:=PySem.Value->PySem.Shared->Prop
local macro_rules | `(tactic| trivial) => `(tactic| first|exact q4h rfl|exact q5C rfl)
abbrev Ul:=@decide_eq_false
abbrev q0g:=@decide_eq_true
abbrev q0l:=@if_neg
abbrev q0r:=@if_pos
abbrev q0u:=@decide_eq_true_eq
abbrev q00:=@of_decide_eq_true
abbrev q2m:=@or_false
abbrev q2I:=@beq_eq_false_iff_ne
abbrev q2S:=@if_false
abbrev q2Y:=@not_not_intro
abbrev q3e:=@if_true
abbrev q3v:=@bne_self_eq_false
abbrev q4k:=@of_decide_eq_false
abbrev q5d:=@beq_iff_eq
abbrev q6g:=@not_or
theorem el7{α β γ ε:Type}{A B C:α→β→γ→ε→Prop}{R:Prop}(h:∃F ad δ K, A F ad δ K∧B F ad δ K∧C F ad δ K)(k:∀F ad δ K, A F ad δ K→B F ad δ K→C F ad δ K→R): R:=h.elim λF h=>h.elim λa h=>h.elim λd h=>h.elim λK h=>k F a d K h.1 h.2.1 h.2.2
theorem el5{α β:Type}{A B C:α→β→Prop}{R:Prop}(h:∃F ad, A F ad∧B F ad∧C F ad)(k:∀F ad, A F ad→B F ad→C F ad→R): R:=h.elim λF h=>h.elim λa h=>k F a h.1 h.2.1 h.2.2
theorem el3{α:Type}{A B:α→Prop}{R:Prop}(h:∃F, A F∧B F)(k:∀F, A F→B F→R): R:=h.elim λF h=>k F h.1 h.2
set_option compiler.extract_closed false
local macro_rules | `(tactic| symm) => `(tactic| first|lia|omega (config:={}))
local macro_rules | `(⋯) => `(by symm)
abbrev Ay:=PySem.Value->PySem.Shared->Prop
open Option renaming some->Z,some->ζ,none->η
open Bool renaming true->θ,false->ι
open Decidable renaming decide->I,decide->μ
open PySem renaming Value->O,Value->ν,Addr->Y,Addr->ξ,Shared->ο,Str->L,Str->π,wpAny->ρ,model->ς,Expr->υ,Stmt->χ,Program->ψ,World->ω,Heap->Α,Around->Β,Scope->Γ,Pos->Δ
theorem U{α:Sort u}{a:α}:a=a:=rfl
theorem qzr (_:True:=by first|rfl|(intros;rfl)):True:=trivial
theorem qzd (_:True:=by decide):True:=trivial
theorem qz0 (_:True:=by kernel_rfl):True:=trivial
theorem qz2 (_:True:=by first|rfl|kernel_rfl):True:=trivial
theorem qz3 (_:True:=by decide +kernel):True:=trivial
theorem qz6 (_:True:=by with_unfolding_all rfl):True:=trivial
theorem qz8 (_:True:=by trivial):True:=trivial
open Lean in
local macro_rules|`(command|def $i:declId $s:optDeclSig $v:declVal)=>do
 if (← getRef).getHeadInfo matches .original .. then return mkNode `Lean.Parser.Command.declaration #[(← getRef)[0],mkNode `Lean.Parser.Command.theorem #[mkAtom "theorem",i,mkNode `Lean.Parser.Command.declSig #[s.raw[0],s.raw[1][0]],v]] else Macro.throwUnsupported
local macro_rules
|`(command|meta def $i:declId $s:optDeclSig $v:declVal)=>`(command|noncomputable def $i:declId $s:optDeclSig $v:declVal)
|`(command|meta abbrev $i:declId $s:optDeclSig $v:declVal)=>`(command|noncomputable abbrev $i:declId $s:optDeclSig $v:declVal)
section
open Lean in
local macro_rules
 |`(‹$x›)=>if x.raw.isOfKind `Lean.Parser.Term.hole then Macro.throwUnsupported else `(autoParam $x qzr._auto_1)
 |`(~~~$x)=>`(autoParam $x qzd._auto_1)
open Lean in
/---/def qzp(s:Syntax):Syntax:=
 let n:=λs a=>mkNode (`Lean.Parser.Tactic++s) a
 s.rewriteBottomUp λs=>if s.isIdent then n `rcasesPat.one #[s] else if s.isOfKind `Lean.Parser.Term.hole then n `rcasesPat.ignore #[mkAtom "_"] else if s.isOfKind `Lean.Parser.Term.anonymousCtor then n `rcasesPat.tuple #[mkAtom "⟨",mkNullNode (s[1].getArgs.map λx=>if x.isAtom then x else n `rcasesPatLo #[n `rcasesPatMed #[mkNullNode #[x]],mkNullNode]),mkAtom "⟩"] else s
open Lean in
local macro_rules
 |`(tactic|let $d:letDecl)=>do
  let d:=d.raw[0]
  let r:TSyntax `tactic:=⟨if d.isOfKind `Lean.Parser.Term.letPatDecl then mkNode `Lean.Parser.Tactic.obtain #[mkAtom "obtain",mkNullNode #[mkNode `Lean.Parser.Tactic.rcasesPatMed #[mkNullNode #[qzp d[0]]]],mkNullNode (if d[2].getNumArgs==0 then #[] else #[mkAtom ":",d[2][0][1]]),mkNullNode #[mkAtom ":=",mkNullNode #[d[4]]]] else mkNode `Lean.Parser.Tactic.tacticHave__ #[mkAtom "have",mkNode `Lean.Parser.Term.letConfig #[mkNullNode],mkNode `Lean.Parser.Term.letDecl #[d]]⟩
  if d.isOfKind `Lean.Parser.Term.letPatDecl&&(d[0].find? (·.isOfKind `Lean.Parser.Term.hole)).isNone then `(tactic|set_option tactic.hygienic false in $r:tactic) else pure r
open Lean in
local macro_rules
 |`(fun $bs* => $e)=>do
  if (← getRef)[1][2].getAtomVal != "↦" then Macro.throwUnsupported
  let p:=bs.map λs=>⟨mkNode `Lean.Parser.Tactic.rintroPat.one #[qzp s]⟩
  `(by rintro $p*;exact $e)
local macro_rules |`(tactic|calc $e:term)=>`(tactic|refine $e)
local macro_rules |`(tactic|ext $p*)=>if p.any λx=>(x.raw.find? (·.isOfKind `Lean.Parser.Tactic.rcasesPat.ignore)).isSome then `(tactic|rintro $p*) else `(tactic|set_option tactic.hygienic false in rintro $p*)
local macro_rules |`(↑$x)=>`(($x).length)
local macro_rules |`(⇑$x)=>`(($x).heap.objs.size)
local macro_rules |`($x⁻¹)=>`(by simpa using $x)
open Lean in
local macro_rules
 |`(-$x)=>if x.raw.getKind==`Lean.Parser.Term.typeAscription||x.raw.isOfKind `num||(x.raw.isOfKind `Lean.Parser.Term.paren&&!x.raw[1].isOfKind `Lean.Parser.Term.app&&!x.raw[1].isOfKind `«term-_»&&!x.raw[1].isOfKind `«term_×_»&&!x.raw[1].isOfKind `Lean.Parser.Term.arrow) then Macro.throwUnsupported else `(List $x)
open Lean in
local macro_rules
 |`(tactic|erw[$ls,*] $[$l:location]?)=>do
  let a←ls.getElems.mapM fun r=>do
   let t:Term:=⟨r.raw[1]⟩
   if r.raw[0].getNumArgs==0 then `(Parser.Tactic.simpLemma|$t:term) else `(Parser.Tactic.simpLemma|←$t:term)
  `(tactic|simp only[$a,*] $[$l]?)
namespace LJS
open PySem PySem.SetTable
meta def nx(m i:Nat):Nat:=(i*5+1)%(m+1)
meta def qb(m:Nat):Nat->Nat->Nat
 |0,i=>i
 |n+1,i=>qb m n (nx m i)
def Ac m:∀a b i,qb m (a+b) i=qb m b (qb m a i)
 |0,b,i=>by rw[q0D];rfl
 |a+1,b,i=>by rw[q8_];calc Ac m a b (nx m i)
meta def Cy(m:Nat):Nat->Nat->-Nat
 |0,_=>[]
 |n+1,i=>i::Cy m n (nx m i)
def Jw m:∀{n i e},e∈Cy m n i->∃k,k<n/\qb m k i=e
 |0,_,_,h=>nomatch h
 |n+1,i,e,h=>by
  rcases q0c.mp h with rfl|h
  .exact⟨0,q9a _,U⟩
  .let⟨k,hk,e⟩:=Jw m h
   calc⟨k+1,Nat.succ_lt_succ hk,e⟩
/---/def Mk(m:Nat):Prop:=m=7\/m=31\/m=127
meta def xo(m:Nat):Bool:=(q0F (m+1)).all λe=>(Cy m (m+1) 0).contains e
def Jx(h:Mk m):xo m=θ/\qb m (m+1) 0=0:=by
 rcases h with rfl|rfl|rfl<;>calc⟨by decide +kernel,by decide +kernel⟩
def sZ(h:Mk m)(he:e<=m):∃k,k<=m/\qb m k 0=e:=by
 let:=q1J.mp (Jx h).1 e (q0H.mpr ⋯);let⟨k,hk,q⟩:=Jw m (q5u.mp this);calc⟨k,q3p hk,q⟩
def Rb(h:Mk m)(hi:i<=m)(he:e<=m):∃n,n<=m/\qb m n i=e:=by
 let⟨a,ha,rfl⟩:=sZ h hi;let⟨b,hb,rfl⟩:=sZ h he
 by_cases Jy:a<=b
 .refine⟨b-a,⋯,?_⟩
  rw[<-Ac];congr 1;symm
 .refine⟨m+1-a+b,⋯,?_⟩
  rw[<-Ac,show a+(m+1-a+b)=(m+1)+b by symm,Ac,(Jx h).2]
meta def lp(m:Nat):Nat->Nat->Nat->Nat×Nat
 |0,i,p=>(i,p)
 |n+1,i,p=>lp m n (leap m i p).1 (leap m i p).2
def Jz m:∀a b i p,lp m (a+b) i p=lp m b (lp m a i p).1 (lp m a i p).2
 |0,b,i,p=>by rw[q0D];rfl
 |a+1,b,i,p=>by rw[q8_];calc Jz m a b _ _
def JB m:∀n i,lp m n i 0=(qb m n i,0)
 |0,i=>U
 |n+1,i=>by
  calc JB m n _
def Rc m i p:(leap m i p).1<=m:=q3p (x1N _ (q9a _))
def JD m:∀n i p,(lp m n i p).2=p / 32 ^ n
 |0,i,p=>by simp[lp]
 |n+1,i,p=>by
  show(lp m n (leap m i p).1 (leap m i p).2).2=_;rw[JD m n];show p / 32 / 32 ^ n=_;rw[Nat.div_div_eq_div_mul,Nat.pow_succ,q9b]
def reach(h:Mk m)(hp:p<2 ^ 64)(he:e<=m):∃n,n<=13+m/\(lp m n i p).1=e:=by
 let z:(lp m 13 i p).2=0:=by
  rw[JD];symm
 let q:(lp m 13 i p).1<=m:=by
  exact Rc _ _ _
 let⟨n,hn,en⟩:=Rb h q he;calc⟨13+n,⋯,?_⟩;rw[Jz,z,JB];calc en
def JH j:has #[] j=ι:=by unfold has;simp
def Cz{t:SetTable}(hd:t.dummies = #[]) j:t.slot j=.empty\/∃i,t.slot j=.live i/\i<t.place.size/\j∈t.place.toList:=by
 unfold slot;rw[hd,JH]
 by_cases c:(t.place[below t.place j]?==Z j)=θ
 .right
  rw[q0r c];let⟨hl,ev⟩:=q20.mp (q1K c);exact⟨_,U,hl,by rw[<-ev];calc q4Q hl⟩
 .left
  rw[q0l c];rfl
def Rf{t:SetTable}(hd:t.dummies = #[])(hj:j∉t.place.toList):t.slot j=.empty:=by
 rcases Cz hd j with h|⟨_,_,_,h⟩
 .exact h
 .calc absurd h hj
def JJ:∀{l l':-Nat},l.Nodup->(∀x∈l,x∈l')->↑l<=↑l'
 |[],_,_,_=>q0V _
 |a::l,l',hn,hs=>by
  let ha:=hs a (q0d ..);let s_:=q2k.mp hn;let ih:=JJ  (l':=l'.erase a) s_.2 λx hx=>(List.mem_erase_of_ne (λz=>s_.1 (by rw[<-z];calc hx))).mpr (hs x (q0p _ hx));rw[List.length_erase_of_mem ha] at ih;let:=List.length_pos_of_mem ha;rw[Uh];symm
def Rg{l:-Nat}(h:↑l<=m):∃e,e<=m/\e∉l:=by
 calc wd λno=>?_;let:=JJ q3J (λe he=>wd λz=>no ⟨e,q3p (q0H.mp he),z⟩);rw[q03] at this;symm
meta def stateOf(t:SetTable)(i p:Nat):Probe:=⟨i,runEnd t.mask i-i,i,p,η⟩
def Rh m i:runEnd m i-i<=9:=by unfold runEnd;split<;>symm
section
variable{t:SetTable}{f:Nat->Int}{h:Int}
def Ad F p:q4i t f h (F+1) p=(match t.slot p.j with
  |.empty=>Z (.empty p.j p.dummy)
  |.dummy=>q4i t f h F (t.advance {p with dummy:=Z p.j})
  |.live i=>if f i==h then Z (.candidate p.j i (t.advance p)) else q4i t f h F (t.advance p)):=rfl
def JK(hd:t.dummies = #[])(hf:∀i,i<t.place.size->f i≠h):∀k F p,p.more=k->p.dummy=η →
  (∃j,q4i t f h (F+k+1) p=Z (.empty j η))\/q4i t f h (F+k+1) p=q4i t f h F (stateOf t (leap t.mask p.i p.perturb).1 (leap t.mask p.i p.perturb).2)
 |0,F,p,hm,xp=>by
  rw[Ad];rcases Cz hd p.j with e|⟨i,e,hi,_⟩
  .left;rw[e];exact⟨p.j,by rw[xp]⟩
  .right
   rw[e];show(if(f i==h)=θ then _ else _)=_;rw[q0l (by ext z;calc hf i hi (q1K z))];unfold advance;rw[hm,q0l ⋯,xp];rfl
 |k+1,F,p,hm,xp=>by
  let ih:=JK hd hf k F {p with j:=p.j+1,more:=p.more-1} (by show p.more-1=k;symm) xp;rw[show F+(k+1)+1=(F+k+1)+1 by symm,Ad];rcases Cz hd p.j with e|⟨i,e,hi,_⟩
  .left;rw[e];exact⟨p.j,by rw[xp]⟩
  .rw[e]
   show(∃j,(if(f i==h)=θ then _ else _)=_)\/(if(f i==h)=θ then _ else _)=_;rw[q0l (by ext z;calc hf i hi (q1K z))];let ea:t.advance p={p with j:=p.j+1,more:=p.more-1}:=by unfold advance;rw[q0r ⋯]
   rw[ea];calc ih
def JL(hd:t.dummies = #[])(hf:∀i,i<t.place.size->f i≠h):∀n F i p,10*(n+1)<=F->t.slot (lp t.mask n i p).1=.empty->∃j,q4i t f h F (stateOf t i p)=Z (.empty j η)
 |0,F,i,p,hF,hs=>by
  let⟨G,rfl⟩:∃G,F=G+1:=⟨F-1,⋯⟩;rw[Ad];let e:t.slot (stateOf t i p).j=.empty:=hs;rw[e];exact⟨i,U⟩
 |n+1,F,i,p,hF,hs=>by
  let hr:=Rh t.mask i;let⟨G,hG⟩:∃G,F=G+(runEnd t.mask i-i)+1:=⟨F-(runEnd t.mask i-i)-1,⋯⟩;let:=JK   hd hf (runEnd t.mask i-i) G (stateOf t i p) U U;rw[<-hG] at this;rcases this with h1|h1
  .exact h1
  .rw[h1]
   calc JL hd hf n G _ _ ⋯ hs
def CA h:bits h<2 ^ 64:=by
 unfold bits;symm
def JM(hd:t.dummies = #[])(hm:Mk t.mask)(hz:t.place.size<=t.mask)(hf:∀i,i<t.place.size->f i≠h):∃j,t.probe f h (t.probeStart h)=Z (.empty j η):=by
 let⟨e,he,ne⟩:=Rg   ⋯;let⟨n,hn,en⟩:=reach hm  (CA h) he;calc JL hd hf n _ _ _ (by unfold turns;symm) (by rw[en];calc Rf hd ne)
end
section
variable{m:Nat}{owner:Array (Option Nat)}
def JN F i p:q2p m owner (F+1) i p=(match(q0F (runEnd m i+1-i)).find? λk=>(owner.getD (i+k) (Z 0)).isNone with
   |some k=>Z (i+k)
   |none=>q2p m owner F (leap m i p).1 (leap m i p).2):=rfl
def CB:∀n F i p,n+1<=F->(owner.getD (lp m n i p).1 (Z 0)).isNone=θ->∃j,q2p m owner F i p=Z j/\(owner.getD j (Z 0)).isNone=θ
 |0,F,i,p,hF,hs=>by
  let⟨G,rfl⟩:∃G,F=G+1:=⟨F-1,⋯⟩;rw[JN]
  cases hc:(q0F (runEnd m i+1-i)).find? λk=>(owner.getD (i+k) (Z 0)).isNone with
  |some k =>
   let:=q3Y hc;exact⟨i+k,U,this⟩
  |none =>
   let:=q4j.mp hc 0 (q0H.mpr (by unfold runEnd;split<;>symm));exact absurd hs this
 |n+1,F,i,p,hF,hs=>by
  let⟨G,rfl⟩:∃G,F=G+1:=⟨F-1,⋯⟩;rw[JN]
  cases hc:(q0F (runEnd m i+1-i)).find? λk=>(owner.getD (i+k) (Z 0)).isNone with
  |some k =>
   let:=q3Y hc;exact⟨i+k,U,this⟩
  |none=>calc CB n G _ _ ⋯ hs
end
structure Ow(m:Nat)(owner:Array (Option Nat))(k:Nat):Prop where
 size:owner.size=m+1
 cnt:owner.toList.countP q55=k
 lt:∀x,Z x∈owner.toList->x<k
def CD:∀{l:-(Option Nat)}{j k},l[j]?=Z η->(l.set j (Z k)).countP q55=l.countP q55+1
 |[],j,k,h=>by simp at h
 |x::l,0,k,h=>by
  simp at h;subst h;rw[q1a,q2L,q2L];rfl
 |x::l,j+1,k,h=>by
  simp at h;rw[q1b,q2L,q2L,CD h];symm
def getD_none{owner:Array (Option Nat)}(h:(owner.getD j (Z 0)).isNone=θ):owner.toList[j]?=Z η:=by
 rw[q06] at h;rw[q0G]
 cases e:owner[j]? with
 |none=>rw[e] at h;cases h
 |some x =>
  rw[e] at h
  cases x with
  |none=>rfl
  |some y=>cases h
def JO{owner}(O:Ow m owner k)(hk:k<=m):∃e,e<=m/\(owner.getD e (Z 0)).isNone=θ:=by
 refine wd λno=>?_
 let all:∀x∈owner.toList,x.isSome=θ:=by
  ext x hx;let⟨e,he⟩:=q0m.mp hx
  cases x with
  |some y=>rfl
  |none =>
   let hl:=(Ll.mp he).1;rw[q0k,O.size] at hl;calc absurd ⟨e,q3p hl,?_⟩ no;rw[q06,<-q0G,he];rfl
 let:=q5v.mpr all;rw[O.cnt,q0k,O.size] at this;symm
def Ri{owner}(hm:Mk m)(O:Ow m owner k)(hk:k<=m) h:∃j,q2p m owner (turns m) (bits h%(m+1)) (bits h)=Z j/\Ow m (owner.setIfInBounds j (Z k)) (k+1):=by
 let⟨e,he,hn⟩:=JO O hk;let⟨n,s_,en⟩:=reach hm  (CA h) he;let⟨j,ej,hj⟩:=CB   n (turns m) (bits h%(m+1)) (bits h) (by unfold turns;symm) (by rw[en];calc hn);refine⟨j,ej,by rw[q4R];calc O.size,?_,λx hx=>?_⟩
 .rw[q10,CD (getD_none hj),O.cnt]
 .rw[q10] at hx
  rcases q4C hx with h|h
  .exact q0Z (O.lt x h)
  .cases h;symm
def JP(hm:Mk m):∀(hs:-Int) owner k,Ow m owner k->k+↑hs<=m+1 →
  ∃f6,(hs.foldl (init:=Z (owner,k)) λacc h=>do
   let(owner,k) <- acc
   let j <- q2p m owner (turns m) (bits h%(m+1)) (bits h)
   pure (owner.setIfInBounds j (Z k),k+1))=Z (f6,k+↑hs)/\Ow m f6 (k+↑hs)
 |[],owner,k,O,_=>⟨owner,U,O⟩
 |h::hs,owner,k,O,hl=>by
  rw[Uh] at hl ⊢;let⟨j,ej,O'⟩:=Ri hm O ⋯ h;let⟨o2,e2,O2⟩:=JP hm hs _ (k+1) O' ⋯;calc⟨o2,?_,by rw[show k+(↑hs+1)=k+1+↑hs by symm];calc O2⟩;rw[uX,show k+(↑hs+1)=k+1+↑hs by symm,<-e2];congr 1;show(do let j <- q2p m owner (turns m) (bits h%(m+1)) (bits h);pure (owner.setIfInBounds j (Z k),k+1))=_;rw[ej];rfl
def JQ m:Ow m (q7r (m+1) η) 0:=by
 refine⟨by simp,?_,λx hx=>?_⟩
 .exact List.countP_eq_zero.mpr λx hx=>by rw[q2_ hx];decide
 .cases q2_ hx
def Rj(hm:Mk m) hs (hz:hs.size<=m+1):∃owner,layClean m hs=Z owner/\Ow m owner hs.size:=by
 let⟨o,e,O⟩:=JP hm hs.toList _ 0 (JQ m) (by rw[q0k];symm);rw[q0D,q0k] at O;calc⟨o,?_,O⟩;unfold layClean;rw[<-q6b,e];rfl
meta def pA(m:Nat)(owner:Array (Option Nat)):-(Nat×Nat):=(q0F (m+1)).filterMap λj=>(owner.getD j η).map (j,·)
def CF(O:Ow m owner k):↑(pA m owner)=k:=by
 unfold pA;rw[q3E,<-O.cnt]
 let e:owner.toList=(q0F (m+1)).map λj=>owner.getD j η:=by
  calc q2e λi=>?_;rw[q0G,Uj]
  by_cases hi:i<m+1
  .rw[q1A hi,q3Z,q0B (by rw[O.size];calc hi),q06,q0B (by rw[O.size];calc hi)];rfl
  .rw[q1L (by rw[O.size];symm),q1c (by rw[q03];symm)];rfl
 rw[e,List.countP_map];calc List.countP_congr λj _=>?_;simp
def Rk(O:Ow m owner k)(hz:z∈pA m owner):z.2<k:=by
 let⟨j,hj,e⟩:=q3i.mp hz;let⟨x,ex,rfl⟩:=q0e.mp e;calc O.lt x ?_;rw[q06] at ex
 cases q:owner[j]? with
 |none=>rw[q] at ex;cases ex
 |some y =>
  rw[q] at ex;cases(ex)
  calc q0m.mpr ⟨j,by rw[q0G];calc q⟩
def Rl(hm:Mk m)(t:SetTable) hs wanted (hw:sizeAbove wanted-1=m) (hz:hs.size<=m+1) :
  ∃t' order,t.relaid hs wanted=Z (t',order)/\t'.mask=m/\t'.dummies = #[]/\t'.place.size=hs.size/\t'.led=t.led/\t'.plain=t.plain/\order.size=hs.size/\∀k∈order.toList,k<hs.size:=by
 let⟨owner,e,O⟩:=Rj hm hs hz;refine⟨{mask:=m,place:=((pA m owner).map (·.1)).toArray,dummies := #[],finger:=t.finger,led:=t.led,moves:=t.movedTo m,plain:=t.plain},((pA m owner).map (·.2)).toArray,?_,U,U,?_,U,U,?_,λk hk=>?_⟩
 .unfold relaid laid
  rw[hw,e];rfl
 .rw[Uk,ye,CF O]
 .rw[Uk,ye,CF O]
 .let⟨z,hz,rfl⟩:=q0j.mp hk
  calc Rk O hz
def JR{α:Type}{es:Array α}{order:Array Nat}(h:∀k∈order.toList,k<es.size):(order.filterMap (es[·]?)).size=order.size/\∀e∈(order.filterMap (es[·]?)).toList,e∈es.toList:=by
 constructor
 .rw[<-q0k,q48,q3E,q5v.mpr λk hk=>?_,q0k]
  rw[q0B (h k hk)];rfl
 .ext e he
  rw[q48] at he;let⟨k,_,q⟩:=q3i.mp he;calc q0m.mpr ⟨k,by rw[q0G];calc q⟩
def CG(t:SetTable)(hd:t.dummies = #[]) j:(t.put j).1.dummies = #[]/\(t.put j).1.mask=t.mask/\(t.put j).1.place.size=t.place.size+1/\(t.put j).1.led=t.led/\(t.put j).1.plain=t.plain/\(t.put j).1.moves=t.moves/\(t.put j).1.finger=t.finger:=by
 unfold put;rw[hd,JH];calc⟨U,U,?_,U,U,U,U⟩;unfold insertAt;erw[q6s,q5m,q6c];symm
def Rm{α}{xs:Array α}{p x e}(h:e∈(insertAt xs p x).toList):e=x\/e∈xs.toList:=by
 unfold insertAt at h;erw[q5V,q3q,q0w,q0z,q5D] at h;rcases h with(h|h)|h
 .right;exact q3U (q5F h)
 .exact .inl h
 .right;calc q3U (q5F h)
def CH{α}(xs:Array α) p x:(insertAt xs p x).size=xs.size+1:=by
 unfold insertAt;erw[q6s,q5m,q6c];symm
end LJS
namespace LJS
open PySem PySem.SetTable PyProof.Rows
structure h_(t:SetTable)(es:Array (Int×O))(hs:-Int):Prop where
 tj:t.dummies = #[]
 qc:Mk t.mask
 lj:t.place.size=es.size
 num:es.size=↑hs
 jF:t.tooFull=ι
 ins:∀e∈es.toList,e.1∈hs
/---/def gR(h:Α)(S:Y)(hs:-Int):Prop:=∃o es ep t,h.get? S=Z o/\o.ExactSet/\o.data=.set es ep t/\h_ t es hs
section
variable{t:SetTable}{es:Array (Int×O)}{hs:-Int}
def h_.fill(T:h_ t es hs):t.fill=es.size:=by
 unfold q2F;rw[T.lj,T.tj];rfl
def h_.lt(T:h_ t es hs):es.size*5<t.mask*3:=by
 let:=T.jF;unfold tooFull at this;rw[T.fill] at this;let:=q4k this;symm
def h_.fits(T:h_ t es hs):t.fits es.size=θ:=by
 let:=T.lt;unfold q3R;rw[T.fill,T.lj];simp;symm
def h_.CI(T:h_ t es hs):t.gaveWay=ι:=by
 unfold SetTable.gaveWay;rcases T.qc with h|h|h<;>rw[h]<;>rfl
end
def JU:sizeAbove (grown 5)-1=31:=by decide +kernel
def JV:sizeAbove (grown 19)-1=127:=by decide +kernel
section
variable{prog:ψ}{w:ω}{A:Β}{E:bz}{s:ο}
def Rn{S x h hs o es ep t}{Q:SetFound->ο->Prop}(ho:s.heap.get? S=Z o)(hd:o.data=.set es ep t)(T:h_ t es hs)(hn:h∉hs)
  (k:∀j,Q (.free j ι) s):ρ (ς prog w) A (setSearch S x h θ) Q E s:=by
 calc Aw (q11 ho hd T.fits ?_);dsimp only;rw[T.CI];let hz:t.place.size<=t.mask:=by let:=T.lt;rw[T.lj];symm
 let⟨j,ej⟩:=JM  (f:=λi=>(es[i]?.map (·.1)).getD 0) (h:=h) T.tj T.qc hz (λi hi z=>by
  rw[T.lj] at hi;rw[q0B hi] at z
  calc hn (by rw[<-z];calc T.ins _ (q4Q hi)))
 erw[q40];generalize hP:t.probe _ h (t.probeStart h)=P;rw[(hP.symm.trans ej)];calc Ui (k j)
def Ro{S:Y}{x:O}{h:Int}{hs:-Int}{Q:Bool->ο->Prop}(hx:x.scannable=ι)(hS:gR s.heap S hs)(hn:h∉hs)(hl:↑hs<60)
  (hv:∀Q':Bool->ο->Prop,(∀b,Q' b s)->ρ (ς prog w) A (hashByValue 8 x) Q' E s)
  (k:∀h',q26 S s.heap h'->gR h' S (hs++[h])->Q θ {s with heap:=h'}):ρ (ς prog w) A (setAddHashed S x h) Q E s:=by
 let⟨o,es,ep,t,ho,hex,hd,T⟩:=hS;calc q0R ?_;calc Aw (q11 ho hd T.fits ?_);let hb:byScan x es=ι:=by unfold byScan;rw[hx];rfl
 dsimp only;rw[hb];calc Aw (Rn ho hd T hn λj=>?_);calc Aw (q11 ho hd T.fits ?_);calc wd λqd=>?_;let⟨p1,p2,p3,p4,p5,p6,p7⟩:=CG t T.tj j
 let fin:∀b:Bool,ρ (ς prog w) A (do
   storeSet S (SetTable.insertAt es (t.put j).2 (h,x)) (if b=θ then(t.put j).1 else{(t.put j).1 with plain:=false})
   if(!ι&&(if b=θ then(t.put j).1 else{(t.put j).1 with plain:=false}:SetTable).tooFull)=θ then do
       setRelay S (q7N (es.size+1))
       pure θ
    else pure θ) Q E s:=by
  ext b;generalize uq:(if b=θ then(t.put j).1 else{(t.put j).1 with plain:=false}:SetTable)=t2;let q1:t2.dummies = #[]:=by rw[<-uq];cases b<;>exact p1
  let q2:t2.mask=t.mask:=by rw[<-uq];cases b<;>exact p2
  let q3:t2.place.size=es.size+1:=by rw[<-uq,<-T.lj];cases b<;>exact p3
  let jG:=CH es (t.put j).2 (h,x)
  let ur:∀e∈(insertAt es (t.put j).2 (h,x)).toList,e.1∈hs++[h]:=λe he=>by
   rcases Rm he with rfl|he
   .exact q0n _ (q0z.mpr U)
   .exact q0U _ (T.ins e he)
  generalize insertAt es (t.put j).2 (h,x)=c8 at jG ur;let uu:es.size<60:=by rw[T.num];exact hl
  refine Aw (q3r ho hd ?_ (by rw[jG,q1g];symm))
  let gT:(s.heap.update S (q4l c8 t2)).get? S=Z {o with data:=.set c8 (ep+1) t2}:=by
   let:=q1d (q4l c8 t2) ho (by rw[q60 c8 t2 hd];rfl);rw[q60 c8 t2 hd] at this;exact this
  let fl:t2.fill=es.size+1:=by unfold q2F;rw[q1,q3];rfl
  let lt:=T.lt
  let xq:t2.fits c8.size=θ:=by
   unfold q3R;rw[fl,q3,jG,q2];simp;rcases T.qc with e|e|e<;>rw[e] at lt ⊢ <;> symm
  by_cases tf:t2.tooFull=θ
  .rw[q0r (by rw[tf];rfl)]
   let Rp:=by
    let:=q00 tf;symm
   let⟨m,hm,hw,hsz⟩:∃m,Mk m/\sizeAbove (grown (es.size+1))-1=m/\(es.size+1)*5<m*3:=by
    rcases T.qc with e|e|e
    .let:es.size+1=5:=by symm
     rw[this];exact⟨31,.inr (.inl U),JU,⋯⟩
    .let:es.size+1=19:=by symm
     rw[this];exact⟨127,.inr (.inr U),JV,⋯⟩
    symm
   calc Aw (Aw (q11 gT U xq ?_));dsimp only
   let CJ:¬ SetTable.sizeAbove (q7N (es.size+1))>sizeLine:=by
    rw[q1g];rcases hm with e|e|e<;>symm
   rw[q0l CJ];calc wd λnG=>?_;let⟨t3,order,er,r1,r2,r3,_,_,r4,r5⟩:=Rl hm t2 (c8.map (·.1)) (grown (es.size+1)) hw (by rw[q3s,jG];symm);calc nG ?_;rw[er];rw[q3s,jG] at r3 r4;rw[q3s] at r5;let⟨o1,o2⟩:=JR   r5;refine Aw ?_
   show ρ _ _ (do
    if(order.filterMap (c8[·]?)).size != c8.size then
     unsupported "internal:set-table-lost-an-element"
    pure (order.filterMap (c8[·]?),t3)) _ _ _
   rw[q0l (by rw[o1,r4,jG];simp)];refine Ui (q3r gT U ?_ (by rw[o1,r4,q1g];symm))
   let gx:=by
    let:=q1d (q4l (order.filterMap (c8[·]?)) t3) gT (U);exact this
   refine Ui (k _ ?_ ⟨_,_,_,_,gx,hex,U,r2,by rw[r1];calc hm,by rw[r3,o1,r4],by rw[o1,r4,T.num,Lo];rfl,?_,λe he=>ur e (o2 e he)⟩)
   .exact (q0O ..).trans (q0O ..)
   .unfold tooFull q2F
    rw[r2,r3,r1];simp;symm
  .let xt:t2.tooFull=ι:=by cases q:t2.tooFull<;>simp_all
   rw[q0l (by rw[xt];decide)];refine Ui (k _ (q0O ..) ⟨_,_,_,_,gT,hex,U,q1,by rw[q2];calc T.qc,by rw[q3,jG],by rw[jG,T.num,Lo];rfl,xt,ur⟩)
 refine qd ?_
 by_cases hp:(t.put j).1.plain=θ
 .rw[q0r hp]
  exact Aw (hv _ λb=>fin b)
 .rw[q0l hp]
  calc fin θ
end
end LJS
namespace LJS
open PySem PySem.SetTable
/---/def Up(xs:Array Nat):Prop:=xs.toList.Pairwise (· < ·)
def Up.lt{xs}(u:Up xs){i k}(Rq:i<k)(hk:k<xs.size):xs[i]'⋯<xs[k]:=by
 let:=q2z.mp u i k (by rw[q0k];symm) ⋯ Rq;simpa using this
def CK{xs}(u:Up xs) j:∀fuel lo hi,hi<=xs.size->lo<=hi->hi-lo<=fuel->(∀i,(h:i<xs.size)->i<lo->xs[i]<j)->(∀i,(h:i<xs.size)->hi<=i->j<=xs[i]) →
  below.go xs j fuel lo hi<=xs.size/\(∀i,(h:i<xs.size)->i<below.go xs j fuel lo hi->xs[i]<j)/\(∀i,(h:i<xs.size)->below.go xs j fuel lo hi<=i->j<=xs[i])
 |0,lo,hi,h1,h2,h3,a,b=>by
  let:lo=hi:=by symm
  subst this;exact⟨h1,a,b⟩
 |fuel+1,lo,hi,h1,h2,h3,a,b=>by
  unfold below.go
  by_cases c:lo<hi
  .rw[q0r c]
   let hm:(lo+hi) / 2<xs.size:=by symm
   let em:xs.getD ((lo+hi) / 2) j=xs[(lo+hi) / 2]:=by rw[q06,q0B hm];rfl
   erw[em]
   by_cases d:xs[(lo+hi) / 2]<j
   .rw[q0r d]
    refine CK u j fuel _ hi h1 ⋯ ⋯ (λi d_ hl=>?_) b
    by_cases e:i<(lo+hi) / 2
    .exact q6t (u.lt e hm) d
    .let:i=(lo+hi) / 2:=by symm
     subst this;exact d
   .rw[q0l d]
    refine CK u j fuel lo _ ⋯ ⋯ ⋯ a λi d_ hl=>?_
    by_cases e:(lo+hi) / 2<i
    .exact q1e (q4o ⋯ (u.lt e d_))
    .let:i=(lo+hi) / 2:=by symm
     subst this;symm
  .rw[q0l c]
   let:lo=hi:=by symm
   subst this;calc⟨h1,a,b⟩
def Ae{xs}(u:Up xs) j:below xs j<=xs.size/\(∀i,(h:i<xs.size)->i<below xs j->xs[i]<j)/\(∀i,(h:i<xs.size)->below xs j<=i->j<=xs[i]) :=
 CK u j xs.size 0 xs.size (Ln _) (q0V _) ⋯ (λi _ h=>by symm) (λi h h'=>by symm)
def Rr{xs}(u:Up xs){i} hi:below xs (xs[i]+1)=i+1:=by
 let⟨h0,h1,h2⟩:=Ae u (xs[i]+1)
 let a:i<below xs (xs[i]+1):=by
  calc Nat.lt_of_not_le λz=>?_;let:=h2 i hi z;symm
 let b:below xs (xs[i]+1)<=i+1:=by
  calc q61 λz=>?_;let hk:i+1<xs.size:=by symm
  let:=h1 (i+1) hk z;let:=u.lt (k:=i+1) (q1U i) hk;symm
 symm
def Rt{xs}(u:Up xs):below xs 0=0:=by
 let⟨h0,h1,h2⟩:=Ae u 0;calc Nat.eq_zero_of_not_pos λz=>?_;let:=h1 0 ⋯ z;symm
def Ru{t:SetTable}(u:Up t.place){j:Nat}(hj:j∉t.place.toList):Up (t.put j).1.place:=by
 let⟨h0,h1,h2⟩:=Ae u j;show Up (insertAt t.place (below t.place j) j);unfold Up insertAt;generalize below t.place j=p at h0 h1 h2
 let eL:(((t.place.extract 0 p).push j)++t.place.extract p t.place.size).toList=t.place.toList.take p++([j]++t.place.toList.drop p):=by
  erw[q5V,q3q,q5D,List.extract_eq_take_drop,q5G,q9c,q12];let e2:List.take (t.place.size-p) (x2G p t.place.toList)=x2G p t.place.toList:=q1i (by rw[q2q,q0k];calc Ln _);rw[e2]
 rw[eL]
 let lo:∀x∈t.place.toList.take p,x<j:=by
  ext x hx;let⟨i,hi,e⟩:=q1j.mp hx;rw[q0K,q0k] at hi;let:=h1 i ⋯ ⋯;rw[<-e];simpa using this
 let d_:∀x∈t.place.toList.drop p,j<x:=by
  ext x hx;let⟨i,hi,e⟩:=q1j.mp hx;rw[q2q,q0k] at hi;let:=h2 (p+i) ⋯ ⋯;let CL:j<=x:=by rw[<-e];simpa using this
  calc Nat.lt_of_le_of_ne CL λz=>hj ?_;rw[z];exact q3U hx
 refine q5H.mpr ⟨u.sublist (q6u _ _),?_,λa ha b hb=>?_⟩
 .exact q05.mpr ⟨d_,u.sublist (List.drop_sublist _ _)⟩
 .rcases q0c.mp hb with rfl|hb
  .exact lo a ha
  .calc q6t (lo a ha) (d_ b hb)
def Rv n (f:Nat->Option Nat):(((q0F n).filterMap λj=>(f j).map λx=>(j,x)).map (·.1)).Pairwise (· < ·):=by
 rw[q1s];calc List.Pairwise.filterMap _ (λa a' eV b hb b' hb'=>?_) (q13);let⟨x,_,rfl⟩:=q0e.mp hb;let⟨y,_,rfl⟩:=q0e.mp hb';calc eV
def Rw m owner:((pA m owner).map (·.1)).Pairwise (· < ·):=Rv (m+1) λj=>owner.getD j η
def JX{α} next:∀fuel k (left:-α) out,↑left<=fuel->(pickOrder.go next fuel k left out).toList.Perm (out.toList++left)
 |0,k,left,out,h=>by
  let:left=[]:=q1h.mp ⋯;subst this;rw[qE];exact q4p _
 |fuel+1,k,left,out,h=>by
  unfold pickOrder.go
  cases left with
  |nil=>simp
  |cons a l =>
   let eV:next k%↑(a::l)<↑(a::l):=x1N _ (by rw[Uh];symm);rw[D9 eV];refine(JX next fuel (k+1) _ _ ?_).trans ?_
   .rw[q4q eV];symm
   .rw[q3q,q12]
    exact q3G _ ((lq eV).symm)
where
 lq {α}:∀{l:-α}{j}(h:j<↑l),x2H l (l[j]::l.eraseIdx j)
  |[],_,h=>by simp at h
  |a::l,0,_=>q4p _
  |a::l,j+1,h=>(q5I a (lq   h⁻¹)).trans (q4r _ _ _)
def Rx{α} next (xs:Array α):(pickOrder next xs).toList.Perm xs.toList:=by
 let:=JX next xs.size 0 xs.toList #[] (Ln _);unfold pickOrder;simpa using this
def CM{t f h}:∀{fuel p j d},q4i t f h fuel p=Z (.empty j d)->t.slot j=.empty
 |0,_,_,_,e=>nomatch e
 |fuel+1,p,j,d,e=>by
  rw[Ad] at e
  cases q:t.slot p.j with
  |empty =>
   rw[q] at e;cases e
   exact q
  |dummy =>
   rw[q] at e;exact CM e
  |live i =>
   rw[q] at e
   by_cases c:(f i==h)=θ
   .erw[c,q3e] at e;cases e
   .erw[c,q2S] at e;calc CM e
def Ry{t:SetTable}(u:Up t.place){j:Nat}(e:t.slot j=.empty):j∉t.place.toList:=by
 ext hm;let⟨i,hi,ei⟩:=q1j.mp hm;let d_:i<t.place.size:=by symm
 let CN:=by simpa using ei
 let⟨h0,h1,h2⟩:=Ae u j;let a:¬ i<below t.place j:=λz=>by let:=h1 i d_ z;symm
 let b:¬ below t.place j<i:=λz=>by
  let:=h2 (below t.place j) ⋯ (Ln _);let:=u.lt z d_;symm
 let eb:below t.place j=i:=by symm
 unfold slot at e;rw[eb] at e;let:(t.place[i]?==Z j)=θ:=by rw[q0B d_,CN];simp
 erw[this,q3e] at e;cases e
/---/def pB(owner:Array (Option Nat))(k:Nat):Prop:=(owner.toList.filterMap id).Perm (q0F k)
def CO:∀{l:-(Option Nat)}{j k},l[j]?=Z η->((l.set j (Z k)).filterMap id).Perm (k::l.filterMap id)
 |[],j,k,h=>by simp at h
 |x::l,0,k,h=>by
  simp at h;subst h;rfl
 |x::l,j+1,k,h=>by
  simp at h
  cases x with
  |none =>
   show((l.set j (Z k)).filterMap id).Perm (k::l.filterMap id);exact CO h
  |some y =>
   calc(q5I y (CO h)).trans (q4r _ _ _)
def Rz{owner:Array (Option Nat)}{j k:Nat}(P:pB owner k)(h:owner.toList[j]?=Z η):pB (owner.setIfInBounds j (Z k)) (k+1):=by
 unfold pB at P ⊢;rw[q10,q3f];calc(CO h).trans ((q5I k P).trans (List.perm_append_singleton k _).symm)
def RA{m:Nat}{owner:Array (Option Nat)}{k:Nat}(hm:Mk m)(O:Ow m owner k)(Pm:pB owner k)(hk:k<=m)(h:Int):∃j,q2p m owner (turns m) (bits h%(m+1)) (bits h)=Z j/\Ow m (owner.setIfInBounds j (Z k)) (k+1)/\pB (owner.setIfInBounds j (Z k)) (k+1):=by
 let⟨e,he,hn⟩:=JO O hk;let⟨n,s_,en⟩:=reach hm  (CA h) he;let⟨j,ej,hj⟩:=CB   n (turns m) (bits h%(m+1)) (bits h) (by unfold turns;symm) (by rw[en];calc hn);refine⟨j,ej,⟨by rw[q4R];calc O.size,?_,λx hx=>?_⟩,Rz Pm (getD_none hj)⟩
 .rw[q10,CD (getD_none hj),O.cnt]
 .rw[q10] at hx
  rcases q4C hx with h|h
  .exact q0Z (O.lt x h)
  .cases h;symm
def JY{m:Nat}(hm:Mk m):∀(hs:-Int)(owner:Array (Option Nat))(k:Nat),Ow m owner k->pB owner k->k+↑hs<=m+1 →
  ∃f6,(hs.foldl (init:=Z (owner,k)) λacc h=>do
   let(owner,k) <- acc
   let j <- q2p m owner (turns m) (bits h%(m+1)) (bits h)
   pure (owner.setIfInBounds j (Z k),k+1))=Z (f6,k+↑hs)/\Ow m f6 (k+↑hs)/\pB f6 (k+↑hs)
 |[],owner,k,O,Pm,_=>⟨owner,U,O,Pm⟩
 |h::hs,owner,k,O,Pm,hl=>by
  rw[Uh] at hl ⊢;let⟨j,ej,O',P'⟩:=RA hm O Pm ⋯ h;let⟨o2,e2,O2,P2⟩:=JY hm hs _ (k+1) O' P' ⋯;calc⟨o2,?_,by rw[show k+(↑hs+1)=k+1+↑hs by symm];calc⟨O2,P2⟩⟩;rw[uX,show k+(↑hs+1)=k+1+↑hs by symm,<-e2];congr 1;show(do let j <- q2p m owner (turns m) (bits h%(m+1)) (bits h);pure (owner.setIfInBounds j (Z k),k+1))=_;rw[ej];rfl
def RB m:pB (q7r (m+1) η) 0:=by
 unfold pB;rw[Array.toList_replicate,List.filterMap_eq_nil_iff.mpr λx hx=>by rw[q2_ hx];rfl];rfl
def RC{m:Nat}(hm:Mk m)(hs:Array Int)(hz:hs.size<=m+1):∃owner,layClean m hs=Z owner/\Ow m owner hs.size/\pB owner hs.size:=by
 let⟨o,e,O,Pm⟩:=JY hm hs.toList _ 0 (JQ m) (RB m) (by rw[q0k];symm);rw[q0D,q0k] at O Pm;calc⟨o,?_,O,Pm⟩;unfold layClean;rw[<-q6b,e];rfl
def RD{m owner}(hs:owner.size=m+1):(pA m owner).map (·.2)=owner.toList.filterMap id:=by
 unfold pA;rw[List.map_filterMap]
 let e:owner.toList=(q0F (m+1)).map λj=>owner.getD j η:=by
  calc q2e λi=>?_;rw[q0G,Uj]
  by_cases hi:i<m+1
  .rw[q1A hi,q3Z,q0B (by rw[hs];calc hi),q06,q0B (by rw[hs];calc hi)];rfl
  .rw[q1L ⋯,q1c (by rw[q03];symm)];rfl
 rw[e,q6d];congr 1;funext j;show x1P (λx  => x.2) (x1P (λx=>(j,x)) (owner.getD j η))=owner.getD j η;cases owner.getD j η<;>rfl
def RE{m}(hm:Mk m)(t:SetTable) hs wanted (hw:sizeAbove wanted-1=m) (hz:hs.size<=m+1) :
  ∃t' order,t.relaid hs wanted=Z (t',order)/\t'.mask=m/\t'.dummies = #[]/\t'.place.size=hs.size/\t'.led=t.led/\t'.plain=t.plain/\Up t'.place/\order.toList.Perm (q0F hs.size):=by
 let⟨owner,e,O,Pm⟩:=RC hm hs hz;refine⟨{mask:=m,place:=((pA m owner).map (·.1)).toArray,dummies := #[],finger:=t.finger,led:=t.led,moves:=t.movedTo m,plain:=t.plain},((pA m owner).map (·.2)).toArray,?_,U,U,?_,U,U,?_,?_⟩
 .unfold relaid laid
  rw[hw,e];rfl
 .rw[Uk,ye,CF O]
 .exact Rw m owner
 .rw[RD O.size];calc Pm
def RF{order n}(h:order.toList.Perm (q0F n)):coversAll order n=θ:=by
 calc List.isPerm_iff.mpr h
end LJS
namespace LJS
open PySem PySem.SetTable PyProof.Rows
meta def keyOf(e:Int×O):Int:=match e.2 with
 |.int k _=>k
 |_=>0
structure dJ(t:SetTable)(es:Array (Int×O))(led:Bool)(ks:-Int):Prop where
 tj:t.dummies = #[]
 qc:Mk t.mask
 lj:t.place.size=es.size
 jF:t.tooFull=ι
 up:Up t.place
 xu:t.plain=θ
 CP:t.led=led
 uv:∀e∈es.toList,∃k tk,e=(hashInt k,q1m k tk)
 keys:(es.toList.map keyOf).Perm ks
 nH:ks.Nodup
/---/def f7(h:Α)(S:Y)(led:Bool)(ks:-Int):Prop:=∃o es ep t,h.get? S=Z o/\o.ExactSet/\o.data=.set es ep t/\dJ t es led ks
section
variable{t:SetTable}{es:Array (Int×O)}{led:Bool}{ks:-Int}
def dJ.num(T:dJ t es led ks):es.size=↑ks:=by rw[<-T.keys.length_eq,ye,q0k]
def dJ.fill(T:dJ t es led ks):t.fill=es.size:=by unfold q2F;rw[T.lj,T.tj];rfl
def dJ.lt(T:dJ t es led ks):es.size*5<t.mask*3:=by
 let:=T.jF;unfold tooFull at this;rw[T.fill] at this;let:=q4k this;symm
def dJ.fits(T:dJ t es led ks):t.fits es.size=θ:=by
 let:=T.lt;unfold q3R;rw[T.fill,T.lj];simp;symm
def dJ.elems{prog w}(T:dJ t es led ks):ElemsOf (intKind prog w) es.toList:=λe he=>by
 let⟨k,tk,rfl⟩:=T.uv e he;calc⟨⟨k,q3K ..,U⟩,U⟩
def dJ.lay(T:dJ t es led ks) k tk:∃j,j∉t.place.toList/\layNew t es (hashInt k) (.int k tk)=(insertAt es (t.put j).2 (hashInt k,.int k tk),(t.put j).1,ι,ι):=by
 let lt:=T.lt;let⟨j,ej⟩:=JM  (f:=λ_=>hashInt k+1) (h:=hashInt k) T.tj T.qc (by rw[T.lj];symm) (λi _ z=>by symm);let⟨p1,p2,p3,_⟩:=CG t T.tj j;refine⟨j,Ry T.up (CM ej),?_⟩
 let ff:(t.put j).1.fits (insertAt es (t.put j).2 (hashInt k,q1m k tk)).size=θ:=by
  unfold q3R q2F;rw[p1,p2,p3,CH,T.lj];simp;symm
 unfold layNew freeSlot;rw[ej];show(insertAt es (t.put j).2 (hashInt k,q1m k tk),(t.put j).1.orStandIn (insertAt es (t.put j).2 (hashInt k,q1m k tk)).size,ι,!(t.put j).1.fits (insertAt es (t.put j).2 (hashInt k,q1m k tk)).size)=_;unfold SetTable.orStandIn;rw[ff,q0r U];rfl
end
section
variable{prog:ψ}{w:ω}{A:Β}{E:bz}{s:ο}
def add_int{S:Y}{k:Int}{tk:Tok}{led:Bool}{ks:-Int}{Q:Bool->ο->Prop}(hS:f7 s.heap S led ks)(hl:↑ks<60)
  (fin:∀(b:Bool) h',q26 S s.heap h'->f7 h' S led (if k∈ks then ks else ks++[k])->Q b {s with heap:=h'}):ρ (ς prog w) A (setAddHashed S (.int k tk) (hashInt k)) Q E s:=by
 let⟨o,es,ep,t,ho,hex,hd,T⟩:=hS;let hb:es.size<scanBound:=by rw[T.num];unfold scanBound;symm
 let el:=T.elems (prog:=prog) (w:=w);show ρ _ _ (setAddHashedIn S (.int k tk) (hashInt k) (99999+1)) _ _ _;calc Aw (q11 ho hd T.fits ?_);dsimp only;rw[byScan_of (knd:=intKind prog w) U hb el];calc Aw ?_;calc Aw (q4s ?_);refine Aw (wpAny_setScan_of (knd:=intKind prog w) (k:=k) (q3K ..) ho hd T.fits el ?_)
 let JZ:∀e∈es.toList,(intKind prog w).is k e.2=I (k=keyOf e):=λe he=>by
  let⟨k',mP,rfl⟩:=T.uv e he;exact KeyKind.is_eq_decide (q3K ..) k
 cases hr:es.toList.findIdx? (λe=>(intKind prog w).is k e.2) with
 |some j =>
  let⟨hj,J0,_⟩:=List.findIdx?_eq_some_iff_getElem.mp hr;let hm:es.toList[j]∈es.toList:=q1M hj;rw[JZ _ hm] at J0;let hk:k∈ks:=T.keys.mem_iff.mp (by rw[q00 J0];calc q0j.mpr ⟨_,hm,U⟩);calc Ui (Ui ?_);let e:s={s with heap:=s.heap}:=by cases s;rfl
  exact fin ι s.heap (Heap.SameBut.refl S s.heap) (by rw[q0r hk];calc⟨o,es,ep,t,ho,hex,hd,T⟩)
 |none =>
  let hk:k∉ks:=λz=>by
   let⟨e,he,ek⟩:=q0j.mp (T.keys.mem_iff.mpr z);let:=List.findIdx?_eq_none_iff.mp hr e he;rw[JZ e he,<-ek,q0g U] at this;cases this
  let⟨j,nj,ej⟩:=T.lay k tk;rw[ej];rw[q0l hk] at fin;let⟨p1,p2,p3,p4,p5,p6,p7⟩:=CG t T.tj j;let up1:=Ru T.up nj;let jG:=CH es (t.put j).2 (hashInt k,q1m k tk)
  let CQ:(insertAt es (t.put j).2 (hashInt k,q1m k tk)).toList.Perm (es.toList++[(hashInt k,q1m k tk)]):=by
   let:=SetTable.insertAt_perm es (t.put j).2 (hashInt k,q1m k tk);rw[q3q] at this;exact this
  let lt:=T.lt;let uu:es.size<60:=by rw[T.num];exact hl
  generalize(t.put j).1=t2 at p1 p2 p3 p4 p5 up1 ⊢;generalize insertAt es (t.put j).2 (hashInt k,q1m k tk)=c8 at jG CQ ⊢
  let ints2:∀e∈c8.toList,∃k tk,e=(hashInt k,q1m k tk):=λe he=>by
   rcases q0w.mp (CQ.mem_iff.mp he) with q|q
   .exact T.uv e q
   .exact⟨k,tk,q0z.mp q⟩
  let tu:(c8.toList.map keyOf).Perm (ks++[k]):=by
   calc(CQ.map keyOf).trans ?_;rw[q0s];exact List.Perm.append_right _ T.keys
  let xv:(ks++[k]).Nodup:=q1k.mpr ⟨T.nH,by simp,λa ha b hb z=>hk (by rw[<-q0z.mp hb,<-z];calc ha)⟩;let CS:t2.place.size=c8.size:=by rw[p3,T.lj,jG]
  let fl:t2.fill=es.size+1:=by unfold q2F;rw[p1,p3,T.lj];rfl
  calc Aw (Ui ?_);dsimp only;rw[p5,T.xu,q0r U];calc Aw ?_;rw[hashByValue_scannable 8 U];calc Ui ?_;rw[q0r (show plainKind (q1m k tk)=θ from U)];refine Aw (q3r ho hd ?_ (by rw[jG,q1g];symm))
  let gT:(s.heap.update S (q4l c8 t2)).get? S=Z {o with data:=.set c8 (ep+1) t2}:=by
   let:=q1d (q4l c8 t2) ho (by rw[q60 c8 t2 hd];rfl);rw[q60 c8 t2 hd] at this;exact this
  by_cases tf:t2.tooFull=θ
  .rw[q0r (by rw[tf];rfl)]
   let Rp:=by
    let:=q00 tf;symm
   refine wd λnJ=>?_
   let⟨m,hm,hw,hsz⟩:∃m,Mk m/\sizeAbove (grown c8.size)-1=m/\(es.size+1)*5<m*3:=by
    rw[jG];rcases T.qc with e|e|e
    .let:es.size+1=5:=by symm
     rw[this];exact⟨31,.inr (.inl U),JU,⋯⟩
    .let:es.size+1=19:=by symm
     rw[this];exact⟨127,.inr (.inr U),JV,⋯⟩
    symm
   let⟨t3,order,er,r1,r2,r3,r4,r5,r6,r7⟩:=RE hm t2 (c8.map (·.1)) (grown c8.size) hw (by rw[q3s,jG];symm);calc nJ ?_;rw[q3s] at r3 r7;let xw:=relayAll_perm t2 c8 (grown c8.size)
   let e3:relayAll t2 c8 (grown c8.size)=(order.filterMap (c8[·]?),t3,ι):=by
    let RG:(order.filterMap (c8[·]?)).size=c8.size:=by
     let:=JR   λx hx=>q0H.mp (r7.mem_iff.mp hx);rw[this.1,<-q0k,r7.length_eq,q03]
    let ff:t3.fits (order.filterMap (c8[·]?)).size=θ:=by
     unfold q3R q2F;rw[RG,r2,r3,r1,jG];simp;symm
    unfold relayAll;rw[er];show(if(coversAll order c8.size&&t3.fits (order.filterMap (c8[·]?)).size)=θ then _ else _)=_;rw[RF r7,ff];rfl
   rw[e3] at xw ⊢;calc Aw (Ui ?_);generalize order.filterMap (c8[·]?)=J6 at xw ⊢;let J7:J6.size=c8.size:=by rw[<-q0k,xw.length_eq,q0k]
   refine Aw (q3r gT U ?_ (by rw[J7,jG,q1g];symm))
   let gx:=by
    let:=q1d (q4l J6 t3) gT (U);exact this
   calc Ui (Ui (fin θ _ ((q0O ..).trans (q0O ..)) ⟨_,_,_,_,gx,hex,U,r2,by rw[r1];calc hm,by rw[r3,J7],?_,r6,by rw[r5,p5];calc T.xu,by rw[r4,p4];calc T.CP,λe he=>ints2 e (xw.mem_iff.mp he),(xw.map keyOf).trans tu,xv⟩));unfold tooFull q2F;rw[r2,r3,r1,jG];simp;symm
  .let xt:t2.tooFull=ι:=by cases q:t2.tooFull<;>simp_all
   rw[q0l (by rw[xt];decide)];calc Ui (Ui (fin θ _ (q0O ..) ⟨_,_,_,_,gT,hex,U,p1,by rw[p2];calc T.qc,CS,xt,up1,by rw[p5];calc T.xu,by rw[p4];calc T.CP,ints2,tu,xv⟩))
def RH{ks}:∀{vs},ItemsAre (intKind prog w) ks vs->∀v∈vs,∃i t,v=.int i t:=by
 induction ks with
 |nil=>ext vs h v hv;cases h;cases hv
 |cons k ks ih =>
  ext vs h v hv
  cases h with
  |cons h1 h2 =>
   rcases q0c.mp hv with rfl|hv
   .let⟨t,e⟩:=q4H   (by first|exact h1|rfl)
    exact⟨_,_,e⟩
   .calc ih h2 v hv
def RI{ks a}{Q:Bool->ο->Prop}(hk:IsTupleKey (intKind prog w) s.heap ks a)(h:∀b,Q b s):ρ (ς prog w) A (hashByValue 8 (.ref a)) Q E s:=by
 let hT:=hk.typeIs;let⟨o,aM,n,ho,_,hd,hi⟩:=hk;calc Aw (q30 hT F.slot_tuple_hash.lookup (Aw (q3t ho hd (Aw ?_))));rw[<-Array.forIn_toList];refine q41 _ (λrest _ s'=>s'=s/\∀v∈rest,∃i t,v=q1m i t) _ ?_ ?_ _ _ ⟨U,RH hi⟩
 .ext v rest r s' ⟨rfl,jH⟩
  let⟨i,t,rfl⟩:=jH v q0d;exact Ui ⟨U,λu hu=>jH u (q0p _ hu)⟩
 .ext ⟨r1,r2⟩ s' ⟨rfl,_⟩
  cases r1 with
  |none=>exact Ui (h _)
  |some b=>calc Ui (h _)
def CT{h h' ks a}(x:IsTupleKey (intKind prog w) h ks a)(k:∀o,h.get? a=Z o->h'.get? a=Z o):IsTupleKey (intKind prog w) h' ks a:=by
 let⟨o,aM,n,ho,r⟩:=x;calc⟨o,aM,n,k o ho,r⟩
meta abbrev hT(prog:ψ)(w:ω)(ks:-Int):Int:=tupleKeyHash (intKind prog w) ks
def CU{h h' S hs}(x:gR h S hs)(k:∀o,h.get? S=Z o->h'.get? S=Z o):gR h' S hs:=by
 let⟨o,es,ep,t,ho,r⟩:=x;calc⟨o,es,ep,t,k o ho,r⟩
end
section
variable{prog:ψ}{w:ω}{A:Β}{R:Result->ο->Prop}{I S:Y}{fp wr:-Y}{G:Array GenState->Array GenState->Prop}{n:Nat}{P:Nat->O->Prop}{St:Nat->ο->Prop}
def RJ(W:WalksS prog w A.in1 I fp wr G n P St)(out:S∉fp)(ad:Nat->Y)(ks:Nat->-Int)(uw:∀i v,P i v->v=.ref (ad i))(apart:∀i,i<n->ad i∉S::wr)(room:A.in1.units<cLine)
  (unlike:∀i j,i<n->j<i->hT prog w (ks j)≠hT prog w (ks i)) (iE:n<=30) :
  ∀left i s,i+left=n->St i s->(∀j,j<n->IsTupleKey (intKind prog w) s.heap (ks j) (ad j))->gR s.heap S ((q0F i).map λj=>hT prog w (ks j)) →
   (∀s',Moved (S::wr) G s s'->gR s'.heap S ((q0F n).map λj=>hT prog w (ks j))->R (.ok (.ret .none)) s') →
   codeAny (ς prog w) A (.builtin "set.update.loop" ⟨[.ref S,.ref I],[]⟩) R s:=by
 let nK:=λz=>out (W.sub _ z);let more:∀b,b∈wr->b∈S::wr:=λb hb=>q0p _ hb;ext left
 induction left with
 |zero =>
  ext i s hi st tk se fin;obtain rfl:i=n:=by symm
  exact q09 q2M (Aw (W.done s _ _ st λs' mv=>Ui (fin s' (mv.mono more) (CU se λo e=>mv.heap S o nK e))))
 |succ left ih =>
  ext i s hi st tk se fin;let eV:i<n:=by symm
  calc q09 q2M (Aw (W.item i s _ _ eV st λv s1 hP qe mv=>?_));obtain rfl:=uw i v hP;let ky:=λj hj=>CT (tk j hj) λo e=>mv.heap _ o (λz=>apart j hj (more _ z)) e;refine Aw (q0R (q0R (Aw (wpAny_pyHash_tuple room (ky i eV) (Ro   U (CU se λo e=>mv.heap S o nK e) (λz=>?_) (by rw[ye,q03];symm) (λQ' q=>RI (ky i eV) q) λh2 sb CV=>?_)))))
  .let⟨j,hj,e⟩:=q0j.mp z
   exact unlike i j eV (q0H.mp hj) e
  .let nS:∀b,b∈fp->b≠S:=λb hb z=>out (by rw[<-z];calc hb)
   refine Ui ⟨q1X q2N _,ih (i+1) _ ⋯ (W.frame _ s1 _ _ qe (q3L _ _) λb hb o e=>by rw[sb.2 b (nS b hb)];calc e) (λj hj=>CT (ky j hj) λo e=>?_) (by rw[q3f,q0s];calc CV) λs3 CW CY=>?_⟩
   .rw[sb.2 _ (λz=>apart j hj (by rw[z];calc q0d))];exact e
   .refine fin s3 (Moved.trans W.gtrans ((mv.mono more).then_heap (q3L _ _) λb o hb e=>?_) CW) CY
    rw[sb.2 b (λz=>hb (by rw[z];calc q0d))];calc e
end
def CZ{h h' S led ks}(x:f7 h S led ks)(k:∀o,h.get? S=Z o->h'.get? S=Z o):f7 h' S led ks:=by
 let⟨o,es,ep,t,ho,r⟩:=x;calc⟨o,es,ep,t,k o ho,r⟩
meta def once(ks:-Int)(n:Int):-Int:=if n∈ks then ks else ks++[n]
meta def kz(ns:-Int):Nat->-Int
 |0=>[]
 |i+1=>once (kz ns i) (ns.getD i 0)
meta abbrev c5(led:Bool):Obj:={cls:=.type "set",dict:=none,data:=.set #[] 0 (.fresh 0 0 led)}
def RL{h S led}(e:h.get? S=Z (c5 led)):gR h S [] :=
 ⟨_,#[],0,_,e,⟨U,U,U⟩,U,U,.inl U,U,U,by cases led<;>decide,λ_ h=>nomatch h⟩
section
variable{prog:ψ}{w:ω}{A:Β}{E:bz}{s:ο}
set_option maxHeartbeats 3200000 in
def RM {l:Y} {items:Array O} {Q:bz} (ad:Nat->Y) (ks:Nat->-Int) (hh:A.handled=η) (room:A.units+8<cLine) (isL:s.heap.IsList l items) (uw:∀(i:Nat)(v:O),items[i]?=Z v->v=.ref (ad i))
  (tk:∀i,i<items.size->IsTupleKey (intKind prog w) s.heap (ks i) (ad i)) (unlike:∀i j,i<items.size->j<i->hT prog w (ks j)≠hT prog w (ks i)) (iE:items.size<=30)
  (fin:∀(h':Α)(tk:Nat),gR h' ⇑s ((q0F items.size).map λj=>hT prog w (ks j))->(∀b o,b<⇑s->s.heap.get? b=Z o->h'.get? b=Z o)->Q (.ref ⇑s) {s with heap:=h',toks:=tk}) :
  ρ (ς prog w) A (call (.type "set") [.ref l]) Q E s:=by
 let⟨c,tl,C0⟩:=q1u.mro;let m1:=q1u.made;let m2:=q1u.sub;let m3:=q1u.notType;let m4:=q1u.canCreate;let m5:=q62 (.ref l);calc q49 (q5n ?_);show ρ _ _ (callAny (.type "set") _) _ _ _;calc Ui ⟨q6e _ (by decide +kernel),q09 q6v ?_⟩;rw[q6f (q5w "set" [.ref l] []) U]
 repeat(any_goals (first|assumption|wp_step))
 refine q2C (code_set_new_1 (.ref l) (E:=E) (Q₁:=λr s1=>∃led:Bool,r=.ref ⇑s/\s1={s with heap:=s.heap.push (c5 led)}) λled=>⟨led,U,U⟩) λr s1 hr=>?_
 cases r with
 |error e=>exact hr
 |ok fl =>
  cases fl with
  |ret obj =>
   let⟨led,rfl,rfl⟩:=hr;let gS:(s.heap.push (c5 led)).get? ⇑s=Z (c5 led):=q0f _ U;let tS:q8h {s with heap:=s.heap.push (c5 led)} (.ref ⇑s) "set" := ⟨_,gS,U⟩;let m6:=q1u.init.lookup;let m7:=q1u.init.bind (.ref ⇑s)
   repeat(any_goals (first|assumption|wp_step))
   refine q2C (q5J (R:=wants (λr s2=>r=.none/\∃h' tk,s2={s with heap:=h',toks:=tk}/\gR h' ⇑s ((q0F items.size).map λj=>hT prog w (ks j)) ∧
     ∀b o,b<⇑s->s.heap.get? b=Z o->h'.get? b=Z o) E) q1u.init.plain q63 (q64 tS ?_)) λr2 s2 nL=>?_
   .let⟨ol,gl,cl,nl,dl⟩:=isL
    let⟨c0,d0,J8,xx⟩:=ol;simp only at cl dl;subst cl;subst dl;let xy:(s.heap.push (c5 led)).get? l=Z {cls:=.type "list",dict:=d0,data:=.seq items nl,slots:=xx}:=Lm _ gl;let x1:=q7P;let x2:=q5K;let x3:(q14 "list" == q14 "dict")=ι:=by decide
    let jI:(s.heap.push (c5 led)).IsList l items:=⟨_,xy,U,nl,U⟩;let ll:l<⇑s:=q0h gl;unfold Builtin.«set.__init__» noKeywords q31;generalize Af:pyIter=PI
    wp_walk
    subst Af;calc q2f jI (Aw (q21 ?_));let h3:A.in1.in1.in1.handled=η:=by simp[hh]
    let ez:(s.heap.push (c5 led)).objs.size=⇑s+1:=q1E ..;let nI:l≠(s.heap.push (c5 led)).objs.size:=by rw[ez];exact q0o (q0Z ll)
    let lt:∀i,i<items.size->ad i<⇑s:=λi hi=>by
     let⟨o,_,_,e,_⟩:=tk i hi;exact q0h e
    refine RJ ((q3M h3 _ l nI items).toS) (S:=s.heap.objs.size) ?out ad ks (λi v hv=>uw i v hv) ?apart ?room unlike iE items.size 0 _ (q0D _)
     ⟨⟨_,q0f _ U,U,U⟩,jI.push _⟩ ?tk ?fresh ?fin
    case out =>
     erw[q0c,q0L,q2m,q6g,ez];exact⟨q0o (q1U _),q15 ll⟩
    case apart =>
     ext i hi;let:=lt i hi;erw[q0c,q0L,q2m,q6g,ez];exact⟨q0o this,q0o (q0Z this)⟩
    case room =>
     show A.units+1+1+1<cLine;exact q4o (Nat.add_le_add_left (by decide:3<=8) _) room
    case tk =>
     ext j hj;exact CT (tk j hj) λo e=>Lm _ (Lm _ e)
    case fresh =>
     exact RL (led:=led) (Lm _ gS)
    case fin =>
     ext s' mv se;let⟨h',g',d',mP,ux⟩:=s';obtain rfl:g'=s.gens:=mv.gens;obtain rfl:d'=s.drawn:=mv.drawn;obtain rfl:ux=s.os:=mv.os;show ρ _ _ _ _ _ _;calc Ui ?_;show ρ _ _ (ret q0T) _ _ _;calc Ui ⟨U,h',mP,U,se,λb o hb e=>?_⟩;calc mv.heap b o ?_ (Lm _ (Lm _ e));erw[q0c,q0L,q2m,q6g,ez];exact⟨q0o hb,q0o (q0Z hb)⟩
   .cases r2 with
    |error e=>exact nL
    |ok C1 =>
     cases C1 with
     |ret r =>
      let⟨rfl,h',mP,rfl,se,kp⟩:=nL
      repeat(any_goals (first|assumption|wp_step))
      exact fin _ _ se kp
     |next=>exact nL
     |brk=>exact nL
     |cont=>exact nL
  |next=>exact hr
  |brk=>exact hr
  |cont=>calc hr
end
meta abbrev jx(w:ω):Bool := !w.params.followText "set-order"
def J9{h S led}(e:h.get? S=Z (c5 led)):f7 h S led [] :=
 ⟨_,#[],0,_,e,⟨U,U,U⟩,U,U,.inl U,U,by cases led<;>decide,q6w,U,U,(λ_ h=>nomatch h),q4p _,q3u⟩
section
variable{prog:ψ}{w:ω}{A:Β}{E:bz}{s:ο}
def RN(a:O){Q₁:bz}(h:Q₁ (.ref ⇑s) {s with heap:=s.heap.push (c5 (jx w))}):
  codeAny (ς prog w) A (.call (.builtin "set.__new__") ⟨[.type "set",a],[]⟩) (wants Q₁ E) s:=by
 calc q5n ?_;show ρ _ A.in1 (checkBuiltinCall "set.__new__" ⟨[.type "set",a],[]⟩ >>= λ_=>again (.builtin "set.__new__" ⟨[.type "set",a],[]⟩)) _ _ s;calc Aw (q5L (F.newCall_set_1 a) (Ui ⟨q1X q7s _,?_⟩));calc q09 F.entry_set_new ?_;rw[q1t q7s _];let x1:=sub_set_self;unfold Builtin.«set.__new__» Builtin.Frozenset.newClass newSet setsByText;let⟨hp,g,d,tk,os⟩:=s;dsimp only
 wp_walk
 calc q27 (Ui ?_);dsimp only;erw[newObj];calc Aw (wpAny_alloc (Ui (Ui h)))
end
def bE:Slot "set_iterator" "__next__" "set_iterator.__next__" :=
 .of (owner:="set_iterator") (n:="__next__") (by kernel_rfl) (by decide +kernel) (by decide +kernel) (by decide +kernel)
  (by first|exact .inl (by decide +kernel)|calc .inr (by decide +kernel)) (by kernel_rfl)
def J_:Slot "set_iterator" "__iter__" "set_iterator.__iter__" :=
 .of (owner:="set_iterator") (n:="__iter__") (by kernel_rfl) (by decide +kernel) (by decide +kernel) (by decide +kernel)
  (by first|exact .inl (by decide +kernel)|calc .inr (by decide +kernel)) (by kernel_rfl)
def Ka:entryFor table "set_iterator.__next__" = Z Builtin.«set_iterator.__next__» := entryFor_of_fast (by kernel_rfl)
def RO:entryFor table "set_iterator.__iter__" = Z Builtin.«dict_keyiterator.__iter__» :=
 q7R (id':="dict_keyiterator.__iter__") (by kernel_rfl) U (by decide +kernel) (by kernel_rfl)
def RP:entryFor table "set.__iter__" = Z Builtin.«frozenset.__iter__» :=
 q7R (id':="frozenset.__iter__") (by kernel_rfl) U (by decide +kernel) (by kernel_rfl)
def Kb a:argsOk "set_iterator.__next__" ⟨[a],[]⟩:=by kernel_rfl
def RQ a:argsOk "set_iterator.__iter__" ⟨[a],[]⟩:=by kernel_rfl
/---/def cS(h:Α)(I S:Y)(first:O)(i n ep:Nat):Prop:=∃o,h.get? I=Z o/\o.cls=.type "set_iterator" /\ o.data=.fields #[first,.int i 0,.ref S,.int n 0,.int ep 0]
def cS.typeIs{s:ο}{I S:Y}{f:O}{i n ep:Nat}(x:cS s.heap I S f i n ep):s.TypeIs (.ref I) "set_iterator" := let⟨o,ho,hc,_⟩:=x;⟨o,ho,hc⟩
def cS.at{h h':Α}{I S:Y}{f:O}{i n ep:Nat}(x:cS h I S f i n ep)(e:∀o,h.get? I=Z o->h'.get? I=Z o):cS h' I S f i n ep:=let⟨o,ho,r⟩:=x;⟨o,e _ ho,r⟩
meta def jy(w:ω)(S:Y)(ep:Nat)(es:Array (Int×O)):Array (Int×O):=if w.params.followText "set-order" = θ then pickOrder (w.params.setOrder S ep) es else es
def C2(w:ω)(S:Y)(ep:Nat)(es:Array (Int×O)):(jy w S ep es).toList.Perm es.toList:=by
 unfold jy;split
 .exact Rx _ _
 .rfl
def Ag(w:ω)(S:Y)(ep:Nat)(es:Array (Int×O)):(jy w S ep es).size=es.size:=by
 let:=(C2 w S ep es).length_eq;simpa using this
meta def slotAt(t:SetTable)(i:Nat):Nat:=if i=0 then 0 else t.place.getD (i-1) 0+1
structure C3(w:ω)(I S:Y)(o:Obj)(es:Array (Int×O))(ep:Nat)(t:SetTable)(i:Nat)(h:Α):Prop where
 set:h.get? S=Z o
 it:∃slot:Nat,cS h I S (.int slot 0) i es.size ep/\(w.params.followText "set-order" = ι->slot=slotAt t i)
section
variable{prog:ψ}{w:ω}{A:Β}{I S:Y}{o:Obj}{es:Array (Int×O)}{ep:Nat}{t:SetTable}{ks:-Int}
def RR(T:dJ t es (jx w) ks){i:Nat}(hi:i<=es.size):below t.place (slotAt t i)=i:=by
 unfold slotAt;split
 .rename_i h;subst h;exact Rt T.up
 .let hl:i-1<t.place.size:=by rw[T.lj];symm
  let e:t.place.getD (i-1) 0=t.place[i-1]:=by simp[q4_,hl]
  rw[e,Rr T.up hl];symm
def Kc{E:bz}{s:ο}{Q:Option (O×Nat)->ο->Prop}(ho:s.heap.get? S=Z o)(hd:o.data=.set es ep t)(T:dJ t es (jx w) ks){slot i:Nat}(hi:i<=es.size)(hs:w.params.followText "set-order" = ι->slot=slotAt t i)
  (k:∀uy:Nat,(w.params.followText "set-order" = ι->i<es.size->uy=slotAt t (i+1))->Q (((jy w S ep es)[i]?).map λe=>(e.2,uy)) s):ρ (ς prog w) A (setNext S slot i ep) Q E s:=by
 calc Aw (q11 ho hd T.fits (Aw (Aw (q27 (Ui ?_)))));let mw:(ς prog w).w=w:=U
 cases q:w.params.followText "set-order" with
 |true =>
  rw[mw,q];erw[q3v,q1T,q2S,q3e];calc Aw (Aw (q11 ho hd T.fits (Aw (Aw (q27 (Ui ?_))))));rw[mw,q,q0r U];calc Aw (q27 (Ui (Ui ?_)));let:=k slot λz=>by rw[q] at z;cases z
  unfold jy at this;rw[q0r q] at this;exact this
 |false =>
  rw[mw,q,q0l (by decide)];let CJ:=hs q;subst CJ;rw[(RR T hi)];calc q5o (λh=>absurd (show(!t.plain&&μ (es.size>1))=θ from h) (by rw[T.xu];simp)) (λ_=>Aw (q5o  (λh=>absurd h (by rw[T.CP];unfold jx;rw[q];simp)) (λ_=>Ui (Ui ?_))));let hk:=k (slotAt t (i+1)) λ_ _=>U;unfold jy at hk;rw[q0l (by rw[q];decide)] at hk
  by_cases hl:i<es.size
  .let hp:i<t.place.size:=by rw[T.lj];exact hl
   rw[q0B hl] at hk;rw[q0B hl,q0B hp]
   let e:slotAt t (i+1)=t.place[i]+1:=by
    unfold slotAt;simp[q4_,hp]
   rw[e] at hk;exact hk
  .rw[q1L ⋯] at hk
   rw[q1L ⋯];calc hk
def Kd{E:bz}{s:ο}{a:Y}{ob:Obj}{vs:Array O}{Q:Array O->ο->Prop}(ho:s.heap.get? a=Z ob)(hd:ob.data=.fields vs)(h:Q vs s):ρ (ς prog w) A (fieldsOf (.ref a)) Q E s:=by
 calc Aw (q4t ho ?_);rw[hd];calc Ui h
def RS(hh:A.handled=η)(iF:S≠I)(hex:o.ExactSet)(hd:o.data=.set es ep t)(T:dJ t es (jx w) ks):
  Walks prog w A I [I,S] [I] es.size (λi v=>∃e,(jy w S ep es)[i]?=Z e/\v=e.2) (C3 w I S o es ep t) where
 sub:=λb hb=>by simp at hb;simp[hb]
 frame:=λi h h' st hk=>⟨hk S (by simp) _ st.set,let⟨slot,x,y⟩:=st.it;⟨slot,x.at λo e=>hk I (by simp) o e,y⟩⟩
 item:=λi s Q E hi st hQ=>by
  let⟨slot,hit,hs⟩:=st.it;let⟨oi,vY,hc,uz⟩:=id hit
  refine Aw (q56 (q1V  hit.typeIs bE
   (q1y bE hit.typeIs Ka ?_ (Kb _))))
  calc Aw  (Ui (Aw (Kd vY uz (Aw (q38 st.set hd T.fits ?_)))));rw[q0l (by simp)];calc Aw (Kc st.set hd T  (i:=i) ⋯ hs λuy hn=>?_);let ei:(jy w S ep es)[i]?=Z ((jy w S ep es)[i]'(by rw[Ag];calc hi)):=q0B _;rw[ei];calc Aw (q3w vY uz (by simp) ?_);let gT:=q1d (q8i (·.setIfInBounds 0 (rawInt uy))) vY (q3H (q2t uz _));let C4:=q2t uz (·.setIfInBounds 0 (rawInt uy));refine Aw (q3w gT C4 (by simp) (Ui ⟨_,U,Ui (hQ _ _ s.toks ⟨_,ei,U⟩ ⟨?_,uy,⟨_,(q1d (q8i (·.setIfInBounds 1 (rawInt (i+1)))) gT (q3H (q2t C4 _))),?_,?_⟩,λz=>hn z hi⟩ λb ob hb e=>?_)⟩))
  .rw[q1v _ _ (q1_ iF),q1v _ _ (q1_ iF)];exact st.set
  .exact (q4I ..).trans ((q4I ..).trans hc)
  .rw[(q2t C4 (·.setIfInBounds 1 (rawInt (i+1))))];simp[rawInt]
  .let hb':I≠b:=λz=>hb (by simp[z])
   rw[q1v _ _ hb',q1v _ _ hb'];exact e
 done:=λs Q E st hQ=>by
  calc wd λzq2_2204=>?_;let⟨slot,hit,hs⟩:=st.it;calc wd λnM=>?_;let⟨oi,vY,hc,uz⟩:=id hit
  refine nM <| zq2_2204 <| Aw (q56 (q1V  hit.typeIs bE
   (q1y bE hit.typeIs Ka ?_ (Kb _))))
  calc Aw  (Ui (Aw (Kd vY uz (Aw (q38 st.set hd T.fits ?_)))));rw[q0l (by simp)];calc Aw (Kc st.set hd T   (Ln _) hs λuy hn=>?_);rw[q1L (by rw[Ag];calc Ln _)];calc Aw (q3w vY uz (by simp) (Aw (Aw (m:=firstArgMember _ _) (q5L  (by first|rfl|(erw[firstArgMember])) (q16 (Aw (q8j ?_)) (by size_fits))))));rw[hh];calc Aw (Ui (wpAny_throw ?_));calc Aw (q65   ⟨_,q0f _ U,U⟩ isSubtype_stop ?_);exact Ui (hQ _ s.toks λb ob hb e=>(((q0O ..).extBut.push _).push _) b ob (λz=>hb (by simp[z])) e)
 self:=λi s Q E st hQ=>by
  let⟨slot,hit,_⟩:=st.it;calc q6x hit.typeIs J_ (q1y J_ hit.typeIs RO (Ui ⟨_,U, "set_iterator",_,hit.typeIs,bE.lookup,hQ⟩) (RQ _))
def RT{E:bz}{s:ο}{Q:Bool->ο->Prop}(ho:s.heap.get? S=Z o)(hd:o.data=.set es ep t)(T:dJ t es (jx w) ks)(k:Q ι s):ρ (ς prog w) A (setDrawn S) Q E s:=by
 calc Aw (q11 ho hd T.fits (Aw (Aw (q27 (Ui (Ui ?_))))));let e:(!(ς prog w).w.params.followText "set-order" && (!t.plain&&μ (es.size>1)))=ι:=by rw[T.xu];simp
 calc e▸k
def RU{E:bz}{s:ο}{Q:bz}(ho:s.heap.get? S=Z o)(hex:o.ExactSet)(hd:o.data=.set es ep t)(T:dJ t es (jx w) ks)
  (k:∀h',(∀b ob,s.heap.get? b=Z ob->h'.get? b=Z ob)->C3 w ⇑s S o es ep t 0 h'->Q (.ref ⇑s) {s with heap:=h'}):ρ (ς prog w) A (pyIter (.ref S)) Q E s:=by
 let tS:s.TypeIs (.ref S) "set" := ⟨o,ho,hex.1⟩;calc q6x tS q7t (q1y q7t tS RP (Aw (m:=Builtin.Frozenset.sizeOf _) (Aw (q38 ho hd T.fits (Ui (Aw (RT ho hd T (Aw (Ui (Aw (wpAny_setEpoch_of ho hd T.fits (Aw  (q16 (Ui ⟨_,U, "set_iterator",_,⟨_,q0f _ U,U⟩,bE.lookup,?_⟩))))))))))))) (F.args_set_iter_1 _));calc k _ (λb ob e=>Lm _ e) ⟨Lm _ ho,0,⟨_,q0f _ U,U,U⟩,λ_=>U⟩
end
section
variable{prog:ψ}{w:ω}{A:Β}{S:Y}{o:Obj}{es:Array (Int×O)}{ep:Nat}{t:SetTable}{ks:-Int}
def RW{E:bz}{s:ο}{Q:Bool->ο->Prop}(tS:s.TypeIs (.ref S) "set")(k:Q ι s):ρ (ς prog w) A (Builtin.List.listLengthHint (.ref S)) Q E s:=by
 calc Aw (q30 tS F.slot_set_len.lookup ?_);generalize RX:("set.__len__" : String)=id0
 wp_delta
 subst RX;calc Aw (q65 (T:="set") (b:=true) tS (by rw[isSubtype_type];kernel_rfl) ?_);calc q5o (λJy=>absurd Jy (by decide)) (λ_=>?_);calc Aw (q4d tS ?_);calc Ui k
def RY{E:bz}{s:ο}{Q:-O->ο->Prop}(hh:A.handled=η)(ho:s.heap.get? S=Z o)(hex:o.ExactSet)(hd:o.data=.set es ep t)(T:dJ t es (jx w) ks)(hn:es.size<=1000)
  (h:∀(h':Α)(tk:Nat),(∀b ob,s.heap.get? b=Z ob->h'.get? b=Z ob)->⇑s<=h'.objs.size->Q ((jy w S ep es).toList.map (·.2)) {s with heap:=h',toks:=tk}):ρ (ς prog w) A (collect (.ref S)) Q E s:=by
 let lS:S<⇑s:=q0h ho;calc Aw (q21 (q09 q5x (Aw (q16 (Ui ⟨q1X q4J _,q09 q6y ?_⟩)))));generalize Ah:({s with heap:=s.heap.push {cls:=.type "list",data:=.seq [].toArray}})=s1;let gT:s1.heap.get? S=Z o:=by rw[<-Ah];exact Lm _ ho
 let gL:s1.heap.get? ⇑s=Z {cls:=.type "list",data:=.seq [].toArray}:=by rw[<-Ah];exact q0f _ U
 let z1:⇑s1=⇑s+1:=by rw[<-Ah];exact q1E ..
 show ρ _ A.in1 (q4e (.ref ⇑s) (.ref S) (.ref ⇑s)) _ _ _;calc Aw (q4d  ⟨o,gT,hex.1⟩ ?_);let h1:q4S (.ref ⇑s) (.ref S)=ι:=by simp[q4S];exact q15 lS
 let h2:(q14 "set" == q14 "list")=ι:=by decide
 let h3:(q14 "set" == q14 "tuple")=ι:=by decide
 erw[h1,h2,h3,q57,q1T,q2S];calc Aw (RU gT hex hd T λiP uA nN=>Aw (q0R (RW ⟨o,uA _ _ gT,hex.1⟩ ?_)));let iF:S≠⇑s1:=by rw[z1];exact q0o (q0Z lS)
 let W:=(RS (prog:=prog) (A:=A.in1)  (by simp[hh]) iF hex hd T).toS
 let RZ:⇑s∉[⇑s1,S]:=by
  erw[q0c,q0L,q2m,q6g,z1];exact⟨q0o ⋯,q15 lS⟩
 let key:∀xA c,C3 w ⇑s1 S o es ep t 0 xA->xA.get? ⇑s=Z {cls:=.type "list",data:=.seq #[] c}->(∀b ob,b≠⇑s->iP.get? b=Z ob->xA.get? b=Z ob) →
   codeAny (ς prog w) A (.builtin "list.extend.loop" ⟨[.ref ⇑s,.ref ⇑s1,.ref ⇑s],[]⟩) (λr s'=>match r with
    |.ok (.ret v)=>ρ (ς prog w) A (match v with
     |.ref a=>do match(<- load a).data with
      |.seq xs _=>pure xs.toList
      |_=>unsupported "internal:collect"
     |_=>unsupported "internal:collect") Q E s'
    |.ok _=>False
    |.error e=>E e s') {s1 with heap:=xA}:=by
  refineλxA c st hL kp=>codeAny_extend_loopS W (by rw[q1g];symm) _ RZ _ es.size 0 _ #[] c U (q0V _) st hL (ItemsOf.nil _) λs' c6 c' hm jz kA=>Aw (q4t jz (Ui ?_))
  let ea:c6.toList=(jy w S ep es).toList.map (·.2):=by
   calc q2e λi=>?_;rw[Uj]
   by_cases hi:i<es.size
   .let Ke:i<c6.size:=by rw[kA.1];exact hi
    let⟨e,he,hv⟩:=kA.2 i _ (q0B Ke);rw[q0G,q0B Ke,q0G,he,hv];rfl
   .rw[q0G,q1L (by rw[kA.1];symm),q0G,q1L (by rw[Ag];symm)];rfl
  rw[ea];let⟨C5,g3,d3,tk3,R0⟩:=s';obtain rfl:g3=s1.gens:=hm.gens;obtain rfl:d3=s1.drawn:=hm.drawn;obtain rfl:R0=s1.os:=hm.os;subst Ah;calc h _ _ (λb ob e=>?_) (q1e (q0h jz));let hb:=q0h e;calc hm.heap b ob ?_ (kp b ob (q0o hb) (uA b ob (Lm _ e)));erw[q0c,q0L,q2m,q6g];exact⟨q0o hb,by rw[q1E];calc q0o (q0Z hb)⟩
 let Kg:=uA _ _ gL;calc Aw (q4s (Aw (Aw (q3g Kg U ?_))));let Kh:=q1d (q0Q (·.push q0T)) Kg U;refine q3g  Kh U ?_
 let C6:∀b ob,b≠⇑s->iP.get? b=Z ob->((iP.update ⇑s (q0Q (·.push q0T))).update ⇑s (q0Q (·.pop))).get? b=Z ob :=
  λb ob hb e=>(q1v _ _ (q1_ hb)).trans ((q1v _ _ (q1_ hb)).trans e)
 calc Ui ⟨q1X F.plain_extend_loop _,key _ _ ?_ (q1d (q0Q (·.pop)) Kh U) C6⟩;let⟨slot,it,sl⟩:=nN.it;calc⟨C6 _ _ (q0o lS) nN.set,slot,it.at λob e=>C6 _ _ ⋯ e,sl⟩
end
end LJS
namespace L2
open PySem PySem.Spec PyProof.Rows
abbrev Key:=Sum Int L
meta def vZ:Key->O->Bool
 |.inl k,v=>Value.isInt k v
 |.inr x,v=>q8l x v
meta def C7(w:ω):Key->Int
 |.inl k=>hashInt k
 |.inr x=>hashStr w x
def qf:∀{k v},vZ k v=θ->(∃i t,k=q2g i/\v=q1m i t)\/(∃x t,k=q5T x/\v=q8V x t)
 |.inl i,v,h=>by
  let⟨t,e⟩:=q4H   h;exact .inl ⟨i,t,U,e⟩
 |.inr x,v,h=>by
  let⟨t,e⟩:=Value.isStrOf_shape   h;calc .inr ⟨x,t,U,e⟩
def R1 i t:vZ (.inl i) (.int i t)=θ:=by simp[vZ,Value.isInt]
def R3 x t:vZ (.inr x) (.str x t)=θ:=by simp[vZ,q8l]
def R4 a b:I ((q2g a:Key)=q2g b)=(a==b):=by
 by_cases e:a=b
 .subst e;simp
 .rw[Ul (λq=>e (q22 q))]
  calc(q2I.mpr e).symm
def R5 a b:I ((q5T a:Key)=q5T b)=I (a=b):=by
 by_cases e:a=b
 .simp
 .rw[Ul (λq=>e (Sum.inr.inj q)),Ul e]
def R6 a b:I ((q2g a:Key)=q5T b)=ι:=Ul (λq=>nomatch q)
def R7 a b:I ((q5T a:Key)=q2g b)=ι:=Ul (λq=>nomatch q)
meta def gU(prog:ψ)(w:ω):PySem.KeyKind prog w Key where
 is:=vZ
 hash:=C7 w
 inj:=λv a b ha hb=>by
  rcases qf ha with⟨i,t,rfl,rfl⟩|⟨x,t,rfl,rfl⟩
  .rcases qf hb with⟨j,u,rfl,e⟩|⟨y,u,rfl,e⟩
   .injection e with e1 _;rw[e1]
   .exact nomatch e
  .rcases qf hb with⟨j,u,rfl,e⟩|⟨y,u,rfl,e⟩
   .exact nomatch e
   .injection e with e1 _;rw[e1]
 byValue:=λk v h=>by
  rcases qf h with⟨i,t,rfl,rfl⟩|⟨x,t,rfl,rfl⟩<;>rfl
 pyHash:=λhv h=>by
  rcases qf hv with⟨i,t,rfl,rfl⟩|⟨x,t,rfl,rfl⟩
  .exact wpAny_pyHash_int h
  .exact wpAny_pyHash_str h
 eqBool:=λhu hv h=>by
  rcases qf hu with⟨i,t,rfl,rfl⟩|⟨x,t,rfl,rfl⟩
  .rcases qf hv with⟨j,u,rfl,rfl⟩|⟨y,u,rfl,rfl⟩
   .rw[R4] at h;exact q42 h
   .rw[R6] at h;exact q6i i t y u _ _ _ _ h
  .rcases qf hv with⟨j,u,rfl,rfl⟩|⟨y,u,rfl,rfl⟩
   .rw[R7] at h;exact q6j x t j u _ _ _ _ h
   .rw[R5] at h;exact wpAny_eqBool_str h
 «strs» := λk x t v h=>by
  rcases qf h with⟨i,u,rfl,e⟩|⟨y,u,rfl,e⟩
  .exact nomatch e
  .injection e with e1 _
   subst e1;cases v<;>rfl
def R8 prog w i t:(gU prog w).is (.inl i) (.int i t)=θ:=R1 i t
def R9 prog w x t:(gU prog w).is (.inr x) (.str x t)=θ:=R3 x t
inductive V where
 |non|bl (b:Bool)|int (i:Int)|str (x:L)|byt (b:Array UInt8)|flt (b:UInt64)|ref (a:Y)|ty (n:String)
 deriving DecidableEq
/---/def RelV:V->O->Prop
 |.non,u=>u=q0T
 |.bl b,u=>u=q3j b
 |.int i,u=>∃t,u=q1m i t
 |.str x,u=>∃t,u=q8V x t
 |.byt b,u=>∃t,u=Value.bytes b t
 |.flt b,u=>∃t,u=Value.float b t
 |.ref a,u=>u=q1n a
 |.ty n,u=>u=q14 n
abbrev Vals:-V->-O->Prop:=Paired RelV
def Vals.length{xs us}(r:Vals xs us):↑xs=↑us:=q58 r
def Vals.get:∀{xs us}{i:Nat}{x},Vals xs us->xs[i]?=Z x->∃u,us[i]?=Z u/\RelV x u
 |_,_,_,_,.nil,e=>by simp at e
 |_,_,0,_,.cons r _,e=>by simp at e;subst e;exact⟨_,U,r⟩
 |_,_,i+1,x,.cons _ t,e=>by
  let⟨u,h1,h2⟩:=Vals.get   t e⁻¹;calc⟨u,by simpa using h1,h2⟩
def Vals.set{x u}(r:RelV x u):∀{xs us} i,Vals xs us->Vals (xs.set i x) (us.set i u)
 |_,_,_,.nil=>.nil
 |_,_,0,.cons _ t=>.cons r t
 |_,_,i+1,.cons q t=>.cons q (Vals.set r i t)
def Vals.append:∀{xs ys us ws},Vals xs us->Vals ys ws->Vals (xs++ys) (us++ws)
 |_,_,_,_,.nil,s=>s
 |_,_,_,_,.cons r t,s=>.cons r (Vals.append t s)
def Vals.take:∀{xs us} n,Vals xs us->Vals (xs.take n) (us.take n)
 |_,_,0,_=>.nil
 |_,_,_+1,.nil=>.nil
 |_,_,n+1,.cons r t=>.cons r (Vals.take n t)
def Vals.drop:∀{xs us} n,Vals xs us->Vals (xs.drop n) (us.drop n)
 |_,_,0,r=>r
 |_,_,_+1,.nil=>.nil
 |_,_,n+1,.cons _ t=>Vals.drop n t
/---/def eW:Option V->Option O->Prop
 |some v,some u=>RelV v u
 |none,none=>True
 |_,_=>False
/---/def KV{κ:Type}:-(κ×V)->-(κ×O)->Prop:=Paired λ(p:κ×V) (q:κ×Value)=>p.1=q.1/\RelV p.2 q.2
meta def kV:Key->V
 |.inl i=>.int i
 |.inr x=>.str x
inductive HO where
 |lst (xs:-V)
 |tup (xs:-V)
 |dK (kvs:-(Key×V))|dT (kvs:-(-Key×V))
 |set (S:Int->Bool) (n:Nat)
 |ins (C dx:Y) (fs:-(L×V))
 |own (x:Y)
 |xd (fs:-(L×V))
 |met (f x:Y)
 |rng (lo hi:Int)
 |frz (o:Obj) (u:HO)
 |tbl (ps:Array O)
 |ext (φ:Α->Prop)
abbrev Hp:=Y->Option HO
meta def upd(H:Hp)(a:Y)(o:HO):Hp:=λb=>if b=a then Z o else H b
def cb{H a o}:upd H a o a=Z o:=by unfold upd;rw[q0r U]
def bD{H a b o}(h:b≠a):upd H a o b=H b:=by unfold upd;rw[q0l h]
def R_{H:Hp}{a b o u}(h:H a=Z o)(h':H b=Z u)(d:o≠u):a≠b:=by
 ext e;subst e;rw[h] at h';calc d (q0P h')
def eg{H:Hp}{a b o}(h:H a=Z o)(h':H b=η):a≠b:=by
 ext e;subst e;rw[h] at h';cases h'
section
variable(P:ψ)(w:ω)
/---/def bO(H:Hp)(h:Α)(a:Y):HO->Prop
 |.lst xs=>↑xs<=sizeLine/\∃(aM:-O)(n:Nat),Vals xs aM/\h.get? a=Z {cls:=.type "list",data:=.seq aM.toArray n}
 |.tup xs=>↑xs<=sizeLine/\∃aM:-O,Vals xs aM/\IsTup h a aM.toArray
 |.dK kvs=>↑kvs<=sizeLine/\(a==sysModules)=ι/\∃vs,KV kvs vs/\h.DictOf (gU P w) a vs
 |.dT kvs=>↑kvs<=sizeLine/\(a==sysModules)=ι/\∃xs:-(-Key×Y×O),
   Paired (λ(p:-Key×V) (q:-Key×Addr×Value)=>p.1=q.1/\H q.2.1=Z (.tup (p.1.map kV))/\RelV p.2 q.2.2) kvs xs ∧
   ∃o es ep,h.get? a=Z o/\o.ExactDict/\o.data=.dict es ep/\es.toList=xs.map (entryOfKey (tupleKind (gU P w)))/\(xs.map (·.1)).Nodup
 |.set S n=>h.SetOf (intKind P w) a S n
 |.ins C dx fs=>H dx=Z (.own a)/\fs.length<=1000/\dx≠a/\h.get? a=Z (q2T C dx) ∧
   ∃mA,h.Ns1 dx mA/\(∀f,eW (fs.lookup f) (mA f))/\q6z mA (fs.map (·.1))
 |.own _=>∃o,h.get? a=Z o
 |.xd fs=>∃mA,h.Ns1 a mA/\∀f,eW (fs.lookup f) (mA f)
 |.rng lo hi=>∃t u v,h.get? a=Z {cls:=.type "range",data:=.fields #[.int lo t,.int hi u,.int 1 v]}
 |.frz o u=>h.get? a=Z o/\bO H h a u
 |.tbl ps=>h.get? a=Z {cls:=.none,data:=.fields ps}
 |.met f x=>h.get? a=Z (PySem.W.methodObj (.ref f) (.ref x))
 |.ext φ=>φ h/\(∃o,h.get? a=Z o)/\∀h1 h2:Α,φ h1->(∀o,h1.get? a=Z o->h2.get? a=Z o)->φ h2
/---/def fH(H:Hp)(h:Α):Prop:=∀a o,H a=Z o->bO P w H h a o
end
section
variable{P:ψ}{w:ω}{H H':Hp}{h h':Α}{a:Y}{o:HO}
def bO.lt(x:bO P w H h a o):a<h.objs.size:=by
 cases o with
 |lst xs=>let⟨_,_,_,_,e⟩:=x;exact q0h e
 |tup xs=>let⟨_,_,_,p⟩:=x;exact p.lt
 |dK kvs=>let⟨_,_,_,_,o,_,_,e,_⟩:=x;exact q0h e
 |dT kvs=>let⟨_,_,_,_,o,_,_,e,_⟩:=x;exact q0h e
 |set S n=>let⟨o,_,_,_,e,_⟩:=x;exact q0h e
 |ins C dx fs=>let⟨_,_,_,e,_⟩:=x;exact q0h e
 |own y=>let⟨_,e⟩:=x;exact q0h e
 |xd fs=>let⟨_,⟨_,_,_,e,_⟩,_⟩:=x;exact q0h e
 |rng lo hi=>let⟨_,_,_,e⟩:=x;exact q0h e
 |frz ob u=>let⟨e,_⟩:=x;exact q0h e
 |tbl ps=>exact q0h (x)
 |met f y=>exact q0h (x)
 |ext φ=>let⟨_,⟨_,e⟩,_⟩:=x;calc q0h e
def Paired.uB{α β}{F G:α->β->Prop}:∀{l₁ l₂},Paired F l₁ l₂->(∀a b,F a b->G a b)->Paired G l₁ l₂
 |_,_,.nil,_=>.nil
 |_,_,.cons r t,f=>.cons (f _ _ r) (Paired.uB t f)
def bO.ib(x:bO P w H h a o)(k:∀b u,(b=a\/H b=Z (.own a))->h.get? b=Z u->h'.get? b=Z u)
  (ho:∀b,H b=Z (.own a)->H' b=Z (.own a)) (ht:∀b xs,H b=Z (.tup xs)->H' b=Z (.tup xs)):bO P w H' h' a o:=by
 induction o with
 |lst xs=>let⟨z,aM,n,r,e⟩:=x;exact⟨z,aM,n,r,k _ _ (.inl U) e⟩
 |tup xs=>let⟨z,aM,r,ob,e,c⟩:=x;exact⟨z,aM,r,ob,k _ _ (.inl U) e,c⟩
 |dK kvs=>let⟨z,y,vs,r,ob,es,ep,e,c⟩:=x;exact⟨z,y,vs,r,ob,es,ep,k _ _ (.inl U) e,c⟩
 |dT kvs =>
  let⟨z,y,xs,r,ob,es,ep,e,c⟩:=x;exact⟨z,y,xs,Paired.uB r λp q z=>⟨z.1,ht _ _ z.2.1,z.2.2⟩,ob,es,ep,k _ _ (.inl U) e,c⟩
 |set S n=>let⟨ob,es,ep,t,e,c⟩:=x;exact⟨ob,es,ep,t,k _ _ (.inl U) e,c⟩
 |ins C dx fs =>
  let⟨d,z,ne,e,mA,⟨od,es,ep,e2,c⟩,r⟩:=x;exact⟨ho _ d,z,ne,k _ _ (.inl U) e,mA,⟨od,es,ep,k _ _ (.inr d) e2,c⟩,r⟩
 |own y=>let⟨ob,e⟩:=x;exact⟨ob,k _ _ (.inl U) e⟩
 |xd fs=>let⟨mA,⟨od,es,ep,e,c⟩,r⟩:=x;exact⟨mA,⟨od,es,ep,k _ _ (.inl U) e,c⟩,r⟩
 |rng lo hi=>let⟨t,u,v,e⟩:=x;exact⟨t,u,v,k _ _ (.inl U) e⟩
 |frz ob u ih=>let⟨e,q⟩:=x;exact⟨k _ _ (.inl U) e,ih q⟩
 |tbl ps =>
  exact k a _ (.inl U) x
 |met f y =>
  exact k a _ (.inl U) x
 |ext φ=>let⟨p,⟨o,e⟩,st⟩:=x;calc⟨st _ _ p λo q=>k _ _ (.inl U) q,⟨o,k _ _ (.inl U) e⟩,st⟩
def fH.lt(x:fH P w H h)(e:H a=Z o):a<h.objs.size:=(x a o e).lt
def fH.fresh(x:fH P w H h)(e:h.objs.size<=a):H a=η:=by
 cases q:H a with
 |none=>rfl
 |some u=>calc absurd (q0v (x.lt q) e) ⋯
def fH.kept(x:fH P w H h)(k:∀b u,h.get? b=Z u->h'.get? b=Z u):fH P w H h':=λa o e =>
 (x a o e).ib (λb u _ q=>k b u q) (λ_ q=>q) λ_ _ q=>q
def fH.laid(x:fH P w H h)(k:∀b u,h.get? b=Z u->h'.get? b=Z u)(hp:h.objs.size<=a)(new:bO P w (upd H a o) h' a o):fH P w (upd H a o) h':=λb u e=>by
 let hn:=x.fresh hp
 by_cases hb:b=a
 .subst hb;rw[cb] at e;cases e;exact new
 .rw[bD hb] at e
  calc(x b u e).ib (λc v _ q=>k c v q) (λc q=>by rw[bD (eg q hn)];calc q) λc xs q=>by rw[bD (eg q hn)];calc q
end
/---/def Rd(H:Hp)(a:Y)(u:HO):Prop:=H a=Z u\/∃o,H a=Z (.frz o u)
def Rd.ok{P w H h a u}(r:Rd H a u)(x:fH P w H h):bO P w H h a u:=by
 rcases r with r|⟨o,r⟩
 .exact x a u r
 .let⟨_,q⟩:=x a _ r
  calc q
/---/def xB:Option HO->Prop
 |some (.lst _)=>True
 |some (.dK _)=>True
 |some (.dT _)=>True
 |some (.set _ _)=>True
 |some (.ins _ _ _)=>True
 |some (.ext _)=>True
 |_=>False
section
variable{P:ψ}{w:ω}{H:Hp}{h h':Α}{x e:Y}{o':HO}
def fH.write(ok:fH P w H h)(mu:xB (H x))(he:e=x\/H e=Z (.own x))(k:∀b u,b≠e->h.get? b=Z u->h'.get? b=Z u)(pC:∃u,h'.get? e=Z u)
  (new:bO P w (upd H x o') h' x o'):fH P w (upd H x o') h':=λb u q=>by
 let xC:∀c y,H c=Z (.own y)->c≠x:=λc y r z=>by subst z;rw[r] at mu;exact mu
 by_cases hb:b=x
 .subst hb;rw[cb] at q;cases q;exact new
 .rw[bD hb] at q
  by_cases uC:b=e
  .let q':H b=Z (.own x):=by
    rcases he with z|z
    .exact absurd (uC.trans z) hb
    .rw[uC];exact z
   rw[q] at q';cases q';let⟨v,hv⟩:=pC;exact⟨v,by rw[uC];calc hv⟩
  .refine (ok b u q).ib (λc v hc r=>k c v ?_ r) (λc r=>by rw[bD (xC c b r)];calc r) λc xs r=>by rw[bD ((λc xs r z=>by subst z;rw[r] at mu;calc mu) c xs r)];exact r
   rcases hc with rfl|hc
   .exact uC
   .ext rfl
    rcases he with z|z
    .exact xC c b hc z
    .rw[hc] at z;cases z;calc hb U
end
structure Un(fs ex:-Y)(H H':Hp)(h h':Α):Prop where
 keep:∀b o,h.get? b=Z o->H b=η->b∉fs->b∉ex->h'.get? b=Z o
 slot:∀b o,h.get? b=Z o->H b=η->b∈fs->b∉ex->∃sl,h'.get? b=Z {o with slots:=sl}
 free:∀b o,h.get? b=Z o->H b=η->b∉ex->H' b=η
 there:∀b o,h.get? b=Z o->b∉ex->∃o',h'.get? b=Z o'
 f9:∀b xs,H b=Z (.tup xs)->H' b=Z (.tup xs)
 ic:∀b o u,H b=Z (.frz o u)->H' b=Z (.frz o u)
 ie:∀b ps,H b=Z (.tbl ps)->∃more,H' b=Z (.tbl (ps++more))
 gW:∀b xs o,H b=Z (.tup xs)->h.get? b=Z o->b∉ex->h'.get? b=Z o
section
variable{fs Sa ex ex':-Y}{H H1 H2:Hp}{h h1 h2 h':Α}{a x e:Y}{o:HO}
def Un.any(u:Un fs ex H H1 h h1){b ob}(q:h.get? b=Z ob)(n:H b=η)(hx:b∉ex):∃sl,h1.get? b=Z {ob with slots:=sl}:=by
 by_cases hb:b∈fs
 .exact u.slot b ob q n hb hx
 .calc⟨ob.slots,u.keep b ob q n hb hx⟩
def Un.kept(k:∀b u,h.get? b=Z u->h'.get? b=Z u):Un fs ex H H h h' :=
 ⟨λb ob q _ _ _=>k b ob q,λb ob q _ _ _=>⟨ob.slots,k b ob q⟩,λ_ _ _ n _=>n,λb ob q _=>⟨ob,k b ob q⟩,λ_ _ q=>q,λ_ _ _ q=>q,λ_ ps q=>⟨#[],by rw[q];simp⟩,λb _ u _ q _=>k b u q⟩
def Un.refl:Un fs ex H H h h:=Un.kept λ_ _ q=>q
def Un.laid(k:∀b u,h.get? b=Z u->h'.get? b=Z u)(hp:h.objs.size<=a)(hn:H a=η):Un fs ex H (upd H a o) h h' where
 keep:=λb u q _ _ _=>k b u q
 slot:=λb u q _ _ _=>⟨u.slots,k b u q⟩
 free:=λb u q n _=>by rw[bD (q0o (q0v (q0h q) hp))];exact n
 there:=λb u q _=>⟨u,k b u q⟩
 f9:=λb xs q=>by rw[bD (eg q hn)];exact q
 ic:=λb u xs q=>by rw[bD (eg q hn)];exact q
 ie:=λb ps q=>⟨#[],by rw[bD (eg q hn),q];simp⟩
 gW:=λb _ u _ q _=>k b u q
def Un.write(mu:xB (H x))(he:e=x\/H e=Z (.own x))(k:∀b u,b≠e->h.get? b=Z u->h'.get? b=Z u)(pC:∃u,h'.get? e=Z u):Un fs ex H (upd H x o) h h':=by
 let hx:∀b,H b=η->b≠x:=λb n z=>by subst z;rw[n] at mu;exact mu
 let hb:∀b,H b=η->b≠e:=λb n z=>by
  subst z;rcases he with r|r
  .exact hx b n r
  .rw[n] at r;cases r
 let hm:∀b u,H b=Z u->¬ xB (Z u)->b≠x:=λb u q nm z=>by subst z;rw[q] at mu;exact nm mu
 refine⟨λb u q n _ _=>k b u (hb b n) q,λb u q n _ _=>⟨u.slots,k b u (hb b n) q⟩,λb u q n _=>by rw[bD (hx b n)];calc n,λb u q _=>?_,
  λb xs q=>by rw[bD (hm b _ q λz=>z)];calc q,λb u xs q=>by rw[bD (hm b _ q λz=>z)];calc q,λb ps q=>⟨#[],by rw[bD (hm b _ q λz=>z),q];simp⟩,λb xs u q e _=>k b u (λz=>by
   subst z;rcases he with r|r
   .exact hm b _ q (λz=>z) r
   .rw[q] at r;cases r) e⟩
 by_cases uC:b=e
 .subst uC;exact pC
 .calc⟨u,k b u uC q⟩
end
meta def C8(h:Α)(H:Hp):-Y:=(q0F h.objs.size).filter λa=>(H a).isSome
meta def ik(h:Α)(H:Hp):Α:=PySem.W.hideAll h (C8 h H)
def Sb h H:(ik h H).objs.size=h.objs.size:=PySem.W.hideAll_size _ _
def Sd{h H b o}(e:h.get? b=Z o)(n:H b=η):(ik h H).get? b=Z o :=
 PySem.W.hideAll_get _ e λhm=>by
  let q:=(q0x.mp hm).2;rw[n] at q;simp at q
def Ki{h H b o}(e:(ik h H).get? b=Z o):h.get? b=Z o/\H b=η:=by
 let e':=PySem.W.of_hideAll (C8 h H) e;refine⟨e',?_⟩
 cases q:H b with
 |none=>rfl
 |some x =>
  let z:(ik h H).get? b=η:=PySem.W.hideAll_none (C8 h H) (q0x.mpr ⟨q0H.mpr (q0h e'),by simp[q]⟩);rw[z] at e;cases e
structure Mod(K:q0b)(mg:L->Option O)(base:Α):Prop where
 ip:K.In base
 glob:base.Ns mainGlobals mg
 blt:∃mb,base.Ns builtinsNs mb/\∀x:L,x≠"__name__" -> mb x=bootBuiltins x
 nolimit:base.NoLimit
structure Cx where
 prog:ψ
 w:ω
 K:q0b
 mg:L->Option O
 base:Α
 A:Β
 N:-L
 s₀:ο
 H₀:Hp
 env:Env
 outer:-Env
 stack:-Env
 ex:-Y
 fn:L->Bool
 calm:Bool
 pn:-(Y×Obj)
 xe:O->ο->Prop
meta def mQ(l:-Env):-Y:=l.filterMap (·.frame)
meta abbrev Cx.fs(X:Cx):-Y:=mQ X.outer
/---/def xD(sc:Γ)(x:L):Prop:=sc.names.lookup x=Z .local\/sc.names.lookup x=Z .cell\/sc.names.lookup x=Z .free
/---/def Loc(sc:Γ)(x:L):Prop:=sc.names.lookup x=Z .local\/sc.names.lookup x=Z .cell
abbrev cm(x:L):Prop:=(x==("__debug__" : L))=ι
abbrev iq(X:Cx)(x:L):Prop:=X.fn x=θ\/X.env.scope.names.lookup x=Z .local
abbrev di(X:Cx)(e:υ)(es:-υ):Prop:=starEach (e::es) X.env=(ι,eval e X.env)::starEach es X.env
abbrev dM(X:Cx)(p:Δ)(es:-υ):Prop:=(backTo p (starEach es X.env)).any (·.1)=ι
abbrev a9:=-(Y×Obj)
/---/def Look(env:Env)(h:Α)(m:L->Option O)(x:L)(u:O):Prop :=
 (env.kindOf x=Z .local/\m x=Z u)\/((env.kindOf x=Z .cell\/env.kindOf x=Z .free)/\∃c,env.cells.lookup x=Z c/\h.IsCell c (Z u))
structure Cx.Ok(X:Cx):Prop where
 mod:Mod X.K X.mg X.base
 kind:X.env.scope.kind=.function
 glob:X.env.globals=mainGlobals
 blt:X.env.builtins=builtinsNs
 above:⇑X.s₀<=X.env.locals
 inj:∀x y c,X.env.cells.lookup x=Z c->X.env.cells.lookup y=Z c->x=y
 has:∀x,(X.env.kindOf x=Z .cell\/X.env.kindOf x=Z .free)->∃c,X.env.cells.lookup x=Z c
 nP:∀x c,X.fn x=θ->X.env.cells.lookup x=Z c->⇑X.s₀<=c
 hd:X.calm=θ->X.A.handled=η
 frames:X.A.frames=Z X.stack
 v3:X.stack=X.outer\/(X.stack=X.env::X.outer/\X.env.frame=Z X.env.locals)
 Ai:∀b∈X.ex,b≠X.env.locals/\∀x c,X.env.cells.lookup x=Z c->c≠b
 bs:∀b o,X.base.get? b=Z o->X.s₀.heap.get? b=Z o/\(X.H₀ b=η\/∃xs,X.H₀ b=Z (.tup xs))
 nQ:X.base.objs.size<=⇑X.s₀
 jJ:∀b o,X.base.get? b=Z o->b∉X.ex
 lV:∀b∈X.ex,b∉X.fs
 fu:X.s₀.heap.FunFrames X.base X.outer
 pD:∀b∈X.fs,X.H₀ b=η
structure Inv(X:Cx)(pins:a9)(σ:-(Option V))(H:Hp)(s:ο):Prop where
 ok:X.Ok
 os:s.os=X.s₀.os
 bare:AllBare s.gens
 base:Un X.fs X.ex X.H₀ H X.s₀.heap s.heap
 loc:∃m,s.heap.Ns X.env.locals m/\∀(i:Nat)(x:L)(v:V),X.N[i]?=Z x->σ[i]?=Z (Z v)->xD X.env.scope x->∃u,RelV v u/\Look X.env s.heap m x u
 cell:∀x c,X.env.cells.lookup x=Z c->∃v,s.heap.IsCell c v
 free:H X.env.locals=η
 c9:∀x c,X.env.cells.lookup x=Z c->H c=η
 pin:∀p∈X.pn++pins,s.heap.get? p.1=Z p.2/\H p.1=η/\p.1≠X.env.locals/\p.1∉X.fs/\∀v,p.2.data≠.cell v
 bu:fH X.prog X.w H s.heap
 len:↑σ=↑X.N
section
variable{X:Cx}{pins:a9}{σ:-(Option V)}{H H':Hp}{s:ο}{h':Α}
def Cx.Ok.C9(ok:X.Ok){b o}(e:X.base.get? b=Z o):b∉X.fs:=λhb=>by
 let:=(ok.fu.mem hb).1;rw[e] at this;cases this
def Inv.bs(I:Inv X pins σ H s):∀b o,X.base.get? b=Z o->s.heap.get? b=Z o/\(H b=η\/∃xs,H b=Z (.tup xs)):=λb o e=>by
 obtain⟨e1,e2|⟨xs,e2⟩⟩:=I.ok.bs b o e
 .exact⟨I.base.keep b o e1 e2 (I.ok.C9 e) (I.ok.jJ b o e),.inl (I.base.free b o e1 e2 (I.ok.jJ b o e))⟩
 .calc⟨I.base.gW b xs o e2 e1 (I.ok.jJ b o e),.inr ⟨xs,I.base.f9 b xs e2⟩⟩
def Inv.bk(I:Inv X pins σ H s):∀b o,X.base.get? b=Z o->s.heap.get? b=Z o:=λb o e=>(I.bs b o e).1
def Inv.mod(I:Inv X pins σ H s):Mod X.K X.mg X.base:=I.ok.mod
def Inv.gy(I:Inv X pins σ H s):X.K.In s.heap:=I.ok.mod.ip.keeps I.bk
def Inv.nolimit(I:Inv X pins σ H s):s.heap.NoLimit:=I.ok.mod.nolimit.keeps I.bk
def Inv.lt(I:Inv X pins σ H s):X.env.locals<⇑s:=let⟨_,hn,_⟩:=I.loc;hn.lt
def Inv.sz(I:Inv X pins σ H s):⇑X.s₀<=⇑s:=q0N I.ok.above (q1e I.lt)
def Inv.C_(I:Inv X pins σ H s){a:Y}(h:⇑s<=a):a∉X.fs:=λhb=>by
 let⟨_,o,ho,_⟩:=I.ok.fu.mem hb;calc absurd (q0v (q0h ho) (q0N I.sz h)) ⋯
def Inv.uD(I:Inv X pins σ H s):∀x c,X.env.cells.lookup x=Z c->c≠X.env.locals:=λx c e z=>by
 let⟨v,o,ho,hd⟩:=I.cell x c e;let⟨m,⟨o',es,ep,nR,De,_⟩,_⟩:=I.loc;rw[z,nR] at ho;cases ho;rw[De] at hd;cases hd
def Inv.fu(I:Inv X pins σ H s):s.heap.FunFrames X.base X.outer:=by
 let all:∀l,(∀b∈mQ l,b∈X.fs)->X.s₀.heap.FunFrames X.base l->s.heap.FunFrames X.base l:=by
  ext l
  induction l with
  |nil=>ext _ _;trivial
  |cons env r ih =>
   ext hs hl;let⟨hk,⟨L,o,hf,hn,ho,hd⟩,hr⟩:=hl;let hL:=hs L (by unfold mQ;rw[q39,hf];calc q0d);let⟨sl,e⟩:=I.base.slot L o ho (I.ok.pD L hL) hL λz=>I.ok.lV L z hL;exact⟨hk,⟨L,_,hf,hn,e,hd⟩,ih (λb hb=>hs b (by unfold mQ;rw[q39,hf];calc q0p _ hb)) hr⟩
 calc all X.outer (λ_ hb=>hb) I.ok.fu
def Inv.stack(I:Inv X pins σ H s):s.heap.FunFrames X.base X.stack:=by
 rcases I.ok.v3 with e|⟨e,hf⟩
 .rw[e];exact I.fu
 .rw[e]
  let⟨m,hn,_⟩:=I.loc;calc .cons (by rw[I.ok.kind];decide) hf hn (Heap.get?_none_of_le (q0N I.ok.nQ I.ok.above)) I.fu
def Inv.iQ(I:Inv X pins σ H s):∀b∈mQ X.stack,b∈X.env.locals::X.fs:=λb hb=>by
 rcases I.ok.v3 with e|⟨e,hf⟩
 .rw[e] at hb;exact q0p _ hb
 .rw[e] at hb
  unfold mQ at hb;rw[q39,hf] at hb;calc hb
def Inv.lr(I:Inv X pins σ H s):∀b∈mQ X.stack,H b=η:=λb hb=>by
 rcases q0c.mp (I.iQ b hb) with e|hb
 .rw[e];exact I.free
 .let⟨_,o,ho,_⟩:=I.ok.fu.mem hb
  calc I.base.free b o ho (I.ok.pD b hb) λz=>I.ok.lV b z hb
def Inv.step{g':Array GenState}{t':Nat}{d':Drawn}{ch:-Y}(I:Inv X pins σ H s)
  (pE:∀b∈ch,(b∈X.ex\/⇑X.s₀<=b)/\b≠X.env.locals/\(∀x c,X.env.cells.lookup x=Z c->c≠b)/\∀p∈X.pn++pins,p.1≠b)
  (keep:∀b o,b≠X.env.locals->b∉X.fs->b∉ch->s.heap.get? b=Z o->H b=η->h'.get? b=Z o)
  (slot:∀b o,b≠X.env.locals->b∈X.fs->b∉ch->s.heap.get? b=Z o->H b=η->∃sl,h'.get? b=Z {o with slots:=sl}) (free:∀b o,b∉ch->s.heap.get? b=Z o->H b=η->H' b=η)
  (there:∀b o,b∉ch->s.heap.get? b=Z o->∃o',h'.get? b=Z o')
  (f9:∀b xs,H b=Z (.tup xs)->H' b=Z (.tup xs)) (ic:∀b o u,H b=Z (.frz o u)->H' b=Z (.frz o u)) (ie:∀b ps,H b=Z (.tbl ps)->∃more,H' b=Z (.tbl (ps++more)))
  (gW:∀b xs o,H b=Z (.tup xs)->s.heap.get? b=Z o->b∉ch->h'.get? b=Z o)
  (ns:∀m,s.heap.Ns X.env.locals m->h'.Ns X.env.locals m) (bu:fH X.prog X.w H' h') (hg:AllBare g') :
  Inv X pins σ H' {s with heap:=h',gens:=g',drawn:=d',toks:=t'}:=by
 let Kj:∀b o,X.s₀.heap.get? b=Z o->b≠X.env.locals:=λb o e=>q0o (q0v (q0h e) I.ok.above)
 let xE:∀b o,X.s₀.heap.get? b=Z o->b∉X.ex->b∉ch:=λb o e hx hb=>by
  rcases(pE b hb).1 with z|z
  .exact hx z
  .exact absurd (q0v (q0h e) z) ⋯
 let cellK:∀x c,X.env.cells.lookup x=Z c->∀v,s.heap.IsCell c v->h'.IsCell c v:=λx c e v ⟨o,ho,hd⟩↦by
  let tE:=λz=>(pE c z).2.2.1 x c e U
  by_cases hc:c∈X.fs
  .let⟨sl,q⟩:=slot c o (I.uD x c e) hc tE ho (I.c9 x c e)
   exact⟨_,q,hd⟩
  .exact⟨o,keep c o (I.uD x c e) hc tE ho (I.c9 x c e),hd⟩
 refine⟨I.ok,I.os,hg,⟨λb o e n hb hx=>?_,λb o e n hb hx=>?_,λb o e n hx=>?_,λb o e hx=>?_,λb xs e=>f9 b xs (I.base.f9 b xs e),λb o xs e=>ic b o xs (I.base.ic b o xs e),λb ps e=>?_,λb xs o e1 e2 hx=>gW b xs o (I.base.f9 b xs e1) (I.base.gW b xs o e1 e2 hx) (xE b o e2 hx)⟩,?_,λx c e=>?_,?_,λx c e=>?_,λp hp=>?_,bu,I.len⟩
 .exact keep b o (Kj b o e) hb (xE b o e hx) (I.base.keep b o e n hb hx) (I.base.free b o e n hx)
 .let⟨sl,e1⟩:=I.base.slot b o e n hb hx
  let⟨Df,e2⟩:=slot b _ (Kj b o e) hb (xE b o e hx) e1 (I.base.free b o e n hx);exact⟨Df,e2⟩
 .let⟨o',e1⟩:=I.base.there b o e hx
  exact free b o' (xE b o e hx) e1 (I.base.free b o e n hx)
 .let⟨o',e1⟩:=I.base.there b o e hx
  exact there b o' (xE b o e hx) e1
 .let⟨m1,e1⟩:=I.base.ie b ps e
  let⟨m2,e2⟩:=ie b _ e1;exact⟨m1++m2,by rw[e2,Array.append_assoc]⟩
 .let⟨m,hn,hl⟩:=I.loc
  calc⟨m,ns m hn,λi x v e1 e2 e3=>?_⟩;let⟨u,r,l⟩:=hl i x v e1 e2 e3;calc⟨u,r,?_⟩;rcases l with l|⟨k,c,e,z⟩
  .exact .inl l
  .exact .inr ⟨k,c,e,cellK x c e _ z⟩
 .let⟨v,z⟩:=I.cell x c e
  exact⟨v,cellK x c e v z⟩
 .let⟨m,⟨o,_,_,ho,_⟩,_⟩:=I.loc
  exact free _ o (λz=>(pE _ z).2.1 U) ho I.free
 .let⟨v,o,ho,hd⟩:=I.cell x c e
  exact free c o (λz=>(pE c z).2.2.1 x c e U) ho (I.c9 x c e)
 .let⟨e,n,ne,nf,d⟩:=I.pin p hp
  let tE:=λz=>(pE p.1 z).2.2.2 p hp U;calc⟨keep p.1 p.2 ne nf tE e n,free p.1 p.2 tE e n,ne,nf,d⟩
def Inv.un{t':Nat}(I:Inv X pins σ H s)(u:Un X.fs [] H H' s.heap h')(bu:fH X.prog X.w H' h'):Inv X pins σ H' {s with heap:=h',toks:=t'}:=by
 let⟨m,⟨o,es,ep,ho,r⟩,_⟩:=id I.loc;let⟨sl,hL⟩:=u.any ho I.free (by simp)
 exact I.step   (ch:=[]) (λ_ z=>nomatch z) (λb o _ hb _ e n=>u.keep b o e n hb (by simp)) (λb o _ hb _ e n=>u.slot b o e n hb (by simp)) (λb o _ e n=>u.free b o e n (by simp)) (λb o _ e=>u.there b o e (by simp)) u.f9 u.ic u.ie (λb xs o q e _=>u.gW b xs o q e (by simp)) (λm' hm=>by
  let⟨o',cH,Dg,nR,r'⟩:=hm;rw[ho] at nR;cases nR
  calc⟨_,cH,Dg,hL,r'⟩) bu I.bare
def Inv.call{g':Array GenState}{t':Nat}{d':Drawn}{ch:-Y}(I:Inv X pins σ H s)(u:Un (mQ X.stack) ch H H' s.heap h')(bu:fH X.prog X.w H' h')(hg:AllBare g')
  (pE:∀b∈ch,(b∈X.ex\/⇑X.s₀<=b)/\b≠X.env.locals/\(∀x c,X.env.cells.lookup x=Z c->c≠b)/\∀p∈X.pn++pins,p.1≠b) :
  Inv X pins σ H' {s with heap:=h',gens:=g',drawn:=d',toks:=t'}:=by
 let⟨m,⟨o,es,ep,ho,r⟩,_⟩:=id I.loc;let⟨sl,hL⟩:=u.any ho I.free λz=>(pE _ z).2.1 U
 exact I.step  pE (λb o hL hb hc e n=>u.keep b o e n (λz=>(q0c.mp (I.iQ b z)).elim hL hb) hc) (λb o _ _ hc e n=>u.any e n hc) (λb o hc e n=>u.free b o e n hc) (λb o hc e=>u.there b o e hc) u.f9 u.ic u.ie (λb xs o q e hc=>u.gW b xs o q e hc) (λm' hm=>by
  let⟨o',cH,Dg,nR,r'⟩:=hm;rw[ho] at nR;cases nR
  calc⟨_,cH,Dg,hL,r'⟩) bu hg
def Inv.turned{t':Nat}{it:Y}(I:Inv X pins σ H s)(k:∀b o,b≠it->s.heap.get? b=Z o->h'.get? b=Z o)(hn:H it=η)(hL:it≠X.env.locals)
  (h1:it∈X.ex\/⇑X.s₀<=it) (h2:∀x c,X.env.cells.lookup x=Z c->c≠it) (h3:∀p∈X.pn++pins,p.1≠it):Inv X pins σ H {s with heap:=h',toks:=t'}:=by
 let Kk:∀b u,H b=Z u->b≠it:=λb u e z=>by rw[z,hn] at e;cases e
 refine I.step   (ch:=[it]) (λb hb=>?_) (λb o _ _ hc e _=>k b o (λz=>hc (by simp[z])) e) (λb o _ _ hc e _=>⟨o.slots,k b o (λz=>hc (by simp[z])) e⟩) (λ_ _ _ _ n=>n)
  (λb o hc e=>⟨o,k b o (λz=>hc (by simp[z])) e⟩) (λ_ _ e=>e) (λ_ _ _ e=>e) (λb ps e=>⟨#[],by rw[e];simp⟩) (λb _ o _ e hc=>k b o (λz=>hc (by simp[z])) e) (λm hm=>?_) (λb u e=>?_) I.bare
 .let e:=by simpa using hb
  subst e;exact⟨h1,hL,h2,h3⟩
 .let⟨o,es,ep,ho,r⟩:=hm
  exact⟨o,es,ep,k _ o (q1_ hL) ho,r⟩
 .refine (I.bu b u e).ib (λc v hc q=>k c v ?_ q) (λ_ q=>q) λ_ _ q=>q
  rcases hc with z|z
  .rw[z];exact Kk b u e
  .calc Kk c _ z
def Inv.tok(I:Inv X pins σ H s)(t:Nat):Inv X pins σ H {s with toks:=t}:=I.un   Un.refl I.bu
def Inv.kept{t':Nat}(I:Inv X pins σ H s)(k:∀b u,s.heap.get? b=Z u->h'.get? b=Z u):Inv X pins σ H {s with heap:=h',toks:=t'}:=I.un (Un.kept k) (I.bu.kept k)
def Inv.laid{a:Y}{o:HO}{t':Nat}(I:Inv X pins σ H s)(k:∀b u,s.heap.get? b=Z u->h'.get? b=Z u)(hp:⇑s<=a)(new:bO X.prog X.w (upd H a o) h' a o):
  Inv X pins σ (upd H a o) {s with heap:=h',toks:=t'}:=I.un (Un.laid k hp (I.bu.fresh hp)) (I.bu.laid k hp new)
def Inv.write{x e:Y}{o:HO}{t':Nat}(I:Inv X pins σ H s)(mu:xB (H x))(he:e=x\/H e=Z (.own x))(k:∀b u,b≠e->s.heap.get? b=Z u->h'.get? b=Z u)(pC:∃u,h'.get? e=Z u)
  (new:bO X.prog X.w (upd H x o) h' x o):Inv X pins σ (upd H x o) {s with heap:=h',toks:=t'}:=I.un (Un.write mu he k pC) (I.bu.write mu he k pC new)
def Inv.gK{b9:a9}(I:Inv X pins σ H s)(h:∀p∈b9,s.heap.get? p.1=Z p.2/\H p.1=η/\p.1≠X.env.locals/\p.1∉X.fs/\∀v,p.2.data≠.cell v):Inv X b9 σ H s :=
 ⟨I.ok,I.os,I.bare,I.base,I.loc,I.cell,I.free,I.c9,λp hp=>(q0w.mp hp).elim (λz=>I.pin p (q0U _ z)) (h p),I.bu,I.len⟩
def Kl{N:-L}(hN:N.Nodup){i j:Nat}{x:L}(a:N[i]?=Z x)(b:N[j]?=Z x):i=j:=by
 let⟨h1,e1⟩:=Ll.mp a;let⟨h2,e2⟩:=Ll.mp b;calc(q2r hN).mp (e1.trans e2.symm)
def Km{M:Model}{A:Β}{E:bz}{i:Nat}{x:L}{v:V}{u:O}{Q:Unit->ο->Prop}(I:Inv X pins σ H s)(hN:X.N.Nodup)(hi:X.N[i]?=Z x)(hx:Loc X.env.scope x)(r:RelV v u)
  (h:∀s',Inv X pins (σ.set i (Z v)) H s'->(∃a,q26 a s.heap s'.heap/\(a=X.env.locals\/X.env.cells.lookup x=Z a))->Q () s') (hf:iq X x:=by first|exact .inl U|exact .inr U|assumption):ρ M A (storeName X.env x u) Q E s:=by
 let⟨m,hn,hl⟩:=id I.loc;let Dh:(X.env.scope.kind==.class||(X.env.scope.kind==.module&&X.env.locals != X.env.globals))=ι:=by rw[I.ok.kind];rfl
 let Kn:i<↑σ:=by rw[I.len];exact(Ll.mp hi).1
 let uD:=I.uD
 let tracked:∀{a h'},(∃o,s.heap.get? a=Z o/\H a=η)->q26 a s.heap h'->fH X.prog X.w H h':=λ{a h'} ha hs b ob e=>by
  let⟨_,_,tF⟩:=ha;calc(I.bu b ob e).ib (λc w' hc q=>(hs.2 c ?_).trans q) (λ_ q=>q) λ_ _ q=>q;ext rfl;rcases hc with rfl|hc
  .rw[tF] at e;cases e
  .rw[tF] at hc;cases hc
 rcases hx with hk|hk
 .refine wpAny_storeName_local hk hn (λh' s_ hs=>?_) Dh
  calc wd λnU=>?_;let⟨oL,_,_,kB,_⟩:=id hn;refine nU <| h _ ⟨I.ok,I.os,I.bare,⟨λb o e n hb hx=>?_,λb o e n hb hx=>?_,I.base.free,λb o e hx=>?_,I.base.f9,I.base.ic,I.base.ie,λb xs o e1 e hx=>(hs.2 b (q0o (q0v (q0h e) I.ok.above))).trans (I.base.gW b xs o e1 e hx)⟩,⟨_,s_,λj y v' e1 e2 e3=>?_⟩,λy c e=>?_,I.free,I.c9,λp hp=>?_,tracked ⟨oL,kB,I.free⟩ hs,by simpa using I.len⟩ ⟨_,hs,.inl U⟩
  .exact (hs.2 b (q0o (q0v (q0h e) I.ok.above))).trans (I.base.keep b o e n hb hx)
  .let⟨sl,e1⟩:=I.base.slot b o e n hb hx
   exact⟨sl,(hs.2 b (q0o (q0v (q0h e) I.ok.above))).trans e1⟩
  .let⟨o',e1⟩:=I.base.there b o e hx
   exact⟨o',(hs.2 b (q0o (q0v (q0h e) I.ok.above))).trans e1⟩
  .by_cases hj:j=i
   .subst hj
    rw[hi] at e1;cases e1;rw[q07 Kn] at e2;cases e2
    exact⟨u,r,.inl ⟨hk,by simp⟩⟩
   .rw[q08 (q1_ hj)] at e2
    let⟨u',r',q⟩:=hl j y v' e1 e2 e3;calc⟨u',r',?_⟩;rcases q with⟨k,e⟩|⟨k,c,e,z⟩
    .refine .inl ⟨k,?_⟩
     let:y≠x:=λe=>hj (Kl hN e1 (e▸hi));simp[this,e]
    .exact .inr ⟨k,c,e,z.sameBut hs (uD y c e)⟩
  .let⟨w',z⟩:=I.cell y c e
   exact⟨w',z.sameBut hs (uD y c e)⟩
  .let⟨e,n,ne,nf,d⟩:=I.pin p hp
   exact⟨(hs.2 p.1 ne).trans e,n,ne,nf,d⟩
 .let mR:X.fn x=θ:=by
   rcases hf with z|z
   .exact z
   .rw[z] at hk;cases hk
  let⟨c,hc⟩:=I.ok.has x (.inl hk);let⟨w',z⟩:=I.cell x c hc;calc wpAny_storeName_cell I.ok.kind hk hc z (λh' jK hs=>?_);let⟨oc,v5,Di⟩:=id z;refine h {s with heap:=h'} ⟨I.ok,I.os,I.bare,⟨λb o e n hb hx=>?_,λb o e n hb hx=>?_,I.base.free,λb o e hx=>?_,I.base.f9,I.base.ic,I.base.ie,λb xs o e1 e hx=>(hs.2 b (q0o (q0v (q0h e) (I.ok.nP x c mR hc)))).trans (I.base.gW b xs o e1 e hx)⟩,⟨m,hn.sameBut hs (q1_ (uD x c hc)),λj y v' e1 e2 e3=>?_⟩,λy c' e=>?_,I.free,I.c9,λp hp=>?_,tracked ⟨oc,v5,I.c9 x c hc⟩ hs,by simpa using I.len⟩ ⟨c,hs,.inr hc⟩
  .exact (hs.2 b (q0o (q0v (q0h e) (I.ok.nP x c mR hc)))).trans (I.base.keep b o e n hb hx)
  .let⟨sl,e1⟩:=I.base.slot b o e n hb hx
   exact⟨sl,(hs.2 b (q0o (q0v (q0h e) (I.ok.nP x c mR hc)))).trans e1⟩
  .let⟨o',e1⟩:=I.base.there b o e hx
   exact⟨o',(hs.2 b (q0o (q0v (q0h e) (I.ok.nP x c mR hc)))).trans e1⟩
  .by_cases hj:j=i
   .subst hj
    rw[hi] at e1;cases e1;rw[q07 Kn] at e2;cases e2
    exact⟨u,r,.inr ⟨.inl hk,c,hc,jK⟩⟩
   .rw[q08 (q1_ hj)] at e2
    let⟨u',r',q⟩:=hl j y v' e1 e2 e3;calc⟨u',r',?_⟩;rcases q with q|⟨k,c',e,z'⟩
    .exact .inl q
    .refine .inr ⟨k,c',e,z'.sameBut hs ?_⟩
     ext rfl;exact hj (Kl hN e1 (I.ok.inj _ _ _ e hc▸hi))
  .by_cases uE:c'=c
   .subst uE;exact⟨_,jK⟩
   .let⟨w2,z2⟩:=I.cell y c' e
    exact⟨w2,z2.sameBut hs uE⟩
  .let⟨e,n,ne,nf,d⟩:=I.pin p hp
   calc⟨(hs.2 p.1 ?_).trans e,n,ne,nf,d⟩;ext q;rw[q,v5] at e;calc d w' (by rw[<-(q0P e)];calc Di)
def Ko{M:Model}{A:Β}{E:bz}{i:Nat}{x:L}{v:V}{u:O}{Q:Unit->ο->Prop}(I:Inv X pins σ H s)(hN:X.N.Nodup)(hi:X.N[i]?=Z x)(hx:Loc X.env.scope x)(r:RelV v u)
  (h:∀s',Inv X pins (σ.set i (Z v)) H s'->Q () s') (hf:iq X x:=by first|exact .inl U|exact .inr U|assumption):ρ M A (storeName X.env x u) Q E s :=
 Km I hN hi hx r (λs' I' _=>h s' I') hf
def Inv.xF{s':ο}{ch:-Y}(I:Inv X pins σ H s)(ho:s'.os=s.os)(u:Un (mQ X.stack) ch H H' s.heap s'.heap)(bu:fH X.prog X.w H' s'.heap)(hg:AllBare s'.gens)
  (pE:∀b∈ch,(b∈X.ex\/⇑X.s₀<=b)/\b≠X.env.locals/\(∀x c,X.env.cells.lookup x=Z c->c≠b)/\∀p∈X.pn++pins,p.1≠b):Inv X pins σ H' s':=by
 let⟨h',g',d',t',o'⟩:=s';subst ho;calc I.call    u bu hg pE
end
abbrev XK:=O->Option Y->Hp->Prop
abbrev St:=-(Option V)
abbrev VK:=V->Hp->Prop
abbrev TE:=St->Hp->VK->Prop
abbrev TT:=St->Hp->(Bool->Hp->Prop)->Prop
abbrev TA:=St->Hp->(-V->Hp->Prop)->Prop
structure Ends where
 nx:St->Hp->Prop
 rt:VK
 bk:St->Hp->Prop:=λ_ _=>False
 ct:St->Hp->Prop:=λ_ _=>False
abbrev TS:=Ends->St->Hp->Prop
inductive EP (X:Cx) (pins:a9) (σ:St) (Q:VK) (u:O) (s':ο):Prop
 |mk (v:V) (H':Hp) (I:Inv X pins σ H' s') (r:RelV v u) (q:Q v H')
/---/def TP(X:Cx)(pins:a9)(σ:St)(Q:Bool->Hp->Prop)(b:Bool)(s':ο):Prop:=∃H',Inv X pins σ H' s'/\Q b H'
inductive AP (X:Cx) (pins:a9) (σ:St) (Q:-V->Hp->Prop) (us:-O) (s':ο):Prop
 |mk (vs:-V) (H':Hp) (I:Inv X pins σ H' s') (r:Vals vs us) (q:Q vs H')
/---/def SP(X:Cx)(pins:a9)(D:Ends)(f:Flow)(s':ο):Prop :=
 match f with
 |.next=>∃σ' H',Inv X pins σ' H' s'/\D.nx σ' H'
 |.brk=>∃σ' H',Inv X pins σ' H' s'/\D.bk σ' H'
 |.cont=>∃σ' H',Inv X pins σ' H' s'/\D.ct σ' H'
 |.ret u=>∃v σ' H',Inv X pins σ' H' s'/\RelV v u/\D.rt v H'
structure JE(X:Cx)(e:υ)(t:TE):Prop where
 out:∀(pins:a9)(s:ο)(σ:St)(H:Hp)(Q:VK),Inv X pins σ H s->t σ H Q->ρ (ς X.prog X.w) X.A (eval e X.env) (EP X pins σ Q) X.xe s
instance {X:Cx} {e:υ} {t:TE}:CoeFun (JE X e t) (λ_=>∀(pins:a9)(s:ο)(σ:St)(H:Hp)(Q:VK),Inv X pins σ H s->t σ H Q->ρ (ς X.prog X.w) X.A (eval e X.env) (EP X pins σ Q) X.xe s):=⟨JE.out⟩
structure JT(X:Cx)(e:υ)(t:TT):Prop where
 out:∀(pins:a9)(s:ο)(σ:St)(H:Hp)(Q:Bool->Hp->Prop),Inv X pins σ H s->t σ H Q->ρ (ς X.prog X.w) X.A (isTrue e X.env (eval e X.env)) (TP X pins σ Q) X.xe s
instance {X:Cx} {e:υ} {t:TT}:CoeFun (JT X e t) (λ_=>∀(pins:a9)(s:ο)(σ:St)(H:Hp)(Q:Bool->Hp->Prop),Inv X pins σ H s->t σ H Q->ρ (ς X.prog X.w) X.A (isTrue e X.env (eval e X.env)) (TP X pins σ Q) X.xe s):=⟨JT.out⟩
structure JW(X:Cx)(e:υ)(t:TT):Prop where
 out:∀(whole:Sem O)(pins:a9)(s:ο)(σ:St)(H:Hp)(Q:Bool->Hp->Prop),Inv X pins σ H s->t σ H Q->ρ (ς X.prog X.w) X.A (isTrue e X.env whole) (TP X pins σ Q) X.xe s
instance {X:Cx} {e:υ} {t:TT}:CoeFun (JW X e t) (λ_=>∀(whole:Sem O)(pins:a9)(s:ο)(σ:St)(H:Hp)(Q:Bool->Hp->Prop),Inv X pins σ H s->t σ H Q->ρ (ς X.prog X.w) X.A (isTrue e X.env whole) (TP X pins σ Q) X.xe s):=⟨JW.out⟩
def JW.jt{X:Cx}{e:υ}{t:TT}(h:JW X e t):JT X e t:=⟨h.out _⟩
structure JA(X:Cx)(es:-υ)(t:TA):Prop where
 out:∀(pos:Δ)(pins:a9)(s:ο)(σ:St)(H:Hp)(Q:-V->Hp->Prop),Inv X pins σ H s->t σ H Q->ρ (ς X.prog X.w) X.A (spliced (backTo pos (starEach es X.env))) (AP X pins σ Q) X.xe s
instance {X:Cx} {es:-υ} {t:TA}:CoeFun (JA X es t) (λ_=>∀(pos:Δ)(pins:a9)(s:ο)(σ:St)(H:Hp)(Q:-V->Hp->Prop),Inv X pins σ H s->t σ H Q->ρ (ς X.prog X.w) X.A (spliced (backTo pos (starEach es X.env))) (AP X pins σ Q) X.xe s):=⟨JA.out⟩
structure JS(X:Cx)(st:χ)(t:TS):Prop where
 out:∀(pins:a9)(s:ο)(σ:St)(H:Hp)(D:Ends),Inv X pins σ H s->t D σ H->ρ (ς X.prog X.w) X.A (exec st X.env) (SP X pins D) X.xe s
instance {X:Cx} {st:χ} {t:TS}:CoeFun (JS X st t) (λ_=>∀(pins:a9)(s:ο)(σ:St)(H:Hp)(D:Ends),Inv X pins σ H s->t D σ H->ρ (ς X.prog X.w) X.A (exec st X.env) (SP X pins D) X.xe s):=⟨JS.out⟩
structure eQ(X:Cx)(st:-χ)(t:TS):Prop where
 out:∀(pins:a9)(s:ο)(σ:St)(H:Hp)(D:Ends),Inv X pins σ H s->t D σ H->ρ (ς X.prog X.w) X.A (execs st X.env) (SP X pins D) X.xe s
instance {X:Cx} {st:-χ} {t:TS}:CoeFun (eQ X st t) (λ_=>∀(pins:a9)(s:ο)(σ:St)(H:Hp)(D:Ends),Inv X pins σ H s->t D σ H->ρ (ς X.prog X.w) X.A (execs st X.env) (SP X pins D) X.xe s):=⟨eQ.out⟩
def bJ{α:Type}{t:Sem α}{Q Q':α->ο->Prop}{M:Model}{A:Β}{E:bz}{s:ο}(h:ρ M A t Q E s)(hQ:∀a s,Q a s->Q' a s):ρ M A t Q' E s:=q1C h hQ λ_ _ x=>x
section
variable{X:Cx}
/---/def jL(i:Nat):TE:=fun σ H Q=>∃v,σ[i]?=Z (Z v)/\Q v H
/---/def tC(v:V):TE:=λ_ H Q=>Q v H
def Kp{i:Nat}{x:L}{pos:Δ}(hN:X.N[i]?=Z x)(hv:xD X.env.scope x)(hd: ~~~(cm x))(jM: ~~~((x==("__classdict__" : L))=ι)):JE X (.Name x pos) (jL i):=by
 calc⟨?_⟩;ext pins s σ H Q I h;let⟨v,e,h⟩:=h;let⟨m,hn,hl⟩:=I.loc;let⟨u,r,l⟩:=hl i x v hN e hv;let fin:EP X pins σ Q u s:=⟨v,H,I,r,h⟩;rcases l with⟨hk,hm⟩|⟨hk,c,hc,tG⟩
 .exact q7S (wpAny_loadName_local I.ok.kind hk hn hm fin) hd
 .rcases hk with hk|hk
  .exact q7S (wpAny_loadName_cell I.ok.kind hk hc tG fin) hd
  .calc q7S (wpAny_loadName_free I.ok.kind hk hc tG fin jM) hd
def tH{i j pos}:JE X (.Constant (.int i) j pos) (tC (.int i)):=⟨λ_ _ _ H _ I h=>wpAny_Constant_int ⟨.int i,H,I.tok _,⟨_,U⟩,h⟩⟩
def Se{b j pos}:JE X (.Constant (.bool b) j pos) (tC (.bl b)):=⟨λ_ _ _ H _ I h=>Constant_bool ⟨.bl b,H,I,U,h⟩⟩
def Sf{j pos}:JE X (.Constant .none j pos) (tC .non):=⟨λ_ _ _ H _ I h=>Constant_none ⟨.non,H,I,U,h⟩⟩
def Aj{x j pos}:JE X (.Constant (.str x) j pos) (tC (.str x)):=⟨λ_ _ _ H _ I h=>Calls.Constant_str ⟨.str x,H,I.tok _,⟨_,U⟩,h⟩
⟩
/---/def Gl(X:Cx)(x:L):Prop:=X.env.kindOf x=Z .globalImplicit
def Ak{E:bz}{pins:a9}{s:ο}{σ:St}{H:Hp}{x:L}{u:O}{pos:Δ}{Q:bz}(I:Inv X pins σ H s)(hg:Gl X x)(hm:X.mg x=Z u)(h:Q u s)
  (hd: ~~~(cm x)):ρ (ς X.prog X.w) X.A (eval (.Name x pos) X.env) Q E s :=
 q4u I.ok.kind hg (Calls.loadGlobal_global (by rw[I.ok.glob];calc I.mod.glob.keeps I.bk) hm h) hd
def qg{E:bz}{pins:a9}{s:ο}{σ:St}{H:Hp}{x:L}{u:O}{pos:Δ}{Q:bz}(I:Inv X pins σ H s)(hg:Gl X x)(hm:X.mg x=η)(hv:bootBuiltins x=Z u)(h:Q u s)
  (hn:x≠"__name__" := by decide) (hd: ~~~(cm x)):ρ (ς X.prog X.w) X.A (eval (.Name x pos) X.env) Q E s:=by
 let⟨mb,h1,h2⟩:=I.mod.blt;calc q4u I.ok.kind hg (Calls.loadGlobal_builtin (by rw[I.ok.glob];calc I.mod.glob.keeps I.bk) hm (by rw[I.ok.blt];calc h1.keeps I.bk) ((h2 x hn).trans hv) h) hd
def Kq{x:L}{v:V}{u:O}{pos:Δ}(hg:Gl X x)(hm:X.mg x=Z u)(r:RelV v u)(hd: ~~~(cm x)):JE X (.Name x pos) (tC v):=⟨λ_ _ _ H _ I h=>Ak I hg hm ⟨v,H,I,r,h⟩ hd⟩
def Sg{x:L}{v:V}{u:O}{pos:Δ}(hg:Gl X x)(hm:X.mg x=η)(hv:bootBuiltins x=Z u)(r:RelV v u)(hn:x≠"__name__" := by decide)(hd: ~~~(cm x)):JE X (.Name x pos) (tC v):=⟨λ_ _ _ H _ I h=>qg I hg hm hv ⟨v,H,I,r,h⟩ hn hd
⟩
variable{a b:υ}{ta tb:TE}{pos:Δ}
structure JC(X:Cx)(op:CmpOp)(a b:υ)(t:TE):Prop where
 out:∀(pins:a9)(s:ο)(σ:St)(H:Hp)(Q:VK),Inv X pins σ H s->t σ H Q →
  ρ (ς X.prog X.w) X.A (eval a X.env) (λv s₁=>ρ (ς X.prog X.w) X.A (eval b X.env) (λu s₂=>ρ (ς X.prog X.w) X.A (compareOp op v u) (EP X pins σ Q) X.xe s₂) X.xe s₁) X.xe s
instance {X:Cx} {op:CmpOp} {a b:υ} {t:TE}:CoeFun (JC X op a b t) (λ_=>∀(pins:a9)(s:ο)(σ:St)(H:Hp)(Q:VK),Inv X pins σ H s->t σ H Q->ρ (ς X.prog X.w) X.A (eval a X.env) (λv s₁=>ρ (ς X.prog X.w) X.A (eval b X.env) (λu s₂=>ρ (ς X.prog X.w) X.A (compareOp op v u) (EP X pins σ Q) X.xe s₂) X.xe s₁) X.xe s):=⟨JC.out⟩
/---/def tB(t:TE):TT:=fun σ H Q=>t σ H λx H1=>∃c,x=.bl c/\Q c H1
def Kr{op:CmpOp}{t:TE}(h:JC X op a b t)(h1:behindInMarks op b=ι:=by first|exact z6o _ (by decide) (by decide)|rfl):JT X (.Compare a [op] [b] pos) (tB t):=by
 calc⟨λpins s σ H Q I hw=>q5y (bJ (h pins s σ H _ I hw) λv s1 h1=>bJ h1 λu s2 h2=>bJ h2 λc s3 ⟨x,H1,I1,r1,q1⟩=>?_) h1⟩;let⟨d,rfl,q⟩:=q1;cases r1
 calc q17 ⟨H1,I1,q⟩
def Sh{e:υ}{t:TE}(h:JE X e t)(he:‹∀whole,isTrue e X.env whole=(do let v <- whole;standAt e.pos;holding [v] (truthy v))›):JT X e (tB t):=by
 calc⟨λpins s σ H Q I hw=>isTrue_plain (bJ (h pins s σ H _ I hw) λv s1 ⟨x,H1,I1,r1,q1⟩=>?_) (he _)⟩;let⟨d,rfl,q⟩:=q1;cases r1
 calc q17 ⟨H1,I1,q⟩
variable{tA Al:TT}{rest:-υ}
/---/def xG(t u:TT):TT:=fun σ H Q=>t σ H λc H1=>if c=θ then u σ H1 Q else Q ι H1
/---/def Ks(t u:TT):TT:=fun σ H Q=>t σ H λc H1=>if c=θ then Q θ H1 else u σ H1 Q
/---/def Dj(t:TT):TT:=fun σ H Q=>t σ H λc H1=>Q (!c) H1
def Si(ha:JT X a tA):JW X (.BoolOp .And [a] pos) tA:=by
 refine⟨λwh pins s σ H Q I h=>isTrue_and (bJ (ha pins s σ H Q I h) λc s1 e=>?_)⟩
 cases c with
 |true=>exact isTrue_and_nil e
 |false=>calc e
def Sj(ha:JT X a tA):JW X (.BoolOp .Or [a] pos) tA:=by
 refine⟨λwh pins s σ H Q I h=>isTrue_or (bJ (ha pins s σ H Q I h) λc s1 e=>?_)⟩
 cases c with
 |false=>exact isTrue_or_nil e
 |true=>calc e
def Sk(ha:JT X a tA)(hb:JW X (.BoolOp .And (b::rest) pos) Al):JW X (.BoolOp .And (a::b::rest) pos) (xG tA Al):=by
 refine⟨λwh pins s σ H Q I h=>isTrue_and (bJ (ha pins s σ H _ I h) λc s1 h0_=>el3 h0_ λH1 I1 q1=>?_)⟩
 cases c with
 |true=>exact hb wh pins s1 σ H1 Q I1 q1
 |false=>calc⟨H1,I1,q1⟩
def Sl(ha:JT X a tA)(hb:JW X (.BoolOp .Or (b::rest) pos) Al):JW X (.BoolOp .Or (a::b::rest) pos) (Ks tA Al):=by
 refine⟨λwh pins s σ H Q I h=>isTrue_or (bJ (ha pins s σ H _ I h) λc s1 h0_=>el3 h0_ λH1 I1 q1=>?_)⟩
 cases c with
 |true=>exact⟨H1,I1,q1⟩
 |false=>calc hb wh pins s1 σ H1 Q I1 q1
def Sm(ha:JT X a tA):JT X (.UnaryOp .Not a pos) (Dj tA):=by
 calc⟨λpins s σ H Q I h=>isTrue_not (ha pins s σ H (λc H1=>Q (!c) H1) I h)⟩
/---/def Sn(ta tb:TE):TE:=fun σ H Q=>ta σ H λx H1=>∃c,x=.bl c/\if c=θ then tb σ H1 Q else Q (.bl ι) H1
/---/def So(ta:TE):TE:=fun σ H Q=>ta σ H λx H1=>∃c,x=.bl c/\Q (.bl (!c)) H1
def Sq{op}{t:TE}(h:JE X a t):JE X (.BoolOp op [a] pos) t:=⟨λpins s σ H Q I hw=>BoolOp_one (h pins s σ H Q I hw)⟩
def Sr(ha:JE X a ta)(hb:JE X (.BoolOp .And (b::rest) pos) tb):JE X (.BoolOp .And (a::b::rest) pos) (Sn ta tb):=by
 calc⟨λpins s σ H Q I h=>BoolOp_and (bJ (ha pins s σ H _ I h) ?_)⟩;ext v s1 ⟨x,H1,I1,r1,q1⟩;let⟨c,rfl,q1⟩:=q1;cases r1
 refine q17 ?_
 cases c with
 |true=>exact hb pins s1 σ H1 Q I1 q1
 |false=>calc⟨.bl ι,H1,I1,U,q1⟩
def Ss(ha:JE X a ta):JE X (.UnaryOp .Not a pos) (So ta):=by
 calc⟨λpins s σ H Q I h=>UnaryOp_ (bJ (ha pins s σ H _ I h) ?_)⟩;ext v s1 ⟨x,H1,I1,r1,q1⟩;let⟨c,rfl,q1⟩:=q1;cases r1
 calc not_of (q17 ⟨.bl (!c),H1,I1,U,q1⟩)
/---/def Su(t:TT)(ta tb:TE):TE:=fun σ H Q=>t σ H λc H1=>if c=θ then ta σ H1 Q else tb σ H1 Q
def Sv{c:υ}(hc:JT X c tA)(ha:JE X a ta)(hb:JE X b tb):JE X (.IfExp c a b pos) (Su tA ta tb):=by
 refine⟨λpins s σ H Q I h=>wpAny_IfExp (bJ (hc pins s σ H _ I h) λd s1 h0_=>el3 h0_ λH1 I1 q1=>?_)⟩
 cases d with
 |true=>exact ha pins s1 σ H1 Q I1 q1
 |false=>calc hb pins s1 σ H1 Q I1 q1
end
/---/def bR(K:q0b)(H:Hp)(a:Y)(xs:-V):Prop :=
 Rd H a (.lst xs) ∨
  ∃(o:Obj)(aM:Array O)(n:Nat),K.lookup a=Z o/\o.cls=.type "list" /\ o.dict=η/\o.data=.seq aM n/\aM.size<=sizeLine/\Vals xs aM.toList
/---/def cA(K:q0b)(H:Hp)(a:Y)(xs:-V):Prop :=
 Rd H a (.tup xs) ∨
  ∃(o:Obj)(aM:Array O)(n:Nat),K.lookup a=Z o/\o.cls=.type "tuple" /\ o.data=.seq aM n/\aM.size<=sizeLine/\Vals xs aM.toList
meta def Dl:O->Option V
 |.none=>Z .non
 |.bool b=>Z (.bl b)
 |.int i _=>Z (.int i)
 |.str x _=>Z (.str x)
 |.bytes b _=>Z (.byt b)
 |.float b _=>Z (.flt b)
 |.ref a=>Z (.ref a)
 |.type n=>Z (.ty n)
 |_=>η
def RelV.abs{x:V}{u:O}(r:RelV x u):Dl u=Z x:=by
 cases x with
 |non=>cases r;rfl
 |bl _=>cases r;rfl
 |int _=>let⟨t,rfl⟩:=r;rfl
 |str _=>let⟨t,rfl⟩:=r;rfl
 |byt _=>let⟨t,rfl⟩:=r;rfl
 |flt _=>let⟨t,rfl⟩:=r;rfl
 |ref _=>cases r;rfl
 |ty _=>cases r;rfl
def RelV.inj{x y:V}{u:O}(r:RelV x u)(q:RelV y u):x=y:=q0P (r.abs.symm.trans q.abs)
def Vals.inj:∀{xs ys:-V}{us:-O},Vals xs us->Vals ys us->xs=ys
 |_,_,_,.nil,.nil=>U
 |_,_,_,.cons r t,.cons r' t'=>by rw[r.inj r',Vals.inj t t']
section
variable{X:Cx}{pins:a9}{σ:St}{H:Hp}{s:ο}{a:Y}{xs ys:-V}
def bR.of{K:q0b}(h:H a=Z (.lst xs)):bR K H a xs:=.inl (.inl h)
def cA.of{K:q0b}(h:H a=Z (.tup xs)):cA K H a xs:=.inl (.inl h)
def Inv.list(I:Inv X pins σ H s)(h:bR X.K H a xs):∃aM:-O,Vals xs aM/\PlainL s.heap a aM.toArray/\↑xs<=sizeLine:=by
 rcases h with h|⟨o,aM,n,hk,hc,hd,hs,hz,r⟩
 .let⟨z,aM,n,r,e⟩:=h.ok I.bu
  exact⟨aM,r,⟨_,n,e,U,U,U⟩,z⟩
 .refine⟨aM.toList,r,⟨o,n,I.gy a o hk,hc,hd,by simpa using hs⟩,?_⟩
  let e:=↑r;erw[q0k] at e;symm
def Inv.tuple(I:Inv X pins σ H s)(h:cA X.K H a xs):∃aM:-O,Vals xs aM/\IsTup s.heap a aM.toArray/\↑xs<=sizeLine:=by
 rcases h with h|⟨o,aM,n,hk,hc,hs,hz,r⟩
 .let⟨z,aM,r,p⟩:=h.ok I.bu
  exact⟨aM,r,p,z⟩
 .refine⟨aM.toList,r,⟨o,I.gy a o hk,hc,n,by simpa using hs⟩,?_⟩
  let e:=↑r;erw[q0k] at e;symm
def Inv.jN(I:Inv X pins σ H s)(h:bR X.K H a xs)(h':bR X.K H a ys):xs=ys:=by
 let⟨aM,r,⟨o,n,e,_,_,d⟩,_⟩:=I.list h;let⟨ir,r',⟨o',n',e',_,_,d'⟩,_⟩:=I.list h';rw[e] at e';cases e';rw[d] at d';injection d' with d1 _;let:=by simpa using congrArg q9g d1
 subst this;calc r.inj r'
def Inv.iG(I:Inv X pins σ H s)(h:cA X.K H a xs)(h':cA X.K H a ys):xs=ys:=by
 let⟨aM,r,⟨o,e,_,n,d⟩,_⟩:=I.tuple h;let⟨ir,r',⟨o',e',_,n',d'⟩,_⟩:=I.tuple h';rw[e] at e';cases e';rw[d] at d';injection d' with d1 _;let:=by simpa using congrArg q9g d1
 subst this;calc r.inj r'
end
meta abbrev Cx.iw(X:Cx)(E:bz):Cx:={X with xe:=E}
meta abbrev Cx.mS(X:Cx):Cx:=X.iw λ_ _=>False
def Cx.Ok.iw{X:Cx}(ok:X.Ok)(E:bz):(X.iw E).Ok :=
 ⟨ok.mod,ok.kind,ok.glob,ok.blt,ok.above,ok.inj,ok.has,ok.nP,ok.hd,ok.frames,ok.v3,ok.Ai,ok.bs,ok.nQ,ok.jJ,ok.lV,ok.fu,ok.pD⟩
def Cx.Ok.eC{X:Cx}{E:bz}(ok:(X.iw E).Ok):X.Ok :=
 ⟨ok.mod,ok.kind,ok.glob,ok.blt,ok.above,ok.inj,ok.has,ok.nP,ok.hd,ok.frames,ok.v3,ok.Ai,ok.bs,ok.nQ,ok.jJ,ok.lV,ok.fu,ok.pD⟩
section
variable{X:Cx}{pins:a9}{σ:St}{H:Hp}{s:ο}{E:bz}
def Inv.iw(I:Inv X pins σ H s)(E:bz):Inv (X.iw E) pins σ H s:=⟨I.ok.iw E,I.os,I.bare,I.base,I.loc,I.cell,I.free,I.c9,I.pin,I.bu,I.len⟩
def Inv.eC(I:Inv (X.iw E) pins σ H s):Inv X pins σ H s:=⟨I.ok.eC,I.os,I.bare,I.base,I.loc,I.cell,I.free,I.c9,I.pin,I.bu,I.len⟩
def SP.eC{D:Ends}{f:Flow}{s':ο}(h:SP (X.iw E) pins D f s'):SP X pins D f s':=by
 cases f with
 |next=>let⟨σ',H',I,q⟩:=h;exact⟨σ',H',I.eC,q⟩
 |brk=>let⟨σ',H',I,q⟩:=h;exact⟨σ',H',I.eC,q⟩
 |cont=>let⟨σ',H',I,q⟩:=h;exact⟨σ',H',I.eC,q⟩
 |ret u=>let⟨v,σ',H',I,r,q⟩:=h;calc⟨v,σ',H',I.eC,r,q⟩
def eQ.mS{st:-χ}{t:TS}(h:eQ X.mS st t):eQ X st t:=⟨λpins s σ H D I hw =>
 q1C (h pins s σ H D (I.iw _) hw) (λ_ _ q=>q.eC) λ_ _ z=>q1D z⟩
end
section
variable{X:Cx}{st:χ}{rest:-χ}{t u:TS}{e:υ}{te:TE}{pos:Δ}
/---/def Sw:TS:=λD σ H=>D.nx σ H
/---/def qh(t u:TS):TS:=λD σ H=>t {D with nx:=u D} σ H
def qi:eQ X [] Sw:=⟨λ_ _ σ H _ I h=>q32 ⟨σ,H,I,h⟩⟩
def uF(h1:JS X st t)(h2:eQ X rest u):eQ X (st::rest) (qh t u):=by
 refine⟨λpins s σ H D I h=>q66 (bJ (h1 pins s σ H {D with nx:=u D} I h) λf s1 q=>?_)⟩
 cases f with
 |next =>
  let⟨σ',H',I',q⟩:=q;exact h2 pins s1 σ' H' D I' q
 |ret v=>exact q
 |brk=>exact q
 |cont=>calc q
def xH(h1:JS X st t):eQ X [st] t:=by
 refine⟨λpins s σ H D I h=>q66 (bJ (h1 pins s σ H D I h) λf s1 q=>?_)⟩
 cases f with
 |next=>exact q32 q
 |ret v=>exact q
 |brk=>exact q
 |cont=>calc q
def Inv.quiet{pins:a9}{σ:St}{H:Hp}{s:ο}(I:Inv X pins σ H s):interactive X.env=ι:=by simp[interactive,I.ok.kind]
/---/def Kt(te:TE):TS:=λD σ H=>te σ H λ_ H1=>D.nx σ H1
def Ku(he:JE X e te)(hs:‹swapsWith e η pos.line X.env=pure ι›):JS X (.Expr e pos) (Kt te):=by
 calc⟨λpins s σ H D I h=>wpAny_Expr_any (bJ (he pins s σ H _ I h) λv s1 ⟨x,H1,I1,r1,q1⟩↦⟨σ,H1,I1,q1⟩) I.quiet hs⟩
/---/def xI(te:TE):TS:=λD σ H=>te σ H D.rt
def Dp(he:JE X e te):JS X (.Return (Z e) pos) (xI te):=by
 calc⟨λpins s σ H D I h=>wpAny_Return_some (bJ (he pins s σ H _ I h) λv s1 ⟨x,H1,I1,r1,q1⟩↦⟨x,σ,H1,I1,r1,q1⟩)⟩
/---/def Dq(c:TT)(t u:TS):TS:=λD σ H=>c σ H λb H1=>if b=θ then t D σ H1 else u D σ H1
def Sx{c:υ}{a b:-χ}{tc:TT}(hc:JT X c tc)(ha:eQ X a t)(hb:eQ X b u):JS X (.If c a b pos) (Dq tc t u):=by
 refine⟨λpins s σ H D I h=>wpAny_If (bJ (hc pins s σ H _ I h) λd s1 h0_=>el3 h0_ λH1 I1 q1=>?_)⟩
 cases d with
 |true=>exact ha pins s1 σ H1 D I1 q1
 |false=>calc hb pins s1 σ H1 D I1 q1
end
abbrev TG:=V->St->Hp->(St->Hp->Prop)->Prop
abbrev nV:=-V->St->Hp->(St->Hp->Prop)->Prop
structure JG(X:Cx)(target:υ)(t:TG):Prop where
 out:∀(pins:a9)(s:ο)(σ:St)(H:Hp)(v:V)(u:O)(Q:St->Hp->Prop),Inv X pins σ H s->RelV v u->t v σ H Q →
  ρ (ς X.prog X.w) X.A (assign target X.env u) (λ_ s'=>∃σ' H',Inv X pins σ' H' s'/\Q σ' H') X.xe s
instance {X:Cx} {target:υ} {t:TG}:CoeFun (JG X target t) (λ_=>∀(pins:a9)(s:ο)(σ:St)(H:Hp)(v:V)(u:O)(Q:St->Hp->Prop),Inv X pins σ H s->RelV v u->t v σ H Q->ρ (ς X.prog X.w) X.A (assign target X.env u) (λ_ s'=>∃σ' H',Inv X pins σ' H' s'/\Q σ' H') X.xe s):=⟨JG.out⟩
structure ly(X:Cx)(ts:-υ)(t:nV):Prop where
 out:∀(pins:a9)(s:ο)(σ:St)(H:Hp)(vs:-V)(us:-O)(Q:St->Hp->Prop),Inv X pins σ H s->Vals vs us->t vs σ H Q →
  ρ (ς X.prog X.w) X.A (assignInOrder ((assignEach ts X.env).map (·.2)) us) (λ_ s'=>∃σ' H',Inv X pins σ' H' s'/\Q σ' H') X.xe s
instance {X:Cx} {ts:-υ} {t:nV}:CoeFun (ly X ts t) (λ_=>∀(pins:a9)(s:ο)(σ:St)(H:Hp)(vs:-V)(us:-O)(Q:St->Hp->Prop),Inv X pins σ H s->Vals vs us->t vs σ H Q->ρ (ς X.prog X.w) X.A (assignInOrder ((assignEach ts X.env).map (·.2)) us) (λ_ s'=>∃σ' H',Inv X pins σ' H' s'/\Q σ' H') X.xe s):=⟨ly.out⟩
abbrev uG:=V->V->V->Hp->(Hp->Prop)->Prop
/---/def xJ(X:Cx)(t:uG):Prop :=
 ∀(pins:a9)(s:ο)(σ:St)(H:Hp)(o i v:V)(ov iv u:O)(Q:Hp->Prop),Inv X pins σ H s->RelV o ov->RelV i iv->RelV v u->t o i v H Q →
  ρ (ς X.prog X.w) X.A (setItem ov iv u) (λ_ s'=>∃H',Inv X pins σ H' s'/\Q H') X.xe s
section
variable{X:Cx}{pos:Δ}
/---/def uH(i:Nat):TG:=λv σ H Q=>Q (σ.set i (Z v)) H
def xK{i:Nat}{x:L}(hN:X.N.Nodup)(hi:X.N[i]?=Z x)(hx:Loc X.env.scope x)(hf:iq X x:=by first|exact .inl U|exact .inr U|assumption):JG X (.Name x pos) (uH i):=by
 calc⟨λpins s σ H v u Q I r h=>q6A (Ko I hN hi hx r (λs' I'=>⟨_,H,I',h⟩) hf)⟩
/---/def xM:nV:=λvs σ H Q=>vs=[]/\Q σ H
/---/def Dr(t:TG)(u:nV):nV:=λvs σ H Q=>∃v r,vs=v::r/\t v σ H fun σ' H'=>u r σ' H' Q
def iR:ly X [] xM:=by
 calc⟨?_⟩;ext pins s σ H vs us Q I r h;let⟨e,h⟩:=h;calc assignInOrder_nil ⟨σ,H,I,h⟩
def xN{e:υ}{es:-υ}{t:TG}{u:nV}(h1:JG X e t)(h2:ly X es u)
  (hs:‹(assignEach (e::es) X.env).map (·.2)=assign e X.env::(assignEach es X.env).map (·.2)›):ly X (e::es) (Dr t u):=by
 calc⟨?_⟩;ext pins s σ H vs us Q I r h;let⟨v,vr,e1,h⟩:=h;subst e1
 cases r with
 |cons r rr =>
  rw[hs];calc assignInOrder_cons (bJ (h1 pins s σ H _ _ _ I r h) λ_ s1 ⟨σ1,H1,I1,q1⟩↦h2 pins s1 σ1 H1 _ _ Q I1 rr q1)
/---/def xO(K:q0b)(n:Nat)(t:nV):TG:=λv σ H Q=>∃a xs,v=.ref a/\cA K H a xs/\↑xs=n/\t xs σ H Q
def Ds{es:-υ}{k:Nat}{t:nV}{n:Nat}(hc:X.calm=θ)(h:ly X es t)
  (hn:‹↑(assignEach es X.env)=n›) (kC:‹(assignEach es X.env).findIdx? (·.1)=η›):JG X (.Tuple es k pos) (xO X.K n t):=by
 calc⟨?_⟩;ext pins s σ H v u Q I r hw;let⟨a,xs,e1,hq,hl,hw⟩:=hw;subst e1;cases r
 let⟨aM,rv,ht,hz⟩:=I.tuple hq;calc assign_Tuple_tuple (I.ok.hd hc) ht (by simp[hn,<-hl,rv.length]) kC λh' hx=>?_;let I1:Inv X pins σ H {s with heap:=h'}:=I.kept  λb o e=>hx b o (q0o (q0h e)) e;calc h pins _ σ H xs _ Q I1 rv⁻¹ hw
/---/def xP(to ti:TE)(t:uG):TG:=λv σ H Q=>to σ H λo H1=>ti σ H1 λi H2=>t o i v H2 λH3=>Q σ H3
def Dt{o i:υ}{to ti:TE}{t:uG}(ho:JE X o to)(hi:JE X i ti)(hs:xJ X t)
  (ha:‹∀v,assign (.Subscript o i pos) X.env v=(do
   let ov <- holding [v] (eval o X.env)
   let iv <- holding [v,ov] (eval i X.env)
   standAt pos
   holding [v,ov,iv] (setItem ov iv v)
   release [v,ov,iv] [])›):JG X (.Subscript o i pos) (xP to ti t):=by
 calc⟨λpins s σ H v u Q I r h=>Aw (q0R (bJ (ho pins s σ H _ I h) λov s1 ⟨x,H1,I1,r1,q1⟩↦Aw (q0R (bJ (hi pins s1 σ H1 _ I1 q1) λiv s2 ⟨y,H2,I2,r2,q2⟩↦Aw (q2W (Aw (q0R (bJ (hs pins s2 σ H2 x y v ov iv u _ I2 r1 r2 r q2) λ_ s3 h0_=>el3 h0_ λH3 I3 q3 =>wpAny_release ⟨σ,H3,I3,q3⟩))))))))⟩
/---/def lW(te:TE)(g:TG):TS:=λD σ H=>te σ H λx H1=>g x σ H1 D.nx
def Am{tg e:υ}{te:TE}{g:TG}(he:JE X e te)(hg:JG X tg g)(hs:‹swapsWithSole [tg] e pos.line X.env=pure ι›)(hw:‹swappedStores [tg] e X.env=pure η›)
  (h1:‹(assignEach [tg] X.env).map (·.2)=[assign tg X.env]›):JS X (.Assign [tg] e pos) (lW te g):=by
 calc⟨λpins s σ H D I h=>wpAny_Assign_stores (bJ (he pins s σ H _ I h) λv s1 ⟨x,H1,I1,r1,q1⟩=>?_) hs hw⟩;rw[h1];calc bJ (hg pins s1 σ H1 x v _ I1 r1 q1) λ_ s2 q=>q
def An{i:Nat}{x:L}{e:υ}{te:TE}{pos':Δ}(hN:X.N.Nodup)(hi:X.N[i]?=Z x)(hx:Loc X.env.scope x)(he:JE X e te)(hs:‹swapsWith e (Z (.Name x pos')) pos.line X.env=pure ι›)(hf:iq X x:=by first|exact .inl U|exact .inr U|assumption):
  JS X (.Assign [.Name x pos'] e pos) (lW te (uH i)):=by
 calc⟨λpins s σ H D I h=>wpAny_Assign_Name (bJ (he pins s σ H _ I h) λv s1 ⟨y,H1,I1,r1,q1⟩↦Ko I1 hN hi hx r1 (λs2 I2=>⟨_,H1,I2,q1⟩) hf) hs⟩
end
structure It where
 go:Nat->Hp->Prop
 v7:Nat->Hp->V->Hp->Prop
 stop:Nat->Hp->Prop
/---/def bW(X:Cx)(pins:a9)(H:Hp)(b:Y):Prop :=
 H b=η/\b≠X.env.locals/\b∉X.fs/\(b∈X.ex\/⇑X.s₀<=b)/\(∀x c,X.env.cells.lookup x=Z c->c≠b)/\∀p∈X.pn++pins,p.1≠b
def Inv.iy{X pins}{σ:St}{H H' s}{b:Y}(I:Inv X pins σ H s)(hb:⇑s<=b)(hn:H' b=η):bW X pins H' b:=by
 refine⟨hn,q15 (q0v I.lt hb),I.C_ hb,.inr (q0N I.sz hb),λx c e z=>?_,λp hp z=>?_⟩
 .let⟨v,q⟩:=I.cell x c e
  exact absurd (q0v q.lt (by rw[z];calc hb)) (q2G _)
 .calc absurd (q0v (q0h (I.pin p hp).1) (by rw[z];calc hb)) (q2G _)
structure Turn(P:ψ)(w:ω)(K:q0b)(tg:υ)(J:It)(fp:-Y)(it:Y)(tn:Nat->Α->Prop):Prop where
 mem:it∈fp
 obj:∀i h,tn i h->∀b∈fp,∃o,h.get? b=Z o/\∀v,o.data≠.cell v
 keep:∀i h h',tn i h->(∀b∈fp,∀o,h.get? b=Z o->h'.get? b=Z o)->tn i h'
 item:∀(X:Cx),X.prog=P->X.w=w->X.K=K->X.calm=θ->∀(i:Nat)(pins:a9)(s:ο)(σ:St)(H:Hp)(E:bz),Inv X pins σ H s->(∀b∈fp,bW X pins H b)->tn i s.heap->J.go i H →
  ρ (ς P w) X.A (pyNext (.ref it)) (λr s1=>∃u,r=Z u ∧
   ρ (ς P w) X.A (letOwnedTupleGo tg (.ref it) u) (λ_ s2=>∃x H',Inv X pins σ H' s2/\RelV x u/\J.v7 i H x H'/\tn (i+1) s2.heap/\∀b∈fp,H' b=η) E s1) E s
 done:∀(X:Cx),X.prog=P->X.w=w->X.K=K->X.calm=θ->∀(i:Nat)(pins:a9)(s:ο)(σ:St)(H:Hp)(E:bz),Inv X pins σ H s->(∀b∈fp,bW X pins H b)->tn i s.heap->J.stop i H →
  ρ (ς P w) X.A (pyNext (.ref it)) (λr s1=>r=η/\Inv X pins σ H s1) E s
 self:∀(A:Β)(i:Nat)(s:ο)(Q:bz)(E:bz),tn i s.heap->Q (.ref it) s->ρ (ς P w) A (pyIter (.ref it)) Q E s
abbrev TI:=St->Hp->(It->Hp->Prop)->Prop
/---/def Du(X:Cx)(pins:a9)(σ:St)(tg:υ)(R:It->Hp->Prop)(Dv:O)(s2:ο):Prop :=
 ∃(it:Y)(fp:-Y)(tn:Nat->Α->Prop)(J:It)(H':Hp),Dv=.ref it/\Inv X pins σ H' s2/\Turn X.prog X.w X.K tg J fp it tn/\tn 0 s2.heap/\(∀b∈fp,bW X pins H' b)/\R J H'
structure JI(X:Cx)(tg iter:υ)(wi:TI):Prop where
 out:∀(pins:a9)(s:ο)(σ:St)(H:Hp)(R:It->Hp->Prop),Inv X pins σ H s->wi σ H R →
  ρ (ς X.prog X.w) X.A (eval iter X.env) (λv s1=>ρ (ς X.prog X.w) X.A (pyIter v) (Du X pins σ tg R) X.xe s1) X.xe s
instance {X:Cx} {tg iter:υ} {wi:TI}:CoeFun (JI X tg iter wi) (λ_=>∀(pins:a9)(s:ο)(σ:St)(H:Hp)(R:It->Hp->Prop),Inv X pins σ H s->wi σ H R->ρ (ς X.prog X.w) X.A (eval iter X.env) (λv s1=>ρ (ς X.prog X.w) X.A (pyIter v) (Du X pins σ tg R) X.xe s1) X.xe s):=⟨JI.out⟩
def Dw {M A} {E:bz} {s tg it u o n vs} {Q:Unit->ο->Prop} (ho:s.heap.get? it=Z o) (hc:o.cls = .type n) (hd:o.data = .fields vs)
  (hn:["enumerate", "zip", "dict_itemiterator", "dict_reverseitemiterator", "odict_iterator", "itertools.zip_longest", "itertools.pairwise"].contains n=ι) (hQ:Q () s):ρ M A (letOwnedTupleGo tg (.ref it) u) Q E s:=by
 cases tg<;>first
  | exact Ui hQ
  | (cases u<;>first
    | exact Ui hQ
    | (refine Aw (q4t ho ?_)
       rw[hc,hd];show ρ M A (if (["enumerate", "zip", "dict_itemiterator", "dict_reverseitemiterator", "odict_iterator", "itertools.zip_longest", "itertools.pairwise"].contains n && vs[0]? == Z (rawInt _))=θ then _ else _) Q E s;rw[q0l (by ext h;rw[hn,q7T] at h;cases h)]
       calc Ui hQ))
meta def Kv(K:q0b)(a:Y):It :=
 ⟨λi H=>∃xs x,bR K H a xs/\xs[i]?=Z x,λi H x H'=>H'=H/\∀xs,bR K H a xs->xs[i]?=Z x,λi H=>∃xs,bR K H a xs/\↑xs<=i⟩
meta def Kw(K:q0b)(a:Y):It :=
 ⟨λi H=>∃xs x,cA K H a xs/\xs[i]?=Z x,λi H x H'=>H'=H/\∀xs,cA K H a xs->xs[i]?=Z x,λi H=>∃xs,cA K H a xs/\↑xs<=i⟩
meta def xQ(lo:Int)(n:Nat):It:=⟨λi _=>i<n,λi H x H'=>H'=H/\x=.int (lo+i),λi _=>n<=i⟩
def Sy{P w K tg} a it:Turn P w K tg (Kv K a) [it] it (λi h=>h.IsListIter it a i) where
 mem:=by simp
 obj:=λi h st b hb=>by
  let e:=by simpa using hb
  subst e;let⟨o,e,c,d⟩:=st;exact⟨o,e,λv z=>by rw[d] at z;cases z⟩
 keep:=λi h h' st k=>st.at λo e=>k it (by simp) o e
 item:=by
  ext X hP hw hK hc i pins s σ H E I hf st hg;calc wd λqj=>?_;subst hP hw hK;let⟨xs,x,hq,hx⟩:=hg;let⟨aM,rv,p,hz⟩:=I.list hq;let⟨u,hu,ru⟩:=rv.get hx;let⟨f0,f1,f2,f3,f4,f5⟩:=hf it (by simp);calc qj <| wpAny_pyNext_list_item st p.isList  hu⁻¹ λh' iH sb=>?_;let I1:Inv X pins σ H {s with heap:=h'}:=I.turned  (λb o hb e=>(sb.2 b hb).trans e) f0 f1 f3 f4 f5;let⟨o,e,c,d⟩:=id iH;exact⟨u,U,Dw  e c d (by decide) ⟨x,H,I1,ru,⟨U,λys hy=>by rw[I.jN hy hq];calc hx⟩,iH,λb hb=>(hf b hb).1⟩⟩
 done:=by
  ext X hP hw hK hc i pins s σ H E I hf st hg;calc wd λgX=>?_;subst hP hw hK;let⟨xs,hq,hx⟩:=hg;let⟨aM,rv,p,hz⟩:=I.list hq;let⟨f0,f1,f2,f3,f4,f5⟩:=hf it (by simp);let hl:=↑rv;exact gX <| wpAny_pyNext_list_end (I.ok.hd hc) st p.isList (by simp;symm) λh' eb=>⟨U,I.turned  (λb o hb e=>eb b o hb e) f0 f1 f3 f4 f5⟩
 self:=λ_ _ _ _ _ st h=>wpAny_pyIter_listiter st h
def Sz{P w K tg} a it:Turn P w K tg (Kw K a) [it] it (λi h=>h.IsTupleIter it a i) where
 mem:=by simp
 obj:=λi h st b hb=>by
  let e:=by simpa using hb
  subst e;let⟨o,e,c,d⟩:=st;exact⟨o,e,λv z=>by rw[d] at z;cases z⟩
 keep:=λi h h' st k=>st.at λo e=>k it (by simp) o e
 item:=by
  ext X hP hw hK hc i pins s σ H E I hf st hg;calc wd λqk=>?_;subst hP hw hK;let⟨xs,x,hq,hx⟩:=hg;let⟨aM,rv,p,hz⟩:=I.tuple hq;let⟨u,hu,ru⟩:=rv.get hx;let⟨f0,f1,f2,f3,f4,f5⟩:=hf it (by simp);calc qk <| wpAny_pyNext_tuple_item st (p)  hu⁻¹ λh' iH sb=>?_;let I1:Inv X pins σ H {s with heap:=h'}:=I.turned  (λb o hb e=>(sb.2 b hb).trans e) f0 f1 f3 f4 f5;let⟨o,e,c,d⟩:=id iH;exact⟨u,U,Dw  e c d (by decide) ⟨x,H,I1,ru,⟨U,λys hy=>by rw[I.iG hy hq];calc hx⟩,iH,λb hb=>(hf b hb).1⟩⟩
 done:=by
  ext X hP hw hK hc i pins s σ H E I hf st hg;calc wd λgX=>?_;subst hP hw hK;let⟨xs,hq,hx⟩:=hg;let⟨aM,rv,p,hz⟩:=I.tuple hq;let⟨f0,f1,f2,f3,f4,f5⟩:=hf it (by simp);let hl:=↑rv;exact gX <| wpAny_pyNext_tuple_end (I.ok.hd hc) st (p) (by simp;symm) λh' eb=>⟨U,I.turned  (λb o hb e=>eb b o hb e) f0 f1 f3 f4 f5⟩
 self:=λ_ _ _ _ _ st h=>wpAny_pyIter_tupleiter st h
def SA{P w K tg} it lo n:Turn P w K tg (xQ lo n) [it] it (λi h=>IsRangeIter h it (lo+(i:Nat)*1) ((n:Int)-(i:Nat)) 1) where
 mem:=by simp
 obj:=λi h st b hb=>by
  let e:=by simpa using hb
  subst e
  exact⟨_,st,λv z=>by
   cases z⟩
 keep:=λi h h' st k=>k it (by simp) _ st
 item:=by
  ext X hP hw hK hc i pins s σ H E I hf st hg;subst hP hw hK;let⟨f0,f1,f2,f3,f4,f5⟩:=hf it (by simp);let W:=Walks.range (prog:=X.prog) (w:=X.w) (I.ok.hd hc) it lo 1 n;calc W.item i s _ _ hg st λv h' tk hv iH kk=>?_;let⟨t,rfl⟩:=hv;let I1:Inv X pins σ H {s with heap:=h',toks:=tk}:=I.turned (λb o hb e=>kk b o hb⁻¹ e) f0 f1 f3 f4 f5;calc⟨_,U,Dw   iH U U (by decide) ⟨.int (lo+i),H,I1,⟨t,?_⟩,⟨U,U⟩,iH,λb hb=>(hf b hb).1⟩⟩;rw[q7o]
 done:=by
  ext X hP hw hK hc i pins s σ H E I hf st hg;let⟨f0,f1,f2,f3,f4,f5⟩:=hf it (by simp);exact wpAny_pyNext_range_end (I.ok.hd hc) st (by let:n<=i:=hg;symm) λh' eb=>⟨U,I.turned  (λb o hb e=>eb b o hb e) f0 f1 f3 f4 f5⟩
 self:=λ_ _ _ _ _ st h=>wpAny_pyIter_rangeiter st h
section
variable{X:Cx}{tg:υ}
def Ky{pins}{σ:St}{H s R}{E:bz}{lo hi t u v tk}(I:Inv X pins σ H s)(h1 : -(2 ^ 62)<=lo)(h2:lo<2 ^ 62)(h3 : -(2 ^ 62)<=hi)(h4:hi<2 ^ 62)
  (q:R (xQ lo (hi-lo).toNat) H):ρ (ς X.prog X.w) X.A (pyIter (.ref ⇑s)) (Du X pins σ tg R) E {s with heap:=s.heap.push {cls:=.type "range",data:=.fields #[.int lo t,.int hi u,.int 1 v]},toks:=tk}:=by
 calc wpAny_pyIter_range (IsRange.new ..) (q8W h1 h2 h3 h4) ?_;let I1:Inv X pins σ H {s with heap:=s.heap.push {cls:=.type "range",data:=.fields #[.int lo t,.int hi u,.int 1 v]},toks:=tk}:=I.kept λb o e=>Lm _ e
 refine⟨(s.heap.push {cls:=.type "range",data:=.fields #[.int lo t,.int hi u,.int 1 v]}).objs.size,[(s.heap.push {cls:=.type "range",data:=.fields #[.int lo t,.int hi u,.int 1 v]}).objs.size],_,_,H,U,
  I1.kept  λb o e=>Lm _ e,SA _ lo (hi-lo).toNat,?_,λb hb=>?_,q⟩
 .let e1:lo+(0:Nat)*1=lo:=by simp
  let e2:(((hi-lo).toNat))-(0:Nat)=q2O lo hi 1:=by rw[q59];split<;>symm
  rw[e1,e2];exact q0f _ U
 .let e:b=(s.heap.push {cls:=.type "range",data:=.fields #[.int lo t,.int hi u,.int 1 v]}).objs.size:=by simpa using hb
  subst e;calc I1.iy (Ln _) (I1.bu.fresh (Ln _))
/---/def SD(ta:TA):TI:=fun σ H R=>ta σ H λvs H1=>∃j:Int,vs=[.int j] /\ -(2 ^ 62)<=j/\j<2 ^ 62/\R (xQ 0 j.toNat) H1
/---/def SE(ta:TA):TI:=fun σ H R=>ta σ H λvs H1=>∃i j:Int,vs=[.int i,.int j]/\(-(2 ^ 62)<=i/\i<2 ^ 62 /\ -(2 ^ 62)<=j/\j<2 ^ 62)/\R (xQ i (j-i).toNat) H1
def SF{a ta p pos}(hg:Gl X "range")(hm:X.mg "range" = η)(ha:JA X [a] ta)(hs:‹starEach [a] X.env=[(ι,eval a X.env)]›):JI X tg (.Call (.Name "range" p) [a] [] pos) (SD ta):=by
 calc⟨λpins s σ H R I h=>Call_ (qg I hg hm boot_range (q1W (bJ (ha pos pins s σ H _ I h) λus s1 ⟨vs,H1,I1,r1,q1⟩=>?_) hs U))⟩;let⟨j,e,q1,q2,q⟩:=q1;subst e
 cases r1 with
 |cons r rr =>
  cases rr
  let⟨t,rfl⟩:=r;calc call_range_1 (Ky I1 ⋯ ⋯ q1 q2 q⁻¹)
def SG{a b ta p pos}(hg:Gl X "range")(hm:X.mg "range" = η)(ha:JA X [a,b] ta)(hs:‹starEach [a,b] X.env=[(ι,eval a X.env),(ι,eval b X.env)]›)(kD:‹starEach [b] X.env=[(ι,eval b X.env)]›):
  JI X tg (.Call (.Name "range" p) [a,b] [] pos) (SE ta):=by
 calc⟨λpins s σ H R I h=>Call_ (qg I hg hm boot_range (q1W (bJ (ha pos pins s σ H _ I h) λus s1 ⟨vs,H1,I1,r1,q1⟩=>?_) (by rw[hs,kD]) (by rw[kD];rfl)))⟩;let⟨i,j,e,⟨q1,q2,q3,q4⟩,q⟩:=q1;subst e
 cases r1 with
 |cons r rr =>
  cases rr with
  |cons r' rr =>
   cases rr
   let⟨t,rfl⟩:=r;let⟨t',rfl⟩:=r';calc call_range_2 (Ky I1 q1 q2 q3 q4 q)
/---/def xR(wi:TI)(g:TG)(tb:TS):TS:=λD σ H=>wi σ H λJ H1=>∃W:Nat->Nat->St->Hp->Prop,(∃m,W 0 m σ H1)/\∀i m σ H,W i m σ H →
 (J.stop i H/\D.nx σ H)\/(J.go i H/\∃N:St->Hp->Prop,(∀σ' H',N σ' H'->∃m',m'<m/\W (i+1) m' σ' H')/\∀x H',J.v7 i H x H'->g x σ H' fun σ2 H2=>tb {D with nx:=N,ct:=N,bk:=D.nx} σ2 H2)
meta def xS(fp:-Y)(h:Α):-(Y×Obj):=fp.filterMap λb=>(h.get? b).map λo=>(b,o)
def Ao{fp h b o}(hb:b∈fp)(e:h.get? b=Z o):(b,o)∈xS fp h:=q3i.mpr ⟨b,hb,by rw[e];rfl⟩
def SH{fp h p}(hp:p∈xS fp h):p.1∈fp/\h.get? p.1=Z p.2:=by
 let⟨b,hb,e⟩:=q3i.mp hp
 cases q:h.get? b with
 |none=>rw[q] at e;cases e
 |some o =>
  rw[q] at e;let e':=q0P e;subst e';calc⟨hb,q⟩
def Inv.pinned{pins}{σ:St}{H s fp}(I:Inv X pins σ H s)(hf:∀b∈fp,bW X pins H b)(ho:∀b∈fp,∃o,s.heap.get? b=Z o/\∀v,o.data≠.cell v):Inv X (pins++xS fp s.heap) σ H s :=
 I.gK λp hp=>(q0w.mp hp).elim (λz=>I.pin p (q0n _ z)) λz=>by
  calc wd λqm=>?_;let⟨hb,e⟩:=SH z;let⟨f0,f1,f2,_⟩:=hf p.1 hb;let⟨o,e',d⟩:=ho p.1 hb;calc qm ?_;rw[e] at e';cases e';calc⟨e,f0,f1,f2,d⟩
def Inv.fL{pins pl}{σ:St}{H s}(I:Inv X (pins++pl) σ H s):Inv X pins σ H s:=I.gK λp hp=>I.pin p (q0n _ (q0U _ hp))
def Dy{iter body wi g tb pos}(hp:PassesOwn (ς X.prog X.w) X.A X.env X.xe)(hc:X.calm=θ)(hi:JI X tg iter wi)(hg:JG X tg g)(hb:eQ X body tb)
  (hs:‹∀x,foldedSetIterable iter X.env x=pure x›):JS X (.For tg iter body [] pos) (xR wi g tb):=by
 calc⟨λpins s σ H D I h=>wpAny_For (bJ (hi pins s σ H _ I h) λv s1 h1=>bJ h1 λDv s2 h2=>?_) hs⟩;calc wd λqo=>?_;let⟨it,fp,tn,J,H2,e,I2,T,nN,f2,W,⟨m0,w0⟩,turn⟩:=h2;subst e;let kE:∀{H'},(∀b∈fp,H' b=η)->∀b∈fp,bW X pins H' b:=λhn b hb=>⟨hn b hb,(f2 b hb).2⟩;calc qo <| codeAny_forLoop_any (λn s'=>∃i σ' H',Inv X pins σ' H' s'/\tn i s'.heap/\(∀b∈fp,H' b=η)/\W i n σ' H') ?_ m0 ⟨0,σ,H2,I2,nN,λb hb=>(f2 b hb).1,w0⟩;ext n s3 ⟨i,σ3,H3,I3,v8,xT,w3⟩;rcases turn i n σ3 H3 w3 with⟨stop,qn⟩|⟨go,N,hN,step⟩
 .refine q3h hp (bJ (T.done X U U U hc i pins s3 σ3 H3 X.xe I3 (kE xT) v8 stop) ?_);ext r s4 ⟨hr,I4⟩
  subst hr;exact q32 ⟨σ3,H3,I4,qn⟩
 .refine q3h hp (bJ (T.item X U U U hc i pins s3 σ3 H3 X.xe I3 (kE xT) v8 go) ?_);ext r s4 ⟨u,hr,h4⟩
  subst hr;refine q3h hp (bJ h4 λ_ s5 ⟨x,H5,I5,r5,y5,uI,Dz⟩=>q3h hp (bJ (hg _ s5 σ3 H5 x u _ (I5.pinned (kE Dz) (T.obj _ _ uI)) r5 (step x H5 y5)) λ_ s6 ⟨σ6,H6,I6,q6⟩=>q3h hp (bJ (hb _ s6 σ6 H6 _ I6 q6) λf s7 q7=>?_)))
  let again:∀{σ7 H7},Inv X (pins++xS fp s5.heap) σ7 H7 s7->N σ7 H7->∃m,m<n/\∃i σ' H',Inv X pins σ' H' s7/\tn i s7.heap/\(∀b∈fp,H' b=η)/\W i m σ' H':=λ{σ7 H7} I7 n7=>by
   let⟨m',hm,w7⟩:=hN σ7 H7 n7;calc⟨m',hm,i+1,σ7,H7,I7.fL,T.keep _ _ _ uI λb hb o e=>(I7.pin (b,o) (q0n _ (q0n _ (Ao hb e)))).1,λb hb=>?_,w7⟩;let⟨o,e,d⟩:=T.obj _ _ uI b hb;exact(I7.pin (b,o) (q0n _ (q0n _ (Ao hb e)))).2.1
  cases f with
  |next=>let⟨σ7,H7,I7,n7⟩:=q7;exact again I7 n7
  |cont=>let⟨σ7,H7,I7,n7⟩:=q7;exact again I7 n7
  |brk=>let⟨σ7,H7,I7,q7⟩:=q7;exact⟨σ7,H7,I7.fL,q7⟩
  |ret v=>calc wd λnW=>?_;let⟨x7,σ7,H7,I7,r7,q7⟩:=q7;calc nW <| ⟨x7,σ7,H7,I7.fL,r7,q7⟩
end
abbrev R2:=V->V->Hp->VK->Prop
/---/def fJ(X:Cx)(f:O->O->Sem O)(r:R2):Prop :=
 ∀(pins:a9)(s:ο)(σ:St)(H:Hp)(x y:V)(v u:O)(Q:VK),Inv X pins σ H s->RelV x v->RelV y u->r x y H Q →
  ρ (ς X.prog X.w) X.A (f v u) (EP X pins σ Q) X.xe s
/---/def DA(X:Cx)(f:O->Sem O)(r:V->Hp->VK->Prop):Prop :=
 ∀(pins:a9)(s:ο)(σ:St)(H:Hp)(x:V)(v:O)(Q:VK),Inv X pins σ H s->RelV x v->r x H Q →
  ρ (ς X.prog X.w) X.A (f v) (EP X pins σ Q) X.xe s
/---/def hU(X:Cx)(f:O)(r:-V->Hp->VK->Prop):Prop :=
 ∀(pins:a9)(s:ο)(σ:St)(H:Hp)(xs:-V)(us:-O)(Q:VK),Inv X pins σ H s->Vals xs us->r xs H Q →
  ρ (ς X.prog X.w) X.A (call f us) (EP X pins σ Q) X.xe s
/---/def xU(r:R2)(ta tb:TE):TE:=fun σ H Q=>ta σ H λx H1=>tb σ H1 λy H2=>r x y H2 Q
/---/def SI(r:V->Hp->VK->Prop)(ta:TE):TE:=fun σ H Q=>ta σ H λx H1=>r x H1 Q
/---/def rI(C:Int->Int->Prop)(g:Int->Int->V):R2:=λx y H Q=>∃i j,x=.int i/\y=.int j/\C i j/\Q (g i j) H
/---/def qp(g:Int->Int->V):R2:=λx y H Q=>∃i j,x=.int i/\y=.int j/\Q (g i j) H
/---/def rU(g:Int->V):V->Hp->VK->Prop:=λx H Q=>∃i,x=.int i/\Q (g i) H
section
variable{X:Cx}{a b c:υ}{ta tb tc:TE}{pos:Δ}
def uJ(ha:JE X a ta)(hb:JE X b tb){pins s}{σ:St}{H}{R:V->V->Hp->Prop}(I:Inv X pins σ H s)
  (h:ta σ H λx H1=>tb σ H1 λy H2=>R x y H2) {Q:bz} {f:O->O->Sem O}
  (hf:∀v u s2 x y H2,Inv X pins σ H2 s2->RelV x v->RelV y u->R x y H2->ρ (ς X.prog X.w) X.A (f v u) Q X.xe s2) :
  ρ (ς X.prog X.w) X.A (eval a X.env) (λv s₁=>ρ (ς X.prog X.w) X.A (eval b X.env) (λu s₂=>ρ (ς X.prog X.w) X.A (f v u) Q X.xe s₂) X.xe s₁) X.xe s:=by
 calc bJ (ha pins s σ H _ I h) λv s1 ⟨x,H1,I1,r1,q1⟩↦bJ (hb pins s1 σ H1 _ I1 q1) λu s2 ⟨y,H2,I2,r2,q2⟩↦hf v u s2 x y H2 I2 r1 r2 q2
def xV{op r}(ho:fJ X (binaryOp op) r)(ha:JE X a ta)(hb:JE X b tb):JE X (.BinOp a op b pos) (xU r ta tb):=by
 calc⟨λpins s σ H Q I h=>wpAny_BinOp (uJ ha hb I h λv u s2 x y H2 I2 rx ry q=>ho pins s2 σ H2 x y v u Q I2 rx ry q)⟩
def SJ{op}{r:V->Hp->VK->Prop}(ho:DA X (unaryOp op) r)(ha:JE X a ta):JE X (.UnaryOp op a pos) (SI r ta):=by
 calc⟨λpins s σ H Q I h=>UnaryOp_ (bJ (ha pins s σ H _ I h) λv s1 ⟨x,H1,I1,r1,q1⟩↦ho pins s1 σ H1 x v Q I1 r1 q1)⟩
def Ap{f:O->O->Sem O}{C}{g:Int->Int->Int}
  (rule:∀i j t u s (Q:bz) (E:bz),C i j->Q (.int (g i j) s.toks) {s with toks:=s.toks+1}->ρ (ς X.prog X.w) X.A (f (.int i t) (.int j u)) Q E s) :
  fJ X f (rI C λi j=>.int (g i j)):=by
 ext pins s σ H x y v u Q I rx ry h;let⟨i,j,rfl,rfl,hc,q⟩:=h;let⟨t,rfl⟩:=rx;let⟨t',rfl⟩:=ry;calc rule i j t t' s _ _ hc ⟨.int (g i j),H,I.tok _,⟨_,U⟩,q⟩
def xW{f:O->O->Sem O}{g:Int->Int->Int}
  (rule:∀i j t u s (Q:bz) (E:bz),Q (.int (g i j) s.toks) {s with toks:=s.toks+1}->ρ (ς X.prog X.w) X.A (f (.int i t) (.int j u)) Q E s) :
  fJ X f (qp λi j=>.int (g i j)):=by
 ext pins s σ H x y v u Q I rx ry h;let⟨i,j,rfl,rfl,q⟩:=h;let⟨t,rfl⟩:=rx;let⟨t',rfl⟩:=ry;calc rule i j t t' s _ _ ⟨.int (g i j),H,I.tok _,⟨_,U⟩,q⟩
def qq{f:O->O->Sem O}{g:Int->Int->Bool}
  (rule:∀i j t u s (Q:bz) (E:bz),Q (.bool (g i j)) s->ρ (ς X.prog X.w) X.A (f (.int i t) (.int j u)) Q E s) :
  fJ X f (qp λi j=>.bl (g i j)):=by
 ext pins s σ H x y v u Q I rx ry h;let⟨i,j,rfl,rfl,q⟩:=h;let⟨t,rfl⟩:=rx;let⟨t',rfl⟩:=ry;calc rule i j t t' s _ _ ⟨.bl (g i j),H,I,U,q⟩
/---/def iS(i j:Int):Prop:=0<=j/\j<=1000000/\i.natAbs<2 ^ 64
/---/def lX(i j:Int):Prop:=(-(2 ^ 64)<i/\i<2 ^ 64)\/(-(2 ^ 64)<j/\j<2 ^ 64)
def lX.ok{i j}(h:lX i j):IntMulOk i j:=by
 rcases h with⟨h1,h2⟩|⟨h1,h2⟩
 .exact .of_left (q8m h1 h2)
 .calc .of_right (q8m h1 h2)
def Kz:fJ X (binaryOp .Add) (qp λi j=>.int (i+j)):=xW λ_ _ _ _ _ _ _ q=>add_int q
def SK:fJ X (binaryOp .Sub) (qp λi j=>.int (i-j)):=xW λ_ _ _ _ _ _ _ q=>sub_int q
def SM:fJ X (binaryOp .Mult) (rI lX λi j=>.int (i*j)):=Ap λ_ _ _ _ _ _ _ hc q=>mul_int q hc.ok
def DB:fJ X (binaryOp .Mod) (rI (λ_ j=>0<j) λi j=>.int (i%j)):=Ap λi j _ _ _ _ _ hc q=>by
 calc mod_int' ⋯ (by rw[Int.fmod_eq_emod_of_nonneg i ⋯];calc q)
def SN:fJ X (binaryOp .Pow) (rI iS λi j=>.int (i ^ j.toNat)):=Ap λ_ _ _ _ _ _ _ hc q=>pow_int_small hc.1 hc.2.1 hc.2.2 q
def SO{f:O->Sem O}{g:Int->Int}
  (rule:∀(i:Int)(t:Tok)(s:ο)(Q:bz)(E:bz),Q (.int (g i) s.toks) {s with toks:=s.toks+1}->ρ (ς X.prog X.w) X.A (f (.int i t)) Q E s) :
  DA X f (rU λi=>.int (g i)):=by
 ext pins s σ H x v Q I rx h;let⟨i,rfl,q⟩:=h;let⟨t,rfl⟩:=rx;calc rule i t s _ _ ⟨.int (g i),H,I.tok _,⟨_,U⟩,q⟩
def SQ:DA X (unaryOp .USub) (rU λi=>.int (-(i:Int))):=SO λ_ _ _ _ _ q=>neg_int q
def KC{pins:a9}{σ:St}{H:Hp}{s:ο}{Q:VK}{k k':Bool}(I:Inv X pins σ H s)(q:Q (.bl k) H)(e:k=k'):EP X pins σ Q (.bool k') s:=by
 subst e;calc⟨.bl k,H,I,U,q⟩
def SS:fJ X (compareOp .Lt) (qp λi j=>.bl (I (i<j))):=qq λ_ _ _ _ _ _ _ q=>lt_int q
def SU:fJ X (compareOp .LtE) (qp λi j=>.bl (I (i<=j))):=qq λ_ _ _ _ _ _ _ q=>le_int q
def SV:fJ X (compareOp .Gt) (qp λi j=>.bl (I (j<i))):=qq λ_ _ _ _ _ _ _ q=>gt_int q
def SW:fJ X (compareOp .GtE) (qp λi j=>.bl (I (j<=i))):=qq λ_ _ _ _ _ _ _ q=>ge_int q
def SX:fJ X (compareOp .Is) (λx y H Q=>y=.non/\Q (.bl (μ (x=.non))) H):=by
 ext pins s σ H x y v u Q I rx ry h;let⟨rfl,q⟩:=h;cases ry
 refine is_none_gen (KC I q ?_)
 cases x<;>first
  |(rfl)
  |(let⟨t,rfl⟩:=rx;rfl)
def SY:fJ X (compareOp .IsNot) (λx y H Q=>y=.non/\Q (.bl (!μ (x=.non))) H):=by
 ext pins s σ H x y v u Q I rx ry h;let⟨rfl,q⟩:=h;cases ry
 refine isnot_none_gen (KC I q ?_)
 cases x<;>first
  |(rfl)
  |(let⟨t,rfl⟩:=rx;rfl)
def DC(b:υ){op:CmpOp}(h: ~~~(op≠.In))(h2: ~~~(op≠.NotIn)):behindInMarks op b=ι:=by
 let e1:(op==CmpOp.In)=ι:=by cases op<;>first|rfl|exact absurd U h
 let e2:(op==CmpOp.NotIn)=ι:=by cases op<;>first|rfl|exact absurd U h2
 cases b<;>simp[behindInMarks,e1,e2]
def S7{op:CmpOp}{r:R2}(ho:fJ X (compareOp op) r)(ha:JE X a ta)(hb:JE X b tb)(hm:behindInMarks op b=ι):JE X (.Compare a [op] [b] pos) (xU r ta tb):=by
 calc⟨λpins s σ H Q I h=>wpAny_Compare1 (uJ ha hb I h λv u s2 x y H2 I2 rx ry q=>ho pins s2 σ H2 x y v u Q I2 rx ry q) hm⟩
/---/def S8(t:TE):TT:=fun σ H Q=>t σ H λx H'=>∃k,x=.bl k/\Q k H'
def S9{op:CmpOp}{r:R2}(ho:fJ X (compareOp op) r)(ha:JE X a ta)(hb:JE X b tb)(hm:behindInMarks op b=ι):JT X (.Compare a [op] [b] pos) (S8 (xU r ta tb)):=by
 refine⟨λpins s σ H Q I h=>q5y (bJ (ha pins s σ H _ I h) λv s1 ⟨x,H1,I1,r1,q1⟩=>bJ (hb pins s1 σ H1 _ I1 q1) λu s2 ⟨y,H2,I2,r2,q2⟩ =>
  bJ (ho pins s2 σ H2 x y v u _ I2 r1 r2 q2) λc s3 ⟨z,H3,I3,r3,k,e,q3⟩=>?_) hm⟩
 subst e;cases r3
 calc q17 ⟨H3,I3,q3⟩
/---/def S_(r r':R2)(ta tb tc:TE):TE:=fun σ H Q=>ta σ H λx H1=>tb σ H1 λy H2=>r x y H2 λz H3=>∃k,z=.bl k ∧
 (if k=θ then tc σ H3 λw' H4=>r' y w' H4 Q else Q (.bl ι) H3)
def Ta{op uK:CmpOp}{r r':R2}(ho:fJ X (compareOp op) r)(nR:fJ X (compareOp uK) r')(ha:JE X a ta)(hb:JE X b tb)(hc:JE X c tc)
  (hm:autoParam (lastMarks [op,uK] [b,c]=ι) qz6._auto_1):JE X (.Compare a [op,uK] [b,c] pos) (S_ r r' ta tb tc):=by
 refine⟨λpins s σ H Q I h=>Compare_chain (bJ (ha pins s σ H _ I h) λv s1 ⟨x,H1,I1,r1,q1⟩=>chain_link (bJ (hb pins s1 σ H1 _ I1 q1) λu s2 ⟨y,H2,I2,r2,q2⟩ =>
  bJ (ho pins s2 σ H2 x y v u _ I2 r1 r2 q2) λd s3 ⟨z,H3,I3,r3,k,e,q3⟩=>?_)) hm⟩
 subst e;cases r3
 refine q17 ?_
 cases k with
 |false=>exact ite_ff ⟨.bl ι,H3,I3,U,q3⟩
 |true=>calc ite_tt (chain_last (bJ (hc pins s3 σ H3 _ I3 q3) λw' s4 ⟨z',H4,I4,r4,q4⟩↦nR pins s4 σ H4 y z' u w' Q I4 r2 r4 q4))
def v9:(sizeLine:Nat)<2 ^ 63:=by decide
def Tb:fJ X (binaryOp .Add) (λx y H Q=>∃i j,x=.str i/\y=.str j/\↑i+↑j<=sizeLine/\Q (.str (i++j)) H):=by
 ext pins s σ H x y v u Q I rx ry h;let⟨i,j,rfl,rfl,hz,q⟩:=h;let⟨t,rfl⟩:=rx;let⟨t',rfl⟩:=ry;calc add_str (λt' tk=>⟨.str (i++j),H,I.tok _,⟨_,U⟩,q⟩) hz
def vals1{x:V}{us:-O}(r:Vals [x] us):∃u,us=[u]/\RelV x u:=by
 cases r with
 |cons r1 r2=>cases r2;calc⟨_,U,r1⟩
def vals2{x y:V}{us:-O}(r:Vals [x,y] us):∃u w',us=[u,w']/\RelV x u/\RelV y w':=by
 cases r with
 |cons r1 r2 =>
  cases r2 with
  |cons r3 r4=>cases r4;calc⟨_,_,U,r1,r3⟩
def Tc(hc:X.calm=θ):hU X (.builtin "max") (λxs H Q=>∃i j,xs=[.int i,.int j]/\Q (.int (if j>i then j else i)) H):=by
 ext pins s σ H xs us Q I r h;let⟨i,j,rfl,q⟩:=h;let⟨u,w',rfl,⟨t,rfl⟩,⟨t',rfl⟩⟩:=vals2 r;refine max_two_ints (I.ok.hd hc) λh' tk k=>⟨_,H,I.kept k,?_,q⟩
 by_cases hj:j>i
 .rw[q0r hj,q0r hj];exact⟨_,U⟩
 .rw[q0l hj,q0l hj];calc⟨_,U⟩
def Td(hc:X.calm=θ):hU X (.builtin "min") (λxs H Q=>∃i j,xs=[.int i,.int j]/\Q (.int (if j<i then j else i)) H):=by
 ext pins s σ H xs us Q I r h;let⟨i,j,rfl,q⟩:=h;let⟨u,w',rfl,⟨t,rfl⟩,⟨t',rfl⟩⟩:=vals2 r;refine min_two_ints (I.ok.hd hc) λh' tk k=>⟨_,H,I.kept k,?_,q⟩
 by_cases hj:j<i
 .rw[q0r hj,q0r hj];exact⟨_,U⟩
 .rw[q0l hj,q0l hj];calc⟨_,U⟩
end
structure kF(h:Α)(x dx C:Y)(mA:L->Option O):Prop where
 obj:h.get? x=Z (q2T C dx)
 ns:h.Ns1 dx mA
 ne:dx≠x
def Te{h:Α}{dx:Y}{mA:L->Option O}(n:h.Ns1 dx mA):∃od,h.get? dx=Z od/\∀name,q4v name od=Z (mA name):=by
 let⟨o,es,ep,ho,hd,hk,_,hm⟩:=n;calc⟨o,ho,λname=>?_⟩;let e:=hm name;unfold nsFind findBy at e;rw[<-Array.find?_toList] at e;unfold q4v;rw[hd];dsimp only;split
 .rename_i y q
  rw[q] at e;exact congrArg Z e
 .rename_i q
  rw[q] at e
  let a:es.toList.any (·.refKey)=ι:=by
   rw[q2D];ext y hy;let⟨z,t,DD⟩:=hk y (Array.mem_toList_iff.mp hy);simp[DictEntry.refKey,DD]
  let a':¬ es.toList.any (·.refKey)=θ:=by rw[a];exact q1F
  rw[q0l a'];calc congrArg Z e
def kF.look{h:Α}{x dx C:Y}{mA:L->Option O}(I:kF h x dx C mA):∃od,PySem.W.InstAt h x (q2T C dx) C (Z od)/\∀name,q4v name od=Z (mA name) :=
 let⟨od,ho,hl⟩:=Te I.ns
 ⟨od,⟨I.obj,U,U,ho⟩,hl⟩
section
variable{prog:ψ}{w:ω}{A:Β}{E:bz}{s:ο}{K:q0b}{x dx C f:Y}{mA:L->Option O}{name:L}{v:O}
def Tf{expr:Bool}{Q:bz}(X:K.In s.heap)(I:kF s.heap x dx C mA)(hg:q3N K C name=θ)(hh:q4K K C=θ)
  (ha:q1P K (.ref C) name=Z η) (hv:mA name=Z v) (Aq:q67 v=θ) (h:Q v {s with toks:=s.toks+1}) :
  ρ (ς prog w) A (getAttr (.ref x) name expr) Q E s:=by
 let⟨od,J,hl⟩:=I.look;calc PySem.W.get_value X J (q3_ hg).1 (PySem.W.findObj_own hh ha U (by rw[hl,hv])) Aq h
def Tg{pl:Sem Bool}{Q:O×-O->ο->Prop}(X:K.In s.heap)(I:kF s.heap x dx C mA)(hg:q3N K C name=θ)
  (hf:q1P K (.ref C) name=Z (Z (.ref f))) (ht:q5b K (.ref f)=θ) (hv:mA name=η) (h:Q (.ref f,[.ref x]) s) :
  ρ (ς prog w) A (getMethod (.ref x) name pl) Q E s:=by
 let⟨od,J,hl⟩:=I.look;calc PySem.W.method_fn X J (q3_ hg).1 (q3_ hg).2 hf (q5d.mp ht) (by show(q4v name od).map (·.isSome)=Z ι;rw[hl,hv];rfl) h
def Th{ns:-L}{Q:Unit->ο->Prop}(X:K.In s.heap)(I:kF s.heap x dx C mA)
  (hs:q1P K (.ref C) "__setattr__" = Z (Z (.builtin "object.__setattr__"))) (hp:q6B K C=θ) (ht:q5p K C name=Z η) (hh:q4K K C=θ)
  (hw:q6z mA ns) (hsz:↑ns<=sizeLine)
  (h:∀h',kF h' x dx C (λy=>if y=name then Z v else mA y)->q26 dx s.heap h'->Q () {s with heap:=h',toks:=s.toks+2}) :
  ρ (ς prog w) A (setAttr (.ref x) name v) Q E s:=by
 let⟨od,J,hl⟩:=I.look;calc PySem.W.set_plain X J hs (PySem.W.osa_open   X J hp ht λb=>?_);let⟨cd,hc,De⟩:=PySem.W.any_some hh;calc Aw (Ui (Aw (Aw (wpAny_loadPart I.obj (Aw (PySem.W.Looks.here  (PySem.W.looks_clsIn X hc) ?_))))));rw[De];calc Ui  (Aw (Ui (Aw (wpAny_nsSet1  I.ns λh' xX kD=>?_))));calc wd λnX=>?_;let⟨oD,esD,epD,Ti,Tj,Tn⟩:=xX.count (PySem.Within.cons name v hw);calc nX <| Aw (wpAny_lookBehind Ti (by rw[Tj];calc pastItsLine_dict (q0N Tn (by rw[Uh];symm))) (Ui (h _ ⟨(kD.2 _ (q1_ I.ne)).trans I.obj,xX,I.ne⟩ kD)))
def To{R:Result->ο->Prop}{vs:-O}{kw:-(L×O)}(X:K.In s.heap)(hm:q7u K C=θ)
  (hi:q1P K (.ref C) "__init__" = Z (Z (.ref f))) (hf:PySem.W.typeIn K (.ref f)=Z (.type "function"))
  (h:codeAny (ς prog w) (A.under (.builtin "type.__call__" ⟨.ref C::vs,kw⟩)) (.call (.ref f) ⟨.ref (⇑s+1)::vs,kw⟩) (PySem.W.InitBack (⇑s+1) R)
   {s with heap:=(s.heap.push q2E).push (q2T C ⇑s)}) :
  codeAny (ς prog w) A (.call (.ref C) ⟨vs,kw⟩) R s:=by
 calc PySem.W.make_core (PySem.W.makes_of X hm) (PySem.W.looks_findIn X hi) (λself=>PySem.W.bind_fn X self hf) (.inl U) h
end
meta def eE(f:L)(v:V):-(L×V)->-(L×V)
 |[]=>[(f,v)]
 |(g,x)::r=>if g=f then(g,v)::r else(g,x)::eE f v r
def KD f g v:∀fs:-(L×V),(eE f v fs).lookup g=if g=f then Z v else fs.lookup g
 |[]=>by
  show q2Q g [(f,v)]=_
  by_cases h:g=f
  .erw[q2Q,(q5d.mpr h),q0r h]
  .erw[q2Q,(q2I.mpr h),q0l h]
 |(k,x)::r=>by
  rw[show eE f v ((k,x)::r)=(if k=f then(k,v)::r else(k,x)::eE f v r) from U]
  by_cases hk:k=f
  .rw[q0r hk]
   by_cases h:g=k
   .erw[q2Q,(q5d.mpr h),q0r (h.trans hk)]
   .erw[q2Q,(q2I.mpr h),q0l (λe:g=f=>h (e.trans hk.symm))]
  .rw[q0l hk]
   by_cases h:g=k
   .erw[q2Q,(q5d.mpr h),q0l (λe  => hk (h.symm.trans e))]
   .erw[q2Q,(q2I.mpr h)]
    calc(KD f g v r)
def DE f v:∀fs:-(L×V),f∈(eE f v fs).map (·.1)/\∀g,g∈fs.map (·.1)->g∈(eE f v fs).map (·.1)
 |[]=>⟨by simp[eE],λg h=>by simp at h⟩
 |(k,x)::r=>by
  let⟨i1,i2⟩:=DE f v r;rw[show eE f v ((k,x)::r)=(if k=f then(k,v)::r else(k,x)::eE f v r) from U]
  by_cases hk:k=f
  .subst hk
   exact⟨by simp,λg h=>by simpa using h⟩
  .rw[q0l hk]
   refine⟨?_,λg h=>?_⟩
   .exact q0p _ i1
   .rcases q0c.mp h with e|e
    .exact q0c.mpr (.inl e)
    .calc q0p _ (i2 g e)
def KG f v:∀fs:-(L×V),↑(eE f v fs)<=fs.length+1
 |[]=>by simp[eE]
 |(k,x)::r=>by
  let ih:=KG f v r;rw[show eE f v ((k,x)::r)=(if k=f then(k,v)::r else(k,x)::eE f v r) from U]
  by_cases hk:k=f
  .rw[q0r hk,Uh,Uh];symm
  .rw[q0l hk,Uh,Uh];symm
def eW.some_of{v:V}{o:Option O}(r:eW (Z v) o):∃u,o=Z u/\RelV v u:=by
 cases o with
 |none=>exact(r).elim
 |some u=>calc⟨u,U,r⟩
def eW.none_of{o:Option O}(r:eW η o):o=η:=by
 cases o with
 |none=>rfl
 |some u=>calc(r).elim
def Tp{v:V}{u:O}(r:RelV v u):q67 u=θ:=by
 cases v with
 |non=>cases(r);rfl
 |bl b=>cases(r);rfl
 |int i=>let⟨t,e⟩:=(r);cases e;rfl
 |str x=>let⟨t,e⟩:=(r);cases e;rfl
 |byt b=>let⟨t,e⟩:=(r);cases e;rfl
 |flt b=>let⟨t,e⟩:=(r);cases e;rfl
 |ref a=>cases(r);rfl
 |ty n=>cases(r);rfl
section
variable{P:ψ}{w:ω}{H H':Hp}{h h':Α}{a C dx:Y}{fs Sa:-(L×V)}
def Ar(bu:fH P w H h)(e:H a=Z (.ins C dx fs)):∃mA,kF h a dx C mA/\(∀f,eW (fs.lookup f) (mA f))/\q6z mA (fs.map (·.1))/\fs.length<=1000/\H dx=Z (.own a):=by
 calc wd λqr=>?_;let⟨d,z,ne,ob,mA,n,r,q⟩:=(bu a _ e);calc qr <| ⟨mA,⟨ob,n,ne⟩,r,q,z,d⟩
end
structure jO(K:q0b)(C:Y):Prop where
 pg:q3N K C Str.empty=θ
 hd:q4K K C=θ
 po:q6B K C=θ
 sa:q1P K (.ref C) "__setattr__" = Z (Z (.builtin "object.__setattr__"))
def jO.get{K:q0b}{C:Y}(c:jO K C)(f:L):q3N K C f=θ:=c.pg
/---/def dj(K:q0b)(C:Y)(f:L):Prop:=q1P K (.ref C) f=Z η
def dj.xY{K:q0b}{C:Y}{f:L}(n:dj K C f):q5p K C f=Z η:=by
 unfold q5p;rw[n];rfl
structure Meth(K:q0b)(C:Y)(m:L)(f:Y):Prop where
 at_:q1P K (.ref C) m=Z (Z (.ref f))
 fn:q5b K (.ref f)=θ
 kp:q1q K (.ref f)=θ
section
variable{X:Cx}{pins:a9}{σ:St}{H:Hp}{s:ο}{a C dx:Y}{fs:-(L×V)}{f:L}{v:V}{A:Β}{E:bz}
def Tq{b:Bool}{Q:bz}(I:Inv X pins σ H s)(e:H a=Z (.ins C dx fs))(c:jO X.K C)(n:dj X.K C f)(l:fs.lookup f=Z v)
  (h:∀u s',Inv X pins σ H s'->RelV v u->Q u s'):ρ (ς X.prog X.w) A (getAttr (.ref a) f b) Q E s:=by
 let⟨mA,O,r,_,_,_⟩:=Ar I.bu e;let⟨u,hu,ru⟩:=eW.some_of   (by rw[<-l];calc r f);calc Tf I.gy O (c.get f) c.hd n hu (Tp ru) (h u _ (I.tok _) ru)
def KH{m:L}{g:Y}{pl:Sem Bool}{Q:ν×-ν->ο->Prop}(I:Inv X pins σ H s)(e:H a=Z (.ins C dx fs))(c:jO X.K C)(k:Meth X.K C m g)(l:fs.lookup m=η)
  (h:Q (.ref g,[.ref a]) s):ρ (ς X.prog X.w) A (getMethod (.ref a) m pl) Q E s:=by
 let⟨mA,O,r,_,_,_⟩:=Ar I.bu e;calc Tg I.gy O (c.get m) k.at_ k.fn (eW.none_of (by rw[<-l];calc r m)) h
def Tr{y:V}{u:ν}{Q:Unit->ο->Prop}(I:Inv X pins σ H s)(e:H a=Z (.ins C dx fs))(c:jO X.K C)(n:dj X.K C f)(hl:fs.length<1000)(ry:RelV y u)
  (h:∀s',Inv X pins σ (upd H a (.ins C dx (eE f y fs))) s'->Q () s'):ρ (ς X.prog X.w) A (setAttr (.ref a) f u) Q E s:=by
 let⟨mA,O,r,wi,_,ho⟩:=Ar I.bu e;let hz:↑(fs.map (·.1))<=sizeLine:=by rw[ye,q1g];symm
 calc Th I.gy O c.sa c.po n.xY c.hd wi hz λh' O' sb=>h _ ?_;let hd:∃o,h'.get? dx=Z o:=let⟨o,_,_,e',_⟩:=O'.ns;⟨o,e'⟩;refine I.write   (by rw[e];calc q18) (.inr ho) (λb q hb z=>(sb.2 b hb).trans z) hd ⟨by rw[bD O.ne];calc ho,?_,O.ne,O'.obj,_,O'.ns,λg=>?_,λg hg=>?_⟩
 .let:=KG f y fs;symm
 .rw[KD]
  by_cases q:g=f
  .rw[q0r q,q0r q];exact ry
  .rw[q0l q,q0l q];exact r g
 .by_cases q:g=f
  .rw[q];exact(DE f y fs).1
  .refine (DE f y fs).2 g (wi g λz=>hg ?_)
   show(if g=f then Z u else mA g)=η;rw[q0l q];calc z
def Inv.made(I:Inv X pins σ H s):Inv X pins σ (upd (upd H ⇑s (.own (⇑s+1))) (⇑s+1) (.ins C ⇑s []))
  {s with heap:=(s.heap.push q2E).push (q2T C ⇑s)}:=by
 let e1:(s.heap.push q2E).get? ⇑s=Z q2E:=q0f s.heap U
 let e2:=by
  let:=q0f (s.heap.push q2E) (o:=q2T C ⇑s) U
  rwa [q1E] at this
 let I1:=I.laid  (o:=.own (⇑s+1))  (t':=s.toks) (λb u q=>Lm _ q) (Ln _) ⟨_,e1⟩;calc I1.laid    (λb u q=>Lm _ q) (q4f (q1E _ _)) ?_;let ne:⇑s≠⇑s+1:=q0o ⋯;calc⟨by rw[bD ne,cb],q0V _,ne,e2,λ_=>η,(Heap.Ns1.of_empty ⟨q2E,#[],_,e1,U,(λe he=>absurd he (by simp)),λ_=>U⟩).at λo q=>Lm _ q,λ_=>q18,λy hy=>absurd U hy⟩
def Tt{prog:ψ}{w:ω}{env:Env}{e:υ}{f:L}{pos:Δ}{s:ο}{Q:bz}(hb:attributeBase e f env (eval e env)=eval e env)
  (h:ρ (ς prog w) A (eval e env) (λo s₁=>ρ (ς prog w) A (getAttr o f θ) Q E s₁) E s):ρ (ς prog w) A (eval (.Attribute e f pos) env) Q E s :=
 Attribute_any_ h (by rw[arm_eval_Attribute,hb])
end
/---/def DF(K:q0b)(ta:TE)(f:L):TE:=fun σ H Q=>ta σ H λx H1=>∃a C dx fs v,x=.ref a/\H1 a=Z (.ins C dx fs)/\jO K C/\dj K C f/\fs.lookup f=Z v/\Q v H1
/---/def DG(K:q0b)(ta tv:TE)(f:L):TS:=λD σ H=>tv σ H λy H1=>ta σ H1 λx H2=>∃a C dx fs,x=.ref a/\H2 a=Z (.ins C dx fs)/\jO K C/\dj K C f/\fs.length<1000 ∧
 D.nx σ (upd H2 a (.ins C dx (eE f y fs)))
section
variable{X:Cx}{o e value:υ}{f:L}{pos pos' DH:Δ}{ta tv:TE}
def Tu(he:JE X e ta)(hb:attributeBase e f X.env (eval e X.env)=eval e X.env):JE X (.Attribute e f pos) (DF X.K ta f):=by
 calc⟨λpins s σ H Q I h=>Tt hb (bJ (he pins s σ H _ I h) ?_)⟩;ext u s1 ⟨x,H1,I1,rx,a,C,dx,fs,v,ex,ea,c,n,l,q⟩;subst ex;obtain rfl:u=q1n a:=rx;calc Tq I1 ea c n l λu' s2 I2 ru=>⟨v,H1,I2,ru,q⟩
def Tv(ha:JE X o ta)(hv:JE X value tv)(hs:swapsWith value (Z (.Attribute o f pos')) pos.line X.env=pure ι):JS X (.Assign [.Attribute o f pos'] value pos) (DG X.K ta tv f):=by
 calc⟨λpins s σ H D I h=>plainObj_wpAny_Assign_Attribute (bJ (hv pins s σ H _ I h) λu s1 ⟨y,H1,I1,ry,q⟩=>bJ (ha pins s1 σ H1 _ I1 q) λov s2 ⟨x,H2,I2,rx,a,C,dx,fs,ex,ea,c,n,l,q2⟩=>?_) hs⟩;subst ex;obtain rfl:ov=q1n a:=rx;calc Tr I2 ea c n l ry λs3 I3=>⟨σ,_,I3,q2⟩
end
section
variable{X:Cx}{pins:a9}{σ:St}{H:Hp}{s:ο}{A:Β}{E:bz}{Q:bz}{c:O}{b:Bool}
inductive fM (K:q0b) (H:Hp):V->O->Prop where
 |non:fM K H .non (.type "NoneType")
 |bl (x:Bool):fM K H (.bl x) (.type "bool")
 |int (i:Int):fM K H (.int i) (.type "int")
 |str (x:L):fM K H (.str x) (.type "str")
 |flt (x:UInt64):fM K H (.flt x) (.type "float")
 |lst {a:Y} {xs:-V} (e:H a=Z (.lst xs)):fM K H (.ref a) (.type "list")
 |frz {a:Y} {o:Obj} {xs:-V} (e:H a=Z (.frz o (.lst xs))):fM K H (.ref a) (.type "list")
 |tup {a:Y} {xs:-V} (e:H a=Z (.tup xs)):fM K H (.ref a) (.type "tuple")
 |dK {a:Y} {kvs:-(Key×V)} (e:H a=Z (.dK kvs)):fM K H (.ref a) (.type "dict")
 |dT {a:Y} {kvs:-(-Key×V)} (e:H a=Z (.dT kvs)):fM K H (.ref a) (.type "dict")
 |ins {a C dx:Y} {fs:-(L×V)} (e:H a=Z (.ins C dx fs)) (cl:jO K C) (ha:q1P K (.ref C) "__class__" = Z (Z (.builtin "object.__class__")))
   (hn:PySem.W.specialIn K (.builtin "object.__class__") "__get__" = Z (Z (.builtin "getset_descriptor.__get__"))) (KI:PySem.W.takesIn K (.builtin "object.__class__")=Z θ)
   (hm:PySem.W.mroIn K C (.type "object")=Z θ):fM K H (.ref a) (.ref C)
def Tw{x:V}{u t:ν}(I:Inv X pins σ H s)(rx:RelV x u)(ty:fM X.K H x t)(e:q1Q X.K t c=Z b)(h:∀tk,Q (.bool b) {s with toks:=tk}):
  ρ (ς X.prog X.w) A (call (.builtin "isinstance") [u,c]) Q E s:=by
 cases ty with
 |non=>cases(rx);exact q1G PySem.W.kitx_none I.gy q18 e (λz=>nomatch z) h
 |bl y=>cases(rx);exact q1G PySem.W.kitx_bool I.gy q18 e (λz=>nomatch z) h
 |int i=>let⟨t,q⟩:=(rx);cases q;exact q1G PySem.W.kitx_int I.gy q18 e (λz=>nomatch z) h
 |str y=>let⟨t,q⟩:=(rx);cases q;exact q1G PySem.W.kitx_str I.gy q18 e (λz=>nomatch z) h
 |flt y=>let⟨t,q⟩:=(rx);cases q;exact q1G PySem.W.kitx_float I.gy q18 e (λz=>nomatch z) h
 | @lst a xs ea =>
  cases(rx)
  let⟨_,_,n,_,h1⟩:=(I.bu a _ ea);exact q1G q6C I.gy ⟨_,h1,U⟩ e (λz=>nomatch z) h
 | @frz a ob xs ea =>
  cases(rx)
  let⟨_,_,_,n,_,h1⟩:=(I.bu a _ ea);exact q1G q6C I.gy ⟨_,h1,U⟩ e (λz=>nomatch z) h
 | @tup a xs ea =>
  cases(rx)
  let⟨_,_,_,p⟩:=(I.bu a _ ea);let⟨o,h1,h2,_⟩:=p;exact q1G PySem.W.kitx_tuple I.gy ⟨o,h1,h2⟩ e (λz=>nomatch z) h
 | @dK a kvs ea =>
  cases(rx)
  let⟨_,_,vs,_,p⟩:=(I.bu a _ ea);let⟨o,es,ep,h1,h2,_⟩:=p;exact q1G q6D I.gy ⟨o,h1,h2.1⟩ e (λz=>nomatch z) h
 | @dT a kvs ea =>
  cases(rx)
  let⟨_,_,xs,_,o,es,ep,h1,h2,_⟩:=(I.bu a _ ea);exact q1G q6D I.gy ⟨o,h1,h2.1⟩ e (λz=>nomatch z) h
 | @ins a C dx fs ea cl ha hn KI hm =>
  cases(rx)
  let⟨mA,O,_⟩:=Ar I.bu ea;let⟨od,J,_⟩:=O.look;calc q1G (PySem.W.kitx_own (cl.get _) cl.hd ha hn KI hm) I.gy J e (λz=>nomatch z) h
end
structure bA(k:Nat)(A:Β):Prop where
 hd:A.handled=η
 dp:A.depth+3*k+5<recursionLimit
 un:A.units+16*k+200<cLine
 gd:A.guards=Z []
def bA.mono{j k:Nat}{A:Β}(r:bA k A)(h:j<=k):bA j A:=⟨r.hd,by let:=r.dp;symm,by let:=r.un;symm,r.gd⟩
def bA.deeper{k A}(r:bA (k+1) A) env:bA k (A.deeper env) :=
 ⟨r.hd,by let:=r.dp;show A.depth+1+3*k+5<_;symm,by let:=r.un;show A.units+3+16*k+200<_;symm,r.gd⟩
def bA.in1{k A}(r:bA (k+1) A):bA k A.in1 :=
 ⟨r.hd,by let:=r.dp;show A.depth+3*k+5<_;symm,by let:=r.un;show A.units+1+16*k+200<_;symm,r.gd⟩
def Tx{A:Β}{C:Y}{us:-O}{kw:-(L×O)}:(A.under (.builtin "type.__call__" ⟨.ref C::us,kw⟩)).depth=A.depth+1:=by
 first|rfl|symm
def Tz{A:Β}{C:Y}{us:-O}{kw:-(L×O)}:(A.under (.builtin "type.__call__" ⟨.ref C::us,kw⟩)).units=A.units+1:=by
 first|rfl|symm
def bA.make{k:Nat}{A:Β}(r:bA (k+1) A)(C:Y)(us:-O)(kw:-(L×O)):bA k (A.under (.builtin "type.__call__" ⟨.ref C::us,kw⟩)) :=
 ⟨r.hd,by let:=r.dp;rw[Tx];symm,by let:=r.un;rw[Tz];symm,r.gd⟩
def bA.depth{k A}(r:bA k A):A.depth<recursionLimit:=by let:=r.dp;symm
def bA.units{k A}(r:bA k A):A.units+64<cLine:=by let:=r.un;symm
/---/def iT:TA:=λ_ H Q=>Q [] H
/---/def kG(ta:TE)(tr:TA):TA:=fun σ H Q=>ta σ H λx H1=>tr σ H1 λxs H2=>Q (x::xs) H2
section
variable{X:Cx}{e:υ}{es:-υ}{te:TE}{t:TA}{pos:Δ}
def bX:JA X [] iT:=⟨λ_ _ _ _ H Q I h=>q6E ⟨[],H,I,.nil,h⟩⟩
def lY(ha:JE X e te)(hr:JA X es t)(hs:‹di X e es›):JA X (e::es) (kG te t):=by
 calc⟨?_⟩;ext pos pins s σ H Q I h;rw[hs];calc q6k (bJ (ha pins s σ H _ I h) λu s1 ⟨x,H1,I1,r1,q1⟩↦bJ (hr pos pins s1 σ H1 _ I1 q1) λus s2 ⟨xs,H2,I2,r2,q2⟩↦⟨x::xs,H2,I2,.cons r1 r2,q2⟩)
/---/def DI(t:TA):TE:=fun σ H Q=>t σ H λxs H1=>↑xs<=sizeLine/\∀p,H1 p=η->Q (.ref p) (upd H1 p (.tup xs))
/---/def xZ(t:TA):TE:=fun σ H Q=>t σ H λxs H1=>↑xs<=sizeLine/\∀p,H1 p=η->Q (.ref p) (upd H1 p (.lst xs))
def KJ{x1}(h:JA X es t):JE X (.Tuple es x1 pos) (DI t):=by
 calc⟨λpins s σ H Q I hq=>wpAny_Tuple_spliced (bJ (h pos pins s σ H _ I hq) λus s1 ⟨xs,H1,I1,r,z,q⟩=>⟨by rw[<-↑r];calc z,⟨.ref ⇑s1,upd H1 ⇑s1 (.tup xs),I1.laid  (λb u e=>Lm _ e) (Ln _) ?_,U,q _ (I1.bu.fresh (Ln _))⟩⟩)⟩;calc⟨z,us,r,⟨_,q0f _ U,U,_,U⟩⟩
def As(h:JA X es t):JE X (.List es pos) (xZ t):=by
 calc⟨λpins s σ H Q I hq=>wpAny_List_spliced (bJ (h pos pins s σ H _ I hq) λus s1 ⟨xs,H1,I1,r,z,q⟩=>⟨by rw[<-↑r];calc z,⟨.ref ⇑s1,upd H1 ⇑s1 (.lst xs),I1.laid  (λb u e=>Lm _ e) (Ln _) ?_,U,q _ (I1.bu.fresh (Ln _))⟩⟩)⟩;calc⟨z,us,0,r,q0f _ U⟩
end
abbrev Sp:=-V->Hp->VK->XK->Prop
abbrev mT:=-Env->Hp->ο->XK->O->ο->Prop
structure kH(P:ψ)(w:ω)(K:q0b)(mg:L->Option O)(base:Α)(A:Β)(outer:-Env)(s:ο)(H:Hp):Prop where
 frames:A.frames=Z outer
 mod:Mod K mg base
 bs:∀b o,base.get? b=Z o->s.heap.get? b=Z o/\(H b=η\/∃xs,H b=Z (.tup xs))
 nQ:base.objs.size<=⇑s
 fu:s.heap.FunFrames base outer
 pD:∀b∈mQ outer,H b=η
 bu:fH P w H s.heap
 bare:AllBare s.gens
/---/def CE(outer:-Env)(P:ψ)(w:ω)(H:Hp)(s:ο)(Q:VK)(u:O)(s':ο):Prop :=
 ∃v H',s'.os=s.os/\AllBare s'.gens/\Un (mQ outer) [] H H' s.heap s'.heap/\fH P w H' s'.heap/\RelV v u/\Q v H'
/---/def CR(CX:mT)(outer:-Env)(P:ψ)(w:ω)(H:Hp)(s:ο)(Q:VK)(E:XK)(r:Result)(s':ο):Prop :=
 match r with
 |.ok (.ret u)=>CE outer P w H s Q u s'
 |.ok _=>False
 |.error e=>CX outer H s E e s'
structure cB(P:ψ)(w:ω)(K:q0b)(mg:L->Option O)(base:Α)(CX:mT)(k:Nat)(f:Y)(fd:FuncData)(ps:-L)(sp:Sp):Prop where
 len:∀vs H Q E,sp vs H Q E->↑vs=↑ps
 run:∀(A:Β)(outer:-Env)(s:ο)(H:Hp)(args:Args)(us:-O)(vs:-V)(Q:VK)(E:XK),bA k A->kH P w K mg base A outer s H->BindsTo s fd args (ps.zip us)->Vals vs us->sp vs H Q E →
  codeAny (ς P w) A (.call (.ref f) args) (CR CX outer P w H s Q E) s
def kH.make{P:ψ}{w:ω}{K:q0b}{mg:L->Option O}{base:Α}{A:Β}{outer:-Env}{s:ο}{H:Hp}(e:kH P w K mg base A outer s H)(C:Y)(us:-O)(kw:-(L×O)):
  kH P w K mg base (A.under (.builtin "type.__call__" ⟨.ref C::us,kw⟩)) outer s H:=⟨by first|exact e.frames|(symm),e.mod,e.bs,e.nQ,e.fu,e.pD,e.bu,e.bare⟩
section
variable{X:Cx}{pins:a9}{σ:St}{H:Hp}{s s':ο}
def Inv.uL(I:Inv X pins σ H s):kH X.prog X.w X.K X.mg X.base X.A X.stack s H :=
 ⟨I.ok.frames,I.ok.mod,I.bs,q0N I.ok.nQ I.sz,I.stack,I.lr,I.bu,I.bare⟩
def Inv.after{Q:VK}{u:O}(I:Inv X pins σ H s)(h:CE X.stack X.prog X.w H s Q u s'):EP X pins σ Q u s':=by
 let⟨v,H',os,bare,un,bu,r,q⟩:=h;let⟨hh,g,d,t,ux⟩:=s';obtain rfl:ux=s.os:=os;calc⟨v,H',I.call      un bu bare (λb z=>absurd z (by simp)),r,q⟩
end
/---/def x4(sp:Sp)(hV:-V)(E:XK)(t:TA):TE:=fun σ H Q=>t σ H λvs H1=>sp (vs++hV) H1 Q E
/---/def DJ(C:Y)(m:L)(sp:Sp)(hV:-V)(E:XK)(ta:TE)(t:TA):TE:=fun σ H Q=>ta σ H λx H1=>∃a dx fs,x=.ref a/\H1 a=Z (.ins C dx fs)/\fs.lookup m=η ∧
 t σ H1 λvs H2=>sp (x::(vs++hV)) H2 Q E
/---/def TB(C:Y)(sp:Sp)(hV:-V)(E:XK)(t:TA):TE:=fun σ H Q=>t σ H λvs H1=>∀x dx,H1 x=η->H1 dx=η->dx≠x →
 sp (.ref x::(vs++hV)) (upd (upd H1 dx (.own x)) x (.ins C dx [])) (λv H2=>v=.non/\Q (.ref x) H2) E
/---/def Binds(K:q0b)(fd:FuncData)(ps:-L)(ds:-O):Prop :=
 ∀(s:ο)(us:-O),K.In s.heap->↑(us++ds)=↑ps->BindsTo s fd ⟨us,[]⟩ (ps.zip (us++ds))
def Binds.all{K:q0b}{fd:FuncData}{ps:-L}(h:∀us:-O,↑us=↑ps->bindArgs fd ⟨us,[]⟩=pure (ps.zip us)):Binds K fd ps []:=λs us _ hl=>by
 rw[qE] at hl ⊢;calc .of_eq (h us hl)
/---/def tI(CX:mT)(X:Cx)(E:XK):Prop:=∀(pins:a9)(σ:St)(H:Hp)(s:ο)(e:O)(s':ο),Inv X pins σ H s->CX X.stack H s E e s'->X.xe e s'
section
variable{X:Cx}{CX:mT}{k:Nat}{f C:Y}{fd:FuncData}{ps:-L}{sp:Sp}{hV:-V}{ds:-O}{E:XK}{x m:L}{p pos apos:Δ}{e o:υ}{es:-υ}{ta:TE}{t:TA}
def Au{pins:a9}{σ:St}{H:Hp}{s:ο}{Q:VK}{us:-O}{vs:-V}(F:cB X.prog X.w X.K X.mg X.base CX k f fd ps sp)(hr:bA k X.A)(hb:Binds X.K fd ps ds)(hd:Vals hV ds)(hx:tI CX X E)
  (I:Inv X pins σ H s) (r:Vals vs us) (h:sp (vs++hV) H Q E):ρ (ς X.prog X.w) X.A (call (.ref f) us) (EP X pins σ Q) X.xe s:=by
 let r2:=r.append hd;let hl:↑(us++ds)=↑ps:=by rw[<-↑r2];exact F.len _ _ _ _ h
 refine q49 (q2C (F.run X.A X.stack s H ⟨us,[]⟩ (us++ds) (vs++hV) Q E hr I.uL (hb s us I.gy hl) r2 h) λr s' hq=>?_)
 cases r with
 |error e=>exact hx pins σ H s e s' I hq
 |ok fl =>
  cases fl with
  |ret u=>exact I.after hq
  |next=>exact q1D hq
  |brk=>exact q1D hq
  |cont=>calc q1D hq
def x5(F:cB X.prog X.w X.K X.mg X.base CX k f fd ps sp)(hr:bA k X.A)(hg:Gl X x)(hm:X.mg x=Z (.ref f))(hk:q1q X.K (.ref f)=θ)(hb:Binds X.K fd ps ds)(hd:Vals hV ds)(hx:tI CX X E)
  (ha:JA X (e::es) t) (eF: ~~~(cm x)) (he:‹di X e es›) (eu:‹dM X pos es›) :
  JE X (.Call (.Name x p) (e::es) [] pos) (x4 sp hV E t):=by
 calc⟨?_⟩;ext pins s σ H Q I h;calc q2a (Ak I hg hm ?_ eF);calc q4w (h₀:=X.base) I.ok.mod.ip hk (bJ (ha pos pins s σ H _ I h) λus s1 ⟨vs,H1,I1,r,q⟩=>⟨I1.gy,?_⟩) he eu;calc Au F hr hb hd hx I1 r q
def TC(F:cB X.prog X.w X.K X.mg X.base CX k f fd ps sp)(hr:bA k X.A)(hg:Gl X x)(hm:X.mg x=Z (.ref f))(hk:q1q X.K (.ref f)=θ)(hb:Binds X.K fd ps ds)(hd:Vals hV ds)(hx:tI CX X E)
  (eF: ~~~(cm x)):JE X (.Call (.Name x p) [] [] pos) (x4 sp hV E iT):=by
 calc⟨λpins s σ H Q I h=>q2a (Ak I hg hm (q5W I.gy hk (Au  F hr hb hd hx I .nil h)) eF)⟩
def TF {pl:Sem Bool} (he:JE X o ta) (c:jO X.K C) (hm:Meth X.K C m f) (F:cB X.prog X.w X.K X.mg X.base CX k f fd ps sp) (hr:bA k X.A) (hb:Binds X.K fd ps ds) (hd:Vals hV ds) (hx:tI CX X E) (ha:JA X (e :: es) t)
  (kC:‹di X e es›) (eu:‹dM X pos es›)
  (ht:‹eval (.Call (.Attribute o m apos) (e :: es) [] pos) X.env=(do
   let ov <- eval o X.env
   standAt apos.atName
   let (f,first) <- holding [ov] (getMethod ov m pl)
   callWith pos f first (backTo pos (starEach (e :: es) X.env)) (backToKw pos (keywordEach [] X.env)))›) :
  JE X (.Call (.Attribute o m apos) (e :: es) [] pos) (DJ C m sp hV E ta t):=by
 calc⟨λpins s σ H Q I h=>q5z  (bJ (he pins s σ H _ I h) λu s1 ⟨x,H1,I1,rx,a,dx,fs,ex,ea,l,q⟩ => ?_) ht⟩;subst ex;obtain rfl:u=q1n a:=rx;calc KH I1 ea c hm l (q4w   I.ok.mod.ip hm.kp (bJ (ha pos pins s1 σ H1 _ I1 q) λus s2 ⟨vs,H2,I2,r,q2⟩↦⟨I2.gy,Au  (vs := .ref a :: vs) F hr hb hd hx I2 (.cons U r) q2⟩) kC eu)
def TH {pl:Sem Bool} (he:JE X o ta) (c:jO X.K C) (hm:Meth X.K C m f) (F:cB X.prog X.w X.K X.mg X.base CX k f fd ps sp) (hr:bA k X.A) (hb:Binds X.K fd ps ds) (hd:Vals hV ds) (hx:tI CX X E)
  (ht:‹eval (.Call (.Attribute o m apos) [] [] pos) X.env=(do
   let ov <- eval o X.env
   standAt apos.atName
   let (f,first) <- holding [ov] (getMethod ov m pl)
   callWith pos f first (backTo pos (starEach [] X.env)) (backToKw pos (keywordEach [] X.env)))›) :
  JE X (.Call (.Attribute o m apos) [] [] pos) (DJ C m sp hV E ta iT):=by
 calc⟨λpins s σ H Q I h=>q5z  (bJ (he pins s σ H _ I h) λu s1 ⟨x,H1,I1,rx,a,dx,fs,ex,ea,l,q⟩ => ?_) ht⟩;subst ex;obtain rfl:u=q1n a:=rx;calc KH I1 ea c hm l (q5W  I1.gy hm.kp (Au  (vs:=[.ref a]) F hr hb hd hx I1 (.cons U .nil) q))
structure Mk(K:q0b)(C f:Y):Prop where
 makes:q7u K C=θ
 init:q1P K (.ref C) "__init__" = Z (Z (.ref f))
 fn:q5b K (.ref f)=θ
 kp:q1q K (.ref C)=θ
def TJ{pins:a9}{σ:St}{H:Hp}{s:ο}{Q:VK}{us:-O}{vs:-V}(M:Mk X.K C f)(F:cB X.prog X.w X.K X.mg X.base CX k f fd ps sp)(hr:bA (k+1) X.A)(hb:Binds X.K fd ps ds)(hd:Vals hV ds)
  (hx:tI CX X E) (I:Inv X pins σ H s) (r:Vals vs us)
  (h:∀x dx,H x=η->H dx=η->dx≠x->sp (.ref x::(vs++hV)) (upd (upd H dx (.own x)) x (.ins C dx [])) (λv H2=>v=.non/\Q (.ref x) H2) E) :
  ρ (ς X.prog X.w) X.A (call (.ref C) us) (EP X pins σ Q) X.xe s:=by
 let hq:=h (⇑s+1) ⇑s (I.bu.fresh (q3V _)) (I.bu.fresh (Ln _)) (q0o ⋯);let I2:=Inv.made (C:=C) I;let r2:Vals (V.ref (⇑s+1)::(vs++hV)) (q1n (⇑s+1)::(us++ds)):=.cons U (r.append hd)
 let hl:=by
  let e:=↑r2;rw[F.len _ _ _ _ hq] at e;exact e.symm
 refine q49 (To  I.gy M.makes M.init (q5d.mp M.fn) (q2C (F.run _ X.stack _ _ ⟨q1n (⇑s+1)::us,[]⟩ (q1n (⇑s+1)::(us++ds)) _ _ E (hr.make C us [])
  (I2.uL.make C us []) (hb _ (q1n (⇑s+1)::us) I2.gy hl) r2 hq) λr s' tJ=>?_))
 cases r with
 |error e=>exact hx pins σ _ _ e s' I2 tJ
 |ok fl =>
  cases fl with
  |ret u =>
   let⟨v,H',I3,rv,ev,q3⟩:=I2.after tJ;subst ev;exact⟨rv,⟨V.ref (⇑s+1),H',I3,U,q3⟩⟩
  |next=>exact q1D tJ
  |brk=>exact q1D tJ
  |cont=>calc q1D tJ
def TK(M:Mk X.K C f)(F:cB X.prog X.w X.K X.mg X.base CX k f fd ps sp)(hr:bA (k+1) X.A)(hg:Gl X x)(hm:X.mg x=Z (.ref C))(hb:Binds X.K fd ps ds)(hd:Vals hV ds)(hx:tI CX X E)
  (ha:JA X (e::es) t) (eF: ~~~(cm x)) (he:‹di X e es›) (eu:‹dM X pos es›) :
  JE X (.Call (.Name x p) (e::es) [] pos) (TB C sp hV E t):=by
 calc⟨?_⟩;ext pins s σ H Q I h;calc q2a (Ak I hg hm ?_ eF);calc q4w (h₀:=X.base) I.ok.mod.ip M.kp (bJ (ha pos pins s σ H _ I h) λus s1 ⟨vs,H1,I1,r,q⟩=>⟨I1.gy,?_⟩) he eu;calc TJ M F hr hb hd hx I1 r q
end
structure pF(N P:-L)(sc:Γ):Prop where
 kind:sc.kind=.function
 co:sc.isCoroutine=ι
 gen:sc.isGenerator=ι
 nd:N.Nodup
 pre:N.take ↑P=P
 par:∀x∈P,sc.names.lookup x=Z .local\/sc.names.lookup x=Z .cell
 uM:∀y∈sc.names,y.2≠.free
def KN{kindOf:L->Option NameKind}{x:L}:∀{binds:-(L×O)}{m:L->Option O},(∀v,(x,v)∉binds)->bindL kindOf binds m x=m x
 |[],_,_=>U
 |(n,v)::r,m,h=>by
  unfold bindL;rw[KN λw hw=>h w (q0p _ hw)];split
  .let:x≠n:=by ext rfl;exact h v q0d
   simp[this]
  .rfl
def KO{kindOf:L->Option NameKind}{x:L}:∀{binds:-(L×O)}{m:L->Option O},(∀v,(x,v)∉binds)->bindC kindOf binds m x=m x
 |[],_,_=>U
 |(n,v)::r,m,h=>by
  unfold bindC;rw[KO λw hw=>h w (q0p _ hw)];split
  .rfl
  .let:x≠n:=by ext rfl;exact h v q0d
   simp[this]
def KP{kindOf:L->Option NameKind}{x:L}{v:O}:∀{P:-L}{vs:-O}{i:Nat}{m:L->Option O},P.Nodup->P[i]?=Z x->vs[i]?=Z v->kindOf x=Z .local →
  bindL kindOf (P.zip vs) m x=Z v
 |[],_,_,_,_,h,_,_=>by simp at h
 |_::_,[],_,_,_,_,h,_=>by simp at h
 |p::P,w::vs,0,m,nd,h1,h2,hk=>by
  simp at h1 h2;subst h1 h2;show bindL kindOf ((p,w)::P.zip vs) m p=_;unfold bindL;rw[KN λv hv=>(q2k.mp nd).1 (q5q hv).1,q0r hk];simp
 |p::P,w::vs,i+1,m,nd,h1,h2,hk=>by
  show bindL kindOf ((p,w)::P.zip vs) m x=_;calc KP  (q2k.mp nd).2 h1⁻¹ h2⁻¹ hk
def KQ{kindOf:L->Option NameKind}{x:L}{v:O}:∀{P:-L}{vs:-O}{i:Nat}{m:L->Option O},P.Nodup->P[i]?=Z x->vs[i]?=Z v->kindOf x≠Z .local →
  bindC kindOf (P.zip vs) m x=Z v
 |[],_,_,_,_,h,_,_=>by simp at h
 |_::_,[],_,_,_,_,h,_=>by simp at h
 |p::P,w::vs,0,m,nd,h1,h2,hk=>by
  simp at h1 h2;subst h1 h2;show bindC kindOf ((p,w)::P.zip vs) m p=_;unfold bindC;rw[KO λv hv=>(q2k.mp nd).1 (q5q hv).1,q0l hk];simp
 |p::P,w::vs,i+1,m,nd,h1,h2,hk=>by
  show bindC kindOf ((p,w)::P.zip vs) m x=_;calc KQ  (q2k.mp nd).2 h1⁻¹ h2⁻¹ hk
meta def start(N:-L)(vs:-V):St:=vs.map Z++q0q (↑N-↑vs) η
meta def gE(CX:mT)(P:ψ)(w:ω)(K:q0b)(mg:L->Option O)(base:Α)(N:-L)(qual:L)(scope:Γ)(f:Y)(cd:O)(A:Β)(outer:-Env)(s:ο)(H:Hp)(E:XK):Cx where
 prog:=P
 w:=w
 K:=K
 mg:=mg
 base:=base
 A:=A.deeper (envOfC qual scope ⇑s f cd)
 N:=N
 s₀:=s
 H₀:=H
 env:=envOfC qual scope ⇑s f cd
 outer:=outer
 stack:=envOfC qual scope ⇑s f cd::outer
 ex:=[]
 calm:=true
 fn:=λ_=>θ
 pn:=[]
 xe:=λe s'=>ρ (ς P w) (A.deeper (envOfC qual scope ⇑s f cd)) (leaving (envOfC qual scope ⇑s f cd) e) (λ_ lz=>CX outer H s E e lz) (λe' lz=>CX outer H s E e' lz) s'
def KR{sc:Γ}{n x}(h:sc.names.lookup x=Z .cell):∃c,(cellsFrom n sc.names []).lookup x=Z c:=by
 calc q4T.mp (q3x sc.names n [] (.inl h))
def TL{CX:mT}{P:ψ}{w:ω}{K:q0b}{mg:L->Option O}{base:Α}{N ps:-L}{qual:L}{scope:Γ}{f:Y}{cd:O}{A:Β}{outer:-Env}{s s1:ο}{H:Hp}{E:XK}{us:-O}{vs:-V}
  (S:pF N ps scope) (hd:A.handled=η) (e0:kH P w K mg base A outer s H) (hl:↑vs=↑ps) (r:Vals vs us)
  (x:InCallC s ⇑s (bindL (envOfC qual scope ⇑s f cd).kindOf (ps.zip us) λ_=>η) (cellsFrom (⇑s+1) scope.names []) (bindC (envOfC qual scope ⇑s f cd).kindOf (ps.zip us) λ_=>η) s1) :
  Inv (gE CX P w K mg base N qual scope f cd A outer s H E) [] (start N vs) H s1:=by
 let eu:=by let:=congrArg x0t S.pre;rw[q0K] at this;symm
 let⟨h1,tk,rfl,hk⟩:=x.done;let qt:∀b ,b∉(gE CX P w K mg base N qual scope f cd A outer s H E).ex:=λb z=>absurd (show b∈[] from z) (by simp)
 refine⟨⟨e0.mod,S.kind,U,U,Ln _,λy z c h1 h2=>?_,λy hy=>?_,λy c _ h=>?_,λ_=>hd,q5M e0.frames,.inr ⟨U,U⟩,λb z=>absurd z (qt b),e0.bs,e0.nQ,λb _ _=>qt b,λb z=>absurd z (qt b),e0.fu,e0.pD⟩,
  U,e0.bare,Un.kept hk,⟨_,x.toInCall.ns,λi y v h1 h2 h3=>?_⟩,λy c h=>⟨_,x.cell y c h⟩,e0.bu.fresh (Ln _),λy c h=>?_,λp hp=>absurd (show p∈[] from hp) (by simp),e0.bu.kept hk,?_⟩
 .exact name_of_addr x.apart (q1B h1) (q1B h2)
 .let hy:=hy
  rcases hy with hy|hy
  .exact KR hy
  .exact absurd U (S.uM _ (q1B hy))
 .exact q1e (x.above y c (q1B h))
 .let hi:i<↑vs:=by
   unfold start at h2
   by_cases hi:i<↑vs
   .exact hi
   .rw[q0i hi⁻¹,q3l] at h2
    split at h2<;>cases h2
  let ha:vs[i]?=Z v:=by
   unfold start at h2;rw[q0a hi⁻¹,Uj] at h2
   cases e:vs[i]? with
   |none=>rw[e] at h2;cases h2
   |some a=>rw[e] at h2;cases h2;rfl
  let⟨u,hu,rv⟩:=r.get ha
  let hp:ps[i]?=Z y:=by
   rw[<-S.pre,q0W ⋯];exact h1
  let KU:ps.Nodup:=by rw[<-S.pre];exact S.nd.sublist (q6u _ _)
  calc⟨u,rv,?_⟩;rcases S.par y (q0I hp) with k|k
  .exact .inl ⟨k,KP KU hp hu k⟩
  .let⟨c,e⟩:=KR  k
   calc .inr ⟨.inl k,c,e,?_⟩;let q:=x.cell y c e;rw[KQ KU hp hu (by show scope.names.lookup y≠_;rw[k];decide)] at q;exact q
 .exact e0.bu.fresh (q1e (x.above y c (q1B h)))
 .unfold start
  show _=↑N;rw[Lo,ye,q3I];symm
def z5O{CX:mT}{P:ψ}{w:ω}{K:q0b}{mg:L->Option O}{base:Α}{k:Nat}{f:Y}{name qual:L}{params:Arguments}{body:-χ}{scope:Γ}{dV kV doc pm bF ct oc:O}{an od:Option Y}
  {qv:Array (Option O)} {N ps:-L} {sp:Sp} (lk:K.lookup f=Z ⟨oc,od,.func (q1f name qual params body scope dV kV doc pm an bF ct),qv⟩) (jM:q23 K bF qual=θ) (S:pF N ps scope)
  (len:∀vs H Q E,sp vs H Q E->↑vs=↑ps)
  (fN:∀(A:Β)(outer:-Env)(s:ο)(H:Hp)(vs:-V)(Q:VK)(E:XK),bA k (A.deeper (envOfC qual scope ⇑s f bF))->sp vs H Q E →
   ∃t,eQ (gE CX P w K mg base N qual scope f bF A outer s H E) body t/\t {nx:=λ_ H'=>Q .non H',rt:=Q} (start N vs) H) :
  cB P w K mg base CX (k+1) f (q1f name qual params body scope dV kV doc pm an bF ct) ps sp:=by
 calc⟨len,λA outer s H args us vs Q E hr e0 hb r tK=>?_⟩;let KX:=e0.mod.ip.keeps λb o e=>(e0.bs b o e).1;let lim:=e0.mod.nolimit.keeps λb o e=>(e0.bs b o e).1
 let x6:∀y∈ps.zip us,scope.names.lookup y.1=Z .local\/(scope.names.lookup y.1=Z .cell/\((cellsFrom (⇑s+1) scope.names []).lookup y.1).isSome=θ):=λ⟨n,v⟩ hy↦by
  rcases S.par n (q5q hy).1 with q|q
  .exact .inl q
  .exact .inr ⟨q,q3x _ _ _ (.inl q)⟩
 calc codeAny_call_function hr.depth (KX _ _ lk) U S.co S.gen U (PySem.W.codeRec_of KX jM) (hb _ _ _ _ (wpAny_newFunctionEnv_cells S.kind x6 λenv he s1 x=>?_));subst he;calc⟨lim.keeps x.toInCall.keep,codeAny_func ?_⟩;calc wd λnY=>?_;let⟨t,ht,hq⟩:=fN A outer s H vs Q E (hr.deeper _) tK;refine nY <| q1C (ht [] s1 (start N vs) H _ (TL S hr.hd e0 (len _ _ _ _ tK) r x) hq) (λfl s' hs=>?_) λe s' hs=>hs
 let fin:∀{σ' H' v u},Inv (gE CX P w K mg base N qual scope f bF A outer s H E) [] σ' H' s'->RelV v u->Q v H'->CE outer P w H s Q u s' :=
  λ{σ' H' v u} J rv q=>⟨v,H',J.os,J.bare,J.base,J.bu,rv,q⟩
 cases fl with
 |ret u =>
  let⟨v,σ',H',J,rv,q⟩:=hs;exact fin J rv q
 |next =>
  let⟨σ',H',J,q⟩:=hs;exact fin (v:=V.non)  J U q
 |brk =>
  let⟨_,_,_,q⟩:=hs;exact q1D q
 |cont =>
  let⟨_,_,_,q⟩:=hs;calc q1D q
section
variable{X:Cx}{x:L}{p pos:Δ}{e:υ}{es:-υ}{t:TA}{id T:String}{r:-V->Hp->VK->Prop}
/---/def x8(r:-V->Hp->VK->Prop)(t:TA):TE:=fun σ H Q=>t σ H λvs H1=>r vs H1 Q
def v_(hc:hU X (.builtin id) r)(hg:Gl X x)(hm:X.mg x=η)(hv:bootBuiltins x=Z (.builtin id))(ha:JA X (e::es) t)(hn:x≠"__name__" := by decide)(eF: ~~~(cm x))
  (he:‹di X e es›) (eu:‹dM X pos es›):JE X (.Call (.Name x p) (e::es) [] pos) (x8 r t):=by
 calc⟨?_⟩;ext pins s σ H Q I h;calc q2a (qg I hg hm hv ?_ hn eF);calc PyProof.Rows.callWith_builtin1 (bJ (ha pos pins s σ H _ I h) λus s1 ⟨vs,H1,I1,r1,q1⟩↦hc pins s1 σ H1 vs us Q I1 r1 q1) he eu
def tL(hc:hU X (.type T) r)(hg:Gl X x)(hm:X.mg x=η)(hv:bootBuiltins x=Z (.type T))(ha:JA X (e::es) t)(hn:x≠"__name__" := by decide)(eF: ~~~(cm x))
  (he:‹di X e es›) (eu:‹dM X pos es›):JE X (.Call (.Name x p) (e::es) [] pos) (x8 r t):=by
 calc⟨?_⟩;ext pins s σ H Q I h;calc q2a (qg I hg hm hv ?_ hn eF);calc q1W (bJ (ha pos pins s σ H _ I h) λus s1 ⟨vs,H1,I1,r1,q1⟩↦hc pins s1 σ H1 vs us Q I1 r1 q1) he eu
end
end L2
namespace HT
open PySem PyProof.Rows
meta def lexLt:-Int->-Int->Bool
 |[],[]=>ι
 |[],_::_=>θ
 |_::_,[]=>ι
 |x::xs,y::ys=>if x=y then lexLt xs ys else I (x<y)
def pG x y xs ys:lexLt (x::xs) (y::ys)=if x=y then lexLt xs ys else I (x<y):=rfl
def KW:lexLt [] []=ι:=rfl
def KY y ys:lexLt [] (y::ys)=θ:=rfl
def KZ x xs:lexLt (x::xs) []=ι:=rfl
def K1(A:Β)(s:ο)(a:Int)(t:Tok)(c:Int)(u:Tok):∃e,q5a A s (.int a t) (.int c u) e/\(e=θ↔a=c) :=
 ⟨(a==c),q6l a t c u,by simp⟩
def TM(A:Β)(s:ο)(a:Int)(t:Tok)(c:Int)(u:Tok)(prog:ψ)(w:ω)(E:bz)(Q:bz)(h:Q (.bool (I (a<c))) s):
  ρ (ς prog w) A (richCompare .Lt (.int a t) (.int c u)) Q E s :=
 (q4a h)
section
open PySem.SeqAt
open PySem.AutoSeq1 (wpAny_loadPart')
open PySem.MeetsSeq PySem.MeetsSeq2 PySem.MeetsSeq3
def TN(l b:Y)(items bG:Array O)(n n2:Nat)(dd lA:Option Y)(sl mU:Array (Option O))(ns ms:-Int)(hi:IntsAre items.toList ns)(hj:IntsAre bG.toList ms):
  Meets (Builtin.«tuple.__lt__» ⟨[.ref l,.ref b],[]⟩)
   (λ_ R s=>s.heap.get? l=Z {cls:=.type "tuple",dict:=dd,data:=.seq items n,slots:=sl}/\s.heap.get? b=Z {cls:=.type "tuple",dict:=lA,data:=.seq bG n2,slots:=mU} ∧
    R (.ok (.ret (.bool (lexLt ns ms)))) s) :=
 .of_wp λprog w A R s h=>by
  let⟨hp,g,d,tk,os⟩:=s;let⟨hl,hb,h⟩:=h;let f2:=q4U;let z1:items.size=↑ns:=by rw[<-↑hi];simp
  let z2:bG.size=↑ms:=by rw[<-↑hj];simp
  wp_walk using q1w hl,q1w hb,q41 _ (λrest b s'=>b.1=η/\s'=⟨hp,g,d,tk,os⟩/\∃(vs ws:-O)(cM lZ:-Int),rest=vs.zip ws ∧
   IntsAre vs cM/\IntsAre ws lZ/\↑cM+bG.size=↑lZ+items.size/\R (.ok (.ret (.bool (lexLt cM lZ)))) ⟨hp,g,d,tk,os⟩) _
  case turn =>
   ext⟨y,x⟩ rest b s' ⟨hb',rfl,vs,ws,cM,lZ,hz,uN,qw,hlen,hR⟩
   cases uN with
   |nil=>rw[q4L] at hz;cases hz
   |cons a t uO =>
    cases qw with
    |nil=>rw[q6m] at hz;cases hz
    |cons c u uP =>
     rw[q2u] at hz;injection hz with DK nZ;injection DK with hy hx;subst hy hx;rw[pG] at hR;erw[Uh] at hlen;let⟨e,he,n6⟩:=K1 A.in1 ⟨hp,g,d,tk,os⟩ a t c u;refine Aw (he prog w _ _ ?_)
     cases e with
     |true =>
      rw[q0r (n6.mp U)] at hR
      wp_walk
      exact⟨U,U,_,_,_,_,nZ,uO,uP,⋯,hR⟩
     |false =>
      rw[q0l (λq=>absurd (n6.mpr q) q1F)] at hR;let DL:=TM A.in1 ⟨hp,g,d,tk,os⟩ a t c u prog w
      wp_walk using DL
      exact⟨_,U,by simpa using hR⟩
  case fin =>
   ext⟨b1,b2⟩ s' ⟨hb',rfl,vs,ws,cM,lZ,hz,uN,qw,hlen,hR⟩;simp only at hb';subst hb'
   let hv:lexLt cM lZ=I (items.size<bG.size):=by
    cases uN with
    |nil =>
     cases qw with
     |nil =>
      erw[q1p] at hlen;rw[KW];exact(Ul ⋯).symm
     |cons c u hw =>
      erw[q1p,Uh] at hlen;rw[KY];exact(q0g ⋯).symm
    |cons a t hv =>
     cases qw with
     |nil =>
      erw[q1p,Uh] at hlen;rw[KZ];exact(Ul ⋯).symm
     |cons c u hw =>
      rw[q2u] at hz;cases hz
   rw[hv] at hR
   wp_walk
   exact⟨_,U,by simpa[q3F] using hR⟩
  case h =>
   calc⟨U,U,items.toList,bG.toList,ns,ms,U,hi,hj,⋯,h⟩
end
section
variable{prog:ψ}{w:ω}{A:Β}{E:bz}{s:ο}
def DM{l b:Y}{items bG:Array O}{ns ms:-Int}{Q:bz}(hl:IsTup s.heap l items)(hb:IsTup s.heap b bG)(hi:IntsAre items.toList ns)(hj:IntsAre bG.toList ms)
  (hu:A.units<cLine) (h:Q (.bool (lexLt ns ms)) s):ρ (ς prog w) A (compareOp .Lt (.ref l) (.ref b)) Q E s:=by
 calc wd λiU=>?_;let⟨⟨cls,dd,data,sl⟩,ho,hc,n,hd⟩:=id hl;let⟨⟨uQ,lA,data2,mU⟩,gx,jP,n2,hd2⟩:=id hb;simp only at hc hd jP hd2;subst hc hd jP hd2
 exact iU <| q5e (op:=.Lt) ⟨_,ho,U⟩ ⟨_,gx,U⟩ PySem.F.slot_tuple_lt PySem.F.entry_tuple_lt (PySem.F.args_tuple_lt_2 _ _) (TN l b items bG n n2 dd lA sl mU ns ms hi hj)
  ⟨ho,gx,show q3j (lexLt ns ms)≠q5O/\Q (.bool (lexLt ns ms)) s from⟨(λx=>nomatch x),h⟩⟩ hu
def TQ{t b:Y}{vs ws:-O}{Q:bz}(ht:IsTup s.heap t vs.toArray)(hb:IsTup s.heap b ws.toArray)(hv:vs≠[])
  (h1:ws=[]->Q (.ref t) s) (h2:ws≠[]->Q (.ref ⇑s) {s with heap:=s.heap.push {cls:=.type "tuple",data:=.seq (vs++ws).toArray}})
  (hsz:↑vs+↑ws<=sizeLine):ρ (ς prog w) A (binaryOp .Add (.ref t) (.ref b)) Q E s:=by
 calc wd λqx=>?_;let⟨⟨cls,dd,data,sl⟩,ho,hc,n,hd⟩:=id ht;let⟨⟨uQ,lA,data2,mU⟩,gx,jP,n2,hd2⟩:=id hb;subst hc hd jP hd2;let e:vs.toArray++ws.toArray=(vs++ws).toArray:=by simp
 refine qx ?_
 by_cases hw:ws=[]
 .exact q6F ⟨_,ho,U⟩ ⟨_,gx,U⟩ q43 q5_ q3y q3m (q3a _ _)
   (tuple_addW1 t b vs.toArray ws.toArray n n2 dd lA sl mU hv⁻¹ (by simp[hw])) ⟨ho,gx,h1 hw⟩
 .refine q6F ⟨_,ho,U⟩ ⟨_,gx,U⟩ q43 q5_ q3y q3m (q3a _ _)
   (tuple_addW2 t b vs.toArray ws.toArray n n2 dd lA sl mU hv⁻¹ hw⁻¹ ⋯) ⟨ho,gx,?_⟩
  rw[e];calc h2 hw
meta def bS(n d:Nat):Option Int->Nat
 |none=>d
 |some v=>if v<0 then(v+(n:Int)).toNat else min v.toNat n
def TR(n d:Nat):bS n d η=d:=rfl
def DN(n d k:Nat):bS n d (Z (k:Int))=min k n:=by
 show(if k<0 then((k:Int)+n).toNat else min (k:Int).toNat n)=min k n;rw[q0l ⋯,q0t]
def K4 v (n d:Nat):(if v<0 then max (v+(n:Int)) 0 else min v (n:Int))=((bS n d (Z v):Nat):Int):=by
 show(if v<0 then max (v+n) 0 else min v n)=(((if v<0 then(v+n).toNat else min v.toNat n):Nat))
 by_cases hv:v<0
 .erw[q0r hv];symm
 .erw[q0l hv];symm
def TU lo hi (n:Nat):q4E lo hi 1 (n:Int)=(((bS n 0 lo:Nat):Int),((bS n n hi:Nat):Int)):=by
 refine Prod.ext ?_ ?_
 .cases lo with
  |none=>rfl
  |some v=>exact K4 v n 0
 .cases hi with
  |none=>rfl
  |some v=>calc K4 v n n
def TV(i j:Nat):q2A (i:Int) (j:Int) 1=j-i:=by
 unfold q2A;symm
def K5{v o}{Q:Option Int->ο->Prop}(p:IsPart v o)(h:Q o s):ρ (ς prog w) A (Builtin.Slice.slicePartIndex v) Q E s:=by
 cases p with
 |none=>exact slicePart_none h
 |int i t=>calc slicePart_int h
def K6{sl:Y}{vl vu:O}{lo hi:Option Int}{n:Nat}{Q:Int×Int×Nat->ο->Prop}(hs:s.heap.IsSliceOf sl vl vu .none)(pl:IsPart vl lo)(pu:IsPart vu hi)
  (h:Q (((bS n 0 lo:Nat):Int),1,bS n n hi-bS n 0 lo) s):ρ (ς prog w) A (Builtin.Slice.sliceApplied (.ref sl) (pure (n:Int))) Q E s:=by
 let⟨os,uR,wa,x9⟩:=id hs;refine Aw (Aw (q3n uR x9  U (Aw (q3n uR x9  U (Aw (q3n uR x9  U (Ui (Aw (slicePart_none (Aw (K5 pl (Aw (K5 pu (Aw (Ui ?_)))))))))))))))
 show ρ _ _ (match q4E lo hi 1 n with|(lo,hi)=>pure (lo,(1:Int),q2A lo hi 1)) _ _ s;rw[TU lo hi n];show ρ _ _ (pure (((bS n 0 lo):Int),1,q2A (bS n 0 lo) (bS n n hi) 1)) _ _ s;rw[TV];calc Ui h
def TX(xs:Array O)(i k:Nat):((q0F k).filterMap λ(m:Nat)=>xs[((i:Int)+(m:Int)*1).toNat]?).toArray=((xs.toList.drop i).take k).toArray:=by
 let e:(λ(m:Nat)=>xs[((i:Int)+m*1).toNat]?)=λm=>xs[i+m]?:=by
  funext m;let:((i:Int)+m*1).toNat=i+m:=by symm
  rw[this]
 rw[e];let:=pick_run xs i k;rw[q6d] at this;let e2:((λx=>xs[x]?)∘λx=>i+x)=λm=>xs[i+m]?:=U;rw[e2] at this;rw[this]
def TY{t sl:Y}{items:Array O}{vl vu:O}{lo hi:Option Int}{Q:bz}(ht:IsTup s.heap t items)(hs:s.heap.IsSliceOf sl vl vu .none)(pl:IsPart vl lo)(pu:IsPart vu hi)
  (hw:¬ (bS items.size 0 lo=0/\bS items.size items.size hi=items.size))
  (h:Q (.ref ⇑s) {s with heap:=s.heap.push {cls:=.type "tuple",data:=.seq ((items.toList.drop (bS items.size 0 lo)).take (bS items.size items.size hi-bS items.size 0 lo)).toArray}})
  (hsz:items.size<=sizeLine):ρ (ς prog w) A (getItem (.ref t) (.ref sl)) Q E s:=by
 let x_:=by
  show((items.toList.drop (bS items.size 0 lo)).take (bS items.size items.size hi-bS items.size 0 lo)).toArray.size<=sizeLine;rw[Uk,q0K,q2q,q0k];symm
 let⟨os,uR,wa,x9⟩:=id hs;unfold getItem
 try with_reducible refine q0R ?_
 first|symm|skip
 refine Aw (q6G ht.typeIs (by decide) (Aw (q1V  ht.typeIs q1o
  (q1y q1o ht.typeIs q5X ?_ (q6n _ _)))))
 show ρ _ _ (q4x (.ref t) >>= _) _ _ s;refine Aw (tupleItemsOf_ ht (Aw (q4d ⟨os,uR,wa⟩ (Aw (K6 hs pl pu ?_)))))
 let TZ:¬ ((((bS items.size 0 lo):Int)==0&&(1:Int)==1&&(bS items.size items.size hi-bS items.size 0 lo)==items.size)=θ):=by
  ext q;rw[q04,q04] at q;let q1:=q1K q.1.1;let q2:=q1K q.2;symm
 show ρ _ _ (if(((bS items.size 0 lo):Int)==0&&1==1&&(bS items.size items.size hi-bS items.size 0 lo)==items.size)=θ then _ else _) _ _ s;rw[q0l TZ,TX]
 first
  |exact Aw  (q16 (Ui ⟨_,U,Ui h⟩) x_)
  |symm
  |symm
  |symm
end
end HT
namespace L2
open PySem PySem.Spec PyProof.Rows
abbrev TO:=St->Hp->(Option Int->Hp->Prop)->Prop
/---/def PO(X:Cx)(e:Option υ)(t:TO):Prop :=
 ∀(pins:a9)(s:ο)(σ:St)(H:Hp)(Q:Option Int->Hp->Prop),Inv X pins σ H s->t σ H Q →
  ρ (ς X.prog X.w) X.A (evalPart e X.env) (λu s'=>∃o H',Inv X pins σ H' s'/\IsPart u o/\Q o H') X.xe s
/---/def T1:TO:=λ_ H Q=>Q η H
/---/def T2(t:TE):TO:=fun σ H Q=>t σ H λx H1=>∃i,x=.int i/\Q (Z i) H1
def intsAre_of{ns:-Int}:∀{us:-O},Vals (ns.map V.int) us->IntsAre us ns:=by
 induction ns with
 |nil=>ext us r;cases r;exact .nil
 |cons n ns ih =>
  ext us r
  cases r with
  |cons r1 r2 =>
   let⟨t,e⟩:=r1;subst e;calc .cons n t (ih r2)
section
variable{X:Cx}{e:υ}{te:TE}{lo hi:Option υ}{tl th:TO}{pos p2:Δ}
def K7:PO X η T1:=by
 calcλpins s σ H Q I h=>Ui ⟨η,H,I,.none,h⟩
def Av(h:JE X e te):PO X (Z e) (T2 te):=by
 calcλpins s σ H Q I hw=>bJ (h pins s σ H _ I hw) ?_;ext u s1 ⟨x,H1,I1,r1,q1⟩;let⟨i,rfl,q⟩:=q1;let⟨t,rfl⟩:=r1;calc⟨Z i,H1,I1,.int i t,q⟩
/---/def tM(X:Cx)(r:V->Option Int->Option Int->Hp->VK->Prop):Prop :=
 ∀(pins:a9)(s:ο)(σ:St)(H:Hp)(x:V)(v vl vu:O)(lo hi:Option Int)(sl:Y)(Q:VK),Inv X pins σ H s->RelV x v->s.heap.IsSliceOf sl vl vu .none->IsPart vl lo->IsPart vu hi->r x lo hi H Q →
  ∃T id,typeLookup (.type T) "__getitem__" = pure (Z (.builtin id))/\s.TypeIs v T/\ρ (ς X.prog X.w) X.A (getItem v (.ref sl)) (EP X pins σ Q) X.xe s
def tM.or{r r':V->Option Int->Option Int->Hp->VK->Prop}(h:tM X r)(h':tM X r'):tM X (λx lo hi H Q=>r x lo hi H Q\/r' x lo hi H Q):=by
 ext pins s σ H x v vl vu lo hi sl Q I rx hs pl pu q;rcases q with q|q
 .exact h pins s σ H x v vl vu lo hi sl Q I rx hs pl pu q
 .calc h' pins s σ H x v vl vu lo hi sl Q I rx hs pl pu q
/---/def T3(r:V->Option Int->Option Int->Hp->VK->Prop)(te:TE)(tl th:TO):TE:=fun σ H Q=>te σ H λx H1=>tl σ H1 λl H2=>th σ H2 λu H3=>r x l u H3 Q
def DO{r:V->Option Int->Option Int->Hp->VK->Prop}(hr:tM X r)(he:JE X e te)(hl:PO X lo tl)(hu:PO X hi th):JE X (.Subscript e (.Slice lo hi η p2) pos) (T3 r te tl th):=by
 calc⟨λpins s σ H Q I h=>Subscript_ (bJ (he pins s σ H _ I h) λv s1 ⟨x,H1,I1,r1,q1⟩=>wpAny_Slice (bJ (hl pins s1 σ H1 _ I1 q1) λvl s2 ⟨l,H2,I2,pl,q2⟩=>bJ (hu pins s2 σ H2 _ I2 q2) λvu s3 ⟨u,H3,I3,pu,q3⟩=>Ui ?_))⟩;let I4:Inv X pins σ H3 {s3 with heap:=s3.heap.push {cls:=.type "slice",data:=.fields #[vl,vu,.none]}}:=I3.kept  λb ob q=>Lm _ q;let⟨T,id,hT,ht,hg⟩:=hr pins {s3 with heap:=s3.heap.push {cls:=.type "slice",data:=.fields #[vl,vu,.none]}} σ H3 x v vl vu l u ⇑s3 Q I4 r1 (Heap.IsSliceOf.new ..) pl pu q3;calc tail_any  ht hT hg (by with_unfolding_all rfl)
meta def fw(xs:-V)(lo hi:Option Int):-V:=(xs.drop (HT.bS ↑xs 0 lo)).take (HT.bS ↑xs ↑xs hi-HT.bS ↑xs 0 lo)
def K8 xs lo hi:↑(fw xs lo hi)<=↑xs:=by
 unfold fw;rw[q0K,q2q];symm
/---/def DP(K:q0b):V->Option Int->Option Int->Hp->VK->Prop:=λx lo hi H Q=>∃a xs,x=.ref a/\cA K H a xs ∧
 ¬ (HT.bS ↑xs 0 lo=0/\HT.bS ↑xs ↑xs hi=↑xs)/\∀p,H p=η->Q (.ref p) (upd H p (.tup (fw xs lo hi)))
def T4:tM X (DP X.K):=by
 ext pins s σ H x v vl vu lo hi sl Q I rx hs pl pu h;let⟨a,xs,rfl,hx,hw,q⟩:=h;cases rx
 let⟨aM,r,ht,hz⟩:=I.tuple hx;let hlen:aM.toArray.size=↑xs:=r.length.symm;calc⟨"tuple",_,q1o.lookup,ht.typeIs,HT.TY ht hs pl pu (by rw[hlen];calc hw) ?_ (by rw[hlen];calc hz)⟩;rw[hlen];calc⟨.ref ⇑s,_,I.laid   (λb ob q=>Lm _ q) (Ln _) ?_,U,q _ (I.bu.fresh (Ln _))⟩;calc⟨q0N (K8 xs lo hi) hz,_,(r.drop (HT.bS ↑xs 0 lo)).take (HT.bS ↑xs ↑xs hi-HT.bS ↑xs 0 lo),IsTup.new _ _⟩
/---/def DQ(K:q0b):R2:=λx y H Q=>∃a b ns ms,x=.ref a/\y=.ref b/\cA K H a (ns.map V.int)/\cA K H b (ms.map V.int)/\Q (.bl (HT.lexLt ns ms)) H
def z5h(hu:X.A.units<cLine):fJ X (compareOp .Lt) (DQ X.K):=by
 ext pins s σ H x y v u Q I rx ry h;let⟨a,b,ns,ms,rfl,rfl,ha,hb,q⟩:=h;cases rx
 cases ry
 let⟨aM,r1,p1,_⟩:=I.tuple ha;let⟨bY,r2,p2,_⟩:=I.tuple hb;let i1:IntsAre aM.toArray.toList ns:=intsAre_of r1;let i2:IntsAre bY.toArray.toList ms:=intsAre_of r2;calc HT.DM p1 p2 i1 i2 hu ⟨.bl (HT.lexLt ns ms),H,I,U,q⟩
/---/def T5(K:q0b):R2:=λx y H Q=>∃a b xs ys,x=.ref a/\y=.ref b/\cA K H a xs/\cA K H b ys/\xs≠[]/\↑xs+↑ys<=sizeLine ∧
 (ys=[]->Q (.ref a) H)/\(ys≠[]->∀p,H p=η->Q (.ref p) (upd H p (.tup (xs++ys))))
def Vals.gM{xs:-V}{us:-O}(r:Vals xs us):us=[]↔xs=[]:=by
 cases r with
 |nil=>simp
 |cons _ _=>simp
def T6:fJ X (binaryOp .Add) (T5 X.K):=by
 ext pins s σ H x y v u Q I rx ry h;let⟨a,b,xs,ys,rfl,rfl,ha,hb,hx,hz,q1,q2⟩:=h;cases rx
 cases ry
 let⟨aM,r1,p1,_⟩:=I.tuple ha;let⟨bY,r2,p2,_⟩:=I.tuple hb;calc HT.TQ p1 p2 (λz=>hx (r1.gM.mp z)) (λz=>⟨.ref a,H,I,U,q1 (r2.gM.mp z)⟩) (λz=>⟨.ref ⇑s,_,I.laid   (λb ob q=>Lm _ q) (Ln _) ?_,U,q2 (λw=>z (r2.gM.mpr w)) _ (I.bu.fresh (Ln _))⟩) (by rw[<-↑r1,<-↑r2];calc hz);calc⟨by rw[Lo];calc hz,_,r1.append r2,IsTup.new _ _⟩
end
meta def jA(n:Nat)(i:Int):Option Nat:=if 0<=i then(if i<n then Z i.toNat else η) else if -(n:Int)<=i then Z (i+n).toNat else η
meta def eX{α:Type}(xs:-α)(i:Int):Option α:=(jA ↑xs i).bind λj=>xs[j]?
def K9{n i j}(h:jA n i=Z j):seqIndex? i n=Z j/\j<n /\ -(n:Int)<=i/\i<n:=by
 unfold jA at h
 by_cases h0:0<=i
 .rw[q0r h0] at h
  by_cases h1:i<n
  .rw[q0r h1] at h
   let e:=q0P h;exact⟨by rw[q7p h0 h1,e],⋯,⋯,h1⟩
  .rw[q0l h1] at h;cases h
 .rw[q0l h0] at h
  by_cases h1 : -(n:Int)<=i
  .rw[q0r h1] at h
   let e:=q0P h;exact⟨by rw[q6H ⋯ h1,e],⋯,h1,⋯⟩
  .rw[q0l h1] at h;cases h
def DR{α}{xs:-α}{i v}(h:eX xs i=Z v):∃j,seqIndex? i ↑xs=Z j/\xs[j]?=Z v/\j<↑xs /\ -(↑xs:Int)<=i/\i<↑xs:=by
 unfold eX at h
 cases e:jA ↑xs i with
 |none=>rw[e] at h;cases h
 |some j =>
  rw[e] at h;let⟨h1,h2,h3,h4⟩:=K9 e;calc⟨j,h1,h,h2,h3,h4⟩
def lB{α}{xs:-α}{j:Nat}{v}(h:xs[j]?=Z v):eX xs (j:Int)=Z v:=by
 let hj:=(Ll.mp h).1
 let e:jA ↑xs j=Z j:=by
  unfold jA;rw[q0r ⋯,q0r ⋯];simp
 unfold eX;rw[e];calc h
/---/def DT(b:υ):Prop:=∀o i,subscripted b ι o i=operate [o,i] (getItem o i)
/---/def pH(X:Cx)(r:R2):Prop :=
 ∀(value slice:υ)(pins:a9)(s:ο)(σ:St)(H:Hp)(x y:V)(v u:O)(Q:VK),Inv X pins σ H s->RelV x v->RelV y u->r x y H Q →
  subscripted slice ι v u=operate [v,u] (getItem v u)->ρ (ς X.prog X.w) X.A (subscriptTail value slice v u) (EP X pins σ Q) X.xe s
/---/def DU(X:Cx)(id:String)(r:V->-V->Hp->VK->Prop):Prop :=
 ∀(pins:a9)(s:ο)(σ:St)(H:Hp)(x:V)(xs:-V)(v:O)(us:-O)(Q:VK),Inv X pins σ H s->RelV x v->Vals xs us->r x xs H Q →
  ρ (ς X.prog X.w) X.A (call (.builtin id) (v::us)) (EP X pins σ Q) X.xe s
section
variable{X:Cx}{a b:υ}{ta tb:TE}{pos:Δ}
def pH.or{r r':R2}(h:pH X r)(h':pH X r'):pH X (λx y H Q=>r x y H Q\/r' x y H Q):=by
 ext value slice pins s σ H x y v u Q I rx ry q hs;rcases q with q|q
 .exact h value slice pins s σ H x y v u Q I rx ry q hs
 .calc h' value slice pins s σ H x y v u Q I rx ry q hs
def DW{r:R2}(hr:pH X r)(ha:JE X a ta)(hb:JE X b tb)(hs:DT b):JE X (.Subscript a b pos) (xU r ta tb):=by
 calc⟨λpins s σ H Q I h=>Subscript_ (uJ ha hb I h λv u s2 x y H2 I2 rx ry q=>hr a b pins s2 σ H2 x y v u Q I2 rx ry q (hs _ _))⟩
/---/def ya(K:q0b):R2:=λx y H Q=>∃p xs i v,x=.ref p/\y=.int i/\bR K H p xs/\eX xs i=Z v/\Q v H
/---/def yb(K:q0b):R2:=λx y H Q=>∃p xs i v,x=.ref p/\y=.int i/\cA K H p xs/\eX xs i=Z v/\Q v H
/---/def yc:R2:=λx y H Q=>∃z i c,x=.str z/\y=.int i/\↑z<=sizeLine/\eX z.cps.toList i=Z c/\Q (.str ⟨#[c]⟩) H
def iV:pH X (ya X.K):=by
 ext value slice pins s σ H x y v u Q I rx ry h hs;let⟨p,xs,i,z,rfl,rfl,hq,he,q⟩:=h;cases rx
 calc wd λqy=>?_;let⟨t,rfl⟩:=ry;let⟨aM,r,pl,hz⟩:=I.list hq;let⟨j,h1,h2,h3,h4,h5⟩:=DR he;let⟨w,ew,kI⟩:=r.get h2;let hl:=↑r;let hn:=v9;let fin:EP X pins σ Q w s:=⟨z,H,I,kI,q⟩;refine qy ?_
 by_cases h0:0<=i
 .let hj:=by
   rw[q7p h0 h5] at h1;exact q0P h1
  exact item_listR pl.isList h0 ⋯ (by rw[hj];simpa using ew) fin hs
 .let hj:(i+aM.toArray.size).toNat=j:=by
   rw[q6H ⋯ h4] at h1;rw[Uk,<-hl];exact q0P h1
  exact q5f  pl.isList.typeIs q6N.lookup
   (wpAny_getItem_list_neg  pl.isList ⋯ (by rw[Uk]<;>symm) ⋯ (by rw[hj];simpa using ew) ⟨U,fin⟩) hs
def n8:pH X (yb X.K):=by
 ext value slice pins s σ H x y v u Q I rx ry h hs;let⟨p,xs,i,z,rfl,rfl,hq,he,q⟩:=h;cases rx
 calc wd λqz=>?_;let⟨t,rfl⟩:=ry;let⟨aM,r,pl,hz⟩:=I.tuple hq;let⟨j,h1,h2,h3,h4,h5⟩:=DR he;let⟨w,ew,kI⟩:=r.get h2;let hn:=v9
 exact qz <| q5f  pl.typeIs slot_tuple_getitem.lookup
  (getItem_tuple   pl ⋯ ⋯ (by rw[Uk,<-↑r];calc h1) ew⁻¹ ⟨U,⟨z,H,I,kI,q⟩⟩) hs
def K_:pH X yc:=by
 ext value slice pins s σ H x y v u Q I rx ry h hs;calc wd λuS=>?_;let⟨z,i,c,rfl,rfl,hz,he,q⟩:=h;let⟨t,rfl⟩:=rx;let⟨t',rfl⟩:=ry;let⟨j,h1,h2,h3,h4,h5⟩:=DR he;let hl:↑z.cps.toList=↑z:=by simp[Str.length]
 rw[hl] at h1 h4 h5;let hn:=v9
 exact uS <| tail_any (typeIs_str s z t) slot_str_getitem.lookup (getItem_str  (by
  rw[(Ul ⋯),(Ul ⋯),q57]) (by rw[h1];simpa using h2) ⟨.str ⟨#[c]⟩,H,I.tok _,⟨_,U⟩,q⟩) hs
/---/def T7(K:q0b):R2:=λx y H Q=>ya K x y H Q\/yb K x y H Q\/yc x y H Q
def T8:pH X (T7 X.K):=iV.or (n8.or K_)
def T9(aM:-O) n j u:q0Q (·.setIfInBounds j u) {cls:=.type "list",data:=.seq aM.toArray n}={cls:=.type "list",data:=.seq (aM.set j u).toArray n}:=by
 simp[q0Q]
def Inv.lst{pins:a9}{σ:St}{H:Hp}{s:ο}{p:Y}{xs:-V}(I:Inv X pins σ H s)(h:H p=Z (.lst xs)):
  ∃(aM:-O)(n:Nat),Vals xs aM/\s.heap.get? p=Z {cls:=.type "list",data:=.seq aM.toArray n}/\↑xs<=sizeLine:=by
 let⟨z,aM,n,r,e⟩:=I.bu p _ h;calc⟨aM,n,r,e,z⟩
def Inv.uT{pins:a9}{σ:St}{H:Hp}{s:ο}{p:Y}{xs ys:-V}{aM ir:-O}{n n':Nat}{f:Obj->Obj}(I:Inv X pins σ H s)(h:H p=Z (.lst xs))
  (ho:s.heap.get? p=Z {cls:=.type "list",data:=.seq aM.toArray n}) (hf:f {cls:=.type "list",data:=.seq aM.toArray n}={cls:=.type "list",data:=.seq ir.toArray n'}) (r:Vals ys ir) (hz:↑ys<=sizeLine) (t:Nat) :
  Inv X pins σ (upd H p (.lst ys)) {s with heap:=s.heap.update p f,toks:=t}:=by
 let e:(s.heap.update p f).get? p=Z {cls:=.type "list",data:=.seq ir.toArray n'}:=by
  rw[q1d f ho (by rw[hf]<;>rfl),hf]
 calc I.write   (by rw[h];trivial) (.inl U) (λb u hb q=>(q1v _ _ (q1_ hb)).trans q) ⟨_,e⟩ ?_;calc⟨hz,ir,n',r,e⟩
/---/def La:V->V->V->Hp->(Hp->Prop)->Prop:=λo i v H Q=>∃p xs k j,o=.ref p/\i=.int k/\H p=Z (.lst xs)/\jA ↑xs k=Z j/\Q (upd H p (.lst (xs.set j v)))
def set_list:xJ X La:=by
 ext pins s σ H o i v ov iv u Q I ro ri rv h;let⟨p,xs,k,j,rfl,rfl,hp,hj,q⟩:=h;cases ro
 calc wd λqA=>?_;let⟨t,rfl⟩:=ri;let⟨aM,n,r,ho,hz⟩:=I.lst hp;let⟨h1,h2,h3,h4⟩:=K9 hj;let hl:=↑r;let hn:=v9
 let I' :=
  I.uT hp ho (T9 aM n j u) (r.set rv j) (by rw[q1H];calc hz) s.toks
 refine qA ?_
 by_cases h0:0<=k
 .let hk:=by
   rw[q7p h0 h4] at h1;exact q0P h1
  exact PySem.W.ki_setAt ho h0 ⋯ (by rw[Uk,<-hl];calc h4) (by rw[hk];calc⟨_,I',q⟩)
 .let hk:(k+aM.toArray.size).toNat=j:=by
   rw[q6H ⋯ h3] at h1;rw[Uk,<-hl];exact q0P h1
  calc PySem.W.ki_setBack ho ⋯ (by rw[Uk,<-hl];calc h3) ⋯ (by rw[hk];calc⟨_,I',q⟩)
def T_ lo hi n:(sliceBounds lo hi η n).1=((HT.bS n 0 lo:Nat):Int)/\(sliceBounds lo hi η n).2.1=((HT.bS n n hi:Nat):Int)/\(sliceBounds lo hi η n).2.2=1:=by
 refine⟨?_,?_,U⟩
 .cases lo with
  |none=>simp[sliceBounds,HT.bS]
  |some i =>
   erw[sliceBounds,HT.bS,q40,show 1>0 by decide,q3e]
   by_cases h:i<0
   .erw[h,q3e]<;>symm
   .erw[h,q2S]<;>symm
 .cases hi with
  |none=>simp[sliceBounds,HT.bS]
  |some i =>
   erw[sliceBounds,HT.bS,q40,show 1>0 by decide,q3e]
   by_cases h:i<0
   .erw[h,q3e]<;>symm
   .erw[h,q2S]<;>symm
def Ua(aM:-O) lo hi:slicePick aM.toArray lo hi η=((aM.drop (HT.bS ↑aM 0 lo)).take (HT.bS ↑aM ↑aM hi-HT.bS ↑aM 0 lo)).toArray:=by
 let⟨h1,h2,h3⟩:=T_ lo hi aM.toArray.size;unfold slicePick;rw[h1,h2,h3];erw[sliceRange_one,pick_run,Uk]<;>rfl
/---/def DX(K:q0b):V->Option Int->Option Int->Hp->VK->Prop:=λx lo hi H Q=>∃a xs,x=.ref a/\bR K H a xs/\∀p,H p=η->Q (.ref p) (upd H p (.lst (fw xs lo hi)))
def iW:tM X (DX X.K):=by
 ext pins s σ H x v vl vu lo hi sl Q I rx hs pl pu h;let⟨a,xs,rfl,hx,q⟩:=h;cases rx
 let⟨aM,r,ht,hz⟩:=I.list hx;let hlen:=↑r;calc⟨"list",_,q6N.lookup,ht.isList.typeIs,wpAny_getItem_list_slice ht.isList hs pl pu .none (by simp) ?_ (by rw[Uk]<;>symm)⟩;rw[Ua,<-hlen];calc⟨.ref ⇑s,_,I.laid   (λb ob q=>Lm _ q) (Ln _) ?_,U,q _ (I.bu.fresh (Ln _))⟩;calc⟨q0N (K8 xs lo hi) hz,_,0,(r.drop (HT.bS ↑xs 0 lo)).take (HT.bS ↑xs ↑xs hi-HT.bS ↑xs 0 lo),q0f _ U⟩
def Lb:hU X (.builtin "len") (λxs H Q=>∃p ys,xs=[.ref p]/\(bR X.K H p ys\/cA X.K H p ys)/\Q (.int ↑ys) H):=by
 ext pins s σ H xs us Q I r h;let⟨p,ys,rfl,hq,q⟩:=h;let⟨u,rfl,rx⟩:=vals1 r;cases rx
 let hn:=v9;rcases hq with hq|hq
 .let⟨aM,r',pl,hz⟩:=I.list hq
  let hlen:=↑r';exact Calls.call_len_list pl.isList (by erw[Uk]<;>symm) ⟨.int ↑ys,H,I.tok _,⟨s.toks+1,by rw[Uk,hlen]⟩,q⟩
 .let⟨aM,r',pl,hz⟩:=I.tuple hq
  let hlen:=↑r';calc len_tuple pl (by erw[Uk]<;>symm) ⟨.int ↑ys,H,I.tok _,⟨s.toks+1,by rw[Uk,hlen]⟩,q⟩
def Ub:hU X (.builtin "len") (λxs H Q=>∃z,xs=[.str z]/\↑z<=sizeLine/\Q (.int ↑z) H):=by
 ext pins s σ H xs us Q I r h;let⟨z,rfl,hz,q⟩:=h;let⟨u,rfl,t,rfl⟩:=vals1 r;let hn:=v9;calc len_str ⋯ ⟨.int ↑z,H,I.tok _,⟨_,U⟩,q⟩
def DY:hU X (.type "list") (λxs H Q=>∃p ys,xs=[.ref p]/\(bR X.K H p ys\/cA X.K H p ys)/\∀l,H l=η->Q (.ref l) (upd H l (.lst ys))):=by
 ext pins s σ H xs us Q I r h;let⟨p,ys,rfl,hq,q⟩:=h;let⟨u,rfl,rx⟩:=vals1 r;cases rx
 let fin:∀aM,Vals ys aM->↑ys<=sizeLine->∀h' c',(∀b o',s.heap.get? b=Z o'->h'.get? b=Z o') →
   h'.get? ⇑s=Z {cls:=.type "list",dict:=none,data:=.seq aM.toArray c',slots := #[]}->EP X pins σ Q (.ref ⇑s) {s with heap:=h'}:=λaM r' hz h' c' kp e =>
  ⟨.ref ⇑s,_,I.laid  kp (Ln _) (show bO X.prog X.w _ h' _ (.lst ys) from⟨hz,aM,c',r',e⟩),U,q _ (I.bu.fresh (Ln _))⟩
 rcases hq with hq|hq
 .let⟨aM,r',pl,hz⟩:=I.list hq
  let hlen:=↑r';let⟨o,ho,hc,n,hd⟩:=pl.isList;exact q8o p (.inl U) ho hc hd (λh' c' kp e=>fin aM r' hz h' c' kp e) (by erw[Uk]<;>symm)
 .let⟨aM,r',pl,hz⟩:=I.tuple hq
  let hlen:=↑r';let⟨o,ho,hc,n,hd⟩:=pl;calc q8o p (.inr U) ho hc hd (λh' c' kp e=>fin aM r' hz h' c' kp e) (by erw[Uk]<;>symm)
def Lc:hU X (.type "tuple") (λxs H Q=>∃p ys,xs=[.ref p]/\((bR X.K H p ys/\∀l,H l=η->Q (.ref l) (upd H l (.tup ys)))\/(cA X.K H p ys/\Q (.ref p) H))):=by
 ext pins s σ H xs us Q I r h;let⟨p,ys,rfl,h⟩:=h;let⟨u,rfl,rx⟩:=vals1 r;cases rx
 rcases h with⟨hq,q⟩|⟨hq,q⟩
 .let⟨aM,r',pl,hz⟩:=I.list hq
  let hlen:=↑r';calc call_tuple_list pl.isList (λh' kp=>?_) (by erw[Uk]<;>symm);let I1:Inv X pins σ H {s with heap:=h'}:=I.kept  kp
  let I2:Inv X pins σ (upd H h'.objs.size (.tup ys)) {s with heap:=h'.push {cls:=.type "tuple",data:=.seq aM.toArray}} :=
   I1.laid  (λb o e=>Lm _ e) (Ln _) (⟨hz,aM,r',IsTup.new _ _⟩)
  exact⟨.ref h'.objs.size,_,I2,U,q _ (I1.bu.fresh (Ln _))⟩
 .let⟨aM,r',pl,hz⟩:=I.tuple hq
  calc call_tuple_same pl ⟨.ref p,H,I,U,q⟩
/---/def DZ(K:q0b)(T:String)(x:V)(H:Hp):Prop:=match x with
 |.str _=>T="str"
 |.int _=>T="int"
 |.ref p=>(T="list" /\ ∃xs,bR K H p xs)\/(T="tuple" /\ ∃o,K.lookup p=Z o/\o.cls=.type "tuple" /\ o.dict=η) ∨
   (T="dict" /\ ((∃kvs,H p=Z (.dK kvs))\/∃kvs,H p=Z (.dT kvs)))\/(T="set" /\ ∃S n,H p=Z (.set S n))
 |_=>False
def Ld{pins:a9}{σ:St}{H:Hp}{s:ο}{T:String}{x:V}{v:O}(I:Inv X pins σ H s)(r:RelV x v)(ty:DZ X.K T x H):
  s.TypeIs v T/\∀a,v=.ref a->∃ob,s.heap.get? a=Z ob/\ob.dict=η:=by
 cases x with
 |str z =>
  let⟨t,rfl⟩:=r;cases(ty)
  exact⟨typeIs_str s z t,λ_ e=>nomatch e⟩
 |int i =>
  let⟨t,rfl⟩:=r;cases(ty)
  exact⟨q7X s i t,λ_ e=>nomatch e⟩
 |ref p =>
  cases r
  rcases ty with⟨rfl,xs,hq⟩|⟨rfl,o,hk,hc,hd⟩|⟨rfl,hk⟩|⟨rfl,S,n,hk⟩
  .let⟨aM,_,pl,_⟩:=I.list hq
   calc⟨pl.isList.typeIs,λa e=>?_⟩;cases e
   let⟨o,n,e,c,hd,_⟩:=pl;exact⟨o,e,hd⟩
  .refine⟨⟨o,I.gy p o hk,hc⟩,λa e=>?_⟩
   cases e
   exact⟨o,I.gy _ o hk,hd⟩
  .let z:∃o,s.heap.get? p=Z o/\o.ExactDict:=by
    rcases hk with⟨kvs,hk⟩|⟨kvs,hk⟩
    .let⟨_,_,_,_,o,_,_,e,ex,_⟩:=I.bu p _ hk
     exact⟨o,e,ex⟩
    .let⟨_,_,_,_,o,_,_,e,ex,_⟩:=I.bu p _ hk
     exact⟨o,e,ex⟩
   let⟨o,e,ex⟩:=z;calc⟨⟨o,e,ex.1⟩,λa e2=>?_⟩;cases e2
   exact⟨o,e,ex.2.1⟩
  .let⟨o,_,_,_,e,ex,_⟩:=I.bu p _ hk
   calc⟨⟨o,e,ex.1⟩,λa e2=>?_⟩;cases e2
   exact⟨o,e,ex.2.1⟩
 |_=>calc q1D ty
/---/def yd(K:q0b)(T:String)(r:V->-V->Hp->VK->Prop)(to:TE):TE:=fun σ H Q=>to σ H λx H1=>DZ K T x H1/\r x [] H1 Q
/---/def wc(K:q0b)(T:String)(r:V->-V->Hp->VK->Prop)(to:TE)(t:TA):TE:=fun σ H Q=>to σ H λx H1=>DZ K T x H1/\t σ H1 λxs H2=>r x xs H2 Q
variable{o e:υ}{es:-υ}{to:TE}{t:TA}{name:L}{apos eG:Δ}{T id:String}{r:V->-V->Hp->VK->Prop}
def Uc(pa:PlainAttrs T)(slot:Slot T name id)(D0:typeOf (.builtin id)=pure (.type "method_descriptor"))(hm:DU X id r)(ho:JE X o to)
  (n9:‹attributeBase o name X.env (eval o X.env)=eval o X.env›) (n_:‹(apos.endLine==eG.line)=θ›):JE X (.Call (.Attribute o name apos) [] [] eG) (yd X.K T r to):=by
 calc⟨λpins s σ H Q I h=>wpAny_Call_method0_late n9 n_ (bJ (ho pins s σ H _ I h) ?_)⟩;ext v s1 ⟨x,H1,I1,r1,ty,q1⟩;let⟨h1,h2⟩:=Ld I1 r1 ty;calc⟨T,id,pa,slot,D0,h1,h2,q3z U (PySem.evalArgs_none (hm pins s1 σ H1 x [] v [] Q I1 r1 .nil q1))⟩
def kJ(pa:PlainAttrs T)(slot:Slot T name id)(D0:typeOf (.builtin id)=pure (.type "method_descriptor"))(hm:DU X id r)(ho:JE X o to)(ha:JA X (e::es) t)
  (n9:‹attributeBase o name X.env (eval o X.env)=eval o X.env›)
  (D1:‹((backTo eG (starEach (e::es) X.env)).all (λx => !x.1)&&(backToKw eG (keywordEach [] X.env)).all (λx=>x.1.isSome)
   && μ (↑(e::es)+↑([]:-Keyword)+(if([]:-Keyword).isEmpty then 0 else 1)<30))=θ›)
  (n_:‹(apos.endLine==eG.line)=θ›) (hs:‹di X e es›) (hplain:‹dM X eG es›) :
  JE X (.Call (.Attribute o name apos) (e::es) [] eG) (wc X.K T r to t):=by
 calc⟨λpins s σ H Q I h=>wpAny_Call_method_late n9 D1 n_ U (bJ (ho pins s σ H _ I h) ?_)⟩;ext v s1 ⟨x,H1,I1,r1,ty,q1⟩;let⟨h1,h2⟩:=Ld I1 r1 ty;calc⟨T,id,pa,slot,D0,h1,h2,?_⟩;let hA:=ha eG pins s1 σ H1 _ I1 q1;rw[hs] at hA ⊢;calc q3z (by show(ι||(backTo eG (starEach es X.env)).any (·.1))=ι;rw[hplain]<;>rfl) (q5P (bJ hA λus s2 ⟨vs,H2,I2,r2,q2⟩↦hm pins s2 σ H2 x vs v us Q I2 r1 r2 q2))
end
/---/def yf(X:Cx)(id:String)(r:V->-V->Hp->VK->Prop):Prop :=
 ∀(pins:a9)(s:ο)(σ:St)(H:Hp)(x:V)(xs:-V)(v:O)(us:-O)(Q:VK),Inv X pins σ H s->RelV x v->Vals xs us->r x xs H Q →
  ρ (ς X.prog X.w) X.A (call (.builtin id) (v::us)) (EP X pins σ Q) X.xe s
def Vals.one:∀{x:V}{us:-O},Vals [x] us->∃u,us=[u]/\RelV x u:=by
 ext x us h
 cases h with
 |cons r h=>cases h;calc⟨_,U,r⟩
def Vals.two:∀{x y:V}{us:-O},Vals [x,y] us->∃u v,us=[u,v]/\RelV x u/\RelV y v:=by
 ext x y us h
 cases h with
 |cons r h =>
  let⟨v,rfl,q⟩:=Vals.one h;calc⟨_,_,U,r,q⟩
def Vals.eraseIdx:∀{xs:-V}{us:-O}(i:Nat),Vals xs us->Vals (xs.eraseIdx i) (us.eraseIdx i)
 |_,_,_,.nil=>.nil
 |_,_,0,.cons _ t=>t
 |_,_,i+1,.cons r t=>.cons r (Vals.eraseIdx i t)
def Vals.rep{xs:-V}{us:-O}(h:Vals xs us):∀k:Nat,Vals (q0q k xs).flatten (q0q k us).flatten
 |0=>.nil
 |k+1=>by
  calc Vals.append h (Vals.rep h k)
def Le{α:Type}:∀(l:-α) i,↑(l.eraseIdx i)<=↑l
 |[],_=>Ln _
 |_::_,0=>q3V _
 |_::r,i+1=>q3O (Le r i)
def foldl_rep(aM:-O):∀k acc,
  q7Y (λx1 x2=>x1++x2) acc.toArray (q0q k aM.toArray)=(acc++(q0q k aM).flatten).toArray
 |0,acc=>by simp
 |k+1,acc=>by
  let e:acc.toArray++aM.toArray=(acc++aM).toArray:=by simp
  let e2:(acc++aM)++(q0q k aM).flatten=acc++(q0q (k+1) aM).flatten:=by
   rw[q2J,q6O,q12]
  rw[<-e2,<-foldl_rep aM k (acc++aM),<-e,q2J,uX]
section
variable{X:Cx}{pins:a9}{σ:St}{H:Hp}{s:ο}{l b:Y}{xs ys zs:-V}
def Inv.uU{aM ir:-O}{n:Nat}{f:Array O->Array O}{t':Nat}(I:Inv X pins σ H s)(hH:H l=Z (.lst xs))
  (e:s.heap.get? l=Z {cls:=.type "list",data:=.seq aM.toArray n}) (hf:f aM.toArray=ir.toArray) (hv:Vals ys ir) (hz:↑ys<=sizeLine) :
  Inv X pins σ (upd H l (.lst ys)) {s with heap:=s.heap.update l (q0Q f),toks:=t'}:=by
 let q:=PySem.IsL.update e f;rw[hf] at q;calc I.write   (by rw[hH];calc trivial) (.inl U) (λb' u hb hu=>(q1v s.heap (q0Q f) (q1_ hb)).trans hu) ⟨_,q⟩ ?_;calc⟨hz,ir,_,hv,q⟩
def Inv.cN{aM:-O}{t':Nat}(I:Inv X pins σ H s)(hv:Vals ys aM)(hz:↑ys<=sizeLine):
  Inv X pins σ (upd H ⇑s (.lst ys)) {s with heap:=s.heap.push {cls:=.type "list",data:=.seq aM.toArray},toks:=t'} :=
 I.laid (λ_ _ q=>Lm _ q) (Ln _) ⟨hz,aM,0,hv,q0f _ U⟩
def Inv.fresh(I:Inv X pins σ H s):H ⇑s=η:=I.bu.fresh (Ln _)
def Inv.kK(I:Inv X pins σ H s)(hH:H l=Z (.lst xs)):↑xs<=sizeLine/\∃(aM:-O)(n:Nat),Vals xs aM/\↑xs=↑aM/\s.heap.get? l=Z {cls:=.type "list",data:=.seq aM.toArray n}:=by
 let⟨z,aM,n,r,e⟩:=I.bu l _ hH;calc⟨z,aM,n,r,↑r,e⟩
def Lf{n:Nat}(h:n<=sizeLine):q3b n=ι:=by
 calc Ul ⋯
end
section
variable{X:Cx}
/---/def D2:V->-V->Hp->VK->Prop:=λx vs H Q=>∃l xs y,x=.ref l/\vs=[y]/\H l=Z (.lst xs)/\↑xs<sizeLine/\Q .non (upd H l (.lst (xs++[y])))
def mV:yf X "list.append" D2:=by
 ext pins s σ H x vs v us Q I rx rv h;let⟨l,xs,y,rfl,rfl,hH,hz,q⟩:=h;cases rx
 let⟨u,rfl,ru⟩:=rv.one;let⟨z,aM,n,r,hl,e⟩:=I.kK hH;calc q5g F.slot_list_append ⟨_,e,U⟩ F.entry_list_append (F.args_list_append_2 _ _) (PySem.list_append l aM.toArray n u (by rw[Uk];symm)) ⟨e,⟨.non,_,I.uU  hH e (by simp) (r.append (.cons ru .nil)) ?_,U,q⟩⟩;rw[Lo,q0J];symm
/---/def Lg:V->-V->Hp->VK->Prop:=λx vs H Q=>∃l b xs zs,x=.ref l/\vs=[.ref b]/\H l=Z (.lst xs)/\H b=Z (.lst zs)/\↑xs+↑zs<=sizeLine/\Q .non (upd H l (.lst (xs++zs)))
def Lh:yf X "list.extend" Lg:=by
 ext pins s σ H x vs v us Q I rx rv h;let⟨l,b,xs,zs,rfl,rfl,hH,hB,hz,q⟩:=h;cases rx
 let⟨u,rfl,ru⟩:=rv.one;cases ru
 calc wd λqB=>?_;let⟨z,aM,n,r,hl,e⟩:=I.kK hH;let⟨z2,bY,n2,r2,yg,e2⟩:=I.kK hB;let hsz:aM.toArray.size+bY.toArray.size<=sizeLine:=by rw[Uk,Uk];symm
 let oa:¬ (!aM.toArray.isEmpty&&q3b (aM.toArray.size+bY.toArray.size))=θ:=by
  rw[Lf hsz,q7Z];exact q1F
 refine qB <| q5g F.slot_list_extend ⟨_,e,U⟩ F.entry_list_extend (F.args_list_extend_2 _ _)
  (AutoSeq1.list_extend_list_list_0 l aM.toArray n b bY.toArray n2 oa ⋯ ⋯) ⟨e,e2,?_⟩
 calc⟨.non,_,I.uU  hH e (by simp) (r.append r2) ?_,U,q⟩;rw[Lo];symm
/---/def Li:V->-V->Hp->VK->Prop:=λx vs H Q=>∃l xs i k y,x=.ref l/\vs=[.int i]/\H l=Z (.lst xs) /\ -(2 ^ 63)<=i/\i<2 ^ 63/\seqIndex? i ↑xs=Z k/\xs[k]?=Z y/\Q y (upd H l (.lst (xs.eraseIdx k)))
def Ud:yf X "list.pop" Li:=by
 ext pins s σ H x vs v us Q I rx rv h;let⟨l,xs,i,k,y,rfl,rfl,hH,h1,h2,hk,hy,q⟩:=h;cases rx
 calc wd λiX=>?_;let⟨u,rfl,ru⟩:=rv.one;let⟨t,rfl⟩:=ru;let⟨z,aM,n,r,hl,e⟩:=I.kK hH;let⟨w,hw,kI⟩:=r.get hy
 refine iX <| q5g F.slot_list_pop ⟨_,e,U⟩ F.entry_list_pop (F.args_list_pop_2 _ _)
  (MeetsSeq.list_pop_at l aM.toArray n i t k w (q70 h1 h2) (by rw[Uk,<-hl];calc hk) (by rw[<-q0G];calc hw) (by rw[Uk];symm)) ⟨e,?_⟩
 refine⟨y,_,I.uU  hH e ?_ (r.eraseIdx k) ?_,kI,q⟩
 .rw[List.eraseIdxIfInBounds_toArray]
 .let:=Le xs k
  symm
/---/def D3:R2:=λx y H Q=>∃l b xs zs,x=.ref l/\y=.ref b/\H l=Z (.lst xs)/\H b=Z (.lst zs)/\↑xs+↑zs<=sizeLine/\∀p,H p=η->Q (.ref p) (upd H p (.lst (xs++zs)))
def Lj:fJ X (binaryOp .Add) D3:=by
 ext pins s σ H x y v u Q I rx ry h;let⟨l,b,xs,zs,rfl,rfl,hH,hB,hz,q⟩:=h;cases rx
 cases ry
 calc wd λiX=>?_;let⟨z,aM,n,r,hl,e⟩:=I.kK hH;let⟨z2,bY,n2,r2,yg,e2⟩:=I.kK hB;calc iX <| PySem.P.add_list e e2 ?_ (by rw[Uk,Uk];symm);let ea:aM.toArray++bY.toArray=(aM++bY).toArray:=by simp
 rw[ea];calc⟨.ref _,_,I.cN (t':=s.toks) (r.append r2) (by rw[Lo];symm),U,q _ I.fresh⟩
/---/def D4:R2:=λx y H Q=>∃l k xs,x=.ref l/\y=.int k/\H l=Z (.lst xs) /\ -(2 ^ 63)<=k/\k<2 ^ 63/\↑xs*k.toNat<=sizeLine ∧
 ∀p,H p=η->Q (.ref p) (upd H p (.lst (q0q k.toNat xs).flatten))
def len_rep{α:Type}(xs:-α)(k:Nat):(q0q k xs).flatten.length=k*↑xs:=by
 induction k with
 |zero=>simp
 |succ k ih=>rw[q2J,q6O,Lo,ih,q9j,Nat.add_comm]
def Ue:fJ X (binaryOp .Mult) D4:=by
 ext pins s σ H x y v u Q I rx ry h;let⟨l,k,xs,rfl,rfl,hH,h1,h2,hz,q⟩:=h;cases rx
 let⟨t,rfl⟩:=ry;let⟨z,aM,n,r,hl,e⟩:=I.kK hH;let hlen:aM.toArray.size*k.toNat<=sizeLine:=by rw[Uk,<-hl];exact hz
 let D5:¬ aM.toArray.size*k.toNat>(2 ^ 63-1) / 8:=by
  let:(sizeLine:Nat)<=(2 ^ 63-1) / 8:=by decide
  symm
 let D6:¬ (!Builtin.List.listFitsIndex k)=θ:=by
  rw[q70 h1 h2];exact q1F
 let oa:¬ q3b (aM.toArray.size*k.toNat)=θ:=by
  rw[Lf hlen];exact q1F
 let D7:q7Y (λx1 x2=>x1++x2) #[] (q0q (if aM.toArray.isEmpty=θ then 0 else k.toNat) aM.toArray)=(q0q k.toNat aM).flatten.toArray:=by
  let f0:∀m:Nat,q7Y (λx1 x2=>x1++x2) #[] (q0q m aM.toArray)=(q0q m aM).flatten.toArray:=λm=>by
   let:=foldl_rep aM m [];rw[q33] at this;exact this
  rw[f0]
  cases aM with
  |nil=>simp
  |cons a r'=>rw[q0l (by simp)]
 refine wpAny_binaryOp_repeat_ref (T:="list") (U:="int") (by decide) ⟨_,e,rfl⟩ (λs'=>q7X s' k t) noFill_list_mul F.fills_int_mul q7w repeat_list F.slot_int_index.lookup
  (q5g q7w (q7X s k t) F.entry_int_rmul (F.args_int_rmul_2 _ _) (int___rmul___int_list k t l aM.toArray n)
   ⟨e,rfl,⟨_,e,rfl⟩,q5g F.slot_list_mul ⟨_,e,rfl⟩ F.entry_list_mul (F.args_list_mul_2 _ _) (AutoListH.list___mul___list_int_3 l aM.toArray n k t D6 D5 oa) ⟨e,?_⟩⟩)
 rw[D7];calc⟨.ref _,_,I.cN (t':=s.toks) (r.rep k.toNat) (by rw[len_rep,q9b];calc hz),rfl,q _ I.fresh⟩
end
end L2
namespace Att
open PySem PySem.W PySem.Calls PyProof.Rows
def gF{P h}:∀ns vs,WellAll P h vs (ns.map WData.int)->IntsAre vs ns:=by
 ext ns
 induction ns with
 |nil =>
  ext vs w;cases w
  exact .nil
 |cons n ns ih =>
  ext vs w
  cases w with
  |cons a b =>
   cases a
   calc .cons _ _ (ih _ b)
def l3{l:OpenLaw}{n}(hn:l.most=Z n){P h args vals}
  (qC:l.row.toRowW.claim.pre args=θ) (D8:WellAll P h vals args) :
  ∃a vs ns,vals=[q1n a]/\args=[WData.list (ns.map WData.int)]/\h.get? a=Z {cls:=.type "list",data:=.seq vs.toArray}/\IntsAre vs ns/\↑ns<=n:=by
 let⟨d,r,rfl,h1,h2⟩:=hasAllW_cons ((pre_splitW qC).1);obtain rfl:=hasAllW_nil h2;let⟨xs,rfl,h3⟩:=hasW_list h1;let⟨ns,rfl⟩:=items_int h3
 let hlen:↑ns<=n:=by
  let h4:=by
   let h4:=(holds_andW ((pre_splitW qC).2)).1;rw[hn] at h4;exact h4
  let h5:=condW_of h4 (w_not (w_lt w_lit (w_len_list (w_arg U))));rw[ye] at h5;calc q61 λq=>?_;let q':(n:Int)<↑ns:=by symm
  first
   |(rw[q0g q'] at h5;calc absurd h5 (by decide))
   |(simp at h5)
 cases D8 with
 |cons w1 w2 =>
  cases w2
  cases w1 with
  |list ho jH=>calc⟨_,_,ns,U,U,ho,gF ns _ jH,hlen⟩
def l4(l:OpenLaw) args:l.row.toRowW.claim.post args (.bool θ) args=θ :=
 postW_of
  (by first|rfl|decide|symm)
  (w_eq_bool (w_res U) w_lit) U
def jQ{l:OpenLaw}{n:Nat}{q:ψ}{loose:-L}{XP:(L->Option O)->Α->Prop}{YP:ω->Α->Prop}{d:DefRec}
  (hn:l.most=Z n) (yh:d.params.defaults=[])
  (call:∀(w:ω)(s₀ s₁:ο)(mg mb:L->Option O)(fa:ξ)(o:Obj)(pm cd doc:O)(a:ξ)(vs:-O)(ns:-Int),
   Ground q loose [] XP w s₀ mg mb s₁.heap->YP w s₁.heap →
   s₁.heap.get? fa=Z o->o.data=.func (docDef d.name d.params d.body d.scope pm cd doc)->s₁.heap.CodeRec cd d.name->mg d.name=Z (.ref fa) →
   s₁.heap.get? a=Z {cls:=.type "list",data:=.seq vs.toArray}->IntsAre vs ns->↑ns<=n->s₁.gens = #[] →
   codeAny (ς l.prog w) callerA (.call (.ref fa) ⟨[.ref a],[]⟩) (λr s'=>r=.ok (.ret (.bool θ))/\OldK s₁.heap s'.heap/\s'.os=s₁.os/\AllBare s'.gens) s₁) :
  WalkO q loose XP YP l.row.toRowW d [] (λf vs=>q72 f vs):=by
 ext w s₀ s₁ mg mb G Y fa o pm cd doc dV kV ho hd jM hD qD hg args vals as qC Ug hrd D8 hlo;obtain rfl:dV=.none:=Dflts.none hD yh;obtain rfl:kV=.none:=Dflts.noKw hD;let⟨a,vs,ns,rfl,rfl,uV,hints,hlen⟩:=l3 hn qC D8;calc enter_call (q2C (call w s₀ s₁ mg mb fa o pm cd doc a vs ns G Y ho (fd_plain hd) jM qD uV hints hlen hg) λr s' hq=>?_);let⟨rfl,h2,h3,h4⟩:=hq;calc⟨.inl ⟨.bool θ,.bool θ,[],U,λ_=>U,.bool θ,l4 l _,λ_=>⟨q6w,λ_ hm=>(nomatch hm)⟩⟩,h2,h3,h4⟩
end Att
namespace L2
open PySem PySem.Spec PyProof.Rows
def Lk:∀{vs ns},IntsAre vs ns->Vals (ns.map V.int) vs
 |_,_,.nil=>.nil
 |_,_,.cons n t h=>.cons ⟨t,U⟩ (Lk h)
meta def inClass(s:χ)(j:Nat):χ:=match s with
 |.ClassDef _ _ _ body _ _ _ _ _ _ _=>body.getD j (.Pass ⟨0,0,0,0⟩)
 |_=>.Pass ⟨0,0,0,0⟩
meta def jR(s:χ):Arguments:=match s with
 |.FunctionDef _ a _ _ _ _ _ _ _ _=>a
 |_=>{posonlyargs:=[],args:=[],vararg:=none,kwonlyargs:=[],kw_defaults:=[],kwarg:=none,defaults:=[]}
meta def gG(s:χ):-χ:=match s with
 |.FunctionDef _ _ b _ _ _ _ _ _ _=>b
 |_=>[]
meta def cW(s:χ):Γ:=match s with
 |.FunctionDef _ _ _ _ _ _ sc _ _ _=>sc
 |_=>{kind:=.function,names:=[],isGenerator:=false,isCoroutine:=false}
abbrev f_:mT:=λ_ _ _ _ _ _=>False
abbrev E0:XK:=λ_ _ _=>False
def qF{X}:tI f_ X E0:=λ_ _ _ _ _ _ _ h=>h.elim
structure hW(K:q0b)(x qual:L)(st:χ)(f:Y)(fd:FuncData):Prop where
 ex:∃(oc:O)(od:Option Y)(kV doc pm:O)(an:Option Y)(bF ct:O)(qv:Array (Option O)),
  fd=q1f x qual (jR st) (gG st) (cW st) .none kV doc pm an bF ct/\K.lookup f=Z ⟨oc,od,.func fd,qv⟩/\q23 K bF qual=θ
 kp:q1q K (.ref f)=θ
section
variable{P:ψ}{w:ω}{K:q0b}{mg:L->Option O}{base:Α}
def hW.yi{x qual:L}{st:χ}{f:Y}{fd:FuncData}{N ps:-L}{k:Nat}{sp:Sp}(F:hW K x qual st f fd)(S:pF N ps (cW st))(len:∀vs H Q E,sp vs H Q E->↑vs=↑ps)
  (fN:∀(bF:O)(A:Β)(outer:-Env)(s:ο)(H:Hp)(vs:-V)(Q:VK)(E:XK),bA k (A.deeper (envOfC qual (cW st) ⇑s f bF))->sp vs H Q E →
   ∃t,eQ (gE f_ P w K mg base N qual (cW st) f bF A outer s H E).mS (gG st) t/\t {nx:=λ_ H'=>Q .non H',rt:=Q} (start N vs) H):cB P w K mg base f_ (k+1) f fd ps sp:=by
 let⟨oc,od,kV,doc,pm,an,bF,ct,qv,rfl,lk,jM⟩:=F.ex;calc z5O lk jM S len λA outer s H vs Q E hr tK=>?_;let⟨t,h,q⟩:=fN bF A outer s H vs Q E hr tK;calc⟨t,h.mS,q⟩
def hW.binds{x qual:L}{st:χ}{f:Y}{fd:FuncData}{ps:-L}(F:hW K x qual st f fd)
  (h:∀(kV doc pm:O)(an:Option Y)(bF ct:O)(us:-O),↑us=↑ps->bindArgs (q1f x qual (jR st) (gG st) (cW st) .none kV doc pm an bF ct) ⟨us,[]⟩=pure (ps.zip us)):Binds K fd ps []:=by
 let⟨oc,od,kV,doc,pm,an,bF,ct,qv,rfl,lk,jM⟩:=F.ex;calc .all (h kV doc pm an bF ct)
def Ax{x qual:L}{st:χ}{f:Y}{oc:O}{od an:Option Y}{qv:Array (Option O)}{kV doc pm bF ct:O}(l:K.lookup f=Z ⟨oc,od,.func (q1f x qual (jR st) (gG st) (cW st) .none kV doc pm an bF ct),qv⟩)
  (c:q23 K bF qual=θ) (k:q1q K (.ref f)=θ):hW K x qual st f (q1f x qual (jR st) (gG st) (cW st) .none kV doc pm an bF ct):=⟨⟨oc,od,kV,doc,pm,an,bF,ct,qv,U,l,c⟩,k⟩
end
def mW{n:Nat}(h:n<=1000):n<sizeLine:=q4o h (by decide)
section
variable{X:Cx}
def jv(i:Nat){x:L}{pos:Δ}(hN:‹X.N[i]?=Z x›)(hv:xD X.env.scope x:=by first|exact q4h U|exact q5C (q4h U)|calc q5C (q5C U))(hd: ~~~(cm x))
  (jM: ~~~((x==("__classdict__" : L))=ι)):JE X (.Name x pos) (jL i):=Kp hN hv hd jM
end
/---/def bf(H H':Hp):Prop:=∀b o,H b=Z o->H' b=Z o
def bf.trans{H H1 H2:Hp}(a:bf H H1)(b:bf H1 H2):bf H H2:=λc o h=>b c o (a c o h)
def bf.free{H H':Hp}(e:bf H H'){l:Y}(h:H' l=x0v):H l=x0v:=by
 cases q:H l with
 |none=>rfl
 |some o =>
  rw[e l o q] at h;cases h
def bf.seq{K:q0b}{H H':Hp}{a:Y}{xs:-V}(e:bf H H')(h:bR K H a xs):bR K H' a xs:=by
 rcases h with(h|⟨o,h⟩)|h
 .exact .inl (.inl (e _ _ h))
 .exact .inl (.inr ⟨o,e _ _ h⟩)
 .calc .inr h
def Um{prog w A}{R:Result->ο->Prop}{s elt target iter ifs scope pos it acc env}(I:Nat->ο->Prop)
  (turn:∀n s,I n s->ρ (ς prog w) A (pyNext it) (λr s₁=>match r with
   |none=>R (.ok .next) s₁
   |some v=>ρ (ς prog w) A (letOwnedTupleGo target it v) (λ_ s₂=>ρ (ς prog w) A (assign target env v) (λ_ s₃ =>
     ρ (ς prog w) A (forIn ifs θ λc r=>if r=θ then do let ok <- isTrue c env (eval c env);pure (q1R ok) else pure (q1R r)) (λok s₄ =>
      if ok=θ then ρ (ς prog w) A (eval elt env) (λx s₅ =>
       ρ (ς prog w) A (call (.builtin "list.append") [acc,x]) (λ_ s₆=>∃m,m<n/\I m s₆) (λ_ _=>False) s₅) (λ_ _=>False) s₄
      else ∃m,m<n/\I m s₄) (λ_ _=>False) s₃) (λ_ _=>False) s₂) (λ_ _=>False) s₁) (λ_ _=>False) s)
  n (h:I n s) :
  codeAny (ς prog w) A (.compLoop (.ListComp elt [⟨target,iter,ifs,0⟩] scope pos) 0 it acc env) R s:=by
 refine codeAny_loop U I (λn s hI=>wpAny_noted (Aw (q2W (Aw (q1C (turn n s hI) (λr s₁ h₁=>?_) λ_ _ h'=>q1D h'))))) n h
 cases r with
 |none=>exact Ui h₁
 |some v =>
  refine Aw (q1C h₁ (λ_ s₂ h₂=>Aw (q1C h₂ (λ_ s₃ h₃=>Aw (q1C h₃ (λok s₄ h₄=>?_) λ_ _ h'=>q1D h')) λ_ _ h'=>q1D h')) λ_ _ h'=>q1D h')
  cases ok with
  |false=>exact Ui ⟨U,h₄⟩
  |true =>
   calc Aw (Aw (q1C h₄ (λx s₄ h₄=>Aw (q1C h₄ (λ_ s₅ h₅=>Ui (Ui ⟨U,h₅⟩)) λ_ _ h'=>q1D h')) λ_ _ h'=>q1D h'))
def D_{env}:∀(names:-(L×NameKind)) acc,(∀y∈names,y.2=.free->∃c,env.cells.lookup y.1=Z c)->(∀x c,acc.lookup x=Z c->env.cells.lookup x=Z c) →
  ∃cl,(forIn names acc (λ(x:Str×NameKind) (cs:-(Str×Addr))=>if x.2==q1Y then cellOf env x.1 >>= λa=>pure (q1R ((x.1,a)::cs)) else pure (q1R cs)):Sem (-(L×Y)))=pure cl ∧
   (∀x c,cl.lookup x=Z c->env.cells.lookup x=Z c)/\(∀y∈names,y.2=.free->∃c,cl.lookup y.1=Z c)/\(∀x c,acc.lookup x=Z c->∃c,cl.lookup x=Z c)
 |[],acc,_,h2=>⟨acc,U,h2,λ_ hy=>absurd hy (by simp),λx c e=>⟨c,e⟩⟩
 |(n,k)::r,acc,h1,h2=>by
  rw[List.forIn_cons]
  by_cases hk:k=.free
  .subst hk
   let⟨c,hc⟩:=h1 (n,.free) q0d U;let jK:=hc;let ec:cellOf env n=pure c:=by unfold cellOf;rw[jK]
   let iP:∀x d,((n,c)::acc).lookup x=Z d->env.cells.lookup x=Z d:=λx d e=>by
    rw[q0E] at e
    cases q:x==n with
    |true =>
     rw[q] at e;cases e
     rw[q1K q];exact jK
    |false =>
     rw[q] at e;exact h2 x d e
   let⟨cl,e,p1,p2,p3⟩:=D_ r ((n,c)::acc) (λy hy=>h1 y (q0p _ hy)) iP;refine⟨cl,?_,p1,λy hy hf=>?_,λx d e=>?_⟩
   .dsimp only
    rw[q0r (by decide),ec];exact e
   .rcases q0c.mp hy with rfl|hy
    .exact p3 n c (by simp)
    .exact p2 y hy hf
   .cases q:x==n with
    |true=>exact p3 x c (by rw[q0E,q])
    |false=>exact p3 x d (by rw[q0E,q];calc e)
  .let⟨cl,e,p1,p2,p3⟩:=D_ r acc (λy hy=>h1 y (q0p _ hy)) h2
   refine⟨cl,?_,p1,λy hy hf=>?_,p3⟩
   .rw[q0l hk⁻¹]
    exact e
   .rcases q0c.mp hy with rfl|hy
    .exact absurd hf hk
    .calc p2 y hy hf
def Ea{scope env}(h:∀y∈scope.names,y.2=.free->∃c,env.cells.lookup y.1=Z c):
  ∃cl,closureFor scope env=pure cl/\(∀x c,cl.lookup x=Z c->env.cells.lookup x=Z c)/\∀y∈scope.names,y.2=.free->∃c,cl.lookup y.1=Z c:=by
 let⟨cl,e,p1,p2,_⟩:=D_ scope.names [] h (λx c e=>by simp at e);calc⟨cl,?_,p1,p2⟩;let e':closureFor scope env=(forIn scope.names [] (λx cs=>if x.2==q1Y then cellOf env x.1 >>= λa=>pure (q1R ((x.1,a)::cs)) else pure (q1R cs))) >>= pure:=U;rw[e',e];rfl
structure BD where
 cl:-(L×Y)
 C:Y
 s:ο
 H:Hp
 fp:-Y
@[reducible] noncomputable def c7 (X:Cx) (scope:Γ) (Nb:-L) (d:BD):Cx where
 prog:=X.prog
 w:=X.w
 K:=X.K
 mg:=X.mg
 base:=X.base
 A:=X.A
 N:=Nb
 s₀:=d.s
 H₀:=d.H
 env:=compEnvC scope d.cl d.C X.env
 outer:=X.stack
 stack:=X.stack
 ex:=d.fp
 fn:=λx=>I (scope.names.lookup x=Z .cell)
 calm:=X.calm
 pn:=[]
 xe:=λ_ _=>False
meta def l5(cp:-(Option Nat))(σ:St):St:=cp.map λo=>match o with
 |some i=>(σ[i]?).join
 |none=>η
meta def mX(N:-L)(Az scope:Γ)(Nb:-L)(cp:-(Option Nat)):Bool :=
 (scope.names.all λy=>(I (y.2≠.cell)||I (scope.names.lookup y.1=Z .cell))&&(I (y.2≠.local)||I (scope.names.lookup y.1=Z .local))&&(I (y.2≠.free)||I (Az.names.lookup y.1=Z .cell)||I (Az.names.lookup y.1=Z .free))) &&
 I (↑cp=↑Nb)&&(cp.zip Nb).all λz=>match z.1 with
  |none=>θ
  |some i=>I (N[i]?=Z z.2)&&I (scope.names.lookup z.2=Z .free)
structure AA(X:Cx)(scope:Γ)(Nb:-L)(cp:-(Option Nat)):Prop where
 kind:scope.kind=.function
 cell:∀y∈scope.names,y.2=.cell->scope.names.lookup y.1=Z .cell
 names:∀y∈scope.names,y.2=.local->scope.names.lookup y.1=Z .local
 free:∀y∈scope.names,y.2=.free->(X.env.kindOf y.1=Z .cell\/X.env.kindOf y.1=Z .free)
 len:↑cp=↑Nb
 yj:∀(j i:Nat)(x:L),cp[j]?=Z (Z i)->Nb[j]?=Z x->X.N[i]?=Z x/\scope.names.lookup x=Z .free
def yk{X scope Nb cp}(hk:scope.kind=.function)(h:mX X.N X.env.scope scope Nb cp=θ):AA X scope Nb cp:=by
 unfold mX at h;erw[q04,q1J,q34,q0u] at h;let⟨⟨h1,h2⟩,h3⟩:=h;refine⟨hk,λy hy e=>(h1 y hy).1.1.resolve_left (λz=>z e),λy hy e=>?_,λy hy e=>?_,h2,λj i x e1 e2=>?_⟩
 .rcases (h1 y hy).1.2 with z|z
  .exact absurd e z
  .exact z
 .rcases (h1 y hy).2 with(z|z)|z
  .exact absurd e z
  .exact .inl z
  .exact .inr z
 .let hm:=by
   let:(cp.zip Nb)[j]?=Z (Z i,x):=by
    rw[List.getElem?_zip_eq_some];exact⟨e1,e2⟩
   exact q0I this
  let:=h3 _ hm;simpa using this
def Eb{env:Env}{x}:∀{names:-(L×NameKind)}{k},names.lookup x=Z k →
  (names.map λ(n,k)=>if(k==q1Y&&env.scope.kind==.function&&env.kindOf n==Z .cell) then(n,q1Z) else(n,k)).lookup x =
   Z (if(k==q1Y&&env.scope.kind==.function&&env.kindOf x==Z .cell) then q1Z else k)
 |[],k,h=>by simp at h
 |(n,k')::r,k,h=>by
  let ih:=@Eb env x r k;show q2Q x ((if(k'==q1Y&&env.scope.kind==.function&&env.kindOf n==Z .cell)=θ then(n,q1Z) else(n,k'))::_)=_
  cases hx:x==n with
  |true =>
   erw[q0E,hx] at h;cases h
   let e:=q1K hx;subst e
   by_cases hc:(k'==q1Y&&env.scope.kind==.function&&env.kindOf x==Z .cell)=θ
   .rw[q0r hc,q0r hc];simp[q0E]
   .rw[q0l hc,q0l hc];simp[q0E]
  |false =>
   erw[q0E,hx] at h
   by_cases hc:(k'==q1Y&&env.scope.kind==.function&&env.kindOf n==Z .cell)=θ
   .rw[q0r hc];erw[q0E,hx];exact ih h
   .rw[q0l hc];erw[q0E,hx];calc ih h
def Lp{env:Env}{x}:∀{names:-(L×NameKind)},names.lookup x=η →
  (names.map λ(n,k)=>if(k==q1Y&&env.scope.kind==.function&&env.kindOf n==Z .cell) then(n,q1Z) else(n,k)).lookup x=η
 |[],h=>by simp
 |(n,k')::r,h=>by
  let ih:=@Lp env x r;show q2Q x ((if(k'==q1Y&&env.scope.kind==.function&&env.kindOf n==Z .cell)=θ then(n,q1Z) else(n,k'))::_)=_
  cases hx:x==n with
  |true=>erw[q0E,hx] at h;cases h
  |false =>
   erw[q0E,hx] at h
   by_cases hc:(k'==q1Y&&env.scope.kind==.function&&env.kindOf n==Z .cell)=θ
   .rw[q0r hc];erw[q0E,hx];exact ih h
   .rw[q0l hc];erw[q0E,hx];calc ih h
structure JF(X:Cx)(ifs:-υ)(t:TT):Prop where
 out:∀(pins:a9)(s:ο)(σ:St)(H:Hp)(Q:Bool->Hp->Prop),Inv X pins σ H s->t σ H Q →
  ρ (ς X.prog X.w) X.A (forIn ifs θ λc r=>if r=θ then do let ok <- isTrue c X.env (eval c X.env);pure (q1R ok) else pure (q1R r)) (TP X pins σ Q) X.xe s
instance {X:Cx} {ifs:-υ} {t:TT}:CoeFun (JF X ifs t) (λ_=>∀(pins:a9)(s:ο)(σ:St)(H:Hp)(Q:Bool->Hp->Prop),Inv X pins σ H s->t σ H Q->ρ (ς X.prog X.w) X.A (forIn ifs θ λc r=>if r=θ then do let ok <- isTrue c X.env (eval c X.env);pure (q1R ok) else pure (q1R r)) (TP X pins σ Q) X.xe s):=⟨JF.out⟩
/---/def Ec:TT:=λ_ H Q=>Q θ H
def uZ{X}:JF X [] Ec:=⟨λ_ _ _ H _ I h=>wpAny_tests_nil ⟨H,I,h⟩⟩
def Uo{X:Cx}{c:υ}{t:TT}(h:JT X c t):JF X [c] t:=⟨λpins s σ H Q I hw=>wpAny_tests_one (h pins s σ H Q I hw)
⟩
/---/def Uq(g:TG)(tf:TT)(te:TE)(l:Y)(x:V)(τ:St)(H:Hp)(N:St->Hp->Prop):Prop :=
 g x τ H fun τ2 H2=>tf τ2 H2 λb H3=>if b=θ then te τ2 H3 λy H4=>∃ys,H4 l=Z (.lst ys)/\↑ys<sizeLine/\N τ2 (upd H4 l (.lst (ys++[y]))) else N τ2 H3
/---/def Lq(J:It)(g:TG)(tf:TT)(te:TE)(l:Y)(τ0:St)(H0:Hp)(Q:VK):Prop :=
 ∃W:Nat->Nat->St->Hp->Prop,(∃m,W 0 m τ0 H0)/\∀i m τ H,W i m τ H →
  (J.stop i H/\Q (.ref l) H)\/(J.go i H/\∃N:St->Hp->Prop,(∀τ' H',N τ' H'->∃m',m'<m/\W (i+1) m' τ' H')/\∀x H',J.v7 i H x H'->Uq g tf te l x τ H' N)
/---/def ym(wi:TI)(cp:-(Option Nat))(g:BD->TG)(tf:BD->TT)(te:BD->TE):TE:=fun σ H Q=>wi σ H λJ H1=>∀(d:BD)(l:Y),H1 l=η->Lq J (g d) (tf d) (te d) l (l5 cp σ) (upd H1 l (.lst [])) Q
def we:∀{names n acc x c},(cellsFrom n names acc).lookup x=Z c->acc.lookup x=Z c\/(n<=c/\(x,q1Z)∈names)
 |[],n,acc,x,c,h=>.inl h
 |(y,k)::r,n,acc,x,c,h=>by
  unfold cellsFrom at h;split at h
  .rename_i hk
   let ek:=q1K hk;subst ek;rcases we h with h|⟨h,m⟩
   .rw[q0E] at h
    cases q:x==y with
    |true=>rw[q] at h;cases h;rw[q1K q];exact .inr ⟨Ln _,q0d ..⟩
    |false=>rw[q] at h;exact .inl h
   .exact .inr ⟨⋯,q0p _ m⟩
  .rcases we h with h|⟨h,m⟩
   .exact .inl h
   .calc .inr ⟨h,q0p _ m⟩
def Ed:∀{names:-(L×NameKind)}{n:Nat}{acc:-(L×Y)}{x:L}{c:Y},(x,q1Z)∈names->(cellsFrom n names acc).lookup x=Z c->n<=c
 |[],n,acc,x,c,m,h=>by cases m
 |(y,k)::r,n,acc,x,c,m,h=>by
  unfold cellsFrom at h
  by_cases mr:(x,q1Z)∈r
  .split at h
   .let:=Ed mr h;symm
   .exact Ed mr h
  .let e:(x,q1Z)=(y,k):=by
    rcases q0c.mp m with e|e
    .exact e
    .exact absurd e mr
   cases e
   rcases we h with h|⟨h,_⟩
   .rw[q0E,beq_self_eq_true] at h
    cases h;exact Ln _
   .omega
def Ee:∀{names:-(L×NameKind)}{n:Nat}{acc:-(L×Y)}{x y:L}{c:Y},(∀u v c,acc.lookup u=Z c->acc.lookup v=Z c->u=v)->(∀u c,acc.lookup u=Z c->c<n)->(cellsFrom n names acc).lookup x=Z c->(cellsFrom n names acc).lookup y=Z c->x=y
 |[],n,acc,x,y,c,hi,_,h1,h2=>hi x y c h1 h2
 |(z,k)::r,n,acc,x,y,c,hi,hb,h1,h2=>by
  unfold cellsFrom at h1 h2;split at h1
  .rename_i hk
   rw[q0r hk] at h2;refine Ee (λu v c q1 q2=>?_) (λu c q=>?_) h1 h2
   .rw[q0E] at q1 q2
    cases e1:u==z with
    |true =>
     rw[e1] at q1;cases q1
     cases e2:v==z with
     |true=>rw[q1K e1,q1K e2]
     |false=>rw[e2] at q2;exact absurd (hb v _ q2) (q2G _)
    |false =>
     rw[e1] at q1
     cases e2:v==z with
     |true=>rw[e2] at q2;cases q2;exact absurd (hb u _ q1) (q2G _)
     |false=>rw[e2] at q2;exact hi u v c q1 q2
   .rw[q0E] at q
    cases e1:u==z with
    |true=>rw[e1] at q;cases q;exact q1U _
    |false=>rw[e1] at q;exact q0Z (hb u c q)
  .rename_i hk
   rw[q0l hk] at h2;calc Ee hi hb h1 h2
def Ef:∀{names:-(L×NameKind)}{n:Nat}{acc:-(L×Y)}{x:L},(x,q1Z)∉names->(cellsFrom n names acc).lookup x=acc.lookup x
 |[],n,acc,x,_=>U
 |(y,k)::r,n,acc,x,m=>by
  unfold cellsFrom;split
  .rename_i hk
   let ek:=q1K hk;subst ek;rw[Ef λz=>m (q0p _ z),q0E]
   cases q:x==y with
   |true=>exact absurd (by rw[q1K q];calc q0d ..) m
   |false=>rfl
  .calc Ef λz=>m (q0p _ z)
def Eg:∀{names:-(L×NameKind)}{h:Α}{acc:-(L×Y)}{x:L}{c:Y},(∀u c,acc.lookup u=Z c->∃v,h.IsCell c v)->(cellsFrom h.objs.size names acc).lookup x=Z c->∃v,(pushCells h names).IsCell c v
 |[],h,acc,x,c,hc,e=>hc x c e
 |(y,k)::r,h,acc,x,c,hc,e=>by
  unfold cellsFrom at e;unfold pushCells;split at e
  .rename_i hk
   rw[q0r hk];let hz:(h.push {cls:=.type "cell",data:=.cell η}).objs.size=h.objs.size+1:=q1E ..;rw[<-hz] at e;calc Eg (λu c q=>?_) e;rw[q0E] at q
   cases e1:u==y with
   |true=>rw[e1] at q;cases q;exact⟨η,_,q0f _ U,U⟩
   |false =>
    rw[e1] at q;let⟨v,o,g1,g2⟩:=hc u c q;exact⟨v,o,Lm _ g1,g2⟩
  .rename_i hk
   rw[q0l hk];calc Eg hc e
def Ur{M:Model}{A:Β}{E:bz}{s:ο}{scope:Γ}{g:Y}{cl:-(L×Y)}{qual:L}{env:Env}{Q:Env->ο->Prop}
  (h:Q (newEnv scope ⇑s g (cellsFrom (⇑s+1) scope.names cl) qual η .none (Z env) builtinsNs) {s with heap:=pushCells (s.heap.push {cls:=.type "dict",data:=.dict #[]}) scope.names}) :
  ρ M A (newFunctionEnv scope g cl [] qual η .none (Z env)) Q E s:=by
 calc Aw (wpAny_alloc (Aw (wpAny_layCells _ (λname kind cells=>U) _ _ _ _ ?_)));rw[q1E ..];calc Aw (Ui (Ui h))
section
variable{X:Cx}{elt tg iter:υ}{ifs:-υ}{scope:Γ}{pos:Δ}{Nb:-L}{cp:-(Option Nat)}{wi:TI}{g:BD->TG}{tf:BD->TT}{te:BD->TE}
variable{pins:a9}{σ:St}{H:Hp}{s:ο}
meta abbrev AB(scope:Γ)(s:ο)(cl:-(L×Y)):-(L×Y):=cellsFrom (⇑s+1) scope.names cl
def Us{fp:-Y}{cl:-(L×Y)}(S:AA X scope Nb cp)(I:Inv X pins σ H s)(hf:∀b∈fp,bW X pins H b)(ho:∀b∈fp,∃o,s.heap.get? b=Z o)
  (c1:∀x c,cl.lookup x=Z c->X.env.cells.lookup x=Z c) (c2:∀y∈scope.names,y.2=.free->∃c,cl.lookup y.1=Z c):(c7 X scope Nb ⟨AB scope s cl,⇑s,s,H,fp⟩).Ok:=by
 let Ut:∀b∈fp,b∉mQ X.stack:=λb hb z=>by
  let⟨_,f1,f2,_⟩:=hf b hb;rcases q0c.mp (I.iQ b z) with e|e
  .exact f1 e
  .exact f2 e
 let lt:∀u c,cl.lookup u=Z c->c<⇑s:=λu c e=>by
  let⟨v,q⟩:=I.cell u c (c1 _ _ e);exact q.lt
 refine⟨I.ok.mod,?_,I.ok.glob,I.ok.blt,Ln _,λx y c h1 h2=>?_,λx hx=>?_,λx c h hc=>?_,I.ok.hd,I.ok.frames,.inl U,λb hb=>⟨?_,λx c e=>?_⟩,I.bs,q0N I.ok.nQ I.sz,λb o e hb=>?_,Ut,I.stack,I.lr⟩
 .exact S.kind
 .exact Ee (λu v c q1 q2=>I.ok.inj u v c (c1 _ _ q1) (c1 _ _ q2)) (λu c e=>q0Z (lt u c e)) h1 h2
 .cases q:scope.names.lookup x with
  |none =>
   let z:(relabel scope X.env).names.lookup x=η:=Lp q;let oe:(relabel scope X.env).names.lookup x=Z .cell\/(relabel scope X.env).names.lookup x=Z .free:=hx;rw[z] at oe;rcases oe with h|h<;>cases h
  |some k =>
   let z:(relabel scope X.env).names.lookup x=_:=Eb  q;let oe:(relabel scope X.env).names.lookup x=Z .cell\/(relabel scope X.env).names.lookup x=Z .free:=hx;rw[z] at oe
   let kf:k=.free\/k=.cell:=by
    by_cases hk:k=.free
    .exact .inl hk
    .let:(k==q1Y)=ι:=by simpa using hk
     erw[this,q7T,q1T,q2S] at oe;rcases oe with h|h
     .exact .inr (q0P h)
     .exact absurd (q0P h) hk
   calc q4T.mp (q3x scope.names _ cl ?_);rcases kf with rfl|rfl
   .let⟨c,e⟩:=c2 (x,.free) (q1B q) U
    exact .inr (by rw[e];rfl)
   .exact .inl q
 .let:=Ed (q1B (q00 h)) hc
  exact Nat.le_of_succ_le this
 .let⟨o,e⟩:=ho b hb
  exact q0o (q0h e)
 .rcases we e with e|⟨e,_⟩
  .exact (hf b hb).2.2.2.2.1 x c (c1 _ _ e)
  .let⟨o,eo⟩:=ho b hb
   ext z;subst z;exact absurd ⋯ (x11.mpr (q1e (q0h eo)))
 .rcases (hf b hb).2.2.2.1 with z|z
  .exact I.ok.jJ b o e z
  .calc absurd (q0v (q0h (I.ok.bs b o e).1) z) ⋯
def Uu{cp:-(Option Nat)}{σ:St}{j:Nat}{v:V}(h:(l5 cp σ)[j]?=Z (Z v)):∃i,cp[j]?=Z (Z i)/\σ[i]?=Z (Z v):=by
 unfold l5 at h;rw[Uj] at h
 cases e:cp[j]? with
 |none=>rw[e] at h;cases h
 |some o =>
  rw[e] at h
  cases o with
  |none=>cases h
  |some i =>
   calc⟨i,U,?_⟩;let h':(σ[i]?).join=Z v:=q0P h
   cases q:σ[i]? with
   |none=>rw[q] at h';cases h'
   |some z =>
    rw[q] at h';let:z=Z v:=h';rw[this]
def Uv{fp:-Y}{cl:-(L×Y)}{h1:Α}{tk:Nat}(S:AA X scope Nb cp)(I:Inv X pins σ H s)(hf:∀b∈fp,bW X pins H b)(ho:∀b∈fp,∃o,s.heap.get? b=Z o)
  (c1:∀x c,cl.lookup x=Z c->X.env.cells.lookup x=Z c) (c2:∀y∈scope.names,y.2=.free->∃c,cl.lookup y.1=Z c)
  (hn:h1.Ns ⇑s (λx=>([]:-(L×O)).reverse.lookup x)) (hk:∀b o,s.heap.get? b=Z o->h1.get? b=Z o) (wa:∀x c,(AB scope s cl).lookup x=Z c->∃v,h1.IsCell c v) :
  Inv (c7 X scope Nb ⟨AB scope s cl,⇑s,s,H,fp⟩) [] (l5 cp σ) H {s with heap:=h1,toks:=tk}:=by
 refine⟨Us S I hf ho c1 c2,U,I.bare,Un.kept hk,⟨_,hn,λj x v e1 e2 e3=>?_⟩,wa,I.bu.fresh (Ln _),λx c e=>?_,λp hp=>absurd (hp) (by simp),I.bu.kept hk,?_⟩
 .calc wd λqG=>?_;let⟨i,q1,q2⟩:=Uu e2
  let⟨q3,q4⟩:=S.yj j i x q1 e1;let hm:=q1B q4;let tN:=S.free _ hm U;let⟨m,_,hl⟩:=I.loc
  let Uw:xD X.env.scope x:=by
   rcases tN with h|h
   .exact .inr (.inl h)
   .exact .inr (.inr h)
  let⟨u,ru,lk⟩:=hl i x v q3 q2 Uw;refine qG <| ⟨u,ru,?_⟩
  let nl:X.env.kindOf x≠Z .local:=by
   rcases tN with h|h
   .ext z;rw[h] at z;cases z
   .ext z;rw[h] at z;cases z
  rcases lk with⟨k,_⟩|⟨_,c,ec,hc⟩
  .exact absurd k nl
  .let⟨c',Lr⟩:=c2 (x,.free) hm U
   let Lu:=c1 _ _ Lr;rw[ec] at Lu;cases Lu;let nc:(x,q1Z)∉scope.names:=λz=>by let:=S.cell _ z U;rw[q4] at this;cases this
   refine .inr ⟨?_,c,(Ef nc).trans Lr,?_⟩
   .let z:(relabel scope X.env).names.lookup x=_:=Eb  q4
    show(relabel scope X.env).names.lookup x=Z .cell\/(relabel scope X.env).names.lookup x=Z .free;rw[z];split
    .exact .inl U
    .exact .inr U
   .let⟨o,e,d⟩:=hc
    exact⟨o,hk _ _ e,d⟩
 .rcases we e with e|⟨e,_⟩
  .exact I.c9 x c (c1 _ _ e)
  .exact I.bu.fresh ⋯
 .unfold l5
  rw[ye];calc S.len
def Ux{fp d it l tn J}{R:Result->ο->Prop}{Q:VK}{H1 s1}{τ:St}(hc:X.calm=θ)
  (hg:JG (c7 X scope Nb d) tg (g d)) (hf:JF (c7 X scope Nb d) ifs (tf d)) (he:JE (c7 X scope Nb d) elt (te d)) (T:Turn X.prog X.w X.K tg J fp it tn)
  (dfp:d.fp=fp) (I1:Inv (c7 X scope Nb d) [] τ H1 s1) (kC:tn 0 s1.heap) (Lw:∀b∈fp,bW (c7 X scope Nb d) [] H1 b)
  (W:Nat->Nat->St->Hp->Prop) (w0:∃m,W 0 m τ H1)
  (turn:∀i m τ H,W i m τ H->(J.stop i H/\Q (.ref l) H)\/(J.go i H/\∃N:St->Hp->Prop,(∀τ' H',N τ' H'->∃m',m'<m/\W (i+1) m' τ' H')/\∀x H',J.v7 i H x H'->g d x τ H' fun τ2 H2=>tf d τ2 H2 λb H3 =>
   if b=θ then te d τ2 H3 λy H4=>∃ys,H4 l=Z (.lst ys)/\↑ys<sizeLine/\N τ2 (upd H4 l (.lst (ys++[y]))) else N τ2 H3))
  (fin:∀τ' H' s',Inv (c7 X scope Nb d) [] τ' H' s'->Q (.ref l) H'->R (.ok .next) s') :
  codeAny (ς X.prog X.w) X.A (.compStart (.ListComp elt [⟨tg,iter,ifs,0⟩] scope pos) 0 (.ref it) (.ref l) (compEnvC scope d.cl d.C X.env)) R s1:=by
 let kE:∀{H'},(∀b∈fp,H' b=η)->∀b∈fp,bW (c7 X scope Nb d) [] H' b:=λhn b hb=>⟨hn b hb,(Lw b hb).2⟩
 let loop:codeAny (ς X.prog X.w) X.A (.compLoop (.ListComp elt [⟨tg,iter,ifs,0⟩] scope pos) 0 (.ref it) (.ref l) (compEnvC scope d.cl d.C X.env)) R s1:=by
  let⟨m0,w0⟩:=w0;calc Um (λn s'=>∃i τ' H',Inv (c7 X scope Nb d) [] τ' H' s'/\tn i s'.heap/\(∀b∈fp,H' b=η)/\W i n τ' H') ?_ m0 ⟨0,τ,H1,I1,kC,λb hb=>(Lw b hb).1,w0⟩;ext n s3 ⟨i,σ3,H3,I3,v8,xT,w3⟩;rcases turn i n σ3 H3 w3 with⟨stop,qn⟩|⟨go,N,hN,step⟩
  .refine bJ (T.done (c7 X scope Nb d) U U U hc i [] s3 σ3 H3 (λ_ _=>False) I3 (kE xT) v8 stop) ?_;ext r s4 ⟨hr,I4⟩
   subst hr;exact fin σ3 H3 s4 I4 qn
  .refine bJ (T.item (c7 X scope Nb d) U U U hc i [] s3 σ3 H3 (λ_ _=>False) I3 (kE xT) v8 go) ?_;ext r s4 ⟨u,hr,h4⟩
   subst hr;refine bJ h4 λ_ s5 ⟨x,H5,I5,r5,y5,uI,Dz⟩=>bJ (hg _ s5 σ3 H5 x u _ (I5.pinned (kE Dz) (T.obj _ _ uI)) r5 (step x H5 y5)) ?_;ext _ s6 ⟨σ6,H6,I6,q6⟩
   let again:∀{σ7 H7 s7 m'},Inv (c7 X scope Nb d) ([]++xS fp s5.heap) σ7 H7 s7->m'<n->W (i+1) m' σ7 H7->∃m,m<n/\∃i σ' H',Inv (c7 X scope Nb d) [] σ' H' s7/\tn i s7.heap/\(∀b∈fp,H' b=η)/\W i m σ' H':=λ{σ7 H7 s7 m'} I7 hm w7=>by
    calc⟨m',hm,i+1,σ7,H7,I7.fL,T.keep _ _ _ uI λb hb o e=>(I7.pin (b,o) (q0n _ (q0n _ (Ao hb e)))).1,λb hb=>?_,w7⟩;let⟨o,e,d⟩:=T.obj _ _ uI b hb;exact(I7.pin (b,o) (q0n _ (q0n _ (Ao hb e)))).2.1
   refine bJ (hf _ s6 σ6 H6 _ I6 q6) λok s7 h0_=>el3 h0_ λH7 I7 q7=>?_
   cases ok with
   |false =>
    let⟨m',hm,w7⟩:=hN _ _ q7;exact again I7 hm w7
   |true =>
    calc bJ (he _ s7 σ6 H7 _ I7 q7) ?_;ext y s8 ⟨yv,H8,I8,r8,ys,hy,hz,q8⟩;let⟨m',hm,w8⟩:=hN _ _ q8;calc bJ (mV _ s8 σ6 H8 (.ref l) [yv] (.ref l) [y] (λ_ H9=>H9=upd H8 l (.lst (ys++[yv]))) I8 U (.cons r8 .nil) ⟨l,ys,yv,U,U,hy,hz,U⟩) ?_;ext _ s9 ⟨_,H9,I9,_,e9⟩;subst e9;exact again I9 hm w8
 calc codeAny_compStart_list loop (T.self _ 0 s1 _ _ kC loop)
def Uy{fp d}{τ:St}{H1 H' s1 s'}(I1:Inv X pins σ H1 s1)(hs:d.s=s1)(hH:d.H=H1)(hd:d.fp=fp)(hf:∀b∈fp,bW X pins H1 b)(J:Inv (c7 X scope Nb d) [] τ H' s'):Inv X pins σ H' s':=by
 subst hs hH hd;calc I1.xF  J.os J.base J.bu J.bare λb hb=>⟨(hf b hb).2.2.2.1,(hf b hb).2.1,(hf b hb).2.2.2.2.1,(hf b hb).2.2.2.2.2⟩
def Lx{use:Option (O->Sem Unit)}{P:bz}{Q:VK}(hc:X.calm=θ)(S:AA X scope Nb cp)(hi:JI X tg iter wi)(hg:∀d,JG (c7 X scope Nb d) tg (g d))(hf:∀d,JF (c7 X scope Nb d) ifs (tf d))(he:∀d,JE (c7 X scope Nb d) elt (te d))
  (hs:∀x,foldedSetIterable iter X.env x=pure x) (I:Inv X pins σ H s) (h:ym wi cp g tf te σ H Q)
  (fin:∀(l C:Y)(H':Hp)(s':ο)(m:L->Option O),Inv X pins σ H' s'->bW X pins H' C->(∀p c,X.env.cells.lookup p=Z c->c≠C)->s'.heap.Ns C m->Q (.ref l) H'->compPost (ς X.prog X.w) X.A X.xe use P (.ref l) C (.ok .next) s') :
  ρ (ς X.prog X.w) X.A (comprehension (.ListComp elt [⟨tg,iter,ifs,0⟩] scope pos) scope X.env (firstIterPos [⟨tg,iter,ifs,0⟩] pos) (newList []) ι (eval iter X.env) use) P X.xe s:=by
 let⟨cl,Uz,c1,c2⟩:=Ea   λy hy UA=>by
  rcases S.free y hy UA with z|z
  .exact I.ok.has _ (.inl z)
  .exact I.ok.has _ (.inr z)
 calc wpAny_comprehension_free  U hs Uz S.kind S.names (bJ (hi pins s σ H _ I h) λv s1 h1=>bJ h1 λDv s2 h2=>?_);calc wd λog=>?_;let⟨it,fp,tn,J,H2,e,I2,T,nN,f2,q2⟩:=h2;subst e;calc og <| q16 ?_;let I3:Inv X pins σ (upd H2 ⇑s2 (.lst [])) {s2 with heap:=s2.heap.push {cls:=.type "list",data:=.seq [].toArray}}:=I2.cN   .nil (q0V _);let k3:∀b o,s2.heap.get? b=Z o->(s2.heap.push {cls:=.type "list",data:=.seq [].toArray}).get? b=Z o:=λb o e=>Lm _ e
 let f3:∀b∈fp,bW X pins (upd H2 ⇑s2 (.lst [])) b:=λb hb=>by
  let⟨o,e,_⟩:=T.obj _ _ nN b hb;calc⟨?_,(f2 b hb).2⟩;rw[bD (q0o (q0h e))];exact(f2 b hb).1
 generalize UB:upd H2 ⇑s2 (.lst [])=H3 at I3 f3;generalize UC:({s2 with heap:=s2.heap.push {cls:=.type "list",data:=.seq [].toArray}})=s3 at I3;let Ly:∀b o,s2.heap.get? b=Z o->s3.heap.get? b=Z o:=by rw[<-UC];exact k3
 let o3:∀b∈fp,∃o,s3.heap.get? b=Z o:=λb hb=>let⟨o,e,_⟩:=T.obj _ _ nN b hb;⟨o,Ly b o e⟩;calc Ur ?_;let k4:∀b o,s3.heap.get? b=Z o->(pushCells (s3.heap.push {cls:=.type "dict",data:=.dict #[]}) scope.names).get? b=Z o:=λb o e=>q7x _ _ _ _ (Lm _ e);let yn:(pushCells (s3.heap.push {cls:=.type "dict",data:=.dict #[]}) scope.names).Ns ⇑s3 (λx=>[].reverse.lookup x):=(Heap.Ns.new s3.heap (.type "dict")).keeps (q7x _ _)
 let I4:=Uv  (tk:=s3.toks) S I3 f3 o3 c1 c2 yn k4 λx c e=>by
  let hz:(s3.heap.push {cls:=.type "dict",data:=.dict #[]}).objs.size=⇑s3+1:=q1E ..;let e':(cellsFrom (s3.heap.push {cls:=.type "dict",data:=.dict #[]}).objs.size scope.names cl).lookup x=Z c:=by rw[hz];exact e
  calc Eg (λu c q=>?_) e';let⟨v,o,g1,g2⟩:=I3.cell u c (c1 _ _ q);exact⟨v,o,Lm _ g1,g2⟩
 generalize hh1:pushCells (s3.heap.push {cls:=.type "dict",data:=.dict #[]}) scope.names=h₁ at k4 yn I4 ⊢;let⟨W,w0,turn⟩:=q2 ⟨AB scope s3 cl,⇑s3,s3,H3,fp⟩ ⇑s2 I2.fresh;rw[UB] at w0;refine Ux      hc (hg _) (hf _) (he _) T U I4 (T.keep _ _ _ nN λb hb o e=>k4 b o (Ly b o e)) (λb hb=>?_) W w0 turn fun τ' H' s' I5 q5=>?_
 .let⟨o,e⟩:=o3 b hb
  refine⟨(f3 b hb).1,q0o (q0h e),λz=>?_,.inl hb,λx c ec=>?_,λp hp=>absurd (hp) (by simp)⟩
  .rcases q0c.mp (I3.iQ b z) with r|r
   .exact (f3 b hb).2.1 r
   .exact (f3 b hb).2.2.1 r
  .rcases we ec with q|⟨q,_⟩
   .exact (f3 b hb).2.2.2.2.1 x c (c1 _ _ q)
   .ext z
    subst z;exact absurd ⋯ (x11.mpr (q1e (q0h e)))
 .let⟨m,hn,_⟩:=I5.loc
  let fC:=I3.iy (Ln _) I5.free;calc fin _ _ _ _ m (Uy I3 U U U f3 I5) fC (λp c e=>fC.2.2.2.2.1 p c e) hn q5
def Lz cp Nb (hc:X.calm=θ) (hi:JI X tg iter wi) (hg:∀d,JG (c7 X scope Nb d) tg (g d)) (hf:∀d,JF (c7 X scope Nb d) ifs (tf d)) (he:∀d,JE (c7 X scope Nb d) elt (te d))
  (hk:‹scope.kind=.function›) (ho:autoParam (mX X.N X.env.scope scope Nb cp=θ) qz2._auto_1) (hs:‹∀x,foldedSetIterable iter X.env x=pure x›) :
  JE X (.ListComp elt [⟨tg,iter,ifs,0⟩] scope pos) (ym wi cp g tf te):=by
 calc⟨λpins s σ H Q I h=>Lx  hc (yk hk ho) hi hg hf he hs I h λl C H' s' m I' fC uE hn q=>⟨m,hn,λh' yo=>⟨.ref l,H',I'.turned  (λb o hb e=>(yo.2 b hb).trans e) fC.1 fC.2.1 fC.2.2.2.1 fC.2.2.2.2.1 fC.2.2.2.2.2,U,q⟩⟩⟩
def LA cp Nb {i x pos' gZ} (hN:X.N.Nodup) (hi:X.N[i]?=Z x) (hx:Loc X.env.scope x) (hc:X.calm=θ) (hit:JI X tg iter wi) (hg:∀d,JG (c7 X scope Nb d) tg (g d)) (hf:∀d,JF (c7 X scope Nb d) ifs (tf d)) (he:∀d,JE (c7 X scope Nb d) elt (te d))
  (hk:‹scope.kind=.function›) (ho:autoParam (mX X.N X.env.scope scope Nb cp=θ) qz2._auto_1) (hs:‹∀x,foldedSetIterable iter X.env x=pure x›)
  (u0:‹swapsWith (.ListComp elt [⟨tg,iter,ifs,0⟩] scope pos) (Z (.Name x pos')) gZ.line X.env=pure θ›)
  (mR:iq X x:=by first|exact .inl U|exact .inr U|assumption) :
  JS X (.Assign [.Name x pos'] (.ListComp elt [⟨tg,iter,ifs,0⟩] scope pos) gZ) (lW (ym wi cp g tf te) (uH i)):=by
 calc⟨?_⟩;ext pins s σ H D I h;rw[exec_Assign_Name_used _ _ _ _ u0];refine Aw (q2W (Aw (Aw (bJ (Lx   hc (yk hk ho) hit hg hf he hs I h λl C H' s' m I' fC uE hn q=>q6A (Km I' hN hi hx (v:=.ref l) U (λlz UD ⟨a,sb,ha⟩=>?_) mR)) λ_ s' hq=>Ui (Ui hq)))))
 let nC:C≠a:=by
  rcases ha with e|e
  .rw[e];exact fC.2.1
  .exact q1_ (uE _ _ e)
 calc⟨m,hn.sameBut sb nC,λh' yo=>⟨_,H',UD.turned  (λb o hb e=>(yo.2 b hb).trans e) fC.1 fC.2.1 fC.2.2.2.1 fC.2.2.2.2.1 fC.2.2.2.2.2,q⟩⟩
end
section
variable{X:Cx}{pins:a9}{σ:St}{H:Hp}{s:ο}{h':Α}{T:Y}{o:HO}{ch:-Y}{t':Nat}
def Inv.jS(I:Inv X pins σ H s)(hf:∀b∈ch,bW X pins H b)(k:∀b u,b∉ch->s.heap.get? b=Z u->h'.get? b=Z u)(hT:⇑s<=T)(new:bO X.prog X.w (upd H T o) h' T o):
  Inv X pins σ (upd H T o) {s with heap:=h',toks:=t'}:=by
 let hn:=I.bu.fresh hT;let tE:∀b u,H b=Z u->b∉ch:=λb u e hb=>by rw[(hf b hb).1] at e;cases e
 refine I.step    (λb hb=>⟨(hf b hb).2.2.2.1,(hf b hb).2.1,(hf b hb).2.2.2.2.1,(hf b hb).2.2.2.2.2⟩) (λb u _ _ hc e _=>k b u hc e) (λb u _ _ hc e _=>⟨u.slots,k b u hc e⟩)
  (λb u _ e n=>by rw[bD (q0o (q0v (q0h e) hT))];calc n) (λb u hc e=>⟨u,k b u hc e⟩) (λb xs e=>by rw[bD (eg e hn)];calc e)
  (λb u xs e=>by rw[bD (eg e hn)];calc e) (λb ps e=>⟨#[],by rw[bD (eg e hn),e];simp⟩) (λb _ u _ e hc=>k b u hc e) (λm hm=>?_) (λb u e=>?_) I.bare
 .let⟨u,es,ep,ho,r⟩:=hm
  exact⟨u,es,ep,k _ u (λhb=>(hf _ hb).2.1 U) ho,r⟩
 .by_cases hb:b=T
  .subst hb;rw[cb] at e;cases e;exact new
  .rw[bD hb] at e
   refine(I.bu b u e).ib (λc v hc q=>k c v ?_ q) (λc q=>by rw[bD (eg q hn)];calc q) λc xs q=>by rw[bD (eg q hn)];exact q
   rcases hc with z|z
   .rw[z];exact tE b u e
   .calc tE c _ z
end
meta def wj(K:q0b)(a:Y):It :=
 ⟨λi H=>∃xs x,bR K H a xs/\xs[i]?=Z x,λi H x H'=>∃T v,x=.ref T/\H T=η/\H'=upd H T (.tup [.int (i:Nat),v])/\∀xs,bR K H a xs->xs[i]?=Z v,λi H=>∃xs,bR K H a xs/\↑xs<=i⟩
def LB{P:ψ}{w:ω}{K:q0b}{elts:-υ}{x1}{tp:Δ}(a e it:Y)(iF:e≠it):
  Turn P w K (.Tuple elts x1 tp) (wj K a) [e,it] e (λi h=>(∃old,IsEnum h e it (i:Nat) old)/\h.IsListIter it a i) where
 mem:=by simp
 obj:=λi h st b hb=>by
  let⟨⟨old,he⟩,o,hi,hc,hd⟩:=st;rcases q0c.mp hb with rfl|hb
  .exact⟨_,he,λv z=>by cases z⟩
  .let z:=by simpa using hb
   subst z;exact⟨o,hi,λv z=>by rw[hd] at z;cases z⟩
 keep:=λi h h' st k=>by
  let⟨⟨old,he⟩,hi⟩:=st;exact⟨⟨old,k e (by simp) _ he⟩,hi.at λo q=>k it (by simp) o q⟩
 item:=by
  ext X hP hw hK hc i pins s σ H E I hf st hg;subst hP hw hK;let⟨⟨old,he⟩,hi⟩:=st;let⟨xs,x,hq,hx⟩:=hg;let⟨aM,rv,p,hz⟩:=I.list hq;let⟨u,hu,ru⟩:=rv.get hx;refine wpAny_pyNext_enum_item he hi p.isList  hu⁻¹ iF λh1 pC Eh yp hsz hk=>⟨_,U,q4y pC λh2 Ei kD=>?_⟩
  let k2:∀b o,b∉[e,it]->s.heap.get? b=Z o->h2.get? b=Z o:=λb o hb q=>by
   let u4:b≠e:=λz=>hb (by simp[z]);exact(kD.2 _ u4).trans (hk b o u4 (λz=>hb (by simp[z])) q)
  refine⟨.ref ⇑s,upd H ⇑s (.tup [.int i,x]),I.jS   hf k2 (Ln _) ?_,U,⟨_,x,U,(I.bu.fresh (Ln _)),U,λys hy=>by rw[I.jN hy hq];calc hx⟩,⟨⟨u,?_⟩,?_⟩,λb hb=>?_⟩
  .exact⟨by show 2<=sizeLine;decide,[.int i s.toks,u],.cons ⟨_,U⟩ (.cons ru .nil),_,((kD.2 _ (q15 (q0h he))).trans yp),U,_,U⟩
  .exact Ei
  .exact Eh.at λo q=>(kD.2 _ (q1_ iF)).trans q
  .let:b<⇑s:=by
    let⟨o,q,_⟩:=hi;rcases q0c.mp hb with rfl|hb
    .exact q0h he
    .let z:=by simpa using hb
     subst z;exact q0h q
   rw[bD (q0o this)];exact(hf b hb).1
 done:=by
  ext X hP hw hK hc i pins s σ H E I hf st hg;subst hP hw hK;let⟨⟨old,he⟩,hi⟩:=st;let⟨xs,hq,hx⟩:=hg;let⟨aM,rv,p,hz⟩:=I.list hq;let hl:=↑rv;calc wpAny_pyNext_enum_end (I.ok.hd hc) he hi p.isList (by simp;symm) λh1 eb=>⟨U,?_⟩;let⟨f0,f1,f2,f3,f4,f5⟩:=hf it (by simp);exact I.turned  (λb o hb q=>eb b o hb q) f0 f1 f3 f4 f5
 self:=λA i s Q E st h=>by
  let⟨⟨old,he⟩,hi⟩:=st;calc q2h he h
section
variable{X:Cx}{elts:-υ}{x1:Nat}{tp:Δ}
/---/def LC(K:q0b)(ta:TA):TI:=fun σ H R=>ta σ H λvs H1=>∃a,vs=[.ref a]/\(∃xs,bR K H1 a xs)/\R (wj K a) H1
def LF:bootBuiltins "enumerate" = Z (.type "enumerate"):=by decide +kernel
def LG{a:υ}{ta:TA}{p pos:Δ}(hg:Gl X "enumerate")(hm:X.mg "enumerate" = η)(ha:JA X [a] ta)(hs:‹starEach [a] X.env=[(ι,eval a X.env)]›):
  JI X (.Tuple elts x1 tp) (.Call (.Name "enumerate" p) [a] [] pos) (LC X.K ta):=by
 calc⟨λpins s σ H R I h=>Call_ (qg I hg hm LF (q1W (bJ (ha pos pins s σ H _ I h) λus s1 ⟨vs,H1,I1,r1,q1⟩=>?_) hs U))⟩;let⟨l,e,⟨xs,hq⟩,q⟩:=q1;subst e
 cases r1 with
 |cons r rr =>
  cases rr
  cases r
  let⟨aM,rv,p,hz⟩:=I1.list hq;calc q5Y p.isList λh' he hi hsz hk=>?_;let I2:Inv X pins σ H1 {s1 with heap:=h'}:=I1.kept  hk;refine q2h he (⟨_,_,_,_,H1,U,I2,LB l (⇑s1+1) ⇑s1 (q44 _),⟨⟨_,he⟩,hi⟩,λb hb=>?_,q⟩)
  let hb':⇑s1<=b:=by
   rcases q0c.mp hb with rfl|hb
   .exact q3V _
   .let z:=by simpa using hb
    rw[z];exact Ln _
  calc I1.iy hb' (I1.bu.fresh hb')
end
end L2
namespace L2
open PySem PySem.Spec PyProof.Rows PySem.W
open Builtin Builtin.ObjectAttr
end L2
namespace L2
open PySem PySem.Spec PyProof.Rows
section
variable{X:Cx}
meta def yq:V->Option O
 |.ty n=>Z (.type n)
 |.ref a=>Z (.ref a)
 |_=>η
def UG{y u c}(r:RelV y u)(e:yq y=Z c):u=c:=by
 cases y with
 |ty n=>cases e;exact r
 |ref a=>cases e;exact r
 |_=>cases e
def UH:hU X (.builtin "isinstance") (λxs H Q=>∃x y c t b,xs=[x,y]/\yq y=Z c/\fM X.K H x t/\q1Q X.K t c=Z b/\Q (.bl b) H):=by
 ext pins s σ H xs us Q I rv h;calc wd λqH=>?_;let⟨x,y,c,t,b,rfl,hc,ty,e,q⟩:=h;let⟨u,w',rfl,rx,ry⟩:=rv.two;calc qH ?_;rw[UG ry hc];calc Tw I rx ty e λtk=>⟨.bl b,H,I.tok tk,U,q⟩
end
def LH{K a xs}{g:TG}{tb:TS}{D:Ends}{σ H}(Pv:Nat->St->Hp->Prop)(h0:Pv 0 σ H)(hl:∀i σ H,i<=↑xs->Pv i σ H->bR K H a xs)
  (hs:∀i x T σ H,xs[i]?=Z x->Pv i σ H->H T=η->g (.ref T) σ (upd H T (.tup [.int (i:Nat),x])) fun σ2 H2=>tb {D with nx:=Pv (i+1),ct:=Pv (i+1),bk:=D.nx} σ2 H2) (hd:∀σ H,Pv ↑xs σ H->D.nx σ H) :
  ∃W:Nat->Nat->St->Hp->Prop,(∃m,W 0 m σ H)/\∀i m σ H,W i m σ H →
   ((wj K a).stop i H/\D.nx σ H)\/((wj K a).go i H/\∃N:St->Hp->Prop,(∀σ' H',N σ' H'->∃m',m'<m/\W (i+1) m' σ' H')/\∀x H',(wj K a).v7 i H x H'->g x σ H' fun σ2 H2=>tb {D with nx:=N,ct:=N,bk:=D.nx} σ2 H2):=by
 calc⟨λi m σ H=>m=↑xs-i/\i<=↑xs/\Pv i σ H,⟨↑xs,by simp,q0V _,h0⟩,?_⟩;ext i m σ H ⟨rfl,hi,p⟩;let q:=hl i σ H hi p
 by_cases eV:i<↑xs
 .refine .inr ⟨⟨xs,xs[i],q,by simp[eV]⟩,Pv (i+1),fun σ' H' p'=>⟨↑xs-(i+1),⋯,U,eV,p'⟩,λx H' y=>?_⟩
  let⟨T,v,rfl,hT,rfl,y⟩:=y;exact hs i v T σ H (y xs q) p hT
 .let e:i=↑xs:=by symm
  subst e;calc .inl ⟨⟨xs,q,Ln _⟩,hd σ H p⟩
section
variable{X:Cx}{es:-υ}{te:TE}{t:TA}
def Ek{c j p}(ha:JE X (.Constant c j p) te)(hr:JA X es t):JA X (.Constant c j p::es) (kG te t):=lY ha hr U
def kL{x p}(ha:JE X (.Name x p) te)(hr:JA X es t):JA X (.Name x p::es) (kG te t):=lY ha hr U
def kM{f a k p}(ha:JE X (.Call f a k p) te)(hr:JA X es t):JA X (.Call f a k p::es) (kG te t):=lY ha hr U
def yr{a p}(ha:JE X (.List a p) te)(hr:JA X es t):JA X (.List a p::es) (kG te t):=lY ha hr U
def El{a k p}(ha:JE X (.Tuple a k p) te)(hr:JA X es t):JA X (.Tuple a k p::es) (kG te t):=lY ha hr U
def Em{a k p}(ha:JE X (.Subscript a k p) te)(hr:JA X es t):JA X (.Subscript a k p::es) (kG te t):=lY ha hr U
end
inductive D where
 |non|bl (b:Bool)|int (i:Int)|str (x:L)|tup (xs:-D)|lst (xs:-D)
mutual
/---/def Is (H:Hp):D->V->Prop
 |.non,v=>v=.non
 |.bl b,v=>v=.bl b
 |.int i,v=>v=.int i
 |.str x,v=>v=.str x
 |.tup ds,v=>∃a vs,v=.ref a/\H a=Z (.tup vs)/\aA H ds vs
 |.lst ds,v=>∃a vs,v=.ref a/\H a=Z (.lst vs)/\aA H ds vs
/---/def aA (H:Hp):-D->-V->Prop
 |[],vs=>vs=[]
 |d::ds,vs=>∃v r,vs=v::r/\Is H d v/\aA H ds r
end
mutual
theorem Is.same {H H':Hp} (s:bf H H'):∀{d:D}{v:V},Is H d v->Is H' d v
 |.non,_,h=>h
 |.bl _,_,h=>h
 |.int _,_,h=>h
 |.str _,_,h=>h
 |.tup _,_,h=>by
  erw[Is] at h ⊢;let⟨a,vs,e,h1,h2⟩:=h;exact⟨a,vs,e,s _ _ h1,aA.same s h2⟩
 |.lst _,_,h=>by
  erw[Is] at h ⊢;let⟨a,vs,e,h1,h2⟩:=h;calc⟨a,vs,e,s _ _ h1,aA.same s h2⟩
theorem aA.same {H H':Hp} (s:bf H H'):∀{d:-D}{v:-V},aA H d v->aA H' d v
 |[],_,h=>h
 |_::_,_,h=>by
  erw[aA] at h ⊢;let⟨v,r,e,h1,h2⟩:=h;calc⟨v,r,e,Is.same s h1,aA.same s h2⟩
end
def aA.length{H}:∀{ds vs},aA H ds vs->↑vs=↑ds
 |[],_,h=>by rw[h];rfl
 |_::_,_,h=>by
  let⟨v,r,rfl,_,h2⟩:=h;rw[Uh,Uh,aA.length h2]
def aA.get{H}:∀{ds vs}{i:Nat}{v},aA H ds vs->vs[i]?=Z v->∃d,ds[i]?=Z d/\Is H d v
 |[],_,i,v,h,e=>by rw[h] at e;simp at e
 |d::ds,_,i,v,h,e=>by
  let⟨v',r,rfl,h1,h2⟩:=h
  cases i with
  |zero=>simp at e;subst e;exact⟨d,U,h1⟩
  |succ i=>simpa using aA.get h2 e
def aA.nil{H}:aA H [] []:=by erw[aA]
def aA.cons{H d ds v vs}(h:Is H d v)(r:aA H ds vs):aA H (d::ds) (v::vs):=by
 calc⟨v,vs,U,h,r⟩
def aA.snoc{H d v}:∀{ds vs},aA H ds vs->Is H d v->aA H (ds++[d]) (vs++[v])
 |[],_,h,q=>by subst h;exact .cons q .nil
 |_::_,_,h,q=>by
  let⟨v',r,rfl,h1,h2⟩:=h;exact .cons h1 (aA.snoc h2 q)
mutual
noncomputable def dep:D->Nat
 |.tup ds=>cG ds+1
 |.lst ds=>cG ds+1
 |_=>0
noncomputable def cG:-D->Nat
 |[]=>0
 |d::ds=>max (dep d) (cG ds)
end
def En:∀{ds}{i:Nat}{d},ds[i]?=Z d->dep d<=cG ds
 |[],i,d,e=>by simp at e
 |d'::ds,0,d,e=>by simp at e;subst e;erw[cG];symm
 |d'::ds,i+1,d,e=>by simp at e;erw[cG];calc q0N (En e) ⋯
meta def iY:D->String
 |.non=>"NoneType" | .bl _=>"bool" | .int _=>"int" | .str _=>"str" | .tup _=>"tuple" | .lst _=>"list"
def Is.ty{K H}:∀{d v},Is H d v->fM K H v (.type (iY d))
 |.non,_,h=>by cases(h);exact .non
 |.bl b,_,h=>by cases(h);exact .bl b
 |.int i,_,h=>by cases(h);exact .int i
 |.str x,_,h=>by cases(h);exact .str x
 |.tup _,_,h=>by
  let⟨a,vs,rfl,h1,_⟩:=h;exact .tup h1
 |.lst _,_,h=>by
  let⟨a,vs,rfl,h1,_⟩:=h;calc .lst h1
meta def fO(T c:String):Bool:=T==c||(T=="bool" && c=="int")
section
variable{K:q0b}
def UI:∀T∈["NoneType", "bool", "int", "str", "tuple", "list"],q1Q K (.type T) (.type "bool")=Z (fO T "bool"):=by
 ext T hT;erw[q0c,q0L,q2m] at hT;rcases hT with rfl|rfl|rfl|rfl|rfl|rfl<;>kernel_rfl
def UJ:∀T∈["NoneType", "bool", "int", "str", "tuple", "list"],q1Q K (.type T) (.type "int")=Z (fO T "int"):=by
 ext T hT;erw[q0c,q0L,q2m] at hT;rcases hT with rfl|rfl|rfl|rfl|rfl|rfl<;>kernel_rfl
def kit_tuple:∀T∈["NoneType", "bool", "int", "str", "tuple", "list"],q1Q K (.type T) (.type "tuple")=Z (fO T "tuple"):=by
 ext T hT;erw[q0c,q0L,q2m] at hT;rcases hT with rfl|rfl|rfl|rfl|rfl|rfl<;>kernel_rfl
def UK:∀T∈["NoneType", "bool", "int", "str", "tuple", "list"],q1Q K (.type T) (.type "list")=Z (fO T "list"):=by
 ext T hT;erw[q0c,q0L,q2m] at hT;rcases hT with rfl|rfl|rfl|rfl|rfl|rfl<;>kernel_rfl
def AD d:iY d∈["NoneType", "bool", "int", "str", "tuple", "list"]:=by cases d<;>simp[iY]
end
section
variable{X:Cx}
def JE.weak{e t t'}(h:JE X e t)(k:∀σ H Q,t' σ H Q->t σ H Q):JE X e t':=⟨λpins s σ H Q I q=>h pins s σ H Q I (k σ H Q q)⟩
def JT.weak{e t t'}(h:JT X e t)(k:∀σ H Q,t' σ H Q->t σ H Q):JT X e t':=⟨λpins s σ H Q I q=>h pins s σ H Q I (k σ H Q q)⟩
def JA.weak{es t t'}(h:JA X es t)(k:∀σ H Q,t' σ H Q->t σ H Q):JA X es t':=⟨λpos pins s σ H Q I q=>h pos pins s σ H Q I (k σ H Q q)⟩
def JS.weak{st t t'}(h:JS X st t)(k:∀D σ H,t' D σ H->t D σ H):JS X st t':=⟨λpins s σ H D I q=>h pins s σ H D I (k D σ H q)⟩
def eQ.weak{st t t'}(h:eQ X st t)(k:∀D σ H,t' D σ H->t D σ H):eQ X st t':=⟨λpins s σ H D I q=>h pins s σ H D I (k D σ H q)⟩
end
section
variable{κ:Type}[DecidableEq κ]
meta def cP(kvs:-(κ×V))(k:κ):Option V:=(kvs.find? λkv=>I (kv.1=k)).map (·.2)
meta def putK(kvs:-(κ×V))(k:κ)(v:V):-(κ×V) :=
 if(kvs.any λkv=>I (kv.1=k))=θ then kvs.map (λkv=>if kv.1=k then(kv.1,v) else kv) else kvs++[(k,v)]
meta def u5(kvs:-(κ×V))(k:κ):-(κ×V):=kvs.filter λkv=>I (kv.1≠k)
def yt{p:κ×V}{r k}(e:p.1=k):cP (p::r) k=Z p.2:=by simp[cP,q2U,e]
def yu{p:κ×V}{r k}(e:¬ p.1=k):cP (p::r) k=cP r k:=by simp[cP,q2U,e]
def Eo k:∀kvs:-(κ×V),(kvs.any λkv=>I (kv.1=k))=(cP kvs k).isSome
 |[]=>U
 |p::r=>by
  rw[q2H]
  by_cases e:p.1=k
  .erw[yt e,q0g e,q9k,q6o]
  .rw[yu e,Ul e,Bool.false_or];calc Eo k r
def AE(kvs:-(κ×V)) k v:↑(putK kvs k v)<=↑kvs+1:=by
 unfold putK;split
 .rw[ye];symm
 .rw[Lo,Uh,q1p];symm
def UL{kvs:-(κ×V)}{k} v (h:cP kvs k=η):putK kvs k v=kvs++[(k,v)]:=by
 unfold putK;rw[Eo,h];rfl
def eW.dA{o u}(r:eW o u):o.isSome=u.isSome:=by
 cases o with
 |none=>cases u with
  |none=>rfl
  |some _=>exact(r).elim
 |some _=>cases u with
  |none=>exact(r).elim
  |some _=>rfl
def KV.val{kvs:-(κ×V)}{vs}(r:KV kvs vs) k:eW (cP kvs k) (valueAt vs k):=by
 induction r with
 |nil=>exact q18
 | @cons p q ps qs h t ih =>
  let⟨h1,h2⟩:=h
  by_cases e:p.1=k
  .let b:valueAt (q::qs) k=Z q.2:=by simp[valueAt,q2U,(h1.symm.trans e)]
   rw[yt e,b];exact h2
  .let e':¬ q.1=k:=λz=>e (h1.trans z)
   let b:valueAt (q::qs) k=valueAt qs k:=by simp[valueAt,q2U,e']
   rw[yu e,b];calc ih
def KV.any{kvs:-(κ×V)}{vs}(r:KV kvs vs) k:(kvs.any λkv=>I (kv.1=k))=vs.any λkv=>I (kv.1=k):=by
 induction r with
 |nil=>rfl
 |cons h t ih=>rw[q2H,q2H,ih,h.1]
def KV.kN{kvs:-(κ×V)}{vs}(r:KV kvs vs) k {y u} (ry:RelV y u) :
  KV (kvs.map λkv=>if kv.1=k then(kv.1,y) else kv) (vs.map λkv=>if kv.1=k then(kv.1,u) else kv):=by
 induction r with
 |nil=>exact .nil
 | @cons p q ps qs h t ih =>
  rw[q0C,q0C];calc .cons ?_ ih;let⟨h1,h2⟩:=h
  by_cases e:p.1=k
  .rw[q0r e,q0r (h1.symm.trans e)];exact⟨h1,ry⟩
  .rw[q0l e,q0l (λz=>e (h1.trans z))];calc⟨h1,h2⟩
def KV.put{kvs:-(κ×V)}{vs}(r:KV kvs vs) k {y u} (ry:RelV y u):KV (putK kvs k y) (stored vs k u):=by
 unfold putK stored;rw[r.any k]
 by_cases e:(vs.any λkv=>I (kv.1=k))=θ
 .rw[q0r e,q0r e];exact r.kN k ry
 .rw[q0l e,q0l e];calc Paired.snoc r ⟨U,ry⟩
def KV.drop{kvs:-(κ×V)}{vs}(r:KV kvs vs) k:KV (u5 kvs k) (without vs k):=by
 unfold u5 without
 induction r with
 |nil=>exact .nil
 | @cons p q ps qs h t ih =>
  let⟨h1,h2⟩:=h;rw[q1r,q1r]
  by_cases e:p.1=k
  .let a:¬ I (p.1≠k)=θ:=by simp[e]
   let b:¬ I (q.1≠k)=θ:=by simp[h1.symm.trans e]
   rw[q0l a,q0l b];exact ih
  .let e':¬ q.1=k:=λz=>e (h1.trans z)
   let a:I (p.1≠k)=θ:=by simp[e]
   let b:I (q.1≠k)=θ:=by simp[e']
   rw[q0r a,q0r b];calc .cons ⟨h1,h2⟩ ih
def KV.length{kvs:-(κ×V)}{vs}(r:KV kvs vs):↑kvs=↑vs:=q58 r
def UM(kvs:-(κ×V)) k:↑(u5 kvs k)<=↑kvs:=q0S _ _
end
def tO{P w k u}(r:RelV (kV k) u):(gU P w).is k u=θ:=by
 cases k with
 |inl i=>let⟨t,e⟩:=(r);subst e;exact R8 P w i t
 |inr x=>let⟨t,e⟩:=(r);subst e;calc R9 P w x t
def LI{P w}:∀{ks us},Vals (ks.map kV) us->ItemsAre (gU P w) ks us
 |[],_,r=>by cases r;exact .nil
 |k::ks,_,r=>by
  cases r with
  |cons h t=>calc .cons (tO h) (LI t)
abbrev KT(H:Hp):-(-Key×V)->-(-Key×Y×O)->Prop:=Paired λp q=>p.1=q.1/\H q.2.1=Z (.tup (p.1.map kV))/\RelV p.2 q.2.2
def KT.val{H kvs}{xs:-(-Key×Y×O)}(r:KT H kvs xs) k:eW (cP kvs k) ((atKey xs k).map (·.2)):=by
 induction r with
 |nil=>exact q18
 | @cons p q ps qs h t ih =>
  let⟨h1,_,h2⟩:=h
  by_cases e:p.1=k
  .let b:atKey (q::qs) k=Z q.2:=by simp[atKey,q2U,(h1.symm.trans e)]
   rw[yt e,b];exact h2
  .let e':¬ q.1=k:=λz=>e (h1.trans z)
   let b:atKey (q::qs) k=atKey qs k:=by simp[atKey,q2U,e']
   rw[yu e,b];calc ih
def KT.kN{H kvs}{xs:-(-Key×Y×O)}(r:KT H kvs xs) k {y u} (ry:RelV y u) :
  KT H (kvs.map λkv=>if kv.1=k then(kv.1,y) else kv) (xs.map (putAt k u)):=by
 induction r with
 |nil=>exact .nil
 | @cons p q ps qs h t ih =>
  rw[q0C,q0C];calc .cons ?_ ih;let⟨h1,h2,h3⟩:=h;unfold putAt
  by_cases e:p.1=k
  .rw[q0r e,q0r (h1.symm.trans e)];exact⟨h1,h2,ry⟩
  .rw[q0l e,q0l (λz=>e (h1.trans z))];calc⟨h1,h2,h3⟩
def KT.put{H kvs}{xs:-(-Key×Y×O)}(r:KT H kvs xs) k {b y u} (hb:H b=Z (.tup (k.map kV))) (ry:RelV y u) :
  KT H (putK kvs k y) (storedH xs k b u):=by
 let e:(kvs.any λkv=>I (kv.1=k))=(atKey xs k).isSome:=by
  rw[Eo,(r.val k).dA,q4M]
 unfold putK storedH;rw[e]
 by_cases q:(atKey xs k).isSome=θ
 .rw[q0r q,q0r q];exact r.kN k ry
 .rw[q0l q,q0l q];calc Paired.snoc r ⟨U,hb,ry⟩
def KT.keeps{H H' kvs}{xs:-(-Key×Y×O)}(r:KT H kvs xs)(ht:∀b ys,H b=Z (.tup ys)->H' b=Z (.tup ys)):KT H' kvs xs :=
 Paired.uB r λ_ _ z=>⟨z.1,ht _ _ z.2.1,z.2.2⟩
section
variable{P:ψ}{w:ω}{H:Hp}{h:Α}{a:Y}
def LL{u}(ok:fH P w H h)(e:Rd H a u):bO P w H h a u:=e.ok ok
def wk{kvs}(ok:fH P w H h)(e:Rd H a (.dK kvs)):↑kvs<=sizeLine/\(a==sysModules)=ι/\∃vs,KV kvs vs/\h.DictOf (gU P w) a vs :=
 LL ok e
def u6{kvs}(ok:fH P w H h)(e:H a=Z (.dK kvs)):↑kvs<=sizeLine/\(a==sysModules)=ι/\∃vs,KV kvs vs/\h.DictOf (gU P w) a vs:=wk ok (.inl e)
def yw{ks}(ok:fH P w H h)(e:H a=Z (.tup (ks.map kV))):(tupleKind (gU P w)).is h ks a:=by
 let⟨_,aM,r,o,h1,h2,n,h3⟩:=(ok a _ e);calc⟨o,aM.toArray,n,h1,h2,h3,by simpa using LI r⟩
def wm{kvs}(ok:fH P w H h)(e:Rd H a (.dT kvs)):↑kvs<=sizeLine/\(a==sysModules)=ι ∧
  ∃xs,KT H kvs xs/\h.DictOfH (tupleKind (gU P w)) a xs:=by
 calc wd λqJ=>?_;let⟨z,y,xs,r,o,es,ep,h1,h2,h3,h4,h5⟩:=(LL ok e);refine qJ <| ⟨z,y,xs,r,o,es,ep,h1,h2,h3,h4,λx hx=>?_,h5⟩
 let all:∀{l m},KT H l m->∀x∈m,(tupleKind (gU P w)).is h x.1 x.2.1:=by
  ext l m q
  induction q with
  |nil=>ext x hx;exact nomatch hx
  | @cons p q ps qs hq t ih =>
   ext x hx;rcases q0c.mp hx with e|hx
   .subst e
    exact yw ok (by rw[<-hq.1];calc hq.2.1)
   .exact ih x hx
 calc all r x hx
def UN{kvs}(ok:fH P w H h)(e:H a=Z (.dT kvs)):↑kvs<=sizeLine/\(a==sysModules)=ι ∧
  ∃xs,KT H kvs xs/\h.DictOfH (tupleKind (gU P w)) a xs:=wm ok (.inl e)
end
/---/def gH(H:Hp)(a:Y)(y:V)(r:Option V):Prop :=
 (∃kvs k,Rd H a (.dK kvs)/\y=kV k/\r=cP kvs k)\/∃kvs k b,Rd H a (.dT kvs)/\y=.ref b/\H b=Z (.tup (k.map kV))/\r=cP kvs k
/---/def l6(H:Hp)(a:Y)(y v:V)(H':Hp):Prop :=
 (∃kvs k,H a=Z (.dK kvs)/\y=kV k/\↑kvs<sizeLine/\H'=upd H a (.dK (putK kvs k v))) ∨
 ∃kvs k b,H a=Z (.dT kvs)/\y=.ref b/\H b=Z (.tup (k.map kV))/\↑kvs<sizeLine/\H'=upd H a (.dT (putK kvs k v))
def gH.k{H a kvs k}(e:H a=Z (.dK kvs)):gH H a (kV k) (cP kvs k):=.inl ⟨kvs,k,.inl e,U,U⟩
def l6.k{H a kvs k v}(e:H a=Z (.dK kvs))(hl:↑kvs<sizeLine):l6 H a (kV k) v (upd H a (.dK (putK kvs k v))):=.inl ⟨kvs,k,e,U,hl,U⟩
section
variable{X:Cx}{pins:a9}{σ:St}{H:Hp}{s:ο}{a:Y}{y v:V}{u r:O}{o:Option V}{A:Β}{E:bz}
def Inv.big(I:Inv X pins σ H s):sysModules<⇑s:=by
 calc q6t (by decide) ((I.mod.glob.keeps I.bk).lt)
def UO{Q:bz}(hu:A.units+1<cLine)(I:Inv X pins σ H s)(g:gH H a y (Z v))(ry:RelV y u)(h:∀w' s',Inv X pins σ H s'->RelV v w'->Q w' s'):
  ρ (ς X.prog X.w) A (getItem (.ref a) u) Q E s:=by
 rcases g with⟨kvs,k,e,ey,l⟩|⟨kvs,k,b,e,ey,eb,l⟩
 .subst ey
  let⟨z,hd,vs,rel,dd⟩:=wk I.bu e;let⟨w',hw,kI⟩:=eW.some_of   (by rw[l];calc rel.val k);exact wpAny_getItem_of (tO ry) dd.mapOf hw (h w' _ (I.tok _) kI)
 .subst ey
  cases(ry)
  let⟨z,hd,xs,rel,dd⟩:=wm I.bu e;let⟨w',hw,kI⟩:=eW.some_of   (by rw[l];calc rel.val k);let⟨p,hp,UP⟩:=q0e.mp hw;calc wpAny_getItem_heap (q3k hu) (yw I.bu eb) dd hp ?_;rw[UP];calc h w' _ (I.tok _) kI
def Ep{Q:bz}(hu:A.units+1<cLine)(I:Inv X pins σ H s)(g:gH H a y o)(ry:RelV y u)(h:∀s',Inv X pins σ H s'->Q (.bool o.isSome) s'):
  ρ (ς X.prog X.w) A (compareOp .In u (.ref a)) Q E s:=by
 rcases g with⟨kvs,k,e,ey,l⟩|⟨kvs,k,b,e,ey,eb,l⟩
 .subst ey
  let⟨z,hd,vs,rel,dd⟩:=wk I.bu e;calc wpAny_in_of (tO ry) hd dd.mapOf ?_;rw[<-(rel.val k).dA,<-l];exact h _ (I.tok _)
 .subst ey
  cases(ry)
  let⟨z,hd,xs,rel,dd⟩:=wm I.bu e;calc wpAny_in_heap (q3k hu) (yw I.bu eb) hd dd ?_;let q:=(rel.val k).dA;rw[q4M] at q;rw[<-q,<-l];calc h _ (I.tok _)
def UQ{Q:bz}(hu:A.units+1<cLine)(I:Inv X pins σ H s)(g:gH H a y o)(ry:RelV y u)(h:∀s',Inv X pins σ H s'->Q (.bool (!o.isSome)) s'):
  ρ (ς X.prog X.w) A (compareOp .NotIn u (.ref a)) Q E s:=by
 rcases g with⟨kvs,k,e,ey,l⟩|⟨kvs,k,b,e,ey,eb,l⟩
 .subst ey
  let⟨z,hd,vs,rel,dd⟩:=wk I.bu e;calc wpAny_notIn_of (tO ry) hd dd.mapOf ?_;rw[<-(rel.val k).dA,<-l];exact h _ (I.tok _)
 .subst ey
  cases(ry)
  let⟨z,hd,xs,rel,dd⟩:=wm I.bu e;calc wpAny_notIn_heap (q3k hu) (yw I.bu eb) hd dd ?_;let q:=(rel.val k).dA;rw[q4M] at q;rw[<-q,<-l];calc h _ (I.tok _)
def q76{h':Α}{t':Nat}{ob:HO}(I:Inv X pins σ H s)(mu:xB (H a))(hs:q26 a s.heap h')(he:∃q,h'.get? a=Z q)(new:bO X.prog X.w (upd H a ob) h' a ob):
  Inv X pins σ (upd H a ob) {s with heap:=h',toks:=t'} :=
 I.write   mu (.inl U) (λb q hb z=>(hs.2 b hb).trans z) he new
def AF{P:ψ}{w:ω}{H':Hp}{h':Α}{kvs:-(Key×V)}{vs:-(Key×O)}(z:↑kvs<=sizeLine)(hd:(a==sysModules)=ι)(rel:KV kvs vs)(dd:h'.DictOf (gU P w) a vs):
  bO P w H' h' a (.dK kvs):=⟨z,hd,vs,rel,dd⟩
def UR{H':Hp}{Q:Unit->ο->Prop}(hu:A.units+1<cLine)(I:Inv X pins σ H s)(g:l6 H a y v H')(ry:RelV y u)(rv:RelV v r)(h:∀s',Inv X pins σ H' s'->Q () s'):
  ρ (ς X.prog X.w) A (setItem (.ref a) u r) Q E s:=by
 rcases g with⟨kvs,k,e,ey,l,eH⟩|⟨kvs,k,b,e,ey,eb,l,eH⟩
 .subst ey eH
  let⟨z,hd,vs,rel,dd⟩:=u6 I.bu e;let hz:↑vs<=sizeLine:=by rw[<-↑rel];exact z
  let hl:↑(putK kvs k v)<=sizeLine:=by let:=AE kvs k v;symm
  calc wpAny_setItem_pairs (hsz:=hz) (tO ry) dd λh' l7 hs=>h _ ?_;let he:∃q,h'.get? a=Z q:=let⟨q,_,_,hq,_⟩:=l7;⟨q,hq⟩;exact q76 I (by rw[e];calc q18) hs he (AF hl hd (rel.put k rv) l7)
 .subst ey eH
  cases(show u=q1n b from ry)
  let⟨z,hd,xs,rel,dd⟩:=UN I.bu e;let hz:↑xs<=sizeLine:=by rw[<-q58 rel];exact z
  let hl:↑(putK kvs k v)<=sizeLine:=by let:=AE kvs k v;symm
  calc wpAny_setItem_heap (hsz:=hz) (q3k hu) (yw I.bu eb) dd λh' l7 hs=>h _ ?_;calc wd λoh=>?_;let⟨q,es,ep,hq,h2,h3,h4,_,h5⟩:=l7;calc oh <| q76 I (by rw[e];calc q18) hs ⟨q,hq⟩ ⟨hl,hd,_,(rel.put k eb rv).keeps λc ys ec=>?_,q,es,ep,hq,h2,h3,h4,h5⟩;rw[bD (R_ ec e (λz=>nomatch z))];calc ec
end
section
variable{X:Cx}{pins:a9}{σ:St}{H:Hp}{s:ο}{a:Y}{kvs:-(Key×V)}{k:Key}{u:O}{A:Β}{E:bz}
def US{v:V}{more:-O}{Q:bz}(I:Inv X pins σ H s)(e:H a=Z (.dK kvs))(ry:RelV (kV k) u)(l:cP kvs k=Z v)(hm:more=[]\/∃x,more=[x])
  (h:∀w' s',Inv X pins σ (upd H a (.dK (u5 kvs k))) s'->RelV v w'->Q w' s'):ρ (ς X.prog X.w) A (call (.builtin "dict.pop") (.ref a::u::more)) Q E s:=by
 let⟨z,hd,vs,rel,dd⟩:=u6 I.bu e;let⟨w',hw,kI⟩:=eW.some_of (v:=v) (o:=valueAt vs k) (by rw[<-l];calc rel.val k)
 let hp:(keyPart u).isSome=θ:=by
  cases k with
  |inl i=>let⟨t,q⟩:=(show ∃t,u=q1m i t from ry);subst q;rfl
  |inr x=>let⟨t,q⟩:=(show ∃t,u=q8V x t from ry);subst q;rfl
 let ha:argsOk "dict.pop" ⟨.ref a::u::more,[]⟩:=by
  rcases hm with q|⟨x,q⟩
  .subst q;exact PySem.F.args_dict_pop_2 _ _
  .subst q;exact PySem.F.args_dict_pop_3 _ _ _
 refine q6Q q5A dd.typeIs PySem.F.entry_dict_pop ha (meets_dict_pop_there (gU X.prog X.w) a (tO ry) more hm hp)
  ⟨vs,w',dd,by rw[<-↑rel];calc z,hw,λh' l7 hs=>h w' _ ?_ kI⟩
 let he:∃q,h'.get? a=Z q:=let⟨q,_,_,hq,_⟩:=l7;⟨q,hq⟩;calc q76 I (by rw[e];calc q18) hs he (AF (q0N (UM kvs k) z) hd (rel.drop k) l7)
end
/---/def u7(i:υ):Prop:=∀ov iv,subscripted i ι ov iv=operate [ov,iv] (getItem ov iv)
def UT{prog:ψ}{w:ω}{A:Β}{E:bz}{s:ο}{env:Env}{value slice:υ}{pos:Δ}{T id:String}{Q:bz}
  (hl:typeLookup (.type T) "__getitem__" = pure (Z (.builtin id))) (hs:u7 slice)
  (h:ρ (ς prog w) A (eval value env) (λo s₁=>ρ (ς prog w) A (eval slice env) (λi s₂=>s₂.TypeIs o T/\ρ (ς prog w) A (getItem o i) Q E s₂) E s₁) E s) :
  ρ (ς prog w) A (eval (.Subscript value slice pos) env) Q E s:=by
 calc Subscript_ (q1C h (λo s₁ h₁=>q1C h₁ (λi s₂ h₂=>?_) λ_ _ x=>x) λ_ _ x=>x);let⟨hT,h₂⟩:=h₂;refine Aw (Aw (q30 hT hl ?_))
 let fin:ρ (ς prog w) A (subscripted slice ι o i) (λr s₃=>ρ (ς prog w) A (letTemporaryGo value o r >>= λ_=>pure r) Q E s₃) E s₂:=by
  rw[hs o i];exact wpAny_operating (q1C h₂ (λr s₃ h₃=>Aw (wpAny_letTemporaryGo (Ui h₃))) λ_ _ x=>x)
 first
  |exact Ui (Aw fin)
  |rfl
  |calc Aw fin
def UU{X:Cx}{pins:a9}{σ:St}{H:Hp}{s:ο}{a:Y}{y:V}{o:Option V}(I:Inv X pins σ H s)(g:gH H a y o):s.TypeIs (.ref a) "dict" := by
 rcases g with⟨kvs,k,e,_,_⟩|⟨kvs,k,b,e,_,_,_⟩
 .let⟨_,_,vs,_,dd⟩:=wk I.bu e
  exact dd.typeIs
 .let⟨_,_,xs,_,dd⟩:=wm I.bu e
  calc dd.typeIs
/---/def UW(td ty:TE):TE:=fun σ H Q=>td σ H λx H1=>ty σ H1 λy H2=>∃a v,x=.ref a/\gH H2 a y (Z v)/\Q v H2
/---/def yx(ty td:TE):TE:=fun σ H Q=>ty σ H λy H1=>td σ H1 λx H2=>∃a o,x=.ref a/\gH H2 a y o/\Q (.bl o.isSome) H2
/---/def LM(ty td:TE):TE:=fun σ H Q=>ty σ H λy H1=>td σ H1 λx H2=>∃a o,x=.ref a/\gH H2 a y o/\Q (.bl (!o.isSome)) H2
/---/def UX(td ty tv:TE):TS:=λD σ H=>tv σ H λv H1=>td σ H1 λx H2=>ty σ H2 λy H3=>∃a H4,x=.ref a/\l6 H3 a y v H4/\D.nx σ H4
section
variable{X:Cx}{o i e value:υ}{pos pos' DH:Δ}{td ty tv:TE}
def UY(hu:X.A.units+1<cLine)(ho:JE X o td)(hi:JE X i ty)(hs:u7 i):JE X (.Subscript o i pos) (UW td ty):=by
 calc⟨λpins s σ H Q I h=>UT PySem.F.slot_dict_getitem.lookup hs (bJ (ho pins s σ H _ I h) λu s1 ⟨x,H1,I1,rx,q1⟩=>bJ (hi pins s1 σ H1 _ I1 q1) ?_)⟩;ext iv s2 ⟨y,H2,I2,ry,a,v,ex,g,q2⟩;subst ex;obtain rfl:u=q1n a:=rx;calc⟨UU I2 g,UO hu I2 g ry λw' s3 I3 kI=>⟨v,H2,I3,kI,q2⟩⟩
def UZ(hu:X.A.units+1<cLine)(hi:JE X i ty)(ho:JE X o td):JC X .In i o (yx ty td):=by
 calc⟨λpins s σ H Q I h=>bJ (hi pins s σ H _ I h) λiv s1 ⟨y,H1,I1,ry,q1⟩=>bJ (ho pins s1 σ H1 _ I1 q1) ?_⟩;ext u s2 ⟨x,H2,I2,rx,a,ov,ex,g,q2⟩;subst ex;obtain rfl:u=q1n a:=rx;calc Ep hu I2 g ry λs3 I3=>⟨.bl ov.isSome,H2,I3,U,q2⟩
def U0(hu:X.A.units+1<cLine)(hi:JE X i ty)(ho:JE X o td):JC X .NotIn i o (LM ty td):=by
 calc⟨λpins s σ H Q I h=>bJ (hi pins s σ H _ I h) λiv s1 ⟨y,H1,I1,ry,q1⟩=>bJ (ho pins s1 σ H1 _ I1 q1) ?_⟩;ext u s2 ⟨x,H2,I2,rx,a,ov,ex,g,q2⟩;subst ex;obtain rfl:u=q1n a:=rx;calc UQ hu I2 g ry λs3 I3=>⟨.bl (!ov.isSome),H2,I3,U,q2⟩
def LN(hu:X.A.units+1<cLine)(ho:JE X o td)(hi:JE X i ty)(hv:JE X value tv)(hs:swapsWith value (Z (.Subscript o i pos')) pos.line X.env=pure ι):
  JS X (.Assign [.Subscript o i pos'] value pos) (UX td ty tv):=by
 calc⟨λpins s σ H D I h=>wpAny_Assign_Subscript (bJ (hv pins s σ H _ I h) λr s1 ⟨v,H1,I1,rv,q1⟩=>bJ (ho pins s1 σ H1 _ I1 q1) λu s2 ⟨x,H2,I2,rx,q2⟩=>bJ (hi pins s2 σ H2 _ I2 q2) λiv s3 ⟨y,H3,I3,ry,a,H4,ex,g,q3⟩=>?_) hs⟩;subst ex;obtain rfl:u=q1n a:=rx;calc UR hu I3 g ry rv λs4 I4=>⟨σ,H4,I4,q3⟩
end
def LO{P:ψ}{w:ω}{H:Hp}(h:Α)(hb:sysModules<h.objs.size):bO P w H (h.push {cls:=.type "dict",data:=.dict #[]}) h.objs.size (.dK []) :=
 ⟨q0V _,q2I.mpr (q1_ (q0o hb)),[],.nil,Heap.DictOf.new h⟩
/---/def LP:TE:=λ_ H Q=>∀p,H p=η->Q (.ref p) (upd H p (.dK []))
section
variable{X:Cx}{pos:Δ}
def jT:JE X (.Dict [] [] pos) LP:=⟨λpins s σ H Q I h =>
 wpAny_Dict_empty ⟨.ref ⇑s,_,I.laid    (λ_ _ q=>Lm _ q) (Ln _) (LO s.heap I.big),U,h _ (I.bu.fresh (Ln _))⟩⟩
end
/---/def AG:-(TE×TE)->St->Hp->(-(V×V)->Hp->Prop)->Prop
 |[],_,H,Q=>Q [] H
 |(tk,tv)::r,σ,H,Q=>tk σ H λx H1=>tv σ H1 λy H2=>AG r σ H2 λps H3=>Q ((x,y)::ps) H3
abbrev VV:-(V×V)->-(O×O)->Prop:=Paired λp q=>RelV p.1 q.1/\RelV p.2 q.2
/---/def yy(X:Cx)(pos:Δ)(keys:-(Option υ))(values:-υ)(jU:-(TE×TE)):Prop :=
 ∀(pins:a9)(s:ο)(σ:St)(H:Hp)(Q:-(V×V)->Hp->Prop),Inv X pins σ H s->AG jU σ H Q →
  ρ (ς X.prog X.w) X.A (evalPairs (pairTrees keys values X.env pos)) (λvs s'=>∃ps H',Inv X pins σ H' s'/\VV ps vs/\Q ps H') X.xe s
def U1{X pos}:yy X pos [] [] []:=λpins s σ H Q I h=>pairTrees_nil_walk ⟨[],H,I,.nil,h⟩
def U2{X:Cx}{pos:Δ}{k v:υ}{ks:-(Option υ)}{vs:-υ}{tk tv:TE}{jU:-(TE×TE)}(hk:JE X k tk)(hv:JE X v tv)(hr:yy X pos ks vs jU):
  yy X pos (Z k::ks) (v::vs) ((tk,tv)::jU):=λpins s σ H Q I h =>
 pairTrees_cons_walk (bJ (hk pins s σ H _ I h) λu s1 ⟨x,H1,I1,rx,q1⟩↦bJ (hv pins s1 σ H1 _ I1 q1) λw2 s2 ⟨y,H2,I2,ry,q2⟩ ↦
  bJ (hr pins s2 σ H2 _ I2 q2) λws s3 ⟨ps,H3,I3,rel,q3⟩↦⟨(x,y)::ps,H3,I3,.cons ⟨rx,ry⟩ rel,q3⟩)
meta def wo(kvs more:-(Key×V)):-(Key×V):=more.foldl (λacc kv=>putK acc kv.1 kv.2) kvs
def KV.merge:∀{more:-(Key×V)}{rs:-(Key×O)}{kvs:-(Key×V)}{vs:-(Key×O)},KV more rs->KV kvs vs->KV (wo kvs more) (merged vs rs):=by
 ext more rs kvs vs r
 induction r generalizing kvs vs with
 |nil=>ext q;exact q
 | @cons p q ps qs h t ih =>
  ext r0
  let e:KV (putK kvs p.1 p.2) (stored vs q.1 q.2):=by
   let:=r0.put p.1 h.2;rw[<-h.1];exact this
  calc ih e
def LQ:∀more kvs,↑(wo kvs more)<=↑kvs+↑more
 |[],kvs=>by show ↑kvs<=↑kvs+0;symm
 |p::r,kvs=>by
  let h1:=LQ r (putK kvs p.1 p.2);let h2:=AE kvs p.1 p.2;show↑(wo (putK kvs p.1 p.2) r)<=_;rw[Uh];symm
def LR{P:ψ}{w:ω}:∀{kvs:-(Key×V)}{ws:-(O×O)},VV (kvs.map λkv=>(kV kv.1,kv.2)) ws->∃rs,Carries (gU P w) ws rs/\KV kvs rs
 |[],_,r=>by cases r;exact⟨[],q18,.nil⟩
 |p::kvs,_,r=>by
  cases r with
  | @cons a b as bs h t =>
   let⟨rs,c,q⟩:=LR   t;let⟨b1,b2⟩:=b;calc⟨(p.1,b2)::rs,⟨tO h.1,U,c⟩,.cons ⟨U,h.2⟩ q⟩
/---/def U3(jU:-(TE×TE)):TE:=fun σ H Q=>∀p,H p=η->AG jU σ (upd H p (.dK [])) λps H2=>H2 p=Z (.dK [])/\∃kvs:-(Key×V),ps=kvs.map (λkv=>(kV kv.1,kv.2))/\↑kvs<=15/\Q (.ref p) (upd H2 p (.dK (wo [] kvs)))
def U4{X:Cx}{pos:Δ}{keys:-(Option υ)}{values:-υ}{jU:-(TE×TE)}(h:yy X pos keys values jU)(jH:keys.all (·.isSome)=θ)(hl:↑keys=↑values)(h0:keys≠[])
  (Er:↑keys<=15):JE X (.Dict keys values pos) (U3 jU):=by
 calc⟨?_⟩;ext pins s σ H Q I q;let I1:=I.laid    (t':=s.toks) (λ_ _ q=>Lm _ q) (Ln _) (LO s.heap I.big);calc wpAny_Dict_walk (knd:=gU X.prog X.w) jH hl h0 Er (bJ (h pins _ σ _ _ I1 (q _ (I.bu.fresh (Ln ⇑s)))) ?_);ext ws s2 ⟨ps,H2,I2,rel,e,kvs,ep,lk,q2⟩;calc wd λqK=>?_;subst ep;let⟨rs,c,rk⟩:=LR   rel;let⟨z,hd,vs0,r0,dd⟩:=u6 I2.bu e;calc qK ?_;cases r0
 refine⟨rs,c,dd,λh' l7 hs=>⟨.ref ⇑s,_,?_,U,q2⟩⟩
 let hz:↑(wo [] kvs)<=sizeLine:=by
  let h1:=LQ kvs [];rw[q1p] at h1;rw[q1g];symm
 let he:∃q,h'.get? ⇑s=Z q:=let⟨q,_,_,hq,_⟩:=l7;⟨q,hq⟩;calc q76 I2 (by rw[e];calc q18) hs he (AF hz hd (rk.merge .nil) l7)
structure M1(X:Cx)(o:υ)(m:L)(apos:Δ)(e:υ)(eG:Δ):Prop where
 base:attributeBase o m X.env (eval o X.env)=eval o X.env
 jF:((backTo eG (starEach [e] X.env)).all (λx => !x.1)&&(backToKw eG (keywordEach [] X.env)).all (λx=>x.1.isSome)
  && I (↑([e]:-υ)+↑([]:-Keyword)+(if([]:-Keyword).isEmpty then 0 else 1)<30))=θ
 line:(apos.endLine==eG.line)=θ
 trees:backTo eG (starEach [e] X.env)=[(ι,eval e X.env)]
/---/def LU(H:Hp)(a:Y):Prop:=(∃kvs,Rd H a (.dK kvs))\/∃kvs,Rd H a (.dT kvs)
def U5{X:Cx}{pins:a9}{σ:St}{H:Hp}{s:ο}{a:Y}(I:Inv X pins σ H s)(d:LU H a):
  s.TypeIs (.ref a) "dict" /\ (∀b,q1n a=.ref b->∃ob,s.heap.get? b=Z ob/\ob.dict=η)/\(a==sysModules)=ι:=by
 rcases d with⟨kvs,e⟩|⟨kvs,e⟩
 .let⟨_,hd,vs,_,dd⟩:=wk I.bu e
  calc⟨dd.typeIs,λb q=>?_,hd⟩;cases q
  let⟨ob,_,_,h1,h2,_⟩:=dd;exact⟨ob,h1,h2.2.1⟩
 .let⟨_,hd,xs,_,dd⟩:=wm I.bu e
  calc⟨dd.typeIs,λb q=>?_,hd⟩;cases q
  let⟨ob,_,_,h1,h2,_⟩:=dd;calc⟨ob,h1,h2.2.1⟩
/---/def U6(td ty:TE):TE:=fun σ H Q=>td σ H λx H1=>∃a,x=.ref a/\LU H1 a/\ty σ H1 λy H2=>∃kvs k v,H2 a=Z (.dK kvs)/\y=kV k/\cP kvs k=Z v/\Q v (upd H2 a (.dK (u5 kvs k)))
section
variable{X:Cx}{o e f:υ}{apos eG:Δ}{td ty tx:TE}
def U7(ho:JE X o td)(he:JE X e ty)(m:M1 X o "pop" apos e eG):JE X (.Call (.Attribute o "pop" apos) [e] [] eG) (U6 td ty):=by
 calc⟨λpins s σ H Q I h=>wpAny_Call_method m.base m.jF m.line q3o q5A PySem.F.type_dict_pop (bJ (ho pins s σ H _ I h) ?_)⟩;ext u s1 ⟨x,H1,I1,rx,a,ex,d,q1⟩;subst ex;obtain rfl:u=q1n a:=rx;let⟨t1,t2,_⟩:=U5 I1 d;calc⟨t1,t2,?_⟩;rw[m.trees];calc q3z U (q5P (q6k (bJ (he pins s1 σ H1 _ I1 q1) λiv s2 ⟨y,H2,I2,ry,kvs,k,v,ea,ey,l,q2⟩=>q6E ?_)));subst ey;calc US I2 ea ry l (.inl U) λw' s3 I3 kI=>⟨v,_,I3,kI,q2⟩
end
end L2
namespace L2
end L2
namespace L2
open PySem PySem.Spec PyProof.Rows
end L2
namespace LJS
open PySem
meta def hp(i j:Int):Int:=reduceHash (Builtin.Tuple.tupleHashOf [hashInt i,hashInt j])
def LV{prog w} i j:hT prog w [i,j]=hp i j:=rfl
meta def Es:-(Int×Int):=(q0F 12).flatMap λj=>(q0F j).map λi:Nat=>(q6_ i,q6_ j)
def U8:∀a∈Es,∀b∈Es,hp a.1 a.2=hp b.1 b.2->a=b:=by decide +kernel
def LW{i j}(h0:0<=i)(h1:i<j)(h2:j<12):(i,j)∈Es:=by
 let⟨a,rfl⟩:∃a:Nat,i=a:=⟨i.toNat,⋯⟩;let⟨b,rfl⟩:∃b:Nat,j=b:=⟨j.toNat,⋯⟩;calc q7a.mpr ⟨b,q0H.mpr ⋯,q0j.mpr ⟨a,q0H.mpr ⋯,U⟩⟩
end LJS
namespace L2
open PySem PySem.Spec PyProof.Rows
meta def oj(S:Y)(n:Nat):HO:=.ext λh=>∃hs:-Int,↑hs=n/\LJS.gR h S hs
def U9{P w H h S hs n}(e:LJS.gR h S hs)(hn:↑hs=n):bO P w H h S (oj S n) :=
 ⟨⟨hs,hn,e⟩,let⟨o,_,_,_,ho,_⟩:=e;⟨o,ho⟩,λh1 h2 ⟨AH,en,e1⟩ k↦⟨AH,en,LJS.CU e1 λo eo=>k o eo⟩⟩
section
variable{X:Cx}
def LX:∀{ps:-Y}{aM},Vals (ps.map V.ref) aM->aM=ps.map q1n
 |[],_,.nil=>U
 |_::_,_,.cons r rs=>by cases r;rw[LX rs];rfl
def U_(hc:X.calm=θ)(hu:X.A.units+64<cLine):hU X (.type "set") (λxs H Q=>∃(l:Y)(ps:-Y)(ks:-(Int×Int)),xs=[.ref l]/\bR X.K H l (ps.map V.ref)/\↑ps=↑ks ∧
  (∀(i:Nat)(a:Y)(k:Int×Int),ps[i]?=Z a->ks[i]?=Z k->H a=Z (.tup [.int k.1,.int k.2]))/\(∀k∈ks,0<=k.1/\k.1<k.2/\k.2<12)/\ks.Nodup/\↑ks<=30/\∀p,H p=η->Q (.ref p) (upd H p (oj p ↑ks))):=by
 ext pins s σ H xs us Q I r h;calc wd λqL=>?_;let⟨l,ps,ks,rfl,hq,hl,f9,bd,nH,iE,q⟩:=h;let⟨u,rfl,rx⟩:=vals1 r;calc qL ?_;cases rx
 let⟨aM,r',pl,_⟩:=I.list hq;obtain rfl:=LX r';let sz:(ps.map q1n).toArray.size=↑ks:=by rw[Uk,ye,hl]
 let u9:∀i,i<↑ks->∃k,ks[i]?=Z k/\ks.getD i (0,0)=k:=λi hi=>⟨ks[i],D9 hi,by rw[My,D9 hi];rfl⟩;let Et:∀i,i<↑ks->∃a,ps[i]?=Z a/\ps.getD i 0=a:=λi hi=>⟨ps[i]'(by rw[hl];calc hi),D9 (by rw[hl];calc hi),by rw[My,D9 (by rw[hl];calc hi)];rfl⟩;refine LJS.RM (λi=>ps.getD i 0) (λi=>[(ks.getD i (0,0)).1,(ks.getD i (0,0)).2]) (I.ok.hd hc) ⋯ pl.isList (λi v hv=>?_) (λi hi=>?_) (λi j hi hj=>?_) (by rw[sz];calc iE) λh' tk se kp=>?_
 .rw[q2y,Uj] at hv
  let⟨a,ea,rfl⟩:=q0e.mp hv;rw[My,ea];rfl
 .rw[sz] at hi
  let⟨k,ek,dk⟩:=u9 i hi;let⟨a,ea,da⟩:=Et i hi;rw[dk,da];let⟨_,bY,r2,o,ho,pJ,n,hd⟩:=I.bu a _ (f9 i a k ea ek)
  cases r2 with
  |cons ra rr =>
   cases rr with
   |cons rb rn =>
    cases rn
    let⟨t1,rfl⟩:=ra;let⟨t2,rfl⟩:=rb;exact⟨o,_,n,ho,pJ,hd,.cons (q3K ..) (.cons (q3K ..) .nil)⟩
 .rw[sz] at hi
  let⟨k,ek,dk⟩:=u9 i hi;let⟨k',wq,Va⟩:=u9 j ⋯;rw[dk,Va,LJS.LV,LJS.LV];ext z;let b1:=bd k (q0m.mpr ⟨i,ek⟩);let b2:=bd k' (q0m.mpr ⟨j,wq⟩);let e':k'=k:=(LJS.U8 (k'.1,k'.2) (LJS.LW b2.1 b2.2.1 b2.2.2) (k.1,k.2) (LJS.LW b1.1 b1.2.1 b1.2.2) z);rw[e'] at wq;let⟨AI,Vb⟩:=Ll.mp wq;let⟨d_,CN⟩:=Ll.mp ek;let:=(q2r  (h₁:=d_) nH).mp (by rw[Vb,CN]);symm
 .calc⟨.ref ⇑s,upd H ⇑s (oj ⇑s ↑ks),I.laid  (λb o e=>kp b o (q0h e) e) (Ln _) (U9 se (by rw[ye,q03,sz])),U,q _ (I.bu.fresh (Ln _))⟩
def Vc:hU X (.builtin "len") (λxs H Q=>∃(p:Y)(n:Nat),xs=[.ref p]/\H p=Z (oj p n)/\n<1000/\Q (.int n) H):=by
 ext pins s σ H xs us Q I r h;let⟨p,n,rfl,hp,hn,q⟩:=h;let⟨u,rfl,rx⟩:=vals1 r;cases rx
 calc wd λqM=>?_;let⟨⟨hs,hl,o,es,ep,t,ho,hex,hd,T⟩,_⟩:=I.bu p _ hp;let e:es.size=n:=by rw[T.num,hl]
 calc qM <| call_len_set ho hex hd T.fits ⋯ ⟨.int n,H,I.tok _,⟨_,by rw[e]⟩,q⟩
def LY:∀{bs:-Bool}{aM:-O},Vals (bs.map V.bl) aM->aM=bs.map q3j
 |[],_,.nil=>U
 |_::_,_,.cons r rs=>by cases r;rw[LY rs];rfl
def all_range(bs:-Bool):(q0F bs.length).all (λi=>bs.getD i θ)=bs.all id:=by
 rw[Bool.eq_iff_iff,q1J,q1J]
 constructor
 .ext h b hb
  let⟨i,hi⟩:=q0m.mp hb;let:=h i (q0H.mpr ((Ll.mp hi).1));rw[My,hi] at this;exact this
 .ext h i hi
  let hl:=q0H.mp hi;rw[My,D9 hl];calc h _ (q1M hl)
def Vd(hc:X.calm=θ):hU X (.builtin "all") (λxs H Q=>∃(l:Y)(bs:-Bool),xs=[.ref l]/\bR X.K H l (bs.map V.bl)/\Q (.bl (bs.all id)) H):=by
 ext pins s σ H xs us Q I r h;let⟨l,bs,rfl,hq,q⟩:=h;let⟨u,rfl,rx⟩:=vals1 r;cases rx
 let⟨aM,r',pl,_⟩:=I.list hq;obtain rfl:=LY r';let hL:=pl.isList;let ll:l<⇑s:=by let⟨o,e,_⟩:=hL;exact q0h e
 refine call_all_walk (q2f hL (⟨⇑s,_,_,_,_,_,λi=>bs.getD i θ,U,q3M (by calc I.ok.hd hc) ⇑s l (q0o ll) _,⟨⟨_,q0f _ U,U,U⟩,hL.push _⟩,λi v s' Q' E' hv AJ=>?_,λh' tk kp=>?_⟩))
 .let hv:(bs.map q3j).toArray[i]?=Z v:=hv
  let AJ:Q' (bs.getD i θ) s':=AJ;rw[q2y,Uj] at hv;let⟨b,eb,rfl⟩:=q0e.mp hv;rw[My,eb] at AJ;exact q17 AJ
 .refine⟨.bl (bs.all id),H,I.kept  λb o e=>kp b o (λz=>?_) (Lm _ e),?_,q⟩
  .let:=q0h e
   rw[q0z.mp z] at this;exact q2G _ this
  .show q3j _=q3j _
   rw[Uk,ye,all_range]
end
end L2
namespace LJ
open PySem L2
structure Fn(P:ψ)(w:ω)(K:q0b)(mg:L->Option O)(base:Α)(k:Nat)(x:L)(ps:-L)(sp:Sp)(f:Y)(fd:FuncData):Prop where
 ok:cB P w K mg base f_ k f fd ps sp
 wt:mg x=Z (.ref f)
 kp:q1q K (.ref f)=θ
 bd:Binds K fd ps []
def Ve:bootBuiltins "bool" = Z (.type "bool"):=by decide +kernel
def Vf:bootBuiltins "int" = Z (.type "int"):=by decide +kernel
def LZ:bootBuiltins "tuple" = Z (.type "tuple"):=by decide +kernel
def qN:bootBuiltins "list" = Z (.type "list"):=by decide +kernel
def AK:bootBuiltins "set" = Z (.type "set"):=by decide +kernel
def Vg:bootBuiltins "all" = Z (.builtin "all"):=by decide +kernel
structure aH(many:Int)(ys:-(Int×Int×Int)):Prop where
 m1:1<=many
 fW:many<=12
 iE:↑ys<=30
 ends:∀y∈ys,0<=y.1/\y.1<y.2.1/\y.2.1<many/\0<=y.2.2/\y.2.2<=1000000000
 unlike:(ys.map λy=>(y.1,y.2.1)).Nodup
end LJ
namespace L2
open PySem PySem.Spec PyProof.Rows
end L2
namespace LJ
open PySem L2
meta def lC:Nat->-(Int×Int)
 |0=>[]
 |n+1=>lC n++(q0F n).map λa:Nat=>(q6_ a,q6_ n)
def Eu:∀{n k},k∈lC n->0<=k.1/\k.1<k.2/\k.2<n
 |0,_,h=>nomatch h
 |n+1,k,h=>by
  rcases q0w.mp h with h|h
  .let:=Eu h;symm
  .let⟨a,ha,rfl⟩:=q0j.mp h
   let:=q0H.mp ha;refine⟨Int.natCast_nonneg a,?_,?_⟩
   .show (a:Int)<n;symm
   .show (n:Int)<(n+1);symm
def L0:∀n:Nat,(lC n).Nodup
 |0=>q3u
 |n+1=>by
  refine q1k.mpr ⟨L0 n,?_,λk h1 k' h2 e=>?_⟩
  .exact q1s.mpr (q3J.imp λ{a b} ne e=>ne (q3S (congrArg x0x e)))
  .subst e
   let⟨a,ha,rfl⟩:=q0j.mp h2;let:=(Eu h1).2.2;let:(n:Int)<n:=this;symm
def L1:∀n:Nat,n<=12->↑(lC n)<=66:=by
 ext n h;rcases n with _|_|_|_|_|_|_|_|_|_|_|_|_|n
 all_goals first|decide|symm
end LJ
namespace LJ
open PySem
def Vh{j n:Nat}(h:j<n):seqIndex? (j:Int) n=Z j:=by
 unfold seqIndex?
 first|(simp;symm)|skip
end LJ
namespace L2
open PySem PySem.Spec PyProof.Rows
section
variable{X:Cx}
def L3:hU X (.type "range") (λxs H Q=>∃j:Int,xs=[.int j]/\∀r,H r=η->Q (.ref r) (upd H r (.rng 0 j))):=by
 ext pins s σ H xs us Q I r h;let⟨j,rfl,q⟩:=h;let⟨u,rfl,t,rfl⟩:=vals1 r;calc call_range_1 ⟨.ref ⇑s,_,I.laid   (λb o e=>Lm _ e) (Ln _) ?_,U,q _ (I.bu.fresh (Ln _))⟩;calc⟨_,_,_,q0f _ U⟩
meta def bB(n:Nat):-Int:=(q0F n).map λa:Nat=>(a:Int)
def Ew:∀{ns:-Int}{us},↑us=↑ns->(∀(i:Nat) u,us[i]?=Z u->∃t,u=.int (ns.getD i 0) t)->Vals (ns.map V.int) us
 |[],[],_,_=>.nil
 |[],_::_,h,_=>by simp at h
 |_::_,[],h,_=>by simp at h
 |n::ns,u::us,h,g=>by
  let⟨t,e⟩:=g 0 u U;calc .cons ⟨t,e⟩ (Ew h⁻¹ λi v e2=>?_);let⟨t,e⟩:=g (i+1) v e2⁻¹;calc⟨t,by simpa using e⟩
def Vi(hc:X.calm=θ):hU X (.type "list") (λxs H Q=>∃(r:Y)(n:Nat),xs=[.ref r]/\H r=Z (.rng 0 (n:Int))/\n<=1000/\∀l,H l=η->Q (.ref l) (upd H l (.lst ((bB n).map V.int)))):=by
 ext pins s σ H xs us Q I r h;let⟨a,n,rfl,ha,hn,q⟩:=h;let⟨u,rfl,rx⟩:=vals1 r;cases rx
 let⟨t,u,v,e⟩:=(I.bu a _ ha);let hs:q2O 0 n 1=n:=by rw[q59];split<;>symm
 calc call_list_range  (I.ok.hd hc) e (q8W ⋯ ⋯ ⋯ ⋯) hs ⋯ λh' tk acc c' kp e' it=>⟨.ref ⇑s,_,I.laid   kp (Ln _) ?_,U,q _ (I.bu.fresh (Ln _))⟩;refine⟨q1e (mW (by rw[ye,bB,ye,q03];calc hn)),acc.toList,c',Ew ?_ λi u e=>?_,by simpa using e'⟩
 .rw[q0k,it.1,bB,ye,q03]
 .rw[q0G] at e
  let⟨t',e2⟩:=it.2 i u e;let hi:i<n:=by rw[<-it.1];exact(q20.mp e).1
  calc⟨t',e2.trans ?_⟩;rw[bB,My,Uj,q1A hi];show q1m (0+i*1) t'=q1m i t';rw[q5h,q7o]
def AL:∀{us ns},IntsAre us ns->Vals (ns.map V.int) us
 |_,_,.nil=>.nil
 |_,_,.cons n t r=>.cons ⟨t,U⟩ (AL r)
def L5:hU X (.builtin "sorted") (λxs H Q=>∃(l:Y)(ns:-Int),xs=[.ref l]/\bR X.K H l (ns.map V.int)/\↑ns<64/\∀r (cM:-Int),cM.Perm ns->cM.Pairwise (· <= ·)->H r=η->Q (.ref r) (upd H r (.lst (cM.map V.int)))):=by
 ext pins s σ H xs us Q I r h;let⟨l,ns,rfl,hq,ka,q⟩:=h;let⟨u,rfl,rx⟩:=vals1 r;cases rx
 let⟨aM,r',pl,_⟩:=I.list hq;let hl:=↑r';rw[ye] at hl;calc sorted_ints pl.isList (intsAre_of r')⁻¹ ⋯ λout cM hI pm pw=>?_;let⟨e,he⟩:=sortedAll_at s.heap aM out;calc⟨.ref (⇑s+1),_,I.laid   (λb o e=>sortedAll_old e) (q3V _) ?_,U,q _ cM pm pw (I.bu.fresh (q3V _))⟩;calc⟨q1e (mW (by rw[ye,pm.length_eq];symm)),out.toList,e,AL hI,?_⟩;symm
def L7{prog w A}{E:bz}{I l items}(W:Walks prog w A I [I,l] [I] items.size (λi v=>items[i]?=Z v) (λi h=>h.IsListIter I l i/\h.IsList l items)):
  ∀k i s (Q:-O->ο->Prop),i+k<=items.size->(s.heap.IsListIter I l i/\s.heap.IsList l items) →
   (∀h' tk,(h'.IsListIter I l (i+k)/\h'.IsList l items)->(∀b o,b∉[I]->s.heap.get? b=Z o->h'.get? b=Z o)->Q ((items.toList.drop i).take k) {s with heap:=h',toks:=tk})->ρ (ς prog w) A (draw (.ref I) k) Q E s
 |0,i,s,Q,_,st,g=>by
  calc Ui ?_;let:=g s.heap s.toks st λ_ _ _ e=>e;exact this
 |k+1,i,s,Q,hk,st,g=>by
  let hi:i<items.size:=by symm
  refine Aw (W.item i s _ _ hi st λv h1 ky hv qe qO=>Aw (q0R (L7 W k (i+1) _ _ ⋯ qe λh2 Ex nN uA=>Ui ?_)))
  let e:items.toList.drop i=v::items.toList.drop (i+1):=by
   rw[q28 ⋯];congr 1;let Aq:=hv;rw[q0B hi] at Aq;simpa using Aq
  let:=g h2 Ex (by rw[show i+(k+1)=i+1+k by symm];calc nN) λb o hb e=>uA b o hb (qO b o hb e);rw[e,q5Z] at this;calc this
def Vj{prog:ψ}{w:ω}{A:Β}{E:bz}{s:ο}{l:Y}{items:Array O}{Q:-O->ο->Prop}(hh:A.handled=η)(hl:s.heap.IsList l items)
  (g:∀h' tk,(∀b o,b≠⇑s->s.heap.get? b=Z o->h'.get? b=Z o)->Q items.toList {s with heap:=h',toks:=tk}):ρ (ς prog w) A (unpackItems (.ref l) items.size η) Q E s:=by
 let ll:l<⇑s:=by let⟨o,e,_⟩:=hl;exact q0h e
 let W:=q3M (prog:=prog) (w:=w) hh ⇑s l (q0o ll) items;calc Aw (Aw (q30 hl.typeIs slot_list_iter.lookup (Ui (Aw (q0R (q2f hl (Aw (q0R (L7 W items.size 0 _ _ ⋯ ⟨⟨_,q0f _ U,U,U⟩,hl.push _⟩ λh1 ky qe qO=>?_)))))))));rw[q5G,q1i (by calc Ln _),q0l (by calc q2G _)];rw[q0D] at qe;calc Aw (q0R (W.done _ _ _ qe λh2 Ex uA=>Ui (g h2 Ex λb o hb e=>uA b o hb⁻¹ (qO b o hb⁻¹ (Lm _ e)))))
/---/def Vk(K:q0b)(n:Nat)(t:nV):TG:=λv σ H Q=>∃a xs,v=.ref a/\bR K H a xs/\↑xs=n/\t xs σ H Q
def Vl{es:-υ}{k:Nat}{t:nV}{n:Nat}{pos:Δ}(hc:X.calm=θ)(h:ly X es t)
  (hn:‹↑(assignEach es X.env)=n›) (kC:‹(assignEach es X.env).findIdx? (·.1)=η›):JG X (.Tuple es k pos) (Vk X.K n t):=by
 calc⟨?_⟩;ext pins s σ H v u Q I r hw;let⟨a,xs,e1,hq,hl,hw⟩:=hw;subst e1;cases r
 let⟨aM,rv,ht,hz⟩:=I.list hq;let hlen:=↑rv;rw[assign_Tuple];calc Aw (q2W ?_);unfold unpack;rw[kC,show↑(assignEach es X.env)=aM.toArray.size by rw[hn,<-hl,hlen];simp];calc Aw (q0R (Vj (I.ok.hd hc) ht.isList λh' tk kp=>?_));let I1:Inv X pins σ H {s with heap:=h',toks:=tk}:=I.kept λb o e=>kp b o (q0o (q0h e)) e;calc h pins _ σ H xs _ Q I1 rv⁻¹ hw
def Vm:yf X "dict.setdefault" (λx vs H Q=>∃(d:Y)(kvs:-(Key×V))(k:Key)(dv:V),x=.ref d/\vs=[kV k,dv]/\H d=Z (.dK kvs)/\↑kvs<sizeLine/\(∀v,cP kvs k=Z v->Q v H)/\(cP kvs k=η->Q dv (upd H d (.dK (putK kvs k dv))))):=by
 ext pins s σ H x xs v us Q I rx rv h;let⟨d,kvs,k,dv,rfl,rfl,hd,hz,q1,q2⟩:=h;cases rx
 cases rv with
 |cons rk rr =>
  cases rr with
  |cons rd rn =>
   cases rn
   rename_i uk ud;let⟨z,lo,vs,rel,dd⟩:=u6 I.bu hd;let rl:=rel.val k;refine q6Q q35 dd.typeIs PySem.F.entry_dict_setdefault (PySem.F.args_dict_setdefault_3 _ _ _) (PySem.kt_meets_setdefault (gU X.prog X.w) d (tO rk) lo ud) ⟨vs,dd,by rw[<-↑rel];calc z,λv hv=>?_,λhn h' l7 hs=>?_⟩
   .rw[hv] at rl
    cases e:cP kvs k with
    |none=>rw[e] at rl;exact rl.elim
    |some y =>
     rw[e] at rl;exact⟨y,H,I.tok _,rl,q1 y e⟩
   .rw[hn] at rl
    cases e:cP kvs k with
    |some y=>rw[e] at rl;exact rl.elim
    |none =>
     let he:∃q,h'.get? d=Z q:=let⟨q,_,_,hq,_⟩:=l7;⟨q,hq⟩;let hl:=AE kvs k dv;calc⟨dv,_,q76  I (by rw[hd];calc q18) hs he (AF ⋯ lo (rel.put k rd) l7),rd,q2 e⟩
meta def jV(v d:Y):HO:=.ext λh=>h.IsValuesView v d
def Vn:yf X "dict.values" (λx vs H Q=>∃(d:Y)(kvs:-(Key×V)),x=.ref d/\vs=[]/\H d=Z (.dK kvs)/\∀r,H r=η->Q (.ref r) (upd H r (jV r d))):=by
 ext pins s σ H x xs v us Q I rx rv h;let⟨d,kvs,rfl,rfl,hd,q⟩:=h;cases rx
 cases rv
 let⟨z,lo,vs,rel,dd⟩:=u6 I.bu hd;calc q6Q q4V dd.typeIs PySem.F.entry_dict_values (PySem.F.args_dict_values_1 _) (meets_dict_values (gU X.prog X.w) d lo) ⟨⟨vs,dd⟩,?_⟩;let e:(s.heap.push {cls:=.type "dict_values",data:=.fields #[.ref d]}).IsValuesView ⇑s d:=⟨_,q0f _ U,U,U⟩;calc⟨.ref ⇑s,_,I.laid  (o:=jV ⇑s d) (λb o e=>Lm _ e) (Ln _) ⟨e,⟨_,q0f _ U⟩,λh1 h2 ⟨o,ho,r⟩ k↦⟨o,k o ho,r⟩⟩,U,q _ (I.bu.fresh (Ln _))⟩
def L8:∀{kvs:-(Key×V)}{vs:-(Key×O)},KV kvs vs->Vals (kvs.map (·.2)) (vs.map (·.2))
 |[],_,.nil=>.nil
 |_::_,_,.cons r rs=>.cons r.2 (L8 rs)
def Vo(hc:X.calm=θ):hU X (.type "list") (λxs H Q=>∃(r d:Y)(kvs:-(Key×V)),xs=[.ref r]/\H r=Z (jV r d)/\H d=Z (.dK kvs)/\∀l,H l=η->Q (.ref l) (upd H l (.lst (kvs.map (·.2))))):=by
 ext pins s σ H xs us Q I r' h;let⟨r,d,kvs,rfl,hr,hd,q⟩:=h;let⟨u,rfl,rx⟩:=vals1 r';cases rx
 calc wd λqP=>?_;let⟨iv,_⟩:=I.bu r _ hr;let⟨z,lo,vs,rel,dd⟩:=u6 I.bu hd;let⟨o,es,ep,ho,rest⟩:=dd;let lv:=↑rel;calc qP <| PySem.W.kdl_call (PySem.W.kdl_values     ) (I.ok.hd hc) ⟨iv,⟨o,es,ho,rest⟩⟩ ⋯ λh' tk acc c' kp e' it=>⟨.ref ⇑s,_,I.laid   kp (Ln _) ?_,U,q _ (I.bu.fresh (Ln _))⟩;calc⟨by rw[ye];calc z,acc.toList,c',by rw[(PySem.W.kdl_vals_eq acc.toList (it.1) λj v e=>it.2 j v (by rw[<-q0G];calc e))];calc L8 rel,by simpa using e'⟩
end
inductive FV where
 |p (d:D)|w (a:Y)
inductive DV where
 |p (d:D)|o (k:Nat)|t (d:D) (k:Nat)|w (a:Y)|u (t:Bool) (fs:-FV)
meta def FV.v:FV->DV
 |.p d=>.p d
 |.w a=>.w a
inductive OV where
 |lst (ds:-D)|dct (kvs:-(Key×D))|dtt (kvs:-(-Int×Int))
 |al (a:Y) (ds:-D)|ac (a:Y) (kvs:-(Key×D))|ins (a C:Y) (fs:-(L×FV))|av (a:Y) (kvs:-(Key×FV))
structure bh where
 sl:-(Option DV)
 mu:-(Option OV)
/---/def dW{κ α:Type}(R:α->V->Prop):-(κ×α)->-(κ×V)->Prop
 |[],ws=>ws=[]
 |kd::r,ws=>∃v t,ws=(kd.1,v)::t/\R kd.2 v/\dW R r t
/---/def lE(F:Hp):FV->V->Prop
 |.p d,v=>Is F d v
 |.w a,v=>v=.ref a
abbrev AM(F:Hp):-(Key×D)->-(Key×V)->Prop:=dW (Is F)
abbrev pK(F:Hp){κ:Type}:-(κ×FV)->-(κ×V)->Prop:=dW (lE F)
def dW.mono{κ α R R'}(s:∀a v,R a v->R' a v):∀{ks:-(κ×α)}{ws},dW R ks ws->dW R' ks ws
 |[],_,h=>h
 |_::_,_,⟨v,t,e,h1,h2⟩=>⟨v,t,e,s _ _ h1,dW.mono s h2⟩
def lE.same{F F'}(s:bf F F'):∀f v,lE F f v->lE F' f v
 |.p _,_,h=>Is.same s h
 |.w _,_,h=>h
/---/def gz(F:Hp)(a:Y):OV->HO->Prop
 |.lst ds,o=>∃vs,o=.lst vs/\aA F ds vs
 |.dct kvs,o=>∃ws,o=.dK ws/\AM F kvs ws
 |.dtt kvs,o=>o=.dT (kvs.map λp=>(p.1.map q2g,V.int p.2))
 |.al b ds,o=>b=a/\∃vs,o=.lst vs/\aA F ds vs
 |.ac b kvs,o=>b=a/\∃ws,o=.dK ws/\AM F kvs ws
 |.ins b C fs,o=>b=a/\∃dx ws,o=.ins C dx ws/\pK F fs ws
 |.av b kvs,o=>b=a/\∃ws,o=.dK ws/\pK F kvs ws
def gz.same{F F' a}(s:bf F F'):∀{ov o},gz F a ov o->gz F' a ov o
 |.lst _,_,⟨vs,e,h⟩=>⟨vs,e,h.same s⟩
 |.dct _,_,⟨ws,e,h⟩=>⟨ws,e,h.mono λ_ _=>Is.same s⟩
 |.dtt _,_,e=>e
 |.al _ _,_,⟨z,vs,e,h⟩=>⟨z,vs,e,h.same s⟩
 |.ac _ _,_,⟨z,ws,e,h⟩=>⟨z,ws,e,h.mono λ_ _=>Is.same s⟩
 |.ins _ _ _,_,⟨z,dx,ws,e,h⟩=>⟨z,dx,ws,e,h.mono (lE.same s)⟩
 |.av _ _,_,⟨z,ws,e,h⟩=>⟨z,ws,e,h.mono (lE.same s)⟩
meta def qQ:Bool->-V->HO
 |true,us=>.tup us
 |false,us=>.lst us
/---/def fQ(F:Hp):-FV->-V->Prop
 |[],us=>us=[]
 |f::r,us=>∃v t,us=v::t/\lE F f v/\fQ F r t
def fQ.same{F F'}(s:bf F F'):∀{fs us},fQ F fs us->fQ F' fs us
 |[],_,h=>h
 |_::_,_,⟨v,t,e,h1,h2⟩=>⟨v,t,e,lE.same s _ _ h1,fQ.same s h2⟩
/---/def eY(F:Hp)(ad:-Y):DV->V->Prop
 |.p d,v=>Is F d v
 |.o k,v=>∃a,ad[k]?=Z a/\v=.ref a
 |.w a,v=>v=.ref a
 |.u t fs,v=>∃b us,v=.ref b/\F b=Z (qQ t us)/\fQ F fs us
 |.t d k,v=>∃a b u,v=.ref a/\F a=Z (.tup [u,.ref b])/\Is F d u/\ad[k]?=Z b
/---/def Lv(ad:-Y)(mu:-(Option OV))(a:Y):Prop:=∃(k:Nat)(ov:OV),ad[k]?=Z a/\mu[k]?=Z (Z ov)
class ba where
 ad:-Y
 ok:Hp->Prop
 same:∀{H H':Hp},ok H->bf H H'->ok H'
 put:∀{H:Hp}{a:Y}{o o':HO},ok H->H a=Z o->((∃vs,o=.lst vs)\/(∃ws,o=.dK ws)\/(∃ws,o=.dT ws)\/∃C dx ws,o=.ins C dx ws)->ok (upd H a o')
 tb:∀{H:Hp}{a:Y},ok H->a∈ad->∃ps,H a=Z (.tbl ps)
 cs:Hp
 ct:∀{a:Y}{o:HO},cs a=Z o->∃vs,o=.tup vs
 co:∀{H:Hp},ok H->bf cs H
def gz.kd{F a}:∀{ov o},gz F a ov o->(∃vs,o=.lst vs)\/(∃ws,o=.dK ws)\/(∃ws,o=.dT ws)\/∃C dx ws,o=.ins C dx ws
 |.lst _,_,⟨vs,e,_⟩=>.inl ⟨vs,e⟩
 |.dct _,_,⟨ws,e,_⟩=>.inr (.inl ⟨ws,e⟩)
 |.dtt _,_,e=>.inr (.inr (.inl ⟨_,e⟩))
 |.al _ _,_,⟨_,vs,e,_⟩=>.inl ⟨vs,e⟩
 |.ac _ _,_,⟨_,ws,e,_⟩=>.inr (.inl ⟨ws,e⟩)
 |.av _ _,_,⟨_,ws,e,_⟩=>.inr (.inl ⟨ws,e⟩)
 |.ins _ _ _,_,⟨_,dx,ws,e,_⟩=>.inr (.inr (.inr ⟨_,dx,ws,e⟩))
def gz.kind{F a ov o}(h:gz F a ov o) ps (z:o=.tbl ps):False:=by
 rcases h.kd with⟨_,e⟩|⟨_,e⟩|⟨_,e⟩|⟨_,_,_,e⟩<;>rw[e] at z<;>cases z
variable[zt:ba]
structure NT(F:Hp):Prop where
 no:∀a∈ba.ad,F a=η
 cs:bf ba.cs F
instance {F:Hp}:CoeFun (NT F) λ_=>∀a∈ba.ad,F a=η:=⟨NT.no⟩
def NT.up{F F'}(h:NT F)(s:bf F F')(n:∀a∈ba.ad,F' a=η):NT F':=⟨n,λa o e=>s a o (h.cs a o e)⟩
structure SR(F:Hp)(ad:-Y)(δ:bh)(σ:St)(H:Hp):Prop where
 sub:bf F H
 off:∀a,Lv ad δ.mu a->F a=η
 cQ:↑ad=↑δ.mu
 inj:∀(k l:Nat)(a:Y)(ov ow:OV),ad[k]?=Z a->ad[l]?=Z a->δ.mu[k]?=Z (Z ov)->δ.mu[l]?=Z (Z ow)->k=l
 mu:∀(k:Nat)(ov:OV),δ.mu[k]?=Z (Z ov)->∃a o,ad[k]?=Z a/\H a=Z o/\gz F a ov o
 sl:∀(i:Nat)(x:DV),δ.sl[i]?=Z (Z x)->∃v,σ[i]?=Z (Z v)/\eY F ad x v
 len:↑σ=↑δ.sl
 tab:ba.ok H
 nt:NT F
structure Ext(F:Hp)(ad:-Y)(mu:-(Option OV))(H:Hp)(F':Hp)(a5:-Y)(dH:-(Option OV))(H':Hp):Prop where
 same:bf F F'
 new:∀a o,F' a=Z o->F a=Z o\/H a=η\/Lv ad mu a
 keep:∀a o,H a=Z o->¬ Lv ad mu a->a∉ba.ad->H' a=Z o
 pre:∀(k:Nat)(a:Y),ad[k]?=Z a->a5[k]?=Z a
 cN:∀a,Lv a5 dH a->Lv ad mu a\/H a=η
 iZ:∀a o,H a=Z o->∃o',H' a=Z o'
section
variable{F F' L9 H H' kO:Hp}{ad a5 yz:-Y}{mu dH yA:-(Option OV)}{δ:bh}{σ:St}
def cU{H a o}(h:H a=η):bf H (upd H a o):=λb u e=>by rw[bD (eg e h)];calc e
def Ext.refl:Ext F ad mu H F ad mu H:=⟨λ_ _ e=>e,λ_ _ e=>.inl e,λ_ _ e _ _=>e,λ_ _ e=>e,λ_ e=>.inl e,λ_ o e=>⟨o,e⟩⟩
def Ext.trans(x:Ext F ad mu H F' a5 dH H')(y:Ext F' a5 dH H' L9 yz yA kO):Ext F ad mu H L9 yz yA kO where
 same:=x.same.trans y.same
 new:=λa o e=>by
  rcases y.new a o e with h|h|h
  .exact x.new a o h
  .refine .inr (.inl ?_)
   cases q:H a with
   |none=>rfl
   |some u=>let⟨u',h'⟩:=x.iZ a u q;rw[h] at h';cases h'
  .rcases x.cN a h with h|h
   .exact .inr (.inr h)
   .exact .inr (.inl h)
 keep:=λa o e n t=>y.keep a o (x.keep a o e n t) (λl=>by
  rcases x.cN a l with h|h
  .exact n h
  .rw[e] at h;cases h) t
 pre:=λk a e=>y.pre k a (x.pre k a e)
 cN:=λa l=>by
  rcases y.cN a l with h|h
  .exact x.cN a h
  .refine .inr ?_
   cases q:H a with
   |none=>rfl
   |some u=>let⟨u',h'⟩:=x.iZ a u q;rw[h] at h';cases h'
 iZ:=λa o e=>let⟨o1,e1⟩:=x.iZ a o e;y.iZ a o1 e1
def eY.ext{x v}(h:eY F ad x v)(e:Ext F ad mu H F' a5 dH H'):eY F' a5 x v:=by
 cases x with
 |p d=>exact Is.same e.same h
 |o k=>let⟨a,h1,h2⟩:=h;exact⟨a,e.pre k a h1,h2⟩
 |w a=>exact h
 |u t fs=>let⟨b,us,h1,h2,h3⟩:=h;exact⟨b,us,h1,e.same _ _ h2,h3.same e.same⟩
 |t d k=>let⟨a,b,u,h1,h2,h3,h4⟩:=h;calc⟨a,b,u,h1,e.same _ _ h2,h3.same e.same,e.pre k b h4⟩
def eY.same{x v}(h:eY F ad x v)(s:bf F F'):eY F' ad x v:=by
 cases x with
 |p d=>exact Is.same s h
 |o k=>exact h
 |w a=>exact h
 |u t fs=>let⟨b,us,h1,h2,h3⟩:=h;exact⟨b,us,h1,s _ _ h2,h3.same s⟩
 |t d k=>let⟨a,b,u,h1,h2,h3,h4⟩:=h;calc⟨a,b,u,h1,s _ _ h2,h3.same s,h4⟩
def eY.pre{cR x v}(h:eY F ad x v)(s:∀k a,ad[k]?=Z a->x=.o k\/(∃d,x=.t d k)->cR[k]?=Z a):eY F cR x v:=by
 cases x with
 |p d=>exact h
 |o k=>let⟨a,h1,h2⟩:=h;exact⟨a,s k a h1 (.inl U),h2⟩
 |w a=>exact h
 |u t fs=>exact h
 |t d k=>let⟨a,b,u,h1,h2,h3,h4⟩:=h;calc⟨a,b,u,h1,h2,h3,s k b h4 (.inr ⟨d,U⟩)⟩
meta def Nw(F H H':Hp):Hp:=λa=>match H a with
 |none=>H' a
 |some _=>F a
def Nw.same(s:bf F H):bf F (Nw F H H'):=λa o e=>by
 unfold Nw;rw[s a o e];calc e
def Nw.sub(s:bf F H)(k:bf H H'):bf (Nw F H H') H':=λa o e=>by
 unfold Nw at e
 cases q:H a with
 |none=>rw[q] at e;exact e
 |some u=>rw[q] at e;calc k a o (s a o e)
def Nw.upd{p o}(s:bf F H)(hp:H p=η):Nw F H (upd H p o)=upd F p o:=by
 funext a;unfold Nw L2.upd
 by_cases c:a=p
 .subst c;rw[hp,q0r U];simp
 .rw[q0l c,q0l c]
  cases q:H a with
  |none =>
   cases q2:F a with
   |none=>rfl
   |some u=>rw[s a u q2] at q;cases q
  |some u=>rfl
def Nw.refl(s:bf F H):Nw F H H=F:=by
 funext a;unfold Nw
 cases q:H a with
 |none =>
  cases q2:F a with
  |none=>rfl
  |some u=>rw[s a u q2] at q;cases q
 |some u=>rfl
def SR.al(S:SR F ad δ σ H)(k:bf H H'):SR (Nw F H H') ad δ σ H':=by
 let sm:=Nw.same (H':=H') S.sub;refine⟨Nw.sub S.sub k,λa l=>?_,S.cQ,S.inj,λi ov e=>?_,λi x e=>?_,S.len,ba.same S.tab k,S.nt.up sm λa ha=>by let⟨ps,q⟩:=ba.tb S.tab ha;unfold Nw;rw[q];calc S.nt a ha⟩
 .let⟨i,ov,e1,e2⟩:=l
  let⟨a',o,e3,e4,_⟩:=S.mu i ov e2;rw[e1] at e3;cases e3;unfold Nw;rw[e4];exact S.off a ⟨i,ov,e1,e2⟩
 .let⟨a,o,e1,e2,h⟩:=S.mu i ov e
  exact⟨a,o,e1,k a o e2,h.same sm⟩
 .let⟨v,e1,h⟩:=S.sl i x e
  calc⟨v,e1,h.same sm⟩
def Ext.al(S:SR F ad δ σ H)(k:bf H H'):Ext F ad δ.mu H (Nw F H H') ad δ.mu H' where
 same:=Nw.same S.sub
 new:=λa o e=>by
  unfold Nw at e
  cases q:H a with
  |none=>exact .inr (.inl U)
  |some u=>rw[q] at e;exact .inl e
 keep:=λa o e _ _=>k a o e
 pre:=λ_ _ e=>e
 cN:=λ_ l=>.inl l
 iZ:=λa o e=>⟨o,k a o e⟩
def SR.own{p:Y}{o ov}(S:SR F ad δ σ H)(hp:H p=η)(h:gz F p ov o):SR F (ad++[p]) ⟨δ.sl,δ.mu++[Z ov]⟩ σ (upd H p o):=by
 let old:∀{k w},(δ.mu++[Z ov])[k]?=Z (Z w)->(k<↑δ.mu/\δ.mu[k]?=Z (Z w))\/(k=↑δ.mu/\w=ov):=λ{k w} e=>by
  by_cases c:k<↑δ.mu
  .rw[q0a c] at e;exact .inl ⟨c,e⟩
  .let hl:=(Ll.mp e).1
   rw[Lo,q0J] at hl;let ek:k=↑δ.mu:=by symm
   subst ek;exact .inr ⟨U,by simpa using e.symm⟩
 let pre:∀{k},k<↑δ.mu->(ad++[p])[k]?=ad[k]?:=λ{k} c=>q0a (by rw[S.cQ];calc c);let last:(ad++[p])[↑δ.mu]?=Z p:=by rw[<-S.cQ,q0i (Ln _),q1l];rfl
 let np:∀{k a w},ad[k]?=Z a->δ.mu[k]?=Z (Z w)->a≠p:=λ{k a w} e1 e2=>by
  let⟨a',u,e3,e4,_⟩:=S.mu k w e2;rw[e1] at e3;cases e3;exact eg e4 hp
 refine⟨λa u e=>?_,λa l=>?_,by rw[Lo,Lo,S.cQ];rfl,λk l a w w' e1 e2 e3 e4=>?_,λk w e=>?_,λi x e=>?_,S.len,ba.same S.tab (cU hp),S.nt⟩
 .let:=S.sub a u e
  rw[bD (eg this hp)];exact this
 .let⟨k,w,e1,e2⟩:=l
  rcases old e2 with⟨c,e3⟩|⟨c,e3⟩
  .rw[pre c] at e1;exact S.off a ⟨k,w,e1,e3⟩
  .subst c;rw[last] at e1;cases e1
   cases q:F p with
   |none=>rfl
   |some u=>rw[S.sub p u q] at hp;cases hp
 .rcases old e3 with⟨c,q⟩|⟨c,q⟩
  .rw[pre c] at e1
   rcases old e4 with⟨c',q'⟩|⟨c',q'⟩
   .rw[pre c'] at e2;exact S.inj k l a w w' e1 e2 q q'
   .subst c';rw[last] at e2;cases e2;exact absurd U (np e1 q)
  .subst c;rw[last] at e1;cases e1
   rcases old e4 with⟨c',q'⟩|⟨c',q'⟩
   .rw[pre c'] at e2;exact absurd U (np e2 q')
   .exact c'.symm
 .rcases old e with⟨c,q⟩|⟨c,q⟩
  .let⟨a,u,e1,e2,h'⟩:=S.mu k w q
   exact⟨a,u,by rw[pre c];calc e1,by rw[bD (np e1 q)];calc e2,h'⟩
  .subst c q;exact⟨p,o,last,cb,h⟩
 .let⟨v,e1,h'⟩:=S.sl i x e
  calc⟨v,e1,h'.pre λk a e2 _=>by rw[q0a (Ll.mp e2).1];calc e2⟩
def Ext.own{p:Y}{o:HO}{ov:OV}(S:SR F ad δ σ H)(hp:H p=η):Ext F ad δ.mu H F (ad++[p]) (δ.mu++[Z ov]) (upd H p o) where
 same:=λ_ _ e=>e
 new:=λ_ _ e=>.inl e
 keep:=λa u e _ _=>by rw[bD (eg e hp)];exact e
 pre:=λk a e=>by rw[q0a (Ll.mp e).1];exact e
 cN:=λa l=>by
  let⟨k,w,e1,e2⟩:=l
  by_cases c:k<↑δ.mu
  .rw[q0a c] at e2
   rw[q0a (by rw[S.cQ];calc c)] at e1;exact .inl ⟨k,w,e1,e2⟩
  .let hl:=(Ll.mp e2).1
   rw[Lo,q0J] at hl;let ek:k=↑ad:=by rw[S.cQ];symm
   subst ek;let:=by simpa using e1
   subst this;exact .inr hp
 iZ:=λa u e=>⟨u,by rw[bD (eg e hp)];calc e⟩
def SR.put{k:Nat}{a:Y}{o:HO}{ov ow:OV}(S:SR F ad δ σ H)(hk:δ.mu[k]?=Z (Z ow))(ha:ad[k]?=Z a)(h:gz F a ov o):SR F ad ⟨δ.sl,δ.mu.set k (Z ov)⟩ σ (upd H a o):=by
 let old:∀{l w},(δ.mu.set k (Z ov))[l]?=Z (Z w)->(l≠k/\δ.mu[l]?=Z (Z w))\/(l=k/\w=ov):=λ{l w} e=>by
  by_cases c:k=l
  .subst c;rw[q07 ((Ll.mp hk).1)] at e;exact .inr ⟨U,by simpa using e.symm⟩
  .rw[q08 c] at e;exact .inl ⟨λz=>c z.symm,e⟩
 let lv:∀{l w b},ad[l]?=Z b->(δ.mu.set k (Z ov))[l]?=Z (Z w)->Lv ad δ.mu b:=λ{l w b} e1 e2=>by
  rcases old e2 with⟨_,q⟩|⟨c,_⟩
  .exact⟨l,w,e1,q⟩
  .subst c;exact⟨l,ow,e1,hk⟩
 let tk:ba.ok (upd H a o):=by
  let⟨a',u,e1,e2,h'⟩:=S.mu k ow hk;rw[ha] at e1;cases e1;exact ba.put S.tab e2 h'.kd
 refine⟨λb u e=>?_,λb l=>?_,by rw[q1H];calc S.cQ,λl l' b w w' e1 e2 e3 e4=>?_,λl w e=>?_,λi x e=>?_,S.len,tk,S.nt⟩
 .let nb:b≠a:=λz=>by
   subst z;rw[S.off b ⟨k,ow,ha,hk⟩] at e;cases e
  rw[bD nb];exact S.sub b u e
 .let⟨l,w,e1,e2⟩:=l
  exact S.off b (lv e1 e2)
 .let h1:∃w,δ.mu[l]?=Z (Z w):=by
   rcases old e3 with⟨_,q⟩|⟨c,_⟩
   .exact⟨_,q⟩
   .subst c;exact⟨_,hk⟩
  let h2:∃w,δ.mu[l']?=Z (Z w):=by
   rcases old e4 with⟨_,q⟩|⟨c,_⟩
   .exact⟨_,q⟩
   .subst c;exact⟨_,hk⟩
  let⟨w1,q1⟩:=h1;let⟨w2,q2⟩:=h2;exact S.inj l l' b _ _ e1 e2 q1 q2
 .rcases old e with⟨c,q⟩|⟨c,q⟩
  .let⟨b,u,e1,e2,h'⟩:=S.mu l w q
   exact⟨b,u,e1,by rw[bD (λz=>by subst z;calc c (S.inj l k b _ _ e1 ha q hk))];calc e2,h'⟩
  .subst c q;exact⟨a,o,ha,cb,h⟩
 .calc S.sl i x e
def Ext.put{k:Nat}{a:Y}{o:HO}{ov ow:OV}(S:SR F ad δ σ H)(hk:δ.mu[k]?=Z (Z ow))(ha:ad[k]?=Z a):Ext F ad δ.mu H F ad (δ.mu.set k (Z ov)) (upd H a o) where
 same:=λ_ _ e=>e
 new:=λ_ _ e=>.inl e
 keep:=λb u e n _=>by rw[bD λz=>n (by subst z;calc⟨k,ow,ha,hk⟩)];exact e
 pre:=λ_ _ e=>e
 cN:=λb l=>by
  let⟨l,w,e1,e2⟩:=l
  by_cases c:k=l
  .subst c;exact .inl ⟨k,ow,e1,hk⟩
  .rw[q08 c] at e2;exact .inl ⟨l,w,e1,e2⟩
 iZ:=λb u e=>by
  by_cases c:b=a
  .subst c;exact⟨o,cb⟩
  .calc⟨u,by rw[bD c];calc e⟩
def SR.fix{k:Nat}{a:Y}{o:HO}{ow:OV}(S:SR F ad δ σ H)(hk:δ.mu[k]?=Z (Z ow))(ha:ad[k]?=Z a)(ho:H a=Z o):SR (upd F a o) ad ⟨δ.sl,δ.mu.set k η⟩ σ H:=by
 let sm:bf F (upd F a o):=λb u e=>by rw[bD (eg e (S.off a ⟨k,ow,ha,hk⟩))];exact e
 let old:∀{l w},(δ.mu.set k η)[l]?=Z (Z w)->l≠k/\δ.mu[l]?=Z (Z w):=λ{l w} e=>by
  by_cases c:k=l
  .subst c;rw[q07 ((Ll.mp hk).1)] at e;cases e
  .rw[q08 c] at e;exact⟨λz=>c z.symm,e⟩
 refine⟨λb u e=>?_,λb l=>?_,by rw[q1H];calc S.cQ,λl l' b w w' e1 e2 e3 e4=>S.inj l l' b w w' e1 e2 (old e3).2 (old e4).2,λl w e=>?_,λi x e=>?_,S.len,S.tab,S.nt.up sm λb hb=>?_⟩
 .by_cases c:b=a
  .subst c;rw[cb] at e;cases e;exact ho
  .rw[bD c] at e;exact S.sub b u e
 .let⟨l,w,e1,e2⟩:=l
  let⟨c,q⟩:=old e2;rw[bD (λz=>by subst z;calc c (S.inj l k b _ _ e1 ha q hk))];exact S.off b ⟨l,w,e1,q⟩
 .let⟨b,u,e1,e2,h'⟩:=S.mu l w (old e).2
  exact⟨b,u,e1,e2,h'.same sm⟩
 .let⟨v,e1,h'⟩:=S.sl i x e
  exact⟨v,e1,h'.same sm⟩
 .let⟨ps,q⟩:=ba.tb S.tab hb
  let nb:b≠a:=λz=>by
   subst z;let⟨a',u,e1,e2,h'⟩:=S.mu k ow hk;rw[ha] at e1;cases e1;rw[q] at e2;cases e2;exact h'.kind ps U
  rw[bD nb];calc S.nt b hb
def Ext.fix{k:Nat}{a:Y}{o:HO}{ow:OV}(S:SR F ad δ σ H)(hk:δ.mu[k]?=Z (Z ow))(ha:ad[k]?=Z a):Ext F ad δ.mu H (upd F a o) ad (δ.mu.set k η) H where
 same:=λb u e=>by rw[bD (eg e (S.off a ⟨k,ow,ha,hk⟩))];exact e
 new:=λb u e=>by
  by_cases c:b=a
  .subst c;exact .inr (.inr ⟨k,ow,ha,hk⟩)
  .rw[bD c] at e;exact .inl e
 keep:=λb u e _ _=>e
 pre:=λ_ _ e=>e
 cN:=λb l=>by
  let⟨l,w,e1,e2⟩:=l
  by_cases c:k=l
  .subst c;rw[q07 (Ll.mp hk).1] at e2;cases e2
  .rw[q08 c] at e2;exact .inl ⟨l,w,e1,e2⟩
 iZ:=λb u e=>⟨u,e⟩
def SR.set{i:Nat}{x:DV}{v:V}(S:SR F ad δ σ H)(h:eY F ad x v):SR F ad ⟨δ.sl.set i (Z x),δ.mu⟩ (σ.set i (Z v)) H:=by
 refine⟨S.sub,S.off,S.cQ,S.inj,S.mu,λj y e=>?_,by rw[q1H,q1H];calc S.len,S.tab,S.nt⟩
 by_cases c:i=j
 .subst c
  let hl:=(Ll.mp e).1;rw[q1H] at hl;rw[q07 hl] at e;cases e
  exact⟨v,q07 (by rw[S.len];calc hl),h⟩
 .rw[q08 c] at e
  let⟨w,e1,h1⟩:=S.sl j y e;calc⟨w,by rw[q08 c];calc e1,h1⟩
end
abbrev WE:=bh->(DV->bh->Prop)->Prop
abbrev WA:=bh->(-DV->bh->Prop)->Prop
abbrev WT:=bh->(Bool->bh->Prop)->Prop
/---/def dm(F:Hp)(ad:-Y):-DV->-V->Prop
 |[],vs=>vs=[]
 |x::xs,vs=>∃v r,vs=v::r/\eY F ad x v/\dm F ad xs r
def dm.ext{F F' H H' ad a5 mu dH}(e:Ext F ad mu H F' a5 dH H'):∀{xs vs},dm F ad xs vs->dm F' a5 xs vs
 |[],_,h=>h
 |_::_,_,⟨v,r,q,h1,h2⟩=>⟨v,r,q,h1.ext e,dm.ext e h2⟩
inductive tD (f:WE) (σ:St) (H:Hp) (Q:VK):Prop
 |mk (F:Hp) (ad:-Y) (δ:bh) (K:DV->bh->Prop) (S:SR F ad δ σ H) (q:f δ K) (k:∀x δ',K x δ'->∀v F' a5 H',Ext F ad δ.mu H F' a5 δ'.mu H'->SR F' a5 δ' σ H'->eY F' a5 x v->Q v H')
inductive cK (f:WA) (σ:St) (H:Hp) (Q:-V->Hp->Prop):Prop
 |mk (F:Hp) (ad:-Y) (δ:bh) (K:-DV->bh->Prop) (S:SR F ad δ σ H) (q:f δ K) (k:∀xs δ',K xs δ'->∀vs F' a5 H',Ext F ad δ.mu H F' a5 δ'.mu H'->SR F' a5 δ' σ H'->dm F' a5 xs vs->Q vs H')
inductive dS (f:WT) (σ:St) (H:Hp) (Q:Bool->Hp->Prop):Prop
 |mk (F:Hp) (ad:-Y) (δ:bh) (K:Bool->bh->Prop) (S:SR F ad δ σ H) (q:f δ K) (k:∀b δ',K b δ'->∀F' a5 H',Ext F ad δ.mu H F' a5 δ'.mu H'->SR F' a5 δ' σ H'->Q b H')
/---/def lF(F H:Hp):D->V->Prop
 |.lst ds,v=>∃a vs,v=.ref a/\H a=Z (.lst vs)/\aA F ds vs
 |d,v=>Is F d v
/---/def kg(x:DV)(δ:bh)(K:D->Prop):Prop:=match x with
 |.p d=>K d
 |.o k=>match δ.mu[k]? with
  |some (some (.lst ds))=>K (.lst ds)
  |some (some (.al _ ds))=>K (.lst ds)
  |_=>False
 |.w _=>False
 |.u _ _=>False
 |.t _ _=>False
def lF.of{F H}(s:bf F H):∀{d v},Is F d v->lF F H d v
 |.lst _,_,h=>by
  let⟨a,vs,e,h1,h2⟩:=h;exact⟨a,vs,e,s _ _ h1,h2⟩
 |.tup _,_,h=>h
 |.non,_,h=>h
 |.bl _,_,h=>h
 |.int _,_,h=>h
 |.str _,_,h=>h
def lF.is{F H}(s:bf F H):∀{d v},lF F H d v->Is H d v
 |.lst _,_,h=>by
  let⟨a,vs,e,h1,h2⟩:=h;exact⟨a,vs,e,h1,h2.same s⟩
 |.tup _,_,h=>Is.same s h
 |.non,_,h=>Is.same s h
 |.bl _,_,h=>Is.same s h
 |.int _,_,h=>Is.same s h
 |.str _,_,h=>Is.same s h
def l8{F H ad δ σ x v K}(S:SR F ad δ σ H)(hv:eY F ad x v)(h:kg x δ K):∃d,K d/\lF F H d v:=by
 cases x with
 |p d=>exact⟨d,h,lF.of S.sub hv⟩
 |o k =>
  unfold kg at h;dsimp only at h;split at h
  .rename_i ds e
   let⟨a,e1,rfl⟩:=hv;let⟨a',o,e2,e3,vs,rfl,h4⟩:=S.mu k _ e;rw[e1] at e2;cases e2;exact⟨_,h,a,vs,U,e3,h4⟩
  .rename_i ds e
   let⟨a,e1,rfl⟩:=hv;let⟨a',o,e2,e3,_,vs,rfl,h4⟩:=S.mu k _ e;rw[e1] at e2;cases e2;exact⟨_,h,a,vs,U,e3,h4⟩
  .exact h.elim
 |w _=>exact h.elim
 |u _ _=>exact h.elim
 |t _ _=>calc h.elim
/---/def om:-DV->bh->(-D->Prop)->Prop
 |[],_,K=>K []
 |x::xs,δ,K=>kg x δ λd=>om xs δ λds=>K (d::ds)
/---/def kP(F H:Hp):-D->-V->Prop
 |[],vs=>vs=[]
 |d::ds,vs=>∃v r,vs=v::r/\lF F H d v/\kP F H ds r
def yB{F H ad δ σ}(S:SR F ad δ σ H):∀{xs vs K},dm F ad xs vs->om xs δ K->∃ds,K ds/\kP F H ds vs
 |[],_,_,hv,h=>⟨[],h,hv⟩
 |x::xs,_,_,⟨v,r,rfl,h1,h2⟩,h=>by
  let⟨d,h',rd⟩:=l8 S h1 h;let⟨ds,wu,pL⟩:=yB S h2 h';calc⟨d::ds,wu,v,r,U,rd,pL⟩
abbrev Made(F H:Hp)(K:D->Prop)(Q:VK):Prop:=∀z v H',K z->bf H H'->Is (Nw F H H') z v->Q v H'
inductive Ey (g:D->D->(D->Prop)->Prop) (x y:V) (H:Hp) (Q:VK):Prop
 |mk (F:Hp) (d e:D) (K:D->Prop) (s:bf F H) (rd:lF F H d x) (re:lF F H e y) (q:g d e K) (md:Made F H K Q)
inductive L_ (g:-D->(D->Prop)->Prop) (xs:-V) (H:Hp) (Q:VK):Prop
 |mk (F:Hp) (ds:-D) (K:D->Prop) (s:bf F H) (rd:kP F H ds xs) (q:g ds K) (md:Made F H K Q)
/---/def gA(X:Cx)(f:O->O->Sem O)(g:D->D->(D->Prop)->Prop):Prop :=
 fJ X f λx y H Q=>Ey g x y H Q
/---/def Ma(X:Cx)(g:D->D->(D->Prop)->Prop):Prop :=
 pH X λx y H Q=>Ey g x y H Q
/---/def eI(X:Cx)(f:O)(g:-D->(D->Prop)->Prop):Prop :=
 hU X f λxs H Q=>L_ g xs H Q
/---/def d2(f g:WE)(op:D->D->(D->Prop)->Prop):WE:=fun δ K=>f δ λx δ1=>g δ1 λy δ2=>kg x δ2 λd=>kg y δ2 λe=>op d e λz=>K (.p z) δ2
/---/def d1(f:WE)(op:D->(D->Prop)->Prop):WE:=fun δ K=>f δ λx δ1=>kg x δ1 λd=>op d λz=>K (.p z) δ1
/---/def dN(f:WA)(op:-D->(D->Prop)->Prop):WE:=fun δ K=>f δ λxs δ1=>om xs δ1 λds=>op ds λz=>K (.p z) δ1
/---/def dC(d:D):WE:=fun δ K=>K (.p d) δ
/---/def aa(i:Nat):WE:=fun δ K=>match δ.sl[i]? with
 |some (some x)=>K x δ
 |_=>False
/---/def ai:WA:=fun δ K=>K [] δ
/---/def ay(f:WE)(g:WA):WA:=fun δ K=>f δ λx δ1=>g δ1 λxs δ2=>K (x::xs) δ2
section
variable{X:Cx}{a b c:υ}{f g h:WE}{fa:WA}{pos:Δ}
def yC{e d v}(h:JE X e (tC v))(hi:∀F,Is F d v):JE X e (tD (dC d)):=h.weak fun σ H Q ⟨F,ad,δ,K,S,q,k⟩↦k _ _ q _ _ _ _ .refl S (hi F)
def bT{i j pos}:JE X (.Constant (.int i) j pos) (tD (dC (.int i))):=yC tH λ_=>U
def wx{i j pos}:JE X (.Constant (.bool i) j pos) (tD (dC (.bl i))):=yC Se λ_=>U
def kQ{j pos}:JE X (.Constant .none j pos) (tD (dC .non)):=yC Sf λ_=>U
def tP{x j pos}:JE X (.Constant (.str x) j pos) (tD (dC (.str x))):=yC Aj λ_=>U
def Vp{x i u pos}(hg:Gl X x)(hm:X.mg x=Z u)(r:RelV (.int i) u)(hd: ~~~(cm x)):JE X (.Name x pos) (tD (dC (.int i))):=yC (Kq hg hm r hd) λ_=>U
def dv(i:Nat){x:L}{pos:Δ}(hN:‹X.N[i]?=Z x›)(hv:xD X.env.scope x:=by first|exact q4h U|exact q5C (q4h U)|calc q5C (q5C U))
  (hd: ~~~(cm x)) (jM: ~~~((x==("__classdict__" : L))=ι)):JE X (.Name x pos) (tD (aa i)) :=
 (Kp hN hv hd jM).weak fun σ H Q ⟨F,ad,δ,K,S,q,k⟩↦by
  unfold aa at q;split at q
  .rename_i x e
   let⟨v,e1,h1⟩:=S.sl i x e;exact⟨v,e1,k _ _ q _ _ _ _ .refl S h1⟩
  .calc q.elim
def AN{r}{ta tb:TE}{op:D->D->(D->Prop)->Prop}(hr:∀x y H Q,(Ey op x y H Q)->r x y H Q):∀σ H Q,tD (d2 f g op) σ H Q->xU r (tD f) (tD g) σ H Q:=by
 ext σ H Q ⟨F,ad,δ,K,S,q,k⟩;calc⟨F,ad,δ,_,S,q,λx δ1 h1 v1 F1 br H1 E1 S1 V1=>⟨F1,br,δ1,_,S1,h1,λy δ2 h2 v2 F2 cR H2 E2 S2 V2=>hr _ _ _ _ ?_⟩⟩;let⟨d,h3,rd⟩:=l8 S2 (V1.ext E2) h2;let⟨e,h4,re⟩:=l8 S2 V2 h3;calc⟨F2,d,e,_,S2.sub,rd,re,h4,λz v H' hz sm is=>k _ _ hz _ _ _ _ ((E1.trans E2).trans (Ext.al S2 sm)) (S2.al sm) is⟩
def hX{op}{o:D->D->(D->Prop)->Prop}(ho:gA X (binaryOp op) o)(ha:JE X a (tD f))(hb:JE X b (tD g)):JE X (.BinOp a op b pos) (tD (d2 f g o)) :=
 (xV ho ha hb).weak (AN (ta:=tD f) (tb:=tD g) λ_ _ _ _ h=>h)
def u_{op}{o:D->D->(D->Prop)->Prop}(ho:gA X (compareOp op) o)(ha:JE X a (tD f))(hb:JE X b (tD g))(hm:behindInMarks op b=ι):JE X (.Compare a [op] [b] pos) (tD (d2 f g o)) :=
 (S7 ho ha hb hm).weak (AN (ta:=tD f) (tb:=tD g) λ_ _ _ _ h=>h)
def cX{o:D->D->(D->Prop)->Prop}(ho:Ma X o)(ha:JE X a (tD f))(hb:JE X b (tD g))(hs:DT b):JE X (.Subscript a b pos) (tD (d2 f g o)) :=
 (DW ho ha hb hs).weak (AN (ta:=tD f) (tb:=tD g) λ_ _ _ _ h=>h)
def bw:JA X [] (cK ai):=bX.weak fun σ H Q ⟨F,ad,δ,K,S,q,k⟩↦k _ _ q _ _ _ _ .refl S U
def va:∀σ H Q,cK (ay f fa) σ H Q->kG (tD f) (cK fa) σ H Q:=by
 ext σ H Q ⟨F,ad,δ,K,S,q,k⟩;calc⟨F,ad,δ,_,S,q,λx δ1 h1 v1 F1 br H1 E1 S1 V1=>⟨F1,br,δ1,_,S1,h1,λxs δ2 h2 vs F2 cR H2 E2 S2 V2=>k _ _ h2 _ _ _ _ (E1.trans E2) S2 ⟨v1,vs,U,V1.ext E2,V2⟩⟩⟩
def jW{e es}(ha:JE X e (tD f))(hr:JA X es (cK fa))(hs:‹di X e es›):JA X (e::es) (cK (ay f fa)):=(lY ha hr hs).weak va
def cf{es c j p}(ha:JE X (.Constant c j p) (tD f))(hr:JA X es (cK fa)):JA X (.Constant c j p::es) (cK (ay f fa)):=(Ek ha hr).weak va
def a7{es x p}(ha:JE X (.Name x p) (tD f))(hr:JA X es (cK fa)):JA X (.Name x p::es) (cK (ay f fa)):=(kL ha hr).weak va
def cY{es x y k p}(ha:JE X (.Call x y k p) (tD f))(hr:JA X es (cK fa)):JA X (.Call x y k p::es) (cK (ay f fa)):=(kM ha hr).weak va
def Ez{es x p}(ha:JE X (.List x p) (tD f))(hr:JA X es (cK fa)):JA X (.List x p::es) (cK (ay f fa)):=(yr ha hr).weak va
def qR{es x k p}(ha:JE X (.Tuple x k p) (tD f))(hr:JA X es (cK fa)):JA X (.Tuple x k p::es) (cK (ay f fa)):=(El ha hr).weak va
def b7{es x k p}(ha:JE X (.Subscript x k p) (tD f))(hr:JA X es (cK fa)):JA X (.Subscript x k p::es) (cK (ay f fa)):=(Em ha hr).weak va
def Mb{r:-V->Hp->VK->Prop}{op:-D->(D->Prop)->Prop}(hr:∀xs H Q,(L_ op xs H Q)->r xs H Q):∀σ H Q,tD (dN fa op) σ H Q->x8 r (cK fa) σ H Q:=by
 ext σ H Q ⟨F,ad,δ,K,S,q,k⟩;calc⟨F,ad,δ,_,S,q,λxs δ1 h1 vs F1 br H1 E1 S1 V1=>hr _ _ _ ?_⟩;let⟨ds,h2,pL⟩:=yB S1 V1 h1;calc⟨F1,ds,_,S1.sub,pL,h2,λz v H' hz sm is=>k _ _ hz _ _ _ _ (E1.trans (Ext.al S1 sm)) (S1.al sm) is⟩
def g5{x p e es id}{o:-D->(D->Prop)->Prop}(hc:eI X (.builtin id) o)(hg:Gl X x)(hm:X.mg x=η)(hv:bootBuiltins x=Z (.builtin id))(ha:JA X (e::es) (cK fa))(hn:x≠"__name__" := by decide)(eF: ~~~(cm x))
  (he:‹di X e es›) (eu:‹dM X pos es›):JE X (.Call (.Name x p) (e::es) [] pos) (tD (dN fa o)) :=
 (v_ hc hg hm hv ha hn eF he eu).weak (Mb λ_ _ _ h=>h)
def vc{x p e es T}{o:-D->(D->Prop)->Prop}(hc:eI X (.type T) o)(hg:Gl X x)(hm:X.mg x=η)(hv:bootBuiltins x=Z (.type T))(ha:JA X (e::es) (cK fa))(hn:x≠"__name__" := by decide)(eF: ~~~(cm x))
  (he:‹di X e es›) (eu:‹dM X pos es›):JE X (.Call (.Name x p) (e::es) [] pos) (tD (dN fa o)) :=
 (tL hc hg hm hv ha hn eF he eu).weak (Mb λ_ _ _ h=>h)
end
meta def Mc(k:Nat)(ds:-D):Option DV->Option DV
 |some (.o j)=>if j=k then Z (.p (.lst ds)) else Z (.o j)
 |some (.t d j)=>if j=k then η else Z (.t d j)
 |s=>s
meta def bh.fix(δ:bh)(k:Nat)(ds:-D):bh:=⟨δ.sl.map (Mc k ds),δ.mu.set k η⟩
/---/def pM(x:DV)(δ:bh)(K:D->bh->Prop):Prop:=match x with
 |.p d=>K d δ
 |.o k=>match δ.mu[k]? with
  |some (some (.lst ds))=>K (.lst ds) (δ.fix k ds)
  |_=>False
 |.w _=>False
 |.u _ _=>False
 |.t _ _=>False
/---/def l9:-DV->bh->(-D->bh->Prop)->Prop
 |[],δ,K=>K [] δ
 |x::xs,δ,K=>pM x δ λd δ1=>l9 xs δ1 λds δ2=>K (d::ds) δ2
section
variable{F F' H H':Hp}{ad a5:-Y}{δ δ':bh}{σ σ':St}
def SR.fixed{k a vs ds}(S:SR F ad δ σ H)(hk:δ.mu[k]?=Z (Z (.lst ds)))(ha:ad[k]?=Z a)(ho:H a=Z (.lst vs))(hi:aA F ds vs):SR (upd F a (.lst vs)) ad (δ.fix k ds) σ H:=by
 let S1:=S.fix hk ha ho;calc⟨S1.sub,S1.off,S1.cQ,S1.inj,S1.mu,λi x e=>?_,by rw[S.len];unfold bh.fix;rw[ye],S1.tab,S1.nt⟩;unfold bh.fix at e;rw[Uj] at e;let⟨s,e1,e2⟩:=q0e.mp e
 match s,e2 with
 |none,e2=>cases e2
 |some (.p d),e2 =>
  cases(e2)
  exact S1.sl i _ e1
 |some (.w d),e2 =>
  cases(e2)
  exact S1.sl i _ e1
 |some (.u t fs),e2 =>
  cases(e2)
  exact S1.sl i _ e1
 |some (.t d j),e2 =>
  let e3:(if j=k then η else Z (DV.t d j))=Z x:=e2
  by_cases c:j=k
  .rw[q0r c] at e3;cases e3
  .rw[q0l c] at e3;cases e3;exact S1.sl i _ e1
 |some (.o j),e2 =>
  let e3:(if j=k then Z (DV.p (.lst ds)) else Z (DV.o j))=Z x:=e2;let⟨v,h1,a',h2,h3⟩:=S.sl i _ e1
  by_cases c:j=k
  .rw[q0r c] at e3
   subst c;cases e3
   rw[ha] at h2;cases h2;exact⟨v,h1,⟨a,vs,h3,cb,hi.same ((Ext.fix  S hk ha).same)⟩⟩
  .rw[q0l c] at e3
   cases e3
   calc⟨v,h1,a',h2,h3⟩
def yD{x v K}(S:SR F ad δ σ H)(hv:eY F ad x v)(h:pM x δ K):∃d δ' F',K d δ'/\Ext F ad δ.mu H F' ad δ'.mu H/\SR F' ad δ' σ H/\Is F' d v:=by
 cases x with
 |p d=>exact⟨d,δ,F,h,.refl,S,hv⟩
 |o k =>
  unfold pM at h;dsimp only at h;split at h
  .rename_i ds e
   calc wd λqT=>?_;let⟨a,e1,rfl⟩:=hv;let⟨a',o,e2,e3,vs,rfl,h4⟩:=S.mu k _ e;calc qT ?_;rw[e1] at e2;cases e2;exact⟨_,_,_,h,Ext.fix S e e1,S.fixed e e1 e3 h4,⟨a,vs,U,cb,h4.same (Ext.fix  S e e1).same⟩⟩
  .exact h.elim
 |w _=>exact h.elim
 |u _ _=>exact h.elim
 |t _ _=>calc h.elim
def AO:∀{xs vs δ F K},SR F ad δ σ H->dm F ad xs vs->l9 xs δ K->∃ds δ' F',K ds δ'/\Ext F ad δ.mu H F' ad δ'.mu H/\SR F' ad δ' σ H/\aA F' ds vs
 |[],_,δ,F,_,S,hv,h=>⟨[],δ,F,h,.refl,S,hv⟩
 |x::xs,_,δ,F,_,S,⟨v,r,e,h1,h2⟩,h=>by
  subst e;let⟨d,δ1,F1,h',E1,S1,i1⟩:=yD S h1 h;let⟨ds,δ2,F2,wu,E2,S2,i2⟩:=AO S1 (h2.ext E1) h';calc⟨d::ds,δ2,F2,wu,E1.trans E2,S2,.cons (i1.same E2.same) i2⟩
end
/---/def bQ(fa:WA):WE:=fun δ K=>fa δ λxs δ1=>l9 xs δ1 λds δ2=>↑ds<=1000/\K (.p (.tup ds)) δ2
/---/def dq(fa:WA):WE:=fun δ K=>fa δ λxs δ1=>l9 xs δ1 λds δ2=>↑ds<=1000/\K (.p (.lst ds)) δ2
/---/def pN(fa:WA):WE:=fun δ K=>fa δ λxs δ1=>l9 xs δ1 λds δ2=>↑ds<=1000/\K (.o ↑δ2.mu) ⟨δ2.sl,δ2.mu++[Z (.lst ds)]⟩
section
variable{X:Cx}{a b c:υ}{es:-υ}{f g h:WE}{fa:WA}{t u:WT}{pos:Δ}
def mY{n}(h:n<=1000):n<=sizeLine:=q1e (mW h)
def jX{x1}(ha:JA X es (cK fa)):JE X (.Tuple es x1 pos) (tD (bQ fa)):=(KJ ha).weak fun σ H Q ⟨F,ad,δ,K,S,q,k⟩ =>
 ⟨F,ad,δ,_,S,q,λxs δ1 h1 vs F1 br H1 E1 S1 V1=>by
  let⟨ds,δ2,F2,⟨hl,h2⟩,E2,S2,i2⟩:=AO S1 V1 h1;calc⟨mY (by rw[↑i2];calc hl),λp hp=>?_⟩;let sm:bf H1 (upd H1 p (.tup vs)):=cU hp;calc k _ _ h2 _ _ _ _ ((E1.trans E2).trans (Ext.al S2 sm)) (S2.al sm) ?_;rw[Nw.upd S2.sub hp];refine⟨p,vs,U,cb,i2.same λb o e=>?_⟩
  rw[bD (eg (S2.sub b o e) hp)];calc e⟩
def mZ(ha:JA X es (cK fa)):JE X (.List es pos) (tD (dq fa)):=(As ha).weak fun σ H Q ⟨F,ad,δ,K,S,q,k⟩ =>
 ⟨F,ad,δ,_,S,q,λxs δ1 h1 vs F1 br H1 E1 S1 V1=>by
  let⟨ds,δ2,F2,⟨hl,h2⟩,E2,S2,i2⟩:=AO S1 V1 h1;calc⟨mY (by rw[↑i2];calc hl),λp hp=>?_⟩;let sm:bf H1 (upd H1 p (.lst vs)):=cU hp;calc k _ _ h2 _ _ _ _ ((E1.trans E2).trans (Ext.al S2 sm)) (S2.al sm) ?_;rw[Nw.upd S2.sub hp];refine⟨p,vs,U,cb,i2.same λb o e=>?_⟩
  rw[bD (eg (S2.sub b o e) hp)];calc e⟩
def wy(ha:JA X es (cK fa)):JE X (.List es pos) (tD (pN fa)):=(As ha).weak fun σ H Q ⟨F,ad,δ,K,S,q,k⟩ =>
 ⟨F,ad,δ,_,S,q,λxs δ1 h1 vs F1 br H1 E1 S1 V1=>by
  let⟨ds,δ2,F2,⟨hl,h2⟩,E2,S2,i2⟩:=AO S1 V1 h1;calc⟨mY (by rw[↑i2];calc hl),λp hp=>?_⟩;let oi:∀{lG},gz F2 lG (.lst ds) (.lst vs):=λ{lG}=>⟨vs,U,i2⟩;refine k _ _ h2 _ _ _ _ ((E1.trans E2).trans (Ext.own S2 hp)) (S2.own hp oi) ⟨p,?_,U⟩
  rw[<-S2.cQ,q0i (Ln _),q1l];rfl⟩
/---/def wz(x:DV)(P:Bool->Prop):Prop:=match x with
 |.p (.bl b)=>P b
 |_=>False
/---/def dT(f:WE):WT:=fun δ K=>f δ λx δ1=>wz x λb=>K b δ1
/---/def gb(t u:WT):WT:=fun δ K=>t δ λb δ1=>if b=θ then u δ1 K else K ι δ1
/---/def kR(t u:WT):WT:=fun δ K=>t δ λb δ1=>if b=θ then K θ δ1 else u δ1 K
/---/def fR(t:WT):WT:=fun δ K=>t δ λb δ1=>K (!b) δ1
/---/def vd(t:WT)(f g:WE):WE:=fun δ K=>t δ λb δ1=>if b=θ then f δ1 K else g δ1 K
/---/def qU(f g:WE):WE:=fun δ K=>f δ λx δ1=>wz x λb=>if b=θ then g δ1 K else K (.p (.bl ι)) δ1
/---/def EA(f:WE):WE:=fun δ K=>f δ λx δ1=>wz x λb=>K (.p (.bl (!b))) δ1
def yE{F ad x v P}(hv:eY F ad x v)(h:wz x P):∃b,v=.bl b/\P b:=by
 unfold wz at h;split at h
 .rename_i b
  exact⟨b,hv,h⟩
 .calc h.elim
def tQ(ha:JE X a (tD f))(he:‹∀whole,isTrue a X.env whole=(do let v <- whole;standAt a.pos;holding [v] (truthy v))›):JT X a (dS (dT f)) :=
 (Sh ha he).weak fun σ H Q ⟨F,ad,δ,K,S,q,k⟩↦⟨F,ad,δ,_,S,q,λx δ1 h1 v F1 br H1 E1 S1 V1=>by
  let⟨b,rfl,h2⟩:=yE V1 h1
  calc⟨b,U,k _ _ h2 _ _ _ E1 S1⟩⟩
def eA{op}{o:D->D->(D->Prop)->Prop}(ho:gA X (compareOp op) o)(ha:JE X a (tD f))(hb:JE X b (tD g))(hm:behindInMarks op b=ι):JT X (.Compare a [op] [b] pos) (dS (dT (d2 f g o))) :=
 (S9 ho ha hb hm).weak fun σ H Q ⟨F,ad,δ,K,S,q,k⟩↦AN (ta:=tD f) (tb:=tD g) (λ_ _ _ _ h=>h) σ H _ ⟨F,ad,δ,_,S,q,λx δ1 h1 v F1 br H1 E1 S1 V1=>by
  let⟨b,rfl,h2⟩:=yE V1 h1
  calc⟨b,U,k _ _ h2 _ _ _ E1 S1⟩⟩
def wA(ha:JT X a (dS t)):JT X (.UnaryOp .Not a pos) (dS (fR t)):=(Sm ha).weak fun σ H Q ⟨F,ad,δ,K,S,q,k⟩↦⟨F,ad,δ,_,S,q,λb δ1 h1 F1 br H1 E1 S1=>k _ _ h1 _ _ _ E1 S1⟩
def Vq:∀σ H Q,dS (gb t u) σ H Q->xG (dS t) (dS u) σ H Q:=fun σ H Q ⟨F,ad,δ,K,S,q,k⟩↦⟨F,ad,δ,_,S,q,λb δ1 h1 F1 br H1 E1 S1=>by
 cases b with
 |true =>
  exact⟨F1,br,δ1,_,S1,h1,λb δ2 h2 F2 cR H2 E2 S2=>k _ _ h2 _ _ _ (E1.trans E2) S2⟩
 |false =>
  calc k _ _ h1 _ _ _ E1 S1⟩
def Vr:∀σ H Q,dS (kR t u) σ H Q->Ks (dS t) (dS u) σ H Q:=fun σ H Q ⟨F,ad,δ,K,S,q,k⟩↦⟨F,ad,δ,_,S,q,λb δ1 h1 F1 br H1 E1 S1=>by
 cases b with
 |false =>
  exact⟨F1,br,δ1,_,S1,h1,λb δ2 h2 F2 cR H2 E2 S2=>k _ _ h2 _ _ _ (E1.trans E2) S2⟩
 |true =>
  calc k _ _ h1 _ _ _ E1 S1⟩
def JW.weak{e t t'}(h:JW X e t)(k:∀σ H Q,t' σ H Q->t σ H Q):JW X e t':=⟨λwh pins s σ H Q I q=>h wh pins s σ H Q I (k σ H Q q)⟩
def yF(ha:JT X a (dS t)):JW X (.BoolOp .And [a] pos) (dS t):=Si ha
def tR(ha:JT X a (dS t)):JW X (.BoolOp .Or [a] pos) (dS t):=Sj ha
def wB{rest}(ha:JT X a (dS t))(hb:JW X (.BoolOp .And (b::rest) pos) (dS u)):JW X (.BoolOp .And (a::b::rest) pos) (dS (gb t u)):=(Sk ha hb).weak Vq
def pO{rest}(ha:JT X a (dS t))(hb:JW X (.BoolOp .Or (b::rest) pos) (dS u)):JW X (.BoolOp .Or (a::b::rest) pos) (dS (kR t u)):=(Sl ha hb).weak Vr
def Md{op}(ha:JE X a (tD f)):JE X (.BoolOp op [a] pos) (tD f):=Sq ha
def Me{rest}(ha:JE X a (tD f))(hb:JE X (.BoolOp .And (b::rest) pos) (tD g)):JE X (.BoolOp .And (a::b::rest) pos) (tD (qU f g)) :=
 (Sr ha hb).weak fun σ H Q ⟨F,ad,δ,K,S,q,k⟩=>⟨F,ad,δ,_,S,q,λx δ1 h1 v F1 br H1 E1 S1 V1=>by
  let⟨b,rfl,h2⟩:=yE V1 h1;refine⟨b,U,?_⟩
  cases b with
  |true =>
   exact⟨F1,br,δ1,_,S1,h2,λx δ2 h3 v F2 cR H2 E2 S2 V2=>k _ _ h3 _ _ _ _ (E1.trans E2) S2 V2⟩
  |false =>
   calc k _ _ h2 _ _ _ _ E1 S1 U⟩
def Vs(ha:JE X a (tD f)):JE X (.UnaryOp .Not a pos) (tD (EA f)) :=
 (Ss ha).weak fun σ H Q ⟨F,ad,δ,K,S,q,k⟩↦⟨F,ad,δ,_,S,q,λx δ1 h1 v F1 br H1 E1 S1 V1=>by
  let⟨b,rfl,h2⟩:=yE V1 h1
  calc⟨b,U,k _ _ h2 _ _ _ _ E1 S1 U⟩⟩
def EB(hc:JT X c (dS t))(ha:JE X a (tD f))(hb:JE X b (tD g)):JE X (.IfExp c a b pos) (tD (vd t f g)) :=
 (Sv hc ha hb).weak fun σ H Q ⟨F,ad,δ,K,S,q,k⟩↦⟨F,ad,δ,_,S,q,λb δ1 h1 F1 br H1 E1 S1=>by
  cases b with
  |true =>
   exact⟨F1,br,δ1,_,S1,h1,λx δ2 h3 v F2 cR H2 E2 S2 V2=>k _ _ h3 _ _ _ _ (E1.trans E2) S2 V2⟩
  |false =>
   calc⟨F1,br,δ1,_,S1,h1,λx δ2 h3 v F2 cR H2 E2 S2 V2=>k _ _ h3 _ _ _ _ (E1.trans E2) S2 V2⟩⟩
end
structure KS where
 nx:bh->Prop
 rt:DV->bh->Prop
 bk:bh->Prop:=λ_=>False
 ct:bh->Prop:=λ_=>False
abbrev WS:=KS->bh->Prop
/---/def Cn(F:Hp)(ad:-Y)(mu:-(Option OV))(H:Hp)(P:bh->Prop)(R:St->Hp->Prop):Prop:=∀δ',P δ'->∀F' a5 σ' H',Ext F ad mu H F' a5 δ'.mu H'->SR F' a5 δ' σ' H'->R σ' H'
class lH where
 ok:Nat->Int->Prop
 kp:Hp->-Y->-(Option OV)->Hp->Prop
 st:∀{F ad mu H F' a5 dH H'},Ext F ad mu H F' a5 dH H'->kp F ad mu H->kp F' a5 dH H'
instance (priority:=low) Vt:lH:=⟨λ_ _=>False,λ_ _ _ _=>True,λ_ _=>trivial⟩
section
variable[lH]
structure AQ(F:Hp)(ad:-Y)(mu:-(Option OV))(H:Hp)(K:KS)(D:Ends):Prop where
 nx:Cn F ad mu H K.nx D.nx
 bk:Cn F ad mu H K.bk D.bk
 ct:Cn F ad mu H K.ct D.ct
 rt:∀x δ',K.rt x δ'->∀v F' a5 σ' H',Ext F ad mu H F' a5 δ'.mu H'->SR F' a5 δ' σ' H'->eY F' a5 x v->D.rt v H'
 kp:lH.kp F ad mu H
def Cn.ext{F F' H H' ad a5 mu dH P R}(c:Cn F ad mu H P R)(e:Ext F ad mu H F' a5 dH H'):Cn F' a5 dH H' P R:=fun δ' h _ _ _ _ E S=>c δ' h _ _ _ _ (e.trans E) S
def AQ.ext{F F' H H' ad a5 mu dH K D}(c:AQ F ad mu H K D)(e:Ext F ad mu H F' a5 dH H'):AQ F' a5 dH H' K D :=
 ⟨c.nx.ext e,c.bk.ext e,c.ct.ext e,λx δ' h _ _ _ _ _ E S V=>c.rt x δ' h _ _ _ _ _ (e.trans E) S V,lH.st e c.kp⟩
inductive eJ (G:WS) (D:Ends) (σ:St) (H:Hp):Prop
 |mk (F:Hp) (ad:-Y) (δ:bh) (K:KS) (S:SR F ad δ σ H) (q:G K δ) (k:AQ F ad δ.mu H K D)
/---/def aD(G G':WS):WS:=λK δ=>G {K with nx:=G' K} δ
/---/def dX:WS:=λK δ=>K.nx δ
/---/def a8(i:Nat)(f:WE):WS:=λK δ=>f δ λx δ1=>K.nx ⟨δ1.sl.set i (Z x),δ1.mu⟩
/---/def iI(f:WE):WS:=λK δ=>f δ λ_ δ1=>K.nx δ1
/---/def bc(f:WE):WS:=λK δ=>f δ λx δ1=>K.rt x δ1
/---/def bP(t:WT)(G G':WS):WS:=λK δ=>t δ λb δ1=>if b=θ then G K δ1 else G' K δ1
section
variable{X:Cx}{e c:υ}{st:χ}{rest:-χ}{f:WE}{t:WT}{G G':WS}{pos:Δ}
def kh:eQ X [] (eJ dX):=qi.weak λD σ H ⟨F,ad,δ,K,S,q,k⟩↦k.nx _ q _ _ _ _ .refl S
def c_(h:JS X st (eJ G)):eQ X [st] (eJ G):=xH h
def bU(h:JS X st (eJ G))(r:eQ X rest (eJ G')):eQ X (st::rest) (eJ (aD G G')) :=
 (uF h r).weak λD σ H ⟨F,ad,δ,K,S,q,k⟩↦⟨F,ad,δ,_,S,q,⟨fun δ' h _ _ _ _ E S'=>⟨_,_,δ',K,S',h,k.ext E⟩,k.bk,k.ct,k.rt,k.kp⟩⟩
def Vu{i}:∀D σ H,eJ (a8 i f) D σ H->lW (tD f) (uH i) D σ H:=λD σ H ⟨F,ad,δ,K,S,q,k⟩↦⟨F,ad,δ,_,S,q,λx δ1 h1 v F1 br H1 E1 S1 V1=>k.nx _ h1 _ _ _ _ E1 (S1.set V1)⟩
def gf{i x pos'}(hN:X.N.Nodup)(hi:X.N[i]?=Z x)(hx:Loc X.env.scope x)(he:JE X e (tD f))(hs:‹swapsWith e (Z (.Name x pos')) pos.line X.env=pure ι›)
  (hf:iq X x:=by first|exact .inl U|exact .inr U|assumption):JS X (.Assign [.Name x pos'] e pos) (eJ (a8 i f)):=(An hN hi hx he hs hf).weak Vu
def kU(he:JE X e (tD f))(hs:‹swapsWith e η pos.line X.env=pure ι›):JS X (.Expr e pos) (eJ (iI f)) :=
 (Ku he hs).weak λD σ H ⟨F,ad,δ,K,S,q,k⟩↦⟨F,ad,δ,_,S,q,λx δ1 h1 v F1 br H1 E1 S1 V1=>k.nx _ h1 _ _ _ _ E1 S1⟩
def fx(he:JE X e (tD f)):JS X (.Return (Z e) pos) (eJ (bc f)) :=
 (Dp he).weak λD σ H ⟨F,ad,δ,K,S,q,k⟩↦⟨F,ad,δ,_,S,q,λx δ1 h1 v F1 br H1 E1 S1 V1=>k.rt _ _ h1 _ _ _ _ _ E1 S1 V1⟩
def jY{a b}(hc:JT X c (dS t))(ha:eQ X a (eJ G))(hb:eQ X b (eJ G')):JS X (.If c a b pos) (eJ (bP t G G')) :=
 (Sx hc ha hb).weak λD σ H ⟨F,ad,δ,K,S,q,k⟩↦⟨F,ad,δ,_,S,q,λb δ1 h1 F1 br H1 E1 S1=>by
  cases b with
  |true =>
   exact⟨F1,br,δ1,K,S1,h1,k.ext E1⟩
  |false =>
   calc⟨F1,br,δ1,K,S1,h1,k.ext E1⟩⟩
/---/def tT:WS:=λ_ _=>False
abbrev WG:=DV->bh->(bh->Prop)->Prop
inductive kW (g:WG) (v:V) (σ:St) (H:Hp) (Q:St->Hp->Prop):Prop
 |mk (F:Hp) (ad:-Y) (δ:bh) (x:DV) (K:bh->Prop) (S:SR F ad δ σ H) (V:eY F ad x v) (q:g x δ K) (k:Cn F ad δ.mu H K Q)
abbrev yG:=-D->bh->(bh->Prop)->Prop
/---/def qV(g:yG):nV:=λvs σ H Q=>∃F ad δ ds K,SR F ad δ σ H/\aA F ds vs/\g ds δ K/\Cn F ad δ.mu H K Q
/---/def bL(i:Nat):WG:=λx δ K=>K ⟨δ.sl.set i (Z x),δ.mu⟩
/---/def hZ:yG:=λds δ K=>match ds with
 |[]=>K δ
 |_=>False
/---/def dB(g:WG)(g':yG):yG:=λds δ K=>match ds with
 |d::r=>g (.p d) δ fun δ1=>g' r δ1 K
 |[]=>False
def JG.weak{tg t t'}(h:JG X tg t)(k:∀v σ H Q,t' v σ H Q->t v σ H Q):JG X tg t':=⟨λpins s σ H v u Q I r q=>h pins s σ H v u Q I r (k v σ H Q q)⟩
def ly.weak{ts t t'}(h:ly X ts t)(k:∀v σ H Q,t' v σ H Q->t v σ H Q):ly X ts t':=⟨λpins s σ H v u Q I r q=>h pins s σ H v u Q I r (k v σ H Q q)⟩
def iJ{i x}(hN:X.N.Nodup)(hi:X.N[i]?=Z x)(hx:Loc X.env.scope x)(hf:iq X x:=by first|exact .inl U|exact .inr U|assumption):JG X (.Name x pos) (kW (bL i)) :=
 (xK hN hi hx hf).weak λv σ H Q ⟨F,ad,δ,x,K,S,V,q,k⟩↦k _ q _ _ _ _ .refl (S.set V)
def vf:ly X [] (qV hZ):=iR.weak λvs σ H Q ⟨F,ad,δ,ds,K,S,V,q,k⟩↦by
 unfold hZ at q;split at q
 .exact⟨V,k _ q _ _ _ _ .refl S⟩
 .calc q.elim
def l_{es g g'}(h1:JG X e (kW g))(h2:ly X es (qV g'))(hs:‹(assignEach (e::es) X.env).map (·.2)=assign e X.env::(assignEach es X.env).map (·.2)›):ly X (e::es) (qV (dB g g')) :=
 (xN h1 h2 hs).weak λvs σ H Q ⟨F,ad,δ,ds,K,S,V,q,k⟩↦by
  unfold dB at q;split at q
  .rename_i d r
   let⟨v,r',e,i1,i2⟩:=V;exact⟨v,r',e,F,ad,δ,.p d,_,S,i1,q,fun δ' h _ _ _ _ E S'=>⟨_,_,δ',r,K,S',i2.same E.same,h,k.ext E⟩⟩
  .calc q.elim
/---/def iz(n:Nat)(g:yG):WG:=λx δ K=>kg x δ λd=>match d with
 |.tup ds=>↑ds=n/\g ds δ K
 |.lst ds=>↑ds=n/\g ds δ K
 |_=>False
def JG.or{tg t t'}(h:JG X tg t)(h':JG X tg t'):JG X tg (λv σ H Q=>t v σ H Q\/t' v σ H Q):=⟨λpins s σ H v u Q I r q=>q.elim (λq=>h pins s σ H v u Q I r q) λq=>h' pins s σ H v u Q I r q⟩
def vg{es k g n}(hc:X.calm=θ)(h:ly X es (qV g))(hn:‹↑(assignEach es X.env)=n›)(kC:‹(assignEach es X.env).findIdx? (·.1)=η›):JG X (.Tuple es k pos) (kW (iz n g)) :=
 ((Ds hc h hn kC).or (Vl hc h hn kC)).weak λv σ H Q ⟨F,ad,δ,x,K,S,V,q,k⟩↦by
  let⟨d,q,rd⟩:=l8 S V q;split at q
  .rename_i ds
   let⟨a,vs,e,h1,h2⟩:=rd;exact .inl ⟨a,vs,e,cA.of (S.sub _ _ h1),by rw[↑h2];calc q.1,F,ad,δ,ds,K,S,h2,q.2,k⟩
  .rename_i ds
   let⟨a,vs,e,h1,h2⟩:=rd;exact .inr ⟨a,vs,e,bR.of h1,by rw[↑h2];calc q.1,F,ad,δ,ds,K,S,h2,q.2,k⟩
  .calc q.elim
/---/def i5(f:WE)(g:WG):WS:=λK δ=>f δ λx δ1=>g x δ1 K.nx
def Mf{tg g}(he:JE X e (tD f))(hg:JG X tg (kW g))(hs:‹swapsWithSole [tg] e pos.line X.env=pure ι›)(hw:‹swappedStores [tg] e X.env=pure η›)
  (h1:‹(assignEach [tg] X.env).map (·.2)=[assign tg X.env]›):JS X (.Assign [tg] e pos) (eJ (i5 f g)) :=
 (Am he hg hs hw h1).weak λD σ H ⟨F,ad,δ,K,S,q,k⟩↦⟨F,ad,δ,_,S,q,λx δ1 h1 v F1 br H1 E1 S1 V1=>⟨F1,br,δ1,x,K.nx,S1,V1,h1,k.nx.ext E1⟩⟩
end
end
structure yH where
 items:-D
 b8:bh->Prop
abbrev WI:=bh->(yH->bh->Prop)->Prop
/---/def vh(F:Hp)(ad:-Y)(it:yH)(J:It):Prop:=∀(F':Hp)(a5:-Y)(δ:bh)(σ:St)(H:Hp),bf F F'->(∀(k:Nat)(a:Y),ad[k]?=Z a->a5[k]?=Z a)->SR F' a5 δ σ H->it.b8 δ →
 J.stop ↑it.items H/\∀(i:Nat)(d:D),it.items[i]?=Z d->J.go i H/\∀x H',J.v7 i H x H'->bf H H'/\Is (Nw F' H H') d x
inductive lI (w:WI) (σ:St) (H:Hp) (R:It->Hp->Prop):Prop
 |mk (F:Hp) (ad:-Y) (δ:bh) (K:yH->bh->Prop) (S:SR F ad δ σ H) (q:w δ K) (k:∀it δ',K it δ'->∀J F' a5 H',Ext F ad δ.mu H F' a5 δ'.mu H'->SR F' a5 δ' σ H'->vh F' a5 it J->R J H')
meta def AR(n:Nat):Option DV->Option DV->Option DV
 |none,_=>η
 |some _,some (.o k)=>if k<n then Z (.o k) else η
 |some _,some (.t d k)=>if k<n then Z (.t d k) else η
 |some _,s=>s
meta def iK(n:Nat):-(Option DV)->-(Option DV)->-(Option DV)
 |s0::r0,s::r=>AR n s0 s::iK n r0 r
 |[],_::r=>η::iK n [] r
 |_,[]=>[]
meta def bh.trim(δ0 δ:bh):bh:=⟨iK ↑δ0.mu δ0.sl δ.sl,δ.mu.take ↑δ0.mu⟩
def EC{n}:∀l0 l,↑(iK n l0 l)=↑l
 |_::r0,_::r=>by rw[iK,Uh,Uh,EC r0 r]
 |[],_::r=>by rw[iK,Uh,Uh,EC [] r]
 |[],[]=>U
 |_::_,[]=>U
def ED{n}:∀{l0 l}{i:Nat}{x},(iK n l0 l)[i]?=Z (Z x)->l[i]?=Z (Z x)/\∀k,x=.o k\/(∃d,x=.t d k)->k<n
 |s0::r0,s::r,0,x,h=>by
  let h:=by simpa[iK] using h
  match s0,s,h with
  |none,_,h=>cases h
  |some _,none,h=>cases h
  |some _,some (.p d),h=>cases(h);exact⟨U,λk e=>by rcases e with e|⟨_,e⟩<;>cases e⟩
  |some _,some (.w d),h=>cases(h);exact⟨U,λk e=>by rcases e with e|⟨_,e⟩<;>cases e⟩
  |some _,some (.u t d),h=>cases(h);exact⟨U,λk e=>by rcases e with e|⟨_,e⟩<;>cases e⟩
  |some _,some (.t d k),h =>
   let h:(if k<n then Z (DV.t d k) else η)=Z x:=h
   by_cases c:k<n
   .rw[q0r c] at h;cases h;exact⟨U,λk' e=>by rcases e with e|⟨_,e⟩<;>cases e;calc c⟩
   .rw[q0l c] at h;cases h
  |some _,some (.o k),h =>
   let h:(if k<n then Z (DV.o k) else η)=Z x:=h
   by_cases c:k<n
   .rw[q0r c] at h;cases h;exact⟨U,λk' e=>by rcases e with e|⟨_,e⟩<;>cases e;calc c⟩
   .rw[q0l c] at h;cases h
 |s0::r0,s::r,i+1,x,h=>by
  let h:=by simpa[iK] using h
  simpa using ED h
 |[],s::r,0,x,h=>by simp[iK] at h
 |[],s::r,i+1,x,h=>by
  let h:=by simpa[iK] using h
  simpa using ED h
 |[],[],i,x,h=>by simp[iK] at h
 |_::_,[],i,x,h=>by simp[iK] at h
section
variable{F F' H H':Hp}{ad a5:-Y}{δ δ' δ0:bh}{σ σ' τ:St}{mu dH:-(Option OV)}{l:Y}{o:HO}
def Lv.take{n a}(h:Lv (ad.take n) (mu.take n) a):Lv ad mu a:=by
 let⟨k,ov,e1,e2⟩:=h
 let hk:k<n:=by
  let:=(Ll.mp e1).1;rw[q0K] at this;symm
 rw[q0W hk] at e1 e2;calc⟨k,ov,e1,e2⟩
def SR.trim(S:SR F ad δ σ H):SR F (ad.take ↑δ0.mu) (δ0.trim δ) σ H:=by
 let tk:∀{k a},(ad.take ↑δ0.mu)[k]?=Z a->k<↑δ0.mu/\ad[k]?=Z a:=λ{k a} e=>by
  let hk:k<↑δ0.mu:=by
   let:=(Ll.mp e).1;rw[q0K] at this;symm
  rw[q0W hk] at e;exact⟨hk,e⟩
 let tm:∀{k w},(δ.mu.take ↑δ0.mu)[k]?=Z w->k<↑δ0.mu/\δ.mu[k]?=Z w:=λ{k w} e=>by
  let hk:k<↑δ0.mu:=by
   let:=(Ll.mp e).1;rw[q0K] at this;symm
  rw[q0W hk] at e;exact⟨hk,e⟩
 refine⟨S.sub,λa x=>S.off a x.take,?_,λk l a w w' e1 e2 e3 e4=>S.inj k l a w w' (tk e1).2 (tk e2).2 (tm e3).2 (tm e4).2,λk ov e=>?_,λi x e=>?_,?_,S.tab,S.nt⟩
 .show ↑(ad.take _)=↑(δ.mu.take _)
  rw[q0K,q0K,S.cQ]
 .let⟨a,o,e1,e2,h⟩:=S.mu k ov (tm e).2
  exact⟨a,o,by rw[q0W (tm e).1];calc e1,e2,h⟩
 .let⟨e1,e2⟩:=ED e
  let⟨v,h1,h2⟩:=S.sl i x e1;exact⟨v,h1,h2.pre λk a h3 z=>by rw[q0W (e2 k z)];calc h3⟩
 .show ↑σ=↑(iK _ _ _)
  rw[EC];calc S.len
def Ext.trim{n}(e:Ext F ad mu H F' a5 dH H')(hn:↑ad=n):Ext F ad mu H F' (a5.take n) (dH.take n) H' :=
 ⟨e.same,e.new,e.keep,λk a h=>by rw[q0W (by rw[<-hn];calc(Ll.mp h).1)];calc e.pre k a h,λa x=>e.cN a x.take,e.iZ⟩
def SR.other(S:SR F ad δ σ H)(hf:F l=η)(hl:¬ Lv ad δ.mu l)(tk:ba.ok (upd H l o)):SR F ad δ σ (upd H l o):=by
 refine⟨λa u e=>?_,S.off,S.cQ,S.inj,λk ov e=>?_,S.sl,S.len,tk,S.nt⟩
 .rw[bD (eg e hf)];exact S.sub a u e
 .let⟨a,u,e1,e2,h⟩:=S.mu k ov e
  calc⟨a,u,e1,by rw[bD λz=>hl (by subst z;calc⟨k,ov,e1,e⟩)];calc e2,h⟩
def Ext.other(e:Ext F ad mu H F' a5 dH H')(hl:H l=η):Ext F ad mu H F' a5 dH (upd H' l o) :=
 ⟨e.same,e.new,λa u h n t=>by rw[bD (eg h hl)];calc e.keep a u h n t,e.pre,e.cN,λa u h=>by rw[bD (eg h hl)];calc e.iZ a u h⟩
def SR.adopt(S:SR F ad δ σ H)(hf:F l=η)(ho:H l=Z o)(hl:¬ Lv ad δ.mu l)(no:∀ps,o≠.tbl ps:=by ext _ z;cases z):SR (upd F l o) ad δ σ H:=by
 let sm:bf F (upd F l o):=cU hf
 refine⟨λa u e=>?_,λa x=>?_,S.cQ,S.inj,λk ov e=>?_,λi x e=>?_,S.len,S.tab,S.nt.up sm λa ha=>by
  let⟨ps,q⟩:=ba.tb S.tab ha;rw[bD λz=>by subst z;rw[ho] at q;calc no ps (q0P q)]
  calc S.nt a ha⟩
 .by_cases c:a=l
  .subst c;rw[cb] at e;cases e;exact ho
  .rw[bD c] at e;exact S.sub a u e
 .rw[bD λz=>hl (by subst z;calc x)];exact S.off a x
 .let⟨a,u,e1,e2,h⟩:=S.mu k ov e
  exact⟨a,u,e1,e2,h.same sm⟩
 .let⟨v,e1,h⟩:=S.sl i x e
  calc⟨v,e1,h.same sm⟩
def Ext.adopt(e:Ext F ad mu H F' a5 dH H')(hl:H l=η)(hf:F' l=η):Ext F ad mu H (upd F' l o) a5 dH H' :=
 ⟨e.same.trans (cU hf),λa u h=>by
  by_cases c:a=l
  .subst c;exact .inr (.inl hl)
  .rw[bD c] at h;calc e.new a u h,e.keep,e.pre,e.cN,e.iZ⟩
def SR.dO{ov}(S:SR F ad δ σ H)(hf:F l=η)(ho:H l=Z o)(hl:¬ Lv ad δ.mu l)(h:gz F l ov o):SR F (ad++[l]) ⟨δ.sl,δ.mu++[Z ov]⟩ σ H:=by
 let old:∀{k w},(δ.mu++[Z ov])[k]?=Z (Z w)->(k<↑δ.mu/\δ.mu[k]?=Z (Z w))\/(k=↑δ.mu/\w=ov):=λ{k w} e=>by
  by_cases c:k<↑δ.mu
  .rw[q0a c] at e;exact .inl ⟨c,e⟩
  .let hl:=(Ll.mp e).1
   rw[Lo,q0J] at hl;let ek:k=↑δ.mu:=by symm
   subst ek;exact .inr ⟨U,by simpa using e.symm⟩
 let pre:∀{k},k<↑δ.mu->(ad++[l])[k]?=ad[k]?:=λ{k} c=>q0a (by rw[S.cQ];calc c);let last:(ad++[l])[↑δ.mu]?=Z l:=by rw[<-S.cQ,q0i (Ln _),q1l];rfl
 refine⟨S.sub,λa x=>?_,by rw[Lo,Lo,S.cQ];rfl,λk k' a w w' e1 e2 e3 e4=>?_,λk w e=>?_,λi x e=>?_,S.len,S.tab,S.nt⟩
 .let⟨k,w,e1,e2⟩:=x
  rcases old e2 with⟨c,e3⟩|⟨c,e3⟩
  .rw[pre c] at e1;exact S.off a ⟨k,w,e1,e3⟩
  .subst c;rw[last] at e1;cases e1;exact hf
 .rcases old e3 with⟨c,q⟩|⟨c,q⟩
  .rw[pre c] at e1
   rcases old e4 with⟨c',q'⟩|⟨c',q'⟩
   .rw[pre c'] at e2;exact S.inj k k' a w w' e1 e2 q q'
   .subst c';rw[last] at e2;cases e2;exact absurd ⟨k,w,e1,q⟩ hl
  .subst c;rw[last] at e1;cases e1
   rcases old e4 with⟨c',q'⟩|⟨c',q'⟩
   .rw[pre c'] at e2;exact absurd ⟨k',w',e2,q'⟩ hl
   .exact c'.symm
 .rcases old e with⟨c,q⟩|⟨c,q⟩
  .let⟨a,u,e1,e2,h'⟩:=S.mu k w q
   exact⟨a,u,by rw[pre c];calc e1,e2,h'⟩
  .subst c q;exact⟨l,o,last,ho,h⟩
 .let⟨v,e1,h'⟩:=S.sl i x e
  calc⟨v,e1,h'.pre λk a e2 _=>by rw[q0a (Ll.mp e2).1];calc e2⟩
def Ext.dO{ov:OV}(e:Ext F ad mu H F' a5 dH H')(hl:H l=η)(hm:↑a5=↑dH):Ext F ad mu H F' (a5++[l]) (dH++[Z ov]) H' :=
 ⟨e.same,e.new,e.keep,λk a h=>by rw[q0a (Ll.mp (e.pre k a h)).1];calc e.pre k a h,λa x=>by
  let⟨k,w,e1,e2⟩:=x
  by_cases c:k<↑dH
  .rw[q0a c] at e2
   rw[q0a (by rw[hm];calc c)] at e1;exact e.cN a ⟨k,w,e1,e2⟩
  .let kX:=(Ll.mp e2).1
   rw[Lo,q0J] at kX;let ek:k=↑a5:=by symm
   subst ek;let:=by simpa using e1
   subst this;calc .inr hl,e.iZ⟩
def SR.back{sl}(S0:SR F ad δ σ H)(e:Ext F ad δ.mu H F' a5 dH H')(S:SR F' a5 ⟨sl,dH⟩ τ H'):SR F' a5 ⟨δ.sl,dH⟩ σ H' :=
 ⟨S.sub,S.off,S.cQ,S.inj,S.mu,λi x q=>let⟨v,h1,h2⟩:=S0.sl i x q;⟨v,h1,h2.ext e⟩,S0.len,S.tab,S.nt⟩
meta def gg(cp:-(Option Nat))(sl:-(Option DV)):-(Option DV):=cp.map λo=>match o with
 |some i=>(sl[i]?).join
 |none=>η
def SR.vi{cp:-(Option Nat)}(S:SR F ad δ σ H):SR F ad ⟨gg cp δ.sl,δ.mu⟩ (l5 cp σ) H:=by
 calc⟨S.sub,S.off,S.cQ,S.inj,S.mu,λj x e=>?_,by unfold l5 gg;rw[ye,ye],S.tab,S.nt⟩;unfold gg at e;rw[Uj] at e;let⟨o,e1,e2⟩:=q0e.mp e
 match o,e2 with
 |none,e2=>cases e2
 |some i,e2 =>
  let e2:(δ.sl[i]?).join=Z x:=e2
  cases q:δ.sl[i]? with
  |none=>rw[q] at e2;cases e2
  |some z =>
   rw[q] at e2;subst e2;let⟨v,h1,h2⟩:=S.sl i x q;calc⟨v,?_,h2⟩;unfold l5;rw[Uj,e1];show Z ((σ[i]?).join)=Z (Z v);rw[h1];rfl
end
/---/def m8(δ0:bh)(b8:bh->Prop)(g:WG)(b:WS)(K:KS):-D->bh->Prop
 |[],δ=>b8 δ/\K.nx δ
 |d::r,δ=>b8 δ/\g (.p d) δ fun δ1=>b {nx:=fun δ2=>m8 δ0 b8 g b K r (δ0.trim δ2),ct:=fun δ2=>m8 δ0 b8 g b K r (δ0.trim δ2),bk:=K.nx,rt:=K.rt} δ1
/---/def eZ(w:WI)(g:WG)(b:WS):WS:=λK δ=>w δ λit δ1=>m8 δ1 it.b8 g b K it.items δ1
/---/def lJ(δ0:bh)(b8:bh->Prop)(g:WG)(t:WT)(f:WE)(K:-D->bh->Prop):-D->-D->bh->Prop
 |[],acc,δ=>b8 δ/\K acc δ
 |d::r,acc,δ=>b8 δ/\g (.p d) δ fun δ1=>t δ1 λb δ2=>if b=θ then f δ2 λx δ3=>pM x δ3 λe δ4=>↑acc<1000/\lJ δ0 b8 g t f K r (acc++[e]) (δ0.trim δ4) else lJ δ0 b8 g t f K r acc (δ0.trim δ2)
/---/def dY(w:WI)(cp:-(Option Nat))(g:WG)(t:WT)(f:WE):WE:=fun δ K=>w δ λit δ1=>lJ ⟨gg cp δ1.sl,δ1.mu⟩ it.b8 g t f (λacc δ'=>K (.p (.lst acc)) ⟨δ1.sl,δ'.mu⟩) it.items [] ⟨gg cp δ1.sl,δ1.mu⟩
/---/def pP(w:WI)(cp:-(Option Nat))(g:WG)(t:WT)(f:WE):WE:=fun δ K=>w δ λit δ1=>lJ ⟨gg cp δ1.sl,δ1.mu⟩ it.b8 g t f (λacc δ'=>K (.o ↑δ'.mu) ⟨δ1.sl,δ'.mu++[Z (.lst acc)]⟩) it.items [] ⟨gg cp δ1.sl,δ1.mu⟩
section
variable{X:Cx}{tg iter elt:υ}{body:-χ}{w:WI}{g:WG}{b:WS}{pos:Δ}{ifs:-υ}{t:WT}{f:WE}{scope:Γ}
def wC[lH](hp:PassesOwn (ς X.prog X.w) X.A X.env X.xe)(hc:X.calm=θ)(hi:JI X tg iter (lI w))(hg:JG X tg (kW g))(hb:eQ X body (eJ b))(hs:‹∀x,foldedSetIterable iter X.env x=pure x›):
  JS X (.For tg iter body [] pos) (eJ (eZ w g b)):=(Dy hp hc hi hg hb hs).weak λD σ H ⟨F,ad,δ,K,S,q,k⟩=>by
 calc⟨F,ad,δ,_,S,q,λit δ1 h1 J F1 br H1 E1 S1 I1=>?_⟩;let k1:=k.ext E1;calc⟨λi m σ' H'=>∃F' a5 δ',i+m=↑it.items/\Ext F1 br δ1.mu H1 F' a5 δ'.mu H'/\SR F' a5 δ' σ' H'/\m8 δ1 it.b8 g b K (it.items.drop i) δ',⟨↑it.items,F1,br,δ1,⋯,.refl,S1,h1⟩,?_⟩;ext i m σ' H' ⟨F',a5,δ',hm,E',S',h⟩
 by_cases eV:i<↑it.items
 .rw[q28 eV] at h
  calc wd λqW=>?_;let⟨ck,h⟩:=h;let⟨go,yl⟩:=(I1 F' a5 δ' σ' H' E'.same E'.pre S' ck).2 i _ (D9 eV);calc qW <| .inr ⟨go,fun σ2 H2=>∃F2 cR δ2,Ext F1 br δ1.mu H1 F2 cR δ2.mu H2/\SR F2 cR δ2 σ2 H2/\m8 δ1 it.b8 g b K (it.items.drop (i+1)) δ2,fun σ2 H2 ⟨F2,cR,δ2,e1,e2,e3⟩↦⟨m-1,⋯,F2,cR,δ2,⋯,e1,e2,e3⟩,λx H2 y=>?_⟩;let⟨sm,is⟩:=yl x H2 y;let E2:=E'.trans (Ext.al S' sm);calc⟨_,a5,δ',.p _,_,S'.al sm,is,h,fun δ3 h3 F3 vj σ3 H3 E3 S3=>?_⟩;let yI:=E2.trans E3;refine⟨F3,vj,δ3,_,S3,h3,⟨fun δ4 h4 F4 AS σ4 H4 E4 S4=>⟨F4,_,_,(yI.trans E4).trim S1.cQ,S4.trim,h4⟩,k1.nx.ext yI,fun δ4 h4 F4 AS σ4 H4 E4 S4=>⟨F4,_,_,(yI.trans E4).trim S1.cQ,S4.trim,h4⟩,(k1.ext yI).rt,(k1.ext yI).kp⟩⟩
 .let ei:i=↑it.items:=by symm
  subst ei;rw[q5i (Ln _)] at h;let⟨ck,h⟩:=h;calc .inl ⟨(I1 F' a5 δ' σ' H' E'.same E'.pre S' ck).1,k1.nx _ h _ _ _ _ E' S'⟩
/---/def dZ:WT:=fun δ K=>K θ δ
def JF.weak{ifs:-υ}{t t':TT}(h:JF X ifs t)(k:∀σ H Q,t' σ H Q->t σ H Q):JF X ifs t':=⟨λpins s σ H Q I q=>h pins s σ H Q I (k σ H Q q)⟩
def EE:JF X [] (dS dZ):=uZ.weak fun σ H Q ⟨F,ad,δ,K,S,q,k⟩↦k _ _ q _ _ _ .refl S
def wD{c:υ}(h:JT X c (dS t)):JF X [c] (dS t):=Uo h
def Mg{J l F1 br δ1 σ H1 it cp Q K}(S1:SR F1 br δ1 σ H1)(I1:vh F1 br it J)(hl:H1 l=η)
  (h:lJ ⟨gg cp δ1.sl,δ1.mu⟩ it.b8 g t f K it.items [] ⟨gg cp δ1.sl,δ1.mu⟩)
  (fin:∀acc δ' F' a5 τ H' ys,K acc δ'->Ext F1 br δ1.mu H1 F' a5 δ'.mu H'->SR F' a5 δ' τ H'->H' l=Z (.lst ys)->F' l=η->¬ Lv a5 δ'.mu l->aA F' acc ys->Q (.ref l) H') :
  Lq J (kW g) (dS t) (tD f) l (l5 cp σ) (upd H1 l (.lst [])) Q:=by
 let f1:F1 l=η:=by
  cases q:F1 l with
  |none=>rfl
  |some u=>rw[S1.sub l u q] at hl;cases hl
 let l1:¬ Lv br δ1.mu l:=λ⟨k,ov,e1,e2⟩↦by
  let⟨a,o,e3,e4,_⟩:=S1.mu k ov e2;rw[e1] at e3;cases e3;rw[hl] at e4;cases e4
 calc⟨λi m τ H'=>∃F' a5 δ' acc ys,i+m=↑it.items/\Ext F1 br δ1.mu H1 F' a5 δ'.mu H'/\SR F' a5 δ' τ H'/\H' l=Z (.lst ys)/\F' l=η/\¬ Lv a5 δ'.mu l/\aA F' acc ys/\lJ ⟨gg cp δ1.sl,δ1.mu⟩ it.b8 g t f K (it.items.drop i) acc δ',⟨↑it.items,F1,br,_,[],[],⋯,Ext.refl.other hl,(S1.vi.other f1 l1 (ba.same S1.tab (cU hl))),cb,f1,l1,.nil,h⟩,?_⟩;ext i m τ H' ⟨F',a5,δ',acc,ys,hm,E',S',kX,qX,tU,ia,h⟩
 by_cases eV:i<↑it.items
 .rw[q28 eV] at h
  calc wd λoo=>?_;let⟨ck,h⟩:=h;let⟨go,yl⟩:=(I1 F' a5 δ' τ H' E'.same E'.pre S' ck).2 i _ (D9 eV)
  let step:∀{F2 cR EF H2},Ext F' a5 δ'.mu H' F2 cR EF H2->H2 l=Z (.lst ys)/\F2 l=η/\¬ Lv cR EF l/\aA F2 acc ys:=λ{F2 cR EF H2} e=>by
   refine⟨e.keep _ _ kX tU (λz=>by let⟨ps,q⟩:=ba.tb S1.tab z;rw[hl] at q;cases q),?_,λz=>?_,ia.same e.same⟩
   .cases q:F2 l with
    |none=>rfl
    |some u =>
     rcases e.new l u q with z|z|z
     .rw[qX] at z;cases z
     .rw[kX] at z;cases z
     .exact absurd z tU
   .rcases e.cN l z with z|z
    .exact tU z
    .rw[kX] at z;cases z
  refine oo <| .inr ⟨go,fun τ2 H2=>∃F2 cR δ2 qY AU,Ext F1 br δ1.mu H1 F2 cR δ2.mu H2/\SR F2 cR δ2 τ2 H2/\H2 l=Z (.lst AU)/\F2 l=η/\¬ Lv cR δ2.mu l/\aA F2 qY AU/\lJ ⟨gg cp δ1.sl,δ1.mu⟩ it.b8 g t f K (it.items.drop (i+1)) qY δ2,
   fun τ2 H2 ⟨F2,cR,δ2,qY,AU,r⟩↦⟨m-1,⋯,F2,cR,δ2,qY,AU,⋯,r⟩,λx H2 y=>?_⟩
  let⟨sm,is⟩:=yl x H2 y;let X2:=Ext.al S' sm;calc⟨_,a5,δ',.p _,_,S'.al sm,is,h,fun δ3 h3 F3 vj σ3 H3 X3 S3=>⟨F3,vj,δ3,_,S3,h3,λbb δ4 h4 F4 AS H4 X4 S4=>?_⟩⟩;let EG:=(X2.trans X3).trans X4
  cases bb with
  |false =>
   calc wd λoq=>?_;let⟨a1,a2,a3,a4⟩:=step EG;exact oq <| ⟨F4,_,_,acc,ys,(E'.trans EG).trim S1.cQ,S4.trim ,a1,a2,λz=>a3 z.take,a4,h4⟩
  |true =>
   calc⟨F4,AS,δ4,_,S4,h4,λy δ5 h5 v F5 ad5 H5 X5 S5 V5=>?_⟩;calc wd λot=>?_;let⟨e,δ6,F6,⟨hlen,h6⟩,X6,S6,i6⟩:=yD S5 V5 h5;let Mh:=(EG.trans X5).trans X6;let⟨a1,a2,a3,a4⟩:=step Mh;exact ot <| ⟨ys,a1,mW (by rw[↑a4];symm),F6,_,_,acc++[e],ys++[v],((E'.trans Mh).other hl).trim S1.cQ,(S6.other a2 a3 (ba.put S6.tab a1 (.inl ⟨_,U⟩))).trim ,cb,a2,λz=>a3 z.take,a4.snoc i6,h6⟩
 .let ei:i=↑it.items:=by symm
  subst ei;rw[q5i (Ln _)] at h;let⟨ck,h⟩:=h;calc .inl ⟨(I1 F' a5 δ' τ H' E'.same E'.pre S' ck).1,fin _ _ _ _ _ _ _ h E' S' kX qX tU ia⟩
def Mi{cp:-(Option Nat)}:∀σ H Q,tD (dY w cp g t f) σ H Q->ym (lI w) cp (λ_=>kW g) (λ_=>dS t) (λ_=>tD f) σ H Q:=fun σ H Q ⟨F,ad,δ,K,S,q,k⟩↦by
 calc⟨F,ad,δ,_,S,q,λit δ1 h1 J F1 br H1 E1 S1 I1=>λd l hl=>Mg S1 I1 hl h1 λacc δ' F' a5 τ H' ys hk E' S' kX qX tU ia=>k _ _ hk _ _ _ _ (E1.trans (E'.adopt hl qX)) (SR.back  S1 (E'.adopt hl qX) (S'.adopt qX kX tU)) ⟨l,ys,U,cb,ia.same (cU qX)⟩⟩
def Mj{cp:-(Option Nat)}:∀σ H Q,tD (pP w cp g t f) σ H Q->ym (lI w) cp (λ_=>kW g) (λ_=>dS t) (λ_=>tD f) σ H Q:=fun σ H Q ⟨F,ad,δ,K,S,q,k⟩=>by
 calc⟨F,ad,δ,_,S,q,λit δ1 h1 J F1 br H1 E1 S1 I1=>λd l hl=>Mg S1 I1 hl h1 λacc δ' F' a5 τ H' ys hk E' S' kX qX tU ia=>?_⟩;let S2:=S'.dO (ov:=.lst acc) qX kX tU ⟨ys,U,ia⟩;let E2:=E'.dO (ov:=.lst acc) hl S'.cQ;calc k _ _ hk _ _ _ _ (E1.trans E2) (SR.back  S1 E2 S2) ⟨l,?_,U⟩;rw[<-S'.cQ,q0i (Ln _),q1l];rfl
def AV(cp:-(Option Nat))(Nb:-L)(hc:X.calm=θ)(hi:JI X tg iter (lI w))(hg:∀d,JG (c7 X scope Nb d) tg (kW g))(hf:∀d,JF (c7 X scope Nb d) ifs (dS t))(he:∀d,JE (c7 X scope Nb d) elt (tD f))
  (hk:‹scope.kind=.function›) (ho:autoParam (mX X.N X.env.scope scope Nb cp=θ) qz2._auto_1) (hs:‹∀x,foldedSetIterable iter X.env x=pure x›) :
  JE X (.ListComp elt [⟨tg,iter,ifs,0⟩] scope pos) (tD (dY w cp g t f)):=(Lz cp Nb hc hi hg hf he hk ho hs).weak Mi
def Vv(cp:-(Option Nat))(Nb:-L)(hc:X.calm=θ)(hi:JI X tg iter (lI w))(hg:∀d,JG (c7 X scope Nb d) tg (kW g))(hf:∀d,JF (c7 X scope Nb d) ifs (dS t))(he:∀d,JE (c7 X scope Nb d) elt (tD f))
  (hk:‹scope.kind=.function›) (ho:autoParam (mX X.N X.env.scope scope Nb cp=θ) qz2._auto_1) (hs:‹∀x,foldedSetIterable iter X.env x=pure x›) :
  JE X (.ListComp elt [⟨tg,iter,ifs,0⟩] scope pos) (tD (pP w cp g t f)):=(Lz cp Nb hc hi hg hf he hk ho hs).weak Mj
def AW[lH](cp:-(Option Nat))(Nb:-L){i:Nat}{x:L}{pos' gZ:Δ}(hN:X.N.Nodup)(hi:X.N[i]?=Z x)(hx:Loc X.env.scope x)(hc:X.calm=θ)(hit:JI X tg iter (lI w))(hg:∀d,JG (c7 X scope Nb d) tg (kW g))(hf:∀d,JF (c7 X scope Nb d) ifs (dS t))(he:∀d,JE (c7 X scope Nb d) elt (tD f))
  (hk:‹scope.kind=.function›) (ho:autoParam (mX X.N X.env.scope scope Nb cp=θ) qz2._auto_1) (hs:‹∀x,foldedSetIterable iter X.env x=pure x›)
  (u0:‹swapsWith (.ListComp elt [⟨tg,iter,ifs,0⟩] scope pos) (Z (.Name x pos')) gZ.line X.env=pure θ›)
  (mR:iq X x:=by first|exact .inl U|exact .inr U|assumption) :
  JS X (.Assign [.Name x pos'] (.ListComp elt [⟨tg,iter,ifs,0⟩] scope pos) gZ) (eJ (a8 i (dY w cp g t f))) :=
 (LA cp Nb hN hi hx hc hit hg hf he hk ho hs u0 mR).weak λD σ H ⟨F,ad,δ,K,S,q,k⟩↦Mi σ H _ ⟨F,ad,δ,_,S,q,λx δ1 h1 v F1 br H1 E1 S1 V1=>k.nx _ h1 _ _ _ _ E1 (S1.set V1)⟩
def Vw[lH](cp:-(Option Nat))(Nb:-L){i:Nat}{x:L}{pos' gZ:Δ}(hN:X.N.Nodup)(hi:X.N[i]?=Z x)(hx:Loc X.env.scope x)(hc:X.calm=θ)(hit:JI X tg iter (lI w))(hg:∀d,JG (c7 X scope Nb d) tg (kW g))(hf:∀d,JF (c7 X scope Nb d) ifs (dS t))(he:∀d,JE (c7 X scope Nb d) elt (tD f))
  (hk:‹scope.kind=.function›) (ho:autoParam (mX X.N X.env.scope scope Nb cp=θ) qz2._auto_1) (hs:‹∀x,foldedSetIterable iter X.env x=pure x›)
  (u0:‹swapsWith (.ListComp elt [⟨tg,iter,ifs,0⟩] scope pos) (Z (.Name x pos')) gZ.line X.env=pure θ›)
  (mR:iq X x:=by first|exact .inl U|exact .inr U|assumption) :
  JS X (.Assign [.Name x pos'] (.ListComp elt [⟨tg,iter,ifs,0⟩] scope pos) gZ) (eJ (a8 i (pP w cp g t f))) :=
 (LA cp Nb hN hi hx hc hit hg hf he hk ho hs u0 mR).weak λD σ H ⟨F,ad,δ,K,S,q,k⟩↦Mj σ H _ ⟨F,ad,δ,_,S,q,λx δ1 h1 v F1 br H1 E1 S1 V1=>k.nx _ h1 _ _ _ _ E1 (S1.set V1)⟩
end
inductive RV where
 |p (d:D)|n (ds:-D)|a (j:Nat)|t (d:D) (ds:-D)
/---/def vk(F' H H':Hp)(d:D)(ds:-D)(v:V):Prop:=∃a b u vs,v=.ref a/\F' a=Z (.tup [u,.ref b])/\Is F' d u/\H b=η/\H' b=Z (.lst vs)/\F' b=η/\aA F' ds vs
abbrev GD:=-DV->-OV->(RV->-OV->Prop)->Prop
structure AX(F:Hp)(ad:-Y)(H:Hp)(r:RV)(ows:-OV)(v:V)(F' H':Hp):Prop where
 sub:bf F' H'
 same:bf F F'
 new:∀a o,F' a=Z o->F a=Z o\/H a=η
 keep:∀a o,H a=Z o->a∉ad->a∉ba.ad->H' a=Z o
 tab:ba.ok H'
 nt:NT F'
 len:↑ows=↑ad
 own:∀(j:Nat)(ow:OV),ows[j]?=Z ow->∃a o,ad[j]?=Z a/\H' a=Z o/\gz F' a ow o
 off:∀a∈ad,F' a=η
 res:match r with
  |.p d=>Is F' d v
  |.n ds=>∃a vs,v=.ref a/\H a=η/\H' a=Z (.lst vs)/\F' a=η/\aA F' ds vs
  |.a j=>∃a,ad[j]?=Z a/\v=.ref a
  |.t d ds=>vk F' H H' d ds v
inductive pQ (G:GD) (n:Nat) (vs:-V) (H:Hp) (Q:VK) (q:XK):Prop
 |mk (hl:↑vs=n) (F:Hp) (ad:-Y) (ys:-DV) (aE:-OV) (K:RV->-OV->Prop) (S:SR F ad ⟨ys.map Z,aE.map Z⟩ (vs.map Z) H) (g:G ys aE K) (k:∀r ows,K r ows->∀v F' H',AX F ad H r ows v F' H'->Q v H')
/---/def jZ(n:Nat)(K:RV->-OV->Prop)(x:DV)(δ:bh):Prop:=∃ows,δ.mu.take n=ows.map Z/\↑ows=n/\match x with
 |.p d=>K (.p d) ows
 |.o k=>if k<n then K (.a k) ows else match δ.mu[k]? with
  |some (some (.lst ds))=>K (.n ds) ows\/K (.p (.lst ds)) ows
  |_=>False
 |.w _=>False
 |.u _ _=>False
 |.t d k=>n<=k/\match δ.mu[k]? with
  |some (some (.lst ds))=>K (.t d ds) ows
  |_=>False
meta def qZ(n:Nat)(K:RV->-OV->Prop):KS where
 nx:=jZ n K (.p .non)
 rt:=jZ n K
section
variable{F F' H H':Hp}{ad a5:-Y}{σ σ':St}
def yJ{α:Type}{l:-α}{i:Nat}{x}(h:(l.map Z)[i]?=Z (Z x)):l[i]?=Z x:=by
 rw[Uj] at h;let⟨y,e,q⟩:=q0e.mp h;cases q;calc e
def yK{α:Type}{l:-α}{i:Nat}{x}(h:l[i]?=Z x):(l.map Z)[i]?=Z (Z x):=by
 rw[Uj,h];rfl
def SR.start{ys:-DV}{mu vs N}(S:SR F ad ⟨ys.map Z,mu⟩ (vs.map Z) H):SR F ad ⟨ys.map Z++q0q (↑N-↑vs) η,mu⟩ (start N vs) H:=by
 let hl:↑vs=↑ys:=by
  let:=S.len;rw[ye] at this;rw[this,ye]
 refine⟨S.sub,S.off,S.cQ,S.inj,S.mu,λi x e=>?_,?_,S.tab,S.nt⟩
 .let hi:i<↑ys:=by
   by_cases c:i<↑ys
   .exact c
   .rw[q0i (by rw[ye];symm),q3l] at e
    split at e
    .cases e
    .cases e
  rw[q0a (by rw[ye];calc hi)] at e;let⟨v,h1,h2⟩:=S.sl i x e;exact⟨v,by unfold L2.start;rw[q0a (by rw[ye,hl];calc hi)];calc h1,h2⟩
 .unfold L2.start
  rw[Lo,Lo,q3I,q3I,ye,ye,hl]
def AY{aE:-OV}{δ:bh}{x:DV}{v:V}{K:RV->-OV->Prop}{Q:VK}{sl:-(Option DV)}{τ:St}(S0:SR F ad ⟨sl,aE.map Z⟩ τ H)(E:Ext F ad (aE.map Z) H F' a5 δ.mu H')(S:SR F' a5 δ σ' H')(V:eY F' a5 x v)
  (h:jZ ↑aE K x δ) (k:∀r ows,K r ows->∀v F' H',AX F ad H r ows v F' H'->Q v H'):Q v H':=by
 let⟨ows,tk,hl,h⟩:=h;let al:↑ad=↑aE:=by let:=S0.cQ;rwa [ye] at this
 let lv:∀(j:Nat)(a:Y),ad[j]?=Z a->∃ow,ows[j]?=Z ow/\δ.mu[j]?=Z (Z ow)/\Lv a5 δ.mu a:=λj a e=>by
  let hj:j<↑aE:=by rw[<-al];exact(Ll.mp e).1
  let h1:(δ.mu.take ↑aE)[j]?=Z (Z (ows[j]'(by rw[hl];calc hj))):=by
   rw[tk,Uj,D9 (by rw[hl];calc hj)];rfl
  rw[q0W hj] at h1;exact⟨_,D9 (by rw[hl];calc hj),h1,j,_,E.pre j a e,h1⟩
 let ma:∀a∈ad,F' a=η:=λa ha=>by
  let⟨j,e⟩:=q0m.mp ha;let⟨_,_,_,l⟩:=lv j a e;exact S.off a l
 let base:∀{F2:Hp},bf F' F2->bf F2 H'->(∀a o,F2 a=Z o->F' a=Z o\/(H a=η/\¬ a∈ad))->(∀a∈ad,F2 a=η)->NT F2->∀{r},(match r with
   |.p d=>Is F2 d v
   |.n ds=>∃a vs,v=.ref a/\H a=η/\H' a=Z (.lst vs)/\F2 a=η/\aA F2 ds vs
   |.a j=>∃a,ad[j]?=Z a/\v=.ref a
   |.t d ds=>vk F2 H H' d ds v)->AX F ad H r ows v F2 H':=λ{F2} s1 s2 n2 o2 Vx {r} res=>by
  refine⟨s2,E.same.trans s1,λa o e=>?_,λa o e n t=>?_,S.tab,Vx,by rw[hl,al],λj ow e=>?_,o2,res⟩
  .rcases n2 a o e with e|⟨e,_⟩
   .rcases E.new a o e with z|z|⟨j,ov,z,_⟩
    .exact .inl z
    .exact .inr z
    .rw[ma a (q0m.mpr ⟨j,z⟩)] at e;cases e
   .exact .inr e
  .exact E.keep a o e (λ⟨j,ov,z,_⟩↦n (q0m.mpr ⟨j,z⟩)) t
  .let hj:j<↑ad:=by rw[al,<-hl];exact(Ll.mp e).1
   let⟨Ml,e1,e2,_⟩:=lv j _ (D9 hj);rw[e] at e1;cases e1;let⟨a,o,e3,e4,h5⟩:=S.mu j _ e2;rw[E.pre j _ (D9 hj)] at e3;cases e3
   exact⟨_,o,D9 hj,e4,h5.same s1⟩
 let fresh:∀{i ds a},¬ i<↑aE->a5[i]?=Z a->δ.mu[i]?=Z (Z (.lst ds))->∃vs,H' a=Z (.lst vs)/\aA F' ds vs/\a∉ad/\F' a=η/\H a=η:=λ{i ds a} c e1 em=>by
  calc wd λou=>?_;let⟨a',o,e2,e3,vs,rfl,h4⟩:=S.mu i _ em;calc ou ?_;rw[e1] at e2;cases e2
  let na:a∉ad:=λz=>by
   let⟨j,e⟩:=q0m.mp z;let⟨ow,_,e5,_⟩:=lv j a e;let:=S.inj i j a _ _ e1 (E.pre j a e) em e5;subst this;exact c (by rw[<-al];calc(Ll.mp e).1)
  calc⟨vs,e3,h4,na,S.off a ⟨i,_,e1,em⟩,?_⟩;rcases E.cN a ⟨i,_,e1,em⟩ with⟨j,ov,z,_⟩|z
  .exact absurd (q0m.mpr ⟨j,z⟩) na
  .exact z
 cases x with
 |p d=>exact k _ _ h _ _ _ (base  (λ_ _ e=>e) S.sub (λ_ _ e=>.inl e) ma S.nt V)
 |w _=>exact h.elim
 |u _ _=>exact h.elim
 |t d i =>
  let⟨a,b,u,rfl,e0,e2,e1⟩:=V;let⟨c,h⟩:=h;split at h
  .rename_i ds em
   let⟨vs,e3,h4,na,fa,ha⟩:=fresh ⋯ e1 em;exact k _ _ h _ _ _ (base  (λ_ _ e=>e) S.sub (λ_ _ e=>.inl e) ma S.nt ⟨a,b,u,vs,U,e0,e2,ha,e3,fa,h4⟩)
  .exact h.elim
 |o i =>
  dsimp only at h;let⟨a,e1,rfl⟩:=V
  by_cases c:i<↑aE
  .rw[q0r c] at h
   let ei:ad[i]?=Z a:=by
    let:=E.pre i _ (D9 (by rw[al];calc c));rw[e1] at this;rw[D9 (by rw[al];calc c)];exact this.symm
   exact k _ _ h _ _ _ (base  (λ_ _ e=>e) S.sub (λ_ _ e=>.inl e) ma S.nt ⟨a,ei,U⟩)
  .rw[q0l c] at h
   split at h
   .rename_i ds em
    let⟨vs,e3,h4,na,fa,ha⟩:=fresh c e1 em;rcases h with h|h
    .exact k _ _ h _ _ _ (base  (λ_ _ e=>e) S.sub (λ_ _ e=>.inl e) ma S.nt ⟨a,vs,U,ha,e3,fa,h4⟩)
    .refine k _ _ h _ _ _ (base (F2:=upd F' a (.lst vs)) (cU fa) (λb o e=>?_) (λb o e=>?_) (λb hb=>?_) (S.nt.up (cU fa) λb hb=>?_) ?_)
     .by_cases z:b=a
      .subst z;rw[cb] at e;cases e;exact e3
      .rw[bD z] at e;exact S.sub b o e
     .by_cases z:b=a
      .subst z;exact .inr ⟨ha,na⟩
      .rw[bD z] at e;exact .inl e
     .rw[bD λz=>na (by calc wd λme=>?_;subst z;calc me <| hb)];exact ma b hb
     .let⟨ps,q⟩:=ba.tb S.tab hb
      rw[bD λz=>by subst z;rw[e3] at q;cases q];exact S.nt b hb
     .exact⟨a,vs,U,cb,h4.same (cU fa)⟩
   .calc h.elim
end
def hW.Vy{P w K mg base x qual st f fd N ps k G}(F:hW K x qual st f fd)(S:pF N ps (cW st))
  (fN:∀bF A outer s H E,bA k (A.deeper (envOfC qual (cW st) ⇑s f bF)) →
   ∃B:WS,eQ (gE f_ P w K mg base N qual (cW st) f bF A outer s H E).mS (gG st) (eJ B)/\∀ys aE K',↑ys=↑ps->G ys aE K'->B (qZ ↑aE K') ⟨ys.map Z++q0q (↑N-↑ps) η,aE.map Z⟩) :
  cB P w K mg base f_ (k+1) f fd ps (pQ G ↑ps) :=
 F.yi S (λvs H Q E h=>h.1) λbF A outer s H vs Q E hr h=>by
  let⟨hl,Fz,ad,ys,aE,K',S0,g,kk⟩:=h;let⟨B,jb,hb⟩:=fN bF A outer s H E hr
  let hy:↑ys=↑ps:=by
   let:=S0.len;rw[ye] at this;rw[<-hl,this,ye]
  refine⟨_,jb,Fz,ad,⟨ys.map Z++q0q (↑N-↑ps) η,aE.map Z⟩,qZ ↑aE K',by rw[<-hl];calc S0.start,hb ys aE K' hy g,⟨fun δ' h F' a5 σ' H' E' S'=>?_,fun δ' h=>h.elim,fun δ' h=>h.elim,λy δ' h v F' a5 σ' H' E' S' V=>?_,trivial⟩⟩
  .exact AY  S0 E' S' (x:=.p .non)  U h kk
  .calc AY  S0 E' S' V h kk
meta def passes(mu:-(Option OV)):-DV->Nat->Option (-DV×-(Nat×OV))
 |[],_=>Z ([],[])
 |.p d::xs,j=>match passes mu xs j with
  |some r=>Z (.p d::r.1,r.2)
  |none=>η
 |.o k::xs,j=>match mu[k]? with
  |some (some ov)=>match passes mu xs (j+1) with
   |some r=>Z (.o j::r.1,(k,ov)::r.2)
   |none=>η
  |_=>η
 |.w a::xs,j=>match passes mu xs j with
  |some r=>Z (.w a::r.1,r.2)
  |none=>η
 |.u _ _::_,_=>η
 |.t _ _::_,_=>η
meta def dy(mu:-(Option OV)):-(Nat×OV)->-OV->-(Option OV)
 |(k,_)::r,ow::ows=>dy (mu.set k (Z ow)) r ows
 |_,_=>mu
meta def lK:-(Nat×OV)->Bool
 |[]=>θ
 |(k,_)::r => !(r.any λe=>e.1==k)&&lK r
/---/def q9(δ:bh)(b_:-(Nat×OV))(K:DV->bh->Prop)(r:RV)(ows:-OV):Prop:=match r with
 |.p d=>K (.p d) ⟨δ.sl,dy δ.mu b_ ows⟩
 |.n ds=>K (.p (.lst ds)) ⟨δ.sl,dy δ.mu b_ ows⟩
 |.t d ds=>K (.p (.tup [d,.lst ds])) ⟨δ.sl,dy δ.mu b_ ows⟩
 |.a j=>match b_[j]? with
  |some ko=>K (.o ko.1) ⟨δ.sl,dy δ.mu b_ ows⟩
  |none=>False
/---/def yL(δ:bh)(b_:-(Nat×OV))(K:DV->bh->Prop)(r:RV)(ows:-OV):Prop:=match r with
 |.n ds=>K (.o ↑(dy δ.mu b_ ows)) ⟨δ.sl,dy δ.mu b_ ows++[Z (.lst ds)]⟩
 |_=>False
/---/def aL(n:Nat)(G:GD)(fa:WA):WE:=fun δ K=>fa δ λxs δ1=>match passes δ1.mu xs 0 with
 |some r=>(lK r.2=θ/\↑r.1=n)/\G r.1 (r.2.map (·.2)) (q9 δ1 r.2 K)
 |none=>False
/---/def yM(n:Nat)(G:GD)(fa:WA):WE:=fun δ K=>fa δ λxs δ1=>match passes δ1.mu xs 0 with
 |some r=>(lK r.2=θ/\↑r.1=n)/\G r.1 (r.2.map (·.2)) (yL δ1 r.2 K)
 |none=>False
section
variable{F F' H H':Hp}{ad a5:-Y}{δ:bh}{σ σ':St}
def wF{mu:-(Option OV)}(hm:∀(k:Nat) (ov:OV),mu[k]?=Z (Z ov)->∃a o,ad[k]?=Z a/\H a=Z o/\gz F a ov o):∀{xs:-DV}{vs:-V}{j:Nat}{r:-DV×-(Nat×OV)},passes mu xs j=Z r->dm F ad xs vs →
  ∃as:-Y,↑as=↑r.2/\(∀(i:Nat)(ko:Nat×OV),r.2[i]?=Z ko->mu[ko.1]?=Z (Z ko.2)/\∃a o,as[i]?=Z a/\ad[ko.1]?=Z a/\H a=Z o/\gz F a ko.2 o) ∧
   ∀(pre:-Y),pre.length=j->∃_u:Unit,↑vs=↑r.1/\∀(i:Nat)(y:DV),r.1[i]?=Z y->∃v,vs[i]?=Z v/\eY F (pre++as) y v
 |[],vs,j,r,h,hv=>by
  cases h
  let:vs=[]:=hv;subst this;exact⟨[],U,λi ko e=>by simp at e,λpre _=>⟨(),U,λi y e=>by simp at e⟩⟩
 |.p d::xs,_,j,r,h,⟨v,t,e,h1,h2⟩=>by
  subst e;unfold passes at h;split at h
  .rename_i r' hr
   cases h
   let⟨as,l,b,c⟩:=wF hm hr h2;refine⟨as,l,b,λpre hp=>⟨(),?_,λi y e=>?_⟩⟩
   .let⟨_,c1,_⟩:=c pre hp
    rw[Uh,Uh,c1]
   .let⟨_,_,c2⟩:=c pre hp
    cases i with
    |zero=>cases e⁻¹;exact⟨v,U,h1⟩
    |succ i=>simpa using c2 i y e⁻¹
  .cases h
 |.w d::xs,_,j,r,h,⟨v,t,e,h1,h2⟩=>by
  subst e;unfold passes at h;split at h
  .rename_i r' hr
   cases h
   let⟨as,l,b,c⟩:=wF hm hr h2;refine⟨as,l,b,λpre hp=>⟨(),?_,λi y e=>?_⟩⟩
   .let⟨_,c1,_⟩:=c pre hp
    rw[Uh,Uh,c1]
   .let⟨_,_,c2⟩:=c pre hp
    cases i with
    |zero=>cases e⁻¹;exact⟨v,U,h1⟩
    |succ i=>simpa using c2 i y e⁻¹
  .cases h
 |.o k::xs,_,j,r,h,⟨v,t,e,h1,h2⟩=>by
  subst e;unfold passes at h;split at h
  .rename_i ov hk
   split at h
   .rename_i r' hr
    cases h
    let⟨as,l,b,c⟩:=wF hm hr h2;let⟨a,e1,rfl⟩:=h1;let⟨a',o,e2,e3,e4⟩:=hm k ov hk;rw[e1] at e2;cases e2;refine⟨a::as,by rw[Uh,Uh,l],λi ko e=>?_,λpre hp=>⟨(),?_,λi y e=>?_⟩⟩
    .cases i with
     |zero=>cases e⁻¹;exact⟨hk,a,o,U,e1,e3,e4⟩
     |succ i=>simpa using b i ko e⁻¹
    .let⟨_,c1,_⟩:=c (pre++[a]) (by rw[Lo,hp];rfl)
     rw[Uh,Uh,c1]
    .let⟨_,_,c2⟩:=c (pre++[a]) (by rw[Lo,hp];rfl)
     cases i with
     |zero =>
      cases e⁻¹
      calc⟨_,U,a,?_,U⟩;rw[q0i ⋯,hp,q1l];rfl
     |succ i =>
      let⟨v',c3,c4⟩:=c2 i y e⁻¹;exact⟨v',by simpa using c3,by rw[q12] at c4;calc c4⟩
   .cases h
  .cases h
def EH:∀{b_},lK b_=θ->∀(i j:Nat) k a b,b_[i]?=Z (k,a)->b_[j]?=Z (k,b)->i=j
 |[],_,i,j,k,a,b,e,_=>by simp at e
 |(k',ov)::r,h,i,j,k,a,b,e1,e2=>by
  unfold lK at h;erw[q04,q3A] at h
  let no:∀m c,r[m]?=Z (k',c)->False:=λm c e=>by
   let:=q2D.mp h.1 _ (q0m.mpr ⟨m,e⟩);exact this (by simp)
  cases i with
  |zero =>
   cases(show Z (k',ov)=Z (k,a) by simpa using e1)
   cases j with
   |zero=>rfl
   |succ j=>exact(no j b e2⁻¹).elim
  |succ i =>
   cases j with
   |zero=>cases(show Z (k',ov)=Z (k,b) by simpa using e2);exact(no i a e1⁻¹).elim
   |succ j=>rw[EH h.2 i j k a b e1⁻¹ e2⁻¹]
def EI:∀b_ ows mu,↑(dy mu b_ ows)=↑mu
 |(k,_)::r,ow::ows,mu=>by rw[dy,EI r ows,q1H]
 |[],_,_=>U
 |_::_,[],_=>U
def yN:∀(b_:-(Nat×OV))(ows:-OV)(mu:-(Option OV))(l:Nat),(∀ko∈b_,ko.1≠l)->(dy mu b_ ows)[l]?=mu[l]?
 |(k,_)::r,ow::ows,mu,l,h=>by
  rw[dy,yN r ows _ l λko hk=>h ko (q0p _ hk),q08 (h _ q0d)]
 |[],_,_,_,_=>U
 |_::_,[],_,_,_=>U
def EJ:∀{b_:-(Nat×OV)}{ows:-OV}{mu:-(Option OV)}{i:Nat}{ko:Nat×OV}{ow:OV},lK b_=θ->b_[i]?=Z ko->ows[i]?=Z ow->ko.1<↑mu->(dy mu b_ ows)[ko.1]?=Z (Z ow)
 |(k,ov)::r,Ml::ows,mu,0,ko,ow,h,e1,e2,hl=>by
  cases e1⁻¹
  cases e2⁻¹
  unfold lK at h;erw[q04,q3A] at h;rw[dy,yN r ows _ k λko hk z=>absurd z⁻¹ (q2D.mp h.1 ko hk),q07 hl]
 |(k,ov)::r,Ml::ows,mu,i+1,ko,ow,h,e1,e2,hl=>by
  unfold lK at h;erw[q04,q3A] at h;rw[dy];exact EJ h.2 e1⁻¹ e2⁻¹ (by rw[q1H];calc hl)
 |[],_,_,i,_,_,_,e1,_,_=>by simp at e1
 |_::_,[],_,i,_,_,_,_,e2,_=>by simp at e2
def EK{xs:-DV}{vs:-V}{r:-DV×-(Nat×OV)}{G:GD}{n:Nat}{Q:VK}{E:XK}{K:RV->-OV->Prop}(S:SR F ad δ σ H)(V:dm F ad xs vs)(hn:↑vs=n)(hp:passes δ.mu xs 0=Z r)(nd:lK r.2=θ)(g:G r.1 (r.2.map (·.2)) K)
  (fin:∀res ows v F' H',K res ows->Ext F ad δ.mu H F' ad (dy δ.mu r.2 ows) H'->SR F' ad ⟨δ.sl,dy δ.mu r.2 ows⟩ σ H'->(match res with
   |.p d=>Is F' d v
   |.n ds=>∃a vs,v=.ref a/\H a=η/\H' a=Z (.lst vs)/\F' a=η/\aA F' ds vs
   |.a j=>∃ko a,r.2[j]?=Z ko/\ad[ko.1]?=Z a/\v=.ref a
   |.t d ds=>vk F' H H' d ds v)->Q v H'):pQ G n vs H Q E:=by
 let⟨as,al,b,c⟩:=wF S.mu hp V;let⟨_,c1,c2⟩:=c [] U
 let lL:∀(i:Nat)(a:Y),as[i]?=Z a->Lv ad δ.mu a/\∃ko,r.2[i]?=Z ko/\ad[ko.1]?=Z a/\δ.mu[ko.1]?=Z (Z ko.2):=λi a e=>by
  let hi:i<↑r.2:=by rw[<-al];exact(Ll.mp e).1
  let⟨m1,a',o,e1,e2,_,_⟩:=b i _ (D9 hi);rw[e] at e1;cases e1;exact⟨⟨_,_,e2,m1⟩,_,D9 hi,e2,m1⟩
 refine⟨hn,F,as,r.1,r.2.map (·.2),K,⟨S.sub,λa ⟨i,ov,e1,e2⟩↦S.off a (lL i a e1).1,by rw[al];rw[ye,ye],λi j a ov ow e1 e2 _ _=>?_,λi ov e=>?_,λi y e=>?_,?_,S.tab,S.nt⟩,g,λres ows hk v F' H' P=>?_⟩
 .let⟨_,ko,k1,k2,k3⟩:=lL i a e1
  let⟨_,kp,p1,p2,p3⟩:=lL j a e2;let:ko.1=kp.1:=S.inj _ _ a _ _ k2 p2 k3 p3;exact EH nd i j ko.1 ko.2 kp.2 k1 (by rw[this];calc p1)
 .let e:=yJ e
  rw[Uj] at e;let⟨ko,e1,rfl⟩:=q0e.mp e;let⟨_,a,o,e2,_,e4,e5⟩:=b i ko e1;exact⟨a,o,e2,e4,e5⟩
 .let⟨v,e1,e2⟩:=c2 i y (yJ e)
  exact⟨v,yK e1,by simpa using e2⟩
 .rw[ye,ye,c1]
 .let ol:↑ows=↑r.2:=by rw[P.len,al]
  let ip:∀l ow,(dy δ.mu r.2 ows)[l]?=Z (Z ow)->(∃(i:Nat)(ko:Nat×OV),r.2[i]?=Z ko/\ko.1=l/\ows[i]?=Z ow)\/((∀ko∈r.2,ko.1≠l)/\δ.mu[l]?=Z (Z ow)):=λl ow e=>by
   by_cases z:∃ko∈r.2,ko.1=l
   .let⟨ko,hk,rfl⟩:=z
    let⟨i,hi⟩:=q0m.mp hk;let tV:i<↑ows:=by rw[ol];exact(Ll.mp hi).1
    let:=EJ  nd hi (D9 tV) (Ll.mp (b i ko hi).1).1;rw[e] at this;cases this
    exact .inl ⟨i,ko,hi,U,D9 tV⟩
   .let z':=λko hk q=>z ⟨ko,hk,q⟩
    rw[yN _ _ _ _ z'] at e;exact .inr ⟨z',e⟩
  let q_:∀l ow a,ad[l]?=Z a->(dy δ.mu r.2 ows)[l]?=Z (Z ow)->Lv ad δ.mu a:=λl ow a e1 e2=>by
   rcases ip l ow e2 with⟨i,ko,hi,rfl,_⟩|⟨_,q⟩
   .exact⟨_,_,e1,(b i ko hi).1⟩
   .exact⟨_,_,e1,q⟩
  let yO:∀a,a∈as->Lv ad δ.mu a:=λa ha=>by
   let⟨i,e⟩:=q0m.mp ha;exact(lL i a e).1
  let ex:Ext F ad δ.mu H F' ad (dy δ.mu r.2 ows) H':=by
   refine⟨P.same,λa o e=>?_,λa o e n t=>P.keep a o e (λz=>n (yO a z)) t,λ_ _ e=>e,λa ⟨l,ow,e1,e2⟩↦.inl (q_ l ow a e1 e2),λa o e=>?_⟩
   .rcases P.new a o e with z|z
    .exact .inl z
    .exact .inr (.inl z)
   .by_cases z:a∈as
    .let⟨i,e1⟩:=q0m.mp z
     let hi:i<↑ows:=by rw[P.len];exact(Ll.mp e1).1
     let⟨a',o',e2,e3,_⟩:=P.own i _ (D9 hi);rw[e1] at e2;cases e2;exact⟨o',e3⟩
    .by_cases t:a∈ba.ad
     .let⟨ps,q⟩:=ba.tb P.tab t
      exact⟨_,q⟩
     .exact⟨o,P.keep a o e z t⟩
  let vm:=λa l=>by
   by_cases z:a∈as
   .exact P.off a z
   .cases q:F' a with
    |none=>rfl
    |some u =>
     rcases P.new a u q with y|y
     .rw[S.off a l] at y;cases y
     .let⟨k,ov,e1,e2⟩:=l
      let⟨a',o,e3,e4,_⟩:=S.mu k ov e2;rw[e1] at e3;cases e3;rw[y] at e4;cases e4
  let sr:SR F' ad ⟨δ.sl,dy δ.mu r.2 ows⟩ σ H':=by
   refine⟨P.sub,λa ⟨l,ow,e1,e2⟩↦vm a (q_ l ow a e1 e2),by rw[S.cQ];calc(EI _ _ _).symm,λk l a ov ow e1 e2 e3 e4=>?_,λl ow e=>?_,λi y e=>?_,S.len,P.tab,P.nt⟩
   .let h3:∃w,δ.mu[k]?=Z (Z w):=by
     rcases ip k ov e3 with⟨i,ko,hi,rfl,_⟩|⟨_,q⟩
     .exact⟨_,(b i ko hi).1⟩
     .exact⟨_,q⟩
    let h4:∃w,δ.mu[l]?=Z (Z w):=by
     rcases ip l ow e4 with⟨i,ko,hi,rfl,_⟩|⟨_,q⟩
     .exact⟨_,(b i ko hi).1⟩
     .exact⟨_,q⟩
    let⟨_,h3⟩:=h3;let⟨_,h4⟩:=h4;exact S.inj k l a _ _ e1 e2 h3 h4
   .rcases ip l ow e with⟨i,ko,hi,rfl,ho⟩|⟨z,q⟩
    .calc wd λmi=>?_;let⟨_,a,o,e1,e2,_,_⟩:=b i ko hi
     let⟨a',o',e3,e4,h5⟩:=P.own i ow ho;calc mi ?_;rw[e1] at e3;cases e3;exact⟨a,o',e2,e4,h5⟩
    .let⟨a,o,e1,e2,h⟩:=S.mu l ow q
     refine⟨a,o,e1,P.keep a o e2 (λy=>?_) (λt=>?_),h.same P.same⟩
     .let⟨i,e3⟩:=q0m.mp y
      let⟨_,ko,k1,k2,k3⟩:=lL i a e3;exact z ko (q0m.mpr ⟨i,k1⟩) (S.inj _ _ a _ _ k2 e1 k3 q)
     .let⟨ps,q2⟩:=ba.tb S.tab t
      rw[e2] at q2;cases q2
      exact h.kind ps U
   .let⟨v,e1,h⟩:=S.sl i y e
    exact⟨v,e1,h.ext ex⟩
  calc fin res ows v F' H' hk ex sr ?_;let i7:=P.res
  cases res with
  |p d=>exact i7
  |n ds=>exact i7
  |t d ds=>exact i7
  |a j =>
   calc wd λml=>?_;let⟨a,e1,e2⟩:=i7;let⟨_,ko,k1,k2,_⟩:=lL j a e1;calc ml <| ⟨ko,a,k1,k2,e2⟩
end
section
variable{X:Cx}{fa:WA}{G:GD}{pos:Δ}
def EL{F1 F2 H1 H2:Hp}{br:-Y}{δ1:bh}{σ:St}{xs:-DV}{vs:-V}{r:-DV×-(Nat×OV)}{ows:-OV}{a:Y}(S1:SR F1 br δ1 σ H1)(V1:dm F1 br xs vs)(hp:passes δ1.mu xs 0=Z r)(n1:H1 a=η):¬ Lv br (dy δ1.mu r.2 ows) a:=λ⟨k,ov,e1,e2⟩↦by
 let c:∃ov,δ1.mu[k]?=Z (Z ov):=by
  by_cases y:∃ko∈r.2,ko.1=k
  .let⟨ko,ki,rfl⟩:=y
   let⟨as,_,b,_⟩:=wF S1.mu hp V1;let⟨i,hi⟩:=q0m.mp ki;exact⟨_,(b i ko hi).1⟩
  .rw[yN _ _ _ _ λko ki q=>y ⟨ko,ki,q⟩] at e2
   exact⟨_,e2⟩
 let⟨Vz,c⟩:=c;let⟨a',o,e3,e4,_⟩:=S1.mu k Vz c;rw[e1] at e3;cases e3;rw[n1] at e4;cases e4
def dm.length{F:Hp}{ad:-Y}:∀{xs:-DV}{vs:-V},dm F ad xs vs->↑vs=↑xs
 |[],vs,h=>by rw[h];rfl
 |x::xs,vs,⟨v,r,e,_,h2⟩=>by rw[e,Uh,Uh,dm.length h2]
def wG{mu}:∀{xs j}{r:-DV×-(Nat×OV)},passes mu xs j=Z r->↑r.1=↑xs
 |[],j,r,h=>by cases h;rfl
 |.p d::xs,j,r,h=>by
  unfold passes at h;split at h
  .rename_i r' hr;cases h;rw[Uh,Uh,wG hr]
  .cases h
 |.w d::xs,j,r,h=>by
  unfold passes at h;split at h
  .rename_i r' hr;cases h;rw[Uh,Uh,wG hr]
  .cases h
 |.o k::xs,j,r,h=>by
  unfold passes at h;split at h
  .split at h
   .rename_i r' hr;cases h;rw[Uh,Uh,wG hr]
   .cases h
  .cases h
section
variable{k:Nat}{f:Y}{fd:FuncData}{ps:-L}{x:L}{p:Δ}{e:υ}{es:-υ}{n:Nat}
def VA{E:XK}{F F1 H H1:Hp}{ad br:-Y}{δ δ1:bh}{σ:St}{K:DV->bh->Prop}{Q:VK}{xs:-DV}{vs:-V}(kk:∀x δ',K x δ'->∀v F' a5 H',Ext F ad δ.mu H F' a5 δ'.mu H'->SR F' a5 δ' σ H'->eY F' a5 x v->Q v H')(h1:match passes δ1.mu xs 0 with
 |some r=>(lK r.2=θ/\↑r.1=n)/\G r.1 (r.2.map (·.2)) (q9 δ1 r.2 K)
 |none=>False)(E1:Ext F ad δ.mu H F1 br δ1.mu H1)(S1:SR F1 br δ1 σ H1)(V1:dm F1 br xs vs):pQ G n (vs++[]) H1 Q E:=by
 split at h1
 .rename_i r hp
  let⟨⟨nd,hn⟩,h1⟩:=h1;rw[qE];calc EK S1 V1 (by rw[↑V1,<-wG hp,hn]) hp nd h1 λres ows v F2 H2 hk E2 S2 d4=>?_;unfold q9 at hk
  cases res with
  |p d=>exact kk _ _ hk _ _ _ _ (E1.trans E2) S2 d4
  |n ds =>
   let⟨a,us,rfl,n1,n2,n3,n4⟩:=d4;exact kk _ _ hk _ _ _ _ (E1.trans (E2.adopt  n1 n3)) (S2.adopt n3 n2 (EL (F2:=F2) (H2:=H2) S1 V1 hp n1)) ⟨a,us,U,cb,n4.same (cU n3)⟩
  |t d ds =>
   let⟨a,b,u,us,rfl,m1,m2,n1,n2,n3,n4⟩:=d4;calc kk _ _ hk _ _ _ _ (E1.trans (E2.adopt  n1 n3)) (S2.adopt n3 n2 (EL (F2:=F2) (H2:=H2) S1 V1 hp n1)) ?_;let sm:bf F2 (upd F2 b (.lst us)):=cU n3;exact⟨a,_,U,sm _ _ m1,u,_,U,m2.same sm,.ref b,_,U,⟨b,us,U,cb,n4.same sm⟩,U⟩
  |a j =>
   let⟨ko,a,h1,h2,h3⟩:=d4;dsimp only at hk;rw[h1] at hk;exact kk _ _ hk _ _ _ _ (E1.trans E2) S2 ⟨a,h2,h3⟩
 .calc h1.elim
def VB{E:XK}:∀σ H Q,tD (aL n G fa) σ H Q->x4 (pQ G n) [] E (cK fa) σ H Q:=fun σ H Q ⟨F,ad,δ,K,S,q,kk⟩ ↦
 ⟨F,ad,δ,_,S,q,λxs δ1 h1 vs F1 br H1 E1 S1 V1=>VA kk h1 E1 S1 V1⟩
def VC{E:XK}:∀σ H Q,tD (yM n G fa) σ H Q->x4 (pQ G n) [] E (cK fa) σ H Q:=fun σ H Q ⟨F,ad,δ,K,S,q,kk⟩=>by
 calc⟨F,ad,δ,_,S,q,λxs δ1 h1 vs F1 br H1 E1 S1 V1=>?_⟩;split at h1
 .rename_i r hp
  let⟨⟨nd,hn⟩,h1⟩:=h1;rw[qE];refine EK S1 V1 (by rw[↑V1,<-wG hp,hn]) hp nd h1 λres ows v F2 H2 hk E2 S2 d4=>?_
  cases res with
  |p d=>exact hk.elim
  |n ds =>
   let⟨a,us,rfl,n1,n2,n3,n4⟩:=d4;let oi:∀{ax},gz F2 ax (.lst ds) (.lst us):=λ{ax}=>⟨us,U,n4⟩;calc kk _ _ hk _ _ _ _ (E1.trans (E2.dO  n1 S2.cQ)) (S2.dO n3 n2 (EL (F2:=F2) (H2:=H2) S1 V1 hp n1) oi) ⟨a,?_,U⟩;let:=S2.cQ;rw[<-this,q0i (Ln _),q1l];rfl
  |a j=>exact hk.elim
  |t d ds=>exact hk.elim
 .calc h1.elim
def VD(Fn:cB X.prog X.w X.K X.mg X.base f_ k f fd ps (pQ G n))(hr:bA k X.A)(hg:Gl X x)(hm:X.mg x=Z (.ref f))(hk:q1q X.K (.ref f)=θ)(hb:Binds X.K fd ps [])
  (ha:JA X (e::es) (cK fa)) (eF: ~~~(cm x)) (he:‹di X e es›) (eu:‹dM X pos es›) :
  JE X (.Call (.Name x p) (e::es) [] pos) (tD (aL n G fa)):=(x5 Fn hr hg hm hk hb .nil qF ha eF he eu).weak VB
def VE(Fn:cB X.prog X.w X.K X.mg X.base f_ k f fd ps (pQ G n))(hr:bA k X.A)(hg:Gl X x)(hm:X.mg x=Z (.ref f))(hk:q1q X.K (.ref f)=θ)(hb:Binds X.K fd ps [])
  (ha:JA X (e::es) (cK fa)) (eF: ~~~(cm x)) (he:‹di X e es›) (eu:‹dM X pos es›) :
  JE X (.Call (.Name x p) (e::es) [] pos) (tD (yM n G fa)):=(x5 Fn hr hg hm hk hb .nil qF ha eF he eu).weak VC
end
end
end L2
namespace PySem
open Sem (wp)
open AutoSeq1 (wpAny_loadPart')
def VF(l:Y)(items:Array O)(n:Nat)(dct:Option Y)(sl:Array (Option O)):
  Meets (Builtin.«enumerate.__new__» ⟨[.type "enumerate",.ref l],[]⟩) (λ_ R s=>s.heap.get? l=Z {cls:=.type "tuple",dict:=dct,data:=.seq items n,slots:=sl} ∧
   R (.ok (.ret (.ref (s.heap.push {cls:=.type "tuple_iterator",data:=.fields #[.ref l,.int 0 0]}).objs.size)))
    {s with heap:=(s.heap.push {cls:=.type "tuple_iterator",data:=.fields #[.ref l,.int 0 0]}).push {cls:=.type "enumerate",data:=.fields #[.none,.bool ι,.ref ⇑s,rawInt 0,.none,.none]}}) :=
 .of_wp λprog w A R s h=>by
  let⟨hp,g,d,tk,os⟩:=s;let⟨hl,h⟩:=h;let VG:=sub_enumerate;let hL:Heap.IsTuple (Shared.heap ⟨hp,g,d,tk,os⟩) l items:=⟨_,hl,U,n,U⟩
  wp_walk using q1w hl
  calc wpAny_stack_any λst=>Ui ?_;split
  .rename_i c _ _ _ _ _
   cases(c==q14 "enumerate")
   .wp_walk using q1w hl,q2R hL
    exact⟨_,U,h⟩
   .wp_walk using q1w hl,q2R hL
    exact⟨_,U,h⟩
  .wp_walk using q1w hl,q2R hL
   calc⟨_,U,h⟩
section
variable{prog:ψ}{w:ω}{A:Β}{E:bz}{s:ο}
def VH{l:Y}{items:Array O}{Q:bz}(hL:s.heap.IsTuple l items)
  (h:∀h',IsEnum h' (⇑s+1) ⇑s 0 .none->h'.IsTupleIter ⇑s l 0->h'.objs.size=⇑s+2 →
   (∀b o,s.heap.get? b=Z o->h'.get? b=Z o)->Q (.ref (⇑s+1)) {s with heap:=h'}) :
  ρ (ς prog w) A (call (.type "enumerate") [.ref l]) Q E s:=by
 let⟨⟨c,dct,dt,sl⟩,hl,hc,n,hd⟩:=hL;subst hc hd
 refine callType_new F.called_enumerate (by decide) (F.typeCall_enumerate_1 _) (F.newCall_enumerate_1 _) (λobj=>F.args_object_init_2 obj _) F.entry_enumerate_new
  (VF l items n dct sl) ⟨hl,?_⟩
 let hz:(s.heap.push {cls:=.type "tuple_iterator",data:=.fields #[.ref l,.int 0 0]}).objs.size=⇑s+1:=q1E ..;rw[hz]
 let he:=by
  let:=q0f (s.heap.push {cls:=.type "tuple_iterator",data:=.fields #[.ref l,.int 0 0]})
   (o:={cls:=.type "enumerate",data:=.fields #[.none,.bool ι,.ref ⇑s,rawInt 0,.none,.none]}) U
  rw[hz] at this;exact this
 calc⟨⟨_,he,U⟩,h _ he ⟨_,Lm _ (q0f _ U),U,U⟩ (by rw[q1E,hz]) λb o x=>Lm _ (Lm _ x)⟩
def VI{it l:Y}{i:Nat}{items:Array O}{x:O}{Q:bz}(hit:s.heap.IsTupleIter it l i)(hl:s.heap.IsTuple l items)(hx:items[i]?=Z x)
  (hQ:∀h',h'.IsTupleIter it l (i+1)->q26 it s.heap h'->Q x {s with heap:=h'}):ρ (ς prog w) A (q4F (.ref it)) Q E s:=by
 let⟨o,ho,hc,hd⟩:=id hit;let⟨ol,EM,_,nl,rh⟩:=hl;calc Aw (q1V  hit.typeIs q2v (q1y q2v hit.typeIs q4g ?_ (q36 _)));show ρ _ _ (field (.ref it) 0 >>= _) _ _ s;calc Aw (q3n ho hd  U (Aw (q3n ho hd  U (Aw (q3t EM rh ?_)))));erw[q0t,hx];calc Aw (q3w ho hd (by simp) (Ui ⟨x,U,Ui (hQ _ ⟨_,q1d _ ho (q3H (q2t hd _)),(q4I ..).trans hc,?_⟩ (q0O ..))⟩));rw[q2t hd];simp[rawInt]
def VJ{it l:Y}{i:Nat}{items:Array O}{Q:bz}(hh:A.handled=η)(hit:s.heap.IsTupleIter it l i)(hl:s.heap.IsTuple l items)(hx:items[i]?=η)
  (hE:∀h' e,Heap.ExtBut it s.heap h'->(∃o,h'.get? e=Z o/\o.cls=.type "StopIteration")->E (.ref e) {s with heap:=h'}):ρ (ς prog w) A (q4F (.ref it)) Q E s:=by
 let⟨o,ho,hc,hd⟩:=id hit;let⟨ol,EM,_,nl,rh⟩:=hl;calc Aw (q1V  hit.typeIs q2v (q1y q2v hit.typeIs q4g ?_ (q36 _)));show ρ _ _ (field (.ref it) 0 >>= _) _ _ s;calc Aw (q3n ho hd  U (Aw (q3n ho hd  U (Aw (q3t EM rh ?_)))));erw[q0t,hx];refine Aw (q4s (Aw (q3w ho hd (by simp) (Aw (Aw (m:=firstArgMember _ _) (q5L  (by first|rfl|(erw[firstArgMember])) (q16 (Aw (q8j ?_)) (by size_fits))))))))
 first|rw[hh]|rw[hh]
 calc Aw (Ui (wpAny_throw (hE _ _ (((q0O ..).extBut.push _).push _) ⟨_,q0f _ U,U⟩)))
def Mm(hh:A.handled=η)(it l:Y)(iF:l≠it)(items:Array O):Draws prog w A it [it,l] items.size (λi v=>items[i]?=Z v) (λi h=>h.IsTupleIter it l i/\h.IsTuple l items) where
 live:=λ_ _ st=>let⟨o,ho,_⟩:=st.1;⟨o,ho⟩
 frame:=λ_ _ _ st hk=>⟨st.1.at λo e=>hk it (by simp) o e,st.2.at λo e=>hk l (by simp) o e⟩
 item:=λi s Q E hi st hQ=>VI st.1 st.2 (x:=items[i]) (by simp[hi]) λh' EN AH=>hQ _ h' s.toks (by simp[hi]) ⟨EN,st.2.extBut AH.extBut iF⟩ AH
 done:=λs Q E st hE=>VJ hh st.1 st.2 (by simp) hE
end
end PySem
namespace L2
open PySem PySem.Spec PyProof.Rows
section
meta def yP(K:q0b)(a:Y):It :=
 ⟨λi H=>∃xs x,cA K H a xs/\xs[i]?=Z x,λi H x H'=>∃T v,x=.ref T/\H T=η/\H'=upd H T (.tup [.int (i:Nat),v])/\∀xs,cA K H a xs->xs[i]?=Z v,λi H=>∃xs,cA K H a xs/\↑xs=i⟩
def VL{P:ψ}{w:ω}{K:q0b}{elts:-υ}{x1}{tp:Δ}(a e it:Y)(iF:e≠it)(VM:a≠e)(Mn:a≠it):
  Turn P w K (.Tuple elts x1 tp) (yP K a) [e,it] e (λi h=>(∃old,IsEnum h e it (i:Nat) old)/\h.IsTupleIter it a i) where
 mem:=by simp
 obj:=λi h st b hb=>by
  let⟨⟨old,he⟩,o,hi,hc,hd⟩:=st;rcases q0c.mp hb with rfl|hb
  .exact⟨_,he,λv z=>by cases z⟩
  .let z:=by simpa using hb
   subst z;exact⟨o,hi,λv z=>by rw[hd] at z;cases z⟩
 keep:=λi h h' st k=>by
  let⟨⟨old,he⟩,hi⟩:=st;exact⟨⟨old,k e (by simp) _ he⟩,hi.at λo q=>k it (by simp) o q⟩
 item:=by
  ext X hP hw hK hc i pins s σ H E I hf st hg;subst hP hw hK;let⟨⟨old,he⟩,hi⟩:=st;let⟨xs,x,hq,hx⟩:=hg;let⟨aM,rv,p,hz⟩:=I.tuple hq;let⟨u,hu,ru⟩:=rv.get hx;let D:=Mm (prog:=X.prog) (w:=X.w) (A:=X.A.in1) (I.ok.hd hc) it a Mn aM.toArray;refine wpAny_pyNext_enum_itemD D he ⟨hi,p⟩ ((Ll.mp hu).1) iF (by simp[iF,q1_ VM]) λy h1 tk py pC Eh yp hsz hk=>⟨_,U,?_⟩
  let ey:y=u:=by
   rw[q2y,hu] at py;cases py;rfl
  subst ey;refine q4y pC λh2 Ei kD=>?_
  let k2:∀b o,b∉[e,it]->s.heap.get? b=Z o->h2.get? b=Z o:=λb o hb q=>by
   let u4:b≠e:=λz=>hb (by simp[z]);exact(kD.2 _ u4).trans (hk b o u4 (λz=>hb (by simp[z])) q)
  refine⟨.ref ⇑s,upd H ⇑s (.tup [.int i,x]),I.jS   hf k2 (Ln _) ?_,U,⟨_,x,U,(I.bu.fresh (Ln _)),U,λys hy=>by rw[I.iG hy hq];calc hx⟩,⟨⟨y,?_⟩,?_⟩,λb hb=>?_⟩
  .exact⟨by show 2<=sizeLine;decide,[.int i tk,y],.cons ⟨_,U⟩ (.cons ru .nil),_,((kD.2 _ (q15 (q0h he))).trans yp),U,_,U⟩
  .exact Ei
  .exact Eh.1.at λo q=>(kD.2 _ (q1_ iF)).trans q
  .let:b<⇑s:=by
    let⟨o,q,_⟩:=hi;rcases q0c.mp hb with rfl|hb
    .exact q0h he
    .let z:=by simpa using hb
     subst z;exact q0h q
   rw[bD (q0o this)];exact(hf b hb).1
 done:=by
  ext X hP hw hK hc i pins s σ H E I hf st hg;subst hP hw hK;let⟨⟨old,he⟩,hi⟩:=st;let⟨xs,hq,hx⟩:=hg;let⟨aM,rv,p,hz⟩:=I.tuple hq;let D:=Mm (prog:=X.prog) (w:=X.w) (A:=X.A.in1) (I.ok.hd hc) it a Mn aM.toArray;let tV:aM.toArray.size=i:=by rw[Uk,<-↑rv];exact hx
  calc wpAny_pyNext_enum_endD D he (by rw[tV];calc⟨hi,p⟩) λh1 eb=>⟨U,?_⟩;let⟨f0,f1,f2,f3,f4,f5⟩:=hf it (by simp);exact I.turned  (λb o hb q=>eb b o hb q) f0 f1 f3 f4 f5
 self:=λA i s Q E st h=>by
  let⟨⟨old,he⟩,hi⟩:=st;calc q2h he h
section
variable{X:Cx}{elts:-υ}{x1:Nat}{tp:Δ}{tg:υ}
/---/def VN(K:q0b)(ta:TA):TI:=fun σ H R=>ta σ H λvs H1=>∃a,vs=[.ref a]/\(((∃xs,bR K H1 a xs)/\R (wj K a) H1)\/((∃xs,cA K H1 a xs)/\R (yP K a) H1))
def VO{a:υ}{ta:TA}{p pos:Δ}(hg:Gl X "enumerate")(hm:X.mg "enumerate" = η)(ha:JA X [a] ta)(hs:‹starEach [a] X.env=[(ι,eval a X.env)]›):
  JI X (.Tuple elts x1 tp) (.Call (.Name "enumerate" p) [a] [] pos) (VN X.K ta):=by
 calc⟨λpins s σ H R I h=>Call_ (qg I hg hm LF (q1W (bJ (ha pos pins s σ H _ I h) λus s1 ⟨vs,H1,I1,r1,q1⟩=>?_) hs U))⟩;let⟨l,e,q⟩:=q1;subst e;let⟨u,rfl,rx⟩:=vals1 r1;cases rx
 let fp:∀b∈[⇑s1+1,⇑s1],bW X pins H1 b:=λb hb=>by
  let hb':⇑s1<=b:=by
   rcases q0c.mp hb with rfl|hb
   .exact q3V _
   .let z:=by simpa using hb
    symm
  exact I1.iy hb' (I1.bu.fresh hb')
 rcases q with⟨⟨xs,hq⟩,q⟩|⟨⟨xs,hq⟩,q⟩
 .calc wd λrj=>?_;let⟨aM,rv,p,hz⟩:=I1.list hq
  calc rj <| q5Y p.isList λh' he hi hsz hk=>?_;let I2:Inv X pins σ H1 {s1 with heap:=h'}:=I1.kept  hk;exact q2h he (⟨_,_,_,_,H1,U,I2,LB l (⇑s1+1) ⇑s1 (q44 _),⟨⟨_,he⟩,hi⟩,fp,q⟩)
 .let⟨aM,rv,p,hz⟩:=I1.tuple hq
  let Mo:l<⇑s1:=by let⟨o,e,_⟩:=p;exact q0h e
  calc VH p λh' he hi hsz hk=>?_;let I2:Inv X pins σ H1 {s1 with heap:=h'}:=I1.kept  hk;calc q2h he (⟨_,_,_,_,H1,U,I2,VL l (⇑s1+1) ⇑s1 (q44 _) (q0o (q0Z Mo)) (q0o Mo),⟨⟨_,he⟩,hi⟩,fp,q⟩)
/---/def EO(K:q0b)(tl:TE):TI:=fun σ H R=>tl σ H λx H1=>∃a,x=.ref a/\(((∃xs,bR K H1 a xs)/\R (Kv K a) H1)\/((∃xs,cA K H1 a xs)/\R (Kw K a) H1))
def VP{l:υ}{tl:TE}(hl:JE X l tl):JI X tg l (EO X.K tl):=by
 calc⟨λpins s σ H R I h=>bJ (hl pins s σ H _ I h) ?_⟩;ext v s1 ⟨x,H1,I1,r1,q1⟩;let⟨a,e,q⟩:=q1;subst e;cases r1
 let fp:∀b∈[⇑s1],bW X pins H1 b:=λb hb=>by
  let e:=by simpa using hb
  subst e;exact I1.iy (Ln _) (I1.bu.fresh (Ln _))
 rcases q with⟨⟨xs,hq⟩,q⟩|⟨⟨xs,hq⟩,q⟩
 .let⟨aM,rv,p,hz⟩:=I1.list hq
  exact q2f p.isList ⟨⇑s1,[⇑s1],_,_,H1,U,I1.kept  λb o e=>Lm _ e,Sy a _,⟨_,q0f _ U,U,U⟩,fp,q⟩
 .let⟨aM,rv,p,hz⟩:=I1.tuple hq
  calc q2R (p) ⟨⇑s1,[⇑s1],_,_,H1,U,I1.kept  λb o e=>Lm _ e,Sz a _,⟨_,q0f _ U,U,U⟩,fp,q⟩
end
variable[zt:ba]
meta def dE(lo:Int)(n:Nat):-D:=(q0F n).map λi:Nat=>D.int (lo+i)
meta def j2:Nat->-D->-D
 |_,[]=>[]
 |i,d::r=>.tup [.int i,d]::j2 (i+1) r
meta def ER:-D->-D->-D
 |a::r,b::s=>.tup [a,b]::ER r s
 |_,_=>[]
/---/def yQ(x:DV)(δ:bh)(K:yH->Prop):Prop:=match x with
 |.p (.lst ds)=>K ⟨ds,λ_=>True⟩
 |.p (.tup ds)=>K ⟨ds,λ_=>True⟩
 |.o k=>match δ.mu[k]? with
  |some (some (.lst ds))=>K ⟨ds,fun δ'=>δ'.mu[k]?=Z (Z (.lst ds))⟩
  |some (some (.al a ds))=>K ⟨ds,fun δ'=>δ'.mu[k]?=Z (Z (.al a ds))⟩
  |_=>False
 |_=>False
/---/def bZ(f:WE):WI:=fun δ K=>f δ λx δ1=>yQ x δ1 λit=>K it δ1
/---/def m9(fa:WA):WI:=fun δ K=>fa δ λxs δ1=>match xs with
 |[.p (.int j)]=>(-(2 ^ 62)<=j/\j<2 ^ 62)/\K ⟨dE 0 j.toNat,λ_=>True⟩ δ1
 |_=>False
/---/def ES(fa:WA):WI:=fun δ K=>fa δ λxs δ1=>match xs with
 |[.p (.int i),.p (.int j)]=>(-(2 ^ 62)<=i/\i<2 ^ 62 /\ -(2 ^ 62)<=j/\j<2 ^ 62)/\K ⟨dE i (j-i).toNat,λ_=>True⟩ δ1
 |_=>False
/---/def i8(fa:WA):WI:=fun δ K=>fa δ λxs δ1=>match xs with
 |[x]=>yQ x δ1 λit=>K ⟨j2 0 it.items,it.b8⟩ δ1
 |_=>False
/---/def ET(x:DV)(δ:bh)(K:yH->Prop):Prop:=match x with
 |.p (.lst ds)=>K ⟨ds,λ_=>True⟩
 |.o k=>match δ.mu[k]? with
  |some (some (.lst ds))=>K ⟨ds,fun δ'=>δ'.mu[k]?=Z (Z (.lst ds))⟩
  |some (some (.al a ds))=>K ⟨ds,fun δ'=>δ'.mu[k]?=Z (Z (.al a ds))⟩
  |_=>False
 |_=>False
def oy{lo n i d}(h:(dE lo n)[i]?=Z d):i<n/\d=.int (lo+i):=by
 unfold dE at h;rw[Uj] at h;let⟨j,e,rfl⟩:=q0e.mp h;let hj:=(Ll.mp e).1;rw[q03] at hj;rw[q1A hj] at e;cases e
 calc⟨hj,U⟩
def m_ lo n:↑(dE lo n)=n:=by unfold dE;rw[ye,q03]
def rm:∀ds i,↑(j2 i ds)=↑ds
 |[],_=>U
 |d::r,i=>by rw[j2,Uh,Uh,rm r]
def pR:∀{ds}{k i:Nat}{d},(j2 k ds)[i]?=Z d->∃e,ds[i]?=Z e/\d=.tup [.int ((k+i:Nat):Int),e]
 |[],k,i,d,h=>by simp[j2] at h
 |e::r,k,0,d,h=>by
  cases(by simpa[j2] using h)
  exact⟨e,U,U⟩
 |e::r,k,i+1,d,h=>by
  let⟨e',h1,h2⟩:=pR     (by simpa[j2] using h);calc⟨e',by simpa using h1,by rw[h2];congr 4;symm⟩
section
variable{X:Cx}{tg l a b:υ}{f:WE}{fa:WA}{F H:Hp}{ad:-Y}{δ:bh}{σ:St}
def JI.weak{iter w w'}(h:JI X tg iter w)(k:∀σ H R,w' σ H R->w σ H R):JI X tg iter w':=⟨λpins s σ H R I q=>h pins s σ H R I (k σ H R q)⟩
def wH{ds vs}(h:aA F ds vs){i:Nat}{d}(e:ds[i]?=Z d):∃v,vs[i]?=Z v/\Is F d v:=by
 let hi:i<↑vs:=by rw[↑h];exact(Ll.mp e).1
 let⟨d',e1,h1⟩:=h.get (D9 hi);rw[e] at e1;cases e1;calc⟨_,D9 hi,h1⟩
def Mp{x v K}(S:SR F ad δ σ H)(V1:eY F ad x v)(h:ET x δ K):∃a it,v=.ref a/\K it/\(∃vs,H a=Z (.lst vs)) ∧
  ∀F' a5 δ' σ' H',bf F F'->(∀(k:Nat) a,ad[k]?=Z a->a5[k]?=Z a)->SR F' a5 δ' σ' H'->it.b8 δ'->∃vs,H' a=Z (.lst vs)/\aA F' it.items vs:=by
 unfold ET at h;split at h
 .let⟨a,vs,rfl,h1,h2⟩:=V1
  exact⟨a,_,U,h,⟨vs,S.sub _ _ h1⟩,λF' a5 δ' σ' H' s _ S' _=>⟨vs,S'.sub _ _ (s _ _ h1),h2.same s⟩⟩
 .rename_i k
  split at h
  .rename_i ds e
   calc wd λrp=>?_;let⟨a,e1,rfl⟩:=V1;let⟨a',o,e2,e3,vs,rfl,h4⟩:=S.mu k _ e;calc rp ?_;rw[e1] at e2;cases e2;calc⟨a,_,U,h,⟨vs,e3⟩,λF' a5 δ' σ' H' _ pre S' ck=>?_⟩;let⟨VQ,o,e5,e6,ws,rfl,h7⟩:=S'.mu k _ ck;rw[pre k a e1] at e5;cases e5;exact⟨ws,e6,h7⟩
  .rename_i b ds e
   calc wd λoz=>?_;let⟨a,e1,rfl⟩:=V1;let⟨a',o,e2,e3,z,vs,rfl,h4⟩:=S.mu k _ e;calc oz ?_;rw[e1] at e2;cases e2;calc⟨a,_,U,h,⟨vs,e3⟩,λF' a5 δ' σ' H' _ pre S' ck=>?_⟩;let⟨VQ,o,e5,e6,_,ws,rfl,h7⟩:=S'.mu k _ ck;rw[pre k a e1] at e5;cases e5;exact⟨ws,e6,h7⟩
  .exact h.elim
 .calc h.elim
def Mq{x v K}(S:SR F ad δ σ H)(V1:eY F ad x v)(h:yQ x δ K):∃a it,v=.ref a/\K it ∧
  (((∃vs,H a=Z (.lst vs))/\∀F' a5 δ' σ' H',bf F F'->(∀(k:Nat) a,ad[k]?=Z a->a5[k]?=Z a)->SR F' a5 δ' σ' H'->it.b8 δ'->∃vs,H' a=Z (.lst vs)/\aA F' it.items vs) ∨
  ((∃vs,H a=Z (.tup vs))/\∀F' a5 δ' σ' H',bf F F'->(∀(k:Nat) a,ad[k]?=Z a->a5[k]?=Z a)->SR F' a5 δ' σ' H'->it.b8 δ'->∃vs,H' a=Z (.tup vs)/\aA F' it.items vs)):=by
 unfold yQ at h;split at h
 .let⟨a,it,e,k,r⟩:=Mp  S V1 h
  exact⟨a,it,e,k,.inl r⟩
 .let⟨a,vs,rfl,h1,h2⟩:=V1
  exact⟨a,_,U,h,.inr ⟨⟨vs,S.sub _ _ h1⟩,λF' a5 δ' σ' H' s _ S' _=>⟨vs,S'.sub _ _ (s _ _ h1),h2.same s⟩⟩⟩
 .let⟨a,it,e,k,r⟩:=Mp  S V1 h
  exact⟨a,it,e,k,.inl r⟩
 .calc h.elim
def wI(hl:JE X l (tD f)):JI X tg l (lI (bZ f)):=(VP hl).weak fun σ H R ⟨F,ad,δ,K,S,q,k⟩=>⟨F,ad,δ,_,S,q,λx δ1 h1 v F1 br H1 E1 S1 V1=>by
 let⟨a,it,rfl,hk,r⟩:=Mq S1 V1 h1;calc⟨a,U,?_⟩;rcases r with⟨⟨vs,e⟩,r⟩|⟨⟨vs,e⟩,r⟩
 .refine .inl ⟨⟨vs,bR.of e⟩,k _ _ hk _ _ _ _ E1 S1 λF' a5 δ' σ' H' s pre S' ck=>?_⟩
  let⟨ws,e1,e2⟩:=r F' a5 δ' σ' H' s pre S' ck;calc⟨⟨ws,bR.of e1,by rw[↑e2];calc Ln _⟩,λi d ed=>?_⟩;let⟨w,e3,e4⟩:=wH e2 ed;calc⟨⟨ws,w,bR.of e1,e3⟩,?_⟩;ext y kO ⟨eh,hy⟩;subst eh;calc⟨λ_ _ e=>e,?_⟩;let:=hy ws (bR.of e1);rw[e3] at this;cases this;rw[Nw.refl S'.sub];exact e4
 .refine .inr ⟨⟨vs,cA.of e⟩,k _ _ hk _ _ _ _ E1 S1 λF' a5 δ' σ' H' s pre S' ck=>?_⟩
  let⟨ws,e1,e2⟩:=r F' a5 δ' σ' H' s pre S' ck;calc⟨⟨ws,cA.of e1,by rw[↑e2];calc Ln _⟩,λi d ed=>?_⟩;let⟨w,e3,e4⟩:=wH e2 ed;calc⟨⟨ws,w,cA.of e1,e3⟩,?_⟩;ext y kO ⟨eh,hy⟩;subst eh;calc⟨λ_ _ e=>e,?_⟩;let:=hy ws (cA.of e1);rw[e3] at this;cases this
  rw[Nw.refl S'.sub];calc e4⟩
def Mr{F H T d e x y}(s:bf F H)(hT:H T=η)(h1:Is F d x)(h2:Is F e y):Is (Nw F H (upd H T (.tup [x,y]))) (.tup [d,e]) (.ref T):=by
 rw[Nw.upd s hT]
 let hF:F T=η:=by
  cases q:F T with
  |none=>rfl
  |some u=>rw[s T u q] at hT;cases hT
 let sm:bf F (upd F T (.tup [x,y])):=cU hF;calc⟨T,_,U,cb,.cons (h1.same sm) (.cons (h2.same sm) .nil)⟩
def AZ{elts:-υ}{x1:Nat}{tp p pos:Δ}(hg:Gl X "enumerate")(hm:X.mg "enumerate" = η)(ha:JA X [a] (cK fa))(hs:‹starEach [a] X.env=[(ι,eval a X.env)]›):
  JI X (.Tuple elts x1 tp) (.Call (.Name "enumerate" p) [a] [] pos) (lI (i8 fa)):=(VO hg hm ha hs).weak fun σ H R ⟨F,ad,δ,K,S,q,k⟩=>⟨F,ad,δ,_,S,q,λxs δ1 h1 vs F1 br H1 E1 S1 V1=>by
 match xs,h1,V1 with
 |[x],g1,⟨v,r,e,W1,W2⟩ =>
  subst e W2;let⟨a,it,rfl,hk,r⟩:=Mq S1 W1 g1;calc⟨a,U,?_⟩;rcases r with⟨⟨vs,e⟩,r⟩|⟨⟨vs,e⟩,r⟩
  .refine .inl ⟨⟨vs,bR.of e⟩,k _ _ hk _ _ _ _ E1 S1 λF' a5 δ' σ' H' s pre S' ck=>?_⟩
   let⟨ws,e1,e2⟩:=r F' a5 δ' σ' H' s pre S' ck;calc⟨⟨ws,bR.of e1,by rw[↑e2,rm];calc Ln _⟩,λi d ed=>?_⟩;let⟨d',EU,rfl⟩:=pR ed;let⟨w,e3,e4⟩:=wH e2 EU;calc⟨⟨ws,w,bR.of e1,e3⟩,?_⟩;ext y kO ⟨T,v,ey,hT,eh,hy⟩;subst eh ey;let:=hy ws (bR.of e1);rw[e3] at this;cases this;calc⟨cU hT,?_⟩;rw[q0D];exact Mr S'.sub hT U e4
  .refine .inr ⟨⟨vs,cA.of e⟩,k _ _ hk _ _ _ _ E1 S1 λF' a5 δ' σ' H' s pre S' ck=>?_⟩
   let⟨ws,e1,e2⟩:=r F' a5 δ' σ' H' s pre S' ck;calc⟨⟨ws,cA.of e1,by rw[↑e2,rm]⟩,λi d ed=>?_⟩;let⟨d',EU,rfl⟩:=pR ed;let⟨w,e3,e4⟩:=wH e2 EU;calc⟨⟨ws,w,cA.of e1,e3⟩,?_⟩;ext y kO ⟨T,v,ey,hT,eh,hy⟩;subst eh ey;let:=hy ws (cA.of e1);rw[e3] at this;cases this;calc⟨cU hT,?_⟩;rw[q0D];exact Mr S'.sub hT U e4
 |[],h1,_=>exact h1.elim
 |_::_::_,h1,_=>calc h1.elim⟩
def Ms{F1:Hp}{br:-Y}{lo:Int}{n:Nat}:vh F1 br ⟨dE lo n,λ_=>True⟩ (xQ lo n):=λF' a5 δ' σ' H' s pre S' _=>by
 calc⟨by rw[m_];calc Ln _,λi d ed=>?_⟩;let⟨hi,rfl⟩:=oy ed;calc⟨hi,?_⟩;ext x kO ⟨eh,ex⟩;subst eh ex;calc⟨λ_ _ e=>e,U⟩
def yR{p pos:Δ}(hg:Gl X "range")(hm:X.mg "range" = η)(ha:JA X [a] (cK fa))(hs:‹starEach [a] X.env=[(ι,eval a X.env)]›):JI X tg (.Call (.Name "range" p) [a] [] pos) (lI (m9 fa)) :=
 (SF hg hm ha hs).weak fun σ H R ⟨F,ad,δ,K,S,q,k⟩↦⟨F,ad,δ,_,S,q,λxs δ1 h1 vs F1 br H1 E1 S1 V1=>by
  split at h1
  .rename_i j
   let⟨v,r,e,V1,V2⟩:=V1;subst V2 V1 e;exact⟨j,U,h1.1.1,h1.1.2,k _ _ h1.2 _ _ _ _ E1 S1 Ms⟩
  .calc h1.elim⟩
def VR{p pos:Δ}(hg:Gl X "range")(hm:X.mg "range" = η)(ha:JA X [a,b] (cK fa))(hs:‹starEach [a,b] X.env=[(ι,eval a X.env),(ι,eval b X.env)]›)(kD:‹starEach [b] X.env=[(ι,eval b X.env)]›):
  JI X tg (.Call (.Name "range" p) [a,b] [] pos) (lI (ES fa)) :=
 (SG hg hm ha hs kD).weak fun σ H R ⟨F,ad,δ,K,S,q,k⟩↦⟨F,ad,δ,_,S,q,λxs δ1 h1 vs F1 br H1 E1 S1 V1=>by
  split at h1
  .rename_i i j
   let⟨v,r,e,V1,w,r2,e2,V2,V3⟩:=V1;subst V3 V1 V2 e2 e;exact⟨i,j,U,h1.1,k _ _ h1.2 _ _ _ _ E1 S1 Ms⟩
  .calc h1.elim⟩
end
end
section
mutual
noncomputable def dEq:D->D->Bool
 |.non,.non=>θ
 |.bl a,.bl b=>a==b
 |.bl a,.int b=>(if a then 1 else 0)==b
 |.int a,.bl b=>a==(if b then 1 else 0)
 |.int a,.int b=>a==b
 |.str a,.str b=>a==b
 |.tup a,.tup b=>cI a b
 |.lst a,.lst b=>cI a b
 |_,_=>ι
noncomputable def cI:-D->-D->Bool
 |[],[]=>θ
 |a::r,b::s=>dEq a b&&cI r s
 |_,_=>ι
end
mutual
theorem kY:∀d:D,dEq d d=θ
 |.non=>by simp[dEq]
 |.bl a=>by simp[dEq]
 |.int a=>by simp[dEq]
 |.str a=>by simp[dEq]
 |.tup a=>by erw[dEq];exact EV a
 |.lst a=>by erw[dEq];calc EV a
theorem EV:∀ds:-D,cI ds ds=θ
 |[]=>by simp[cI]
 |d::r=>by erw[cI,kY d,EV r,q8p]
end
mutual
theorem Is.inj {H:Hp}:∀{d e:D}{v:V},Is H d v->Is H e v->d=e
 |.non,e,v,h,q=>by cases e<;>erw[Is] at h q<;>first|rfl|(subst h;first|(let⟨_,_,z,_⟩:=q;cases z;done)|(cases q;done)|(cases q;rfl))
 |.bl a,e,v,h,q=>by cases e<;>erw[Is] at h q<;>(subst h;first|(let⟨_,_,z,_⟩:=q;cases z;done)|(cases q;done)|(cases q;rfl))
 |.int a,e,v,h,q=>by cases e<;>erw[Is] at h q<;>(subst h;first|(let⟨_,_,z,_⟩:=q;cases z;done)|(cases q;done)|(cases q;rfl))
 |.str a,e,v,h,q=>by cases e<;>erw[Is] at h q<;>(subst h;first|(let⟨_,_,z,_⟩:=q;cases z;done)|(cases q;done)|(cases q;rfl))
 |.tup a,e,v,h,q=>by
  erw[Is] at h;let⟨p,vs,rfl,h1,h2⟩:=h
  cases e with
  |tup b =>
   erw[Is] at q;let⟨p',ws,z,q1,q2⟩:=q;cases z
   rw[h1] at q1;cases q1;rw[aA.inj h2 q2]
  |lst b =>
   erw[Is] at q;let⟨p',ws,z,q1,q2⟩:=q;cases z
   rw[h1] at q1;cases q1
  |non=>erw[Is] at q;cases q
  |bl _=>erw[Is] at q;cases q
  |int _=>erw[Is] at q;cases q
  |str _=>erw[Is] at q;cases q
 |.lst a,e,v,h,q=>by
  erw[Is] at h;let⟨p,vs,rfl,h1,h2⟩:=h
  cases e with
  |lst b =>
   erw[Is] at q;let⟨p',ws,z,q1,q2⟩:=q;cases z
   rw[h1] at q1;cases q1;rw[aA.inj h2 q2]
  |tup b =>
   erw[Is] at q;let⟨p',ws,z,q1,q2⟩:=q;cases z
   rw[h1] at q1;cases q1
  |non=>erw[Is] at q;cases q
  |bl _=>erw[Is] at q;cases q
  |int _=>erw[Is] at q;cases q
  |str _=>erw[Is] at q;cases q
theorem aA.inj {H:Hp}:∀{ds es:-D}{vs:-V},aA H ds vs->aA H es vs->ds=es
 |[],es,vs,h,q=>by
  erw[aA] at h;subst h
  cases es with
  |nil=>rfl
  |cons _ _=>erw[aA] at q;let⟨_,_,z,_⟩:=q;cases z
 |d::ds,es,vs,h,q=>by
  erw[aA] at h;let⟨v,r,rfl,h1,h2⟩:=h
  cases es with
  |nil=>erw[aA] at q;cases q
  |cons e es =>
   erw[aA] at q;let⟨v',r',z,q1,q2⟩:=q;cases z
   rw[Is.inj h1 q1,aA.inj h2 q2]
end
def yS:∀{ds es},↑ds≠↑es->cI ds es=ι
 |[],[],h=>absurd U h
 |[],_::_,_=>by simp[cI]
 |_::_,[],_=>by simp[cI]
 |d::r,e::s,h=>by erw[cI];rw[yS (λz=>h (by rw[Uh,Uh,z])),q7Z]
meta def vn(ds es:-D)(j:Nat):Bool:=match ds[j]?,es[j]? with
 |some a,some b=>dEq a b
 |_,_=>θ
def yT:∀{ds es},↑ds=↑es->(q0F ↑ds).all (vn ds es)=cI ds es
 |[],[],_=>by simp[cI]
 |[],_::_,h=>by simp at h
 |_::_,[],h=>by simp at h
 |d::r,e::s,h=>by
  rw[Uh,List.range_succ_eq_map,List.all_cons,List.all_map];erw[cI];rw[<-(yT   h⁻¹)];rfl
section
variable{X:Cx}{pins:a9}{σ:St}{H:Hp}{s:ο}
def yU{vs aM}(r:Vals vs aM){j:Nat} h:∃v,vs[j]?=Z v/\RelV v aM.toArray[j]:=by
 let hj:=by simpa using h
 let hv:j<↑vs:=by rw[↑r];exact hj
 let⟨u,e,ru⟩:=r.get (D9 hv)
 let:aM.toArray[j]=u:=by
  let:=(Ll.mp e).2;simpa using this
 rw[this];calc⟨_,D9 hv,ru⟩
def e7(I:Inv X pins σ H s){a vs}(h:H a=Z (.lst vs)):∃aM:-O,Vals vs aM/\s.heap.IsList a aM.toArray:=by
 let⟨aM,r,p,_⟩:=I.list (bR.of h);calc⟨aM,r,p.isList⟩
def e8(I:Inv X pins σ H s){a vs}(h:H a=Z (.tup vs)):∃aM:-O,Vals vs aM/\s.heap.IsTuple a aM.toArray:=by
 let⟨aM,r,p,_⟩:=I.tuple (cA.of h);calc⟨aM,r,p⟩
def in1_units(A:Β):A.in1.units=A.units+1:=rfl
def EW(I:Inv X pins σ H s):∀(n:Nat){A:Β}{d e:D}{v u:V}{x y:O},dep d<=n->A.units+n<cLine->Is H d v->Is H e u->RelV v x->RelV u y->q5a A s x y (dEq d e)/\q74 A s x y (dEq d e):=by
 ext n
 induction n with
 |zero =>
  ext A d e v u x y hd hu hv hw rv ru;let nz:A.units<cLine:=by symm
  cases d with
  |tup ds=>simp[dep] at hd
  |lst ds=>simp[dep] at hd
  |non =>
   cases(show v=.non from hv);cases rv
   cases e with
   |non=>cases(show u=.non from hw);cases ru;erw[dEq];exact⟨q5r _,SeqAt.RcAt.none_none⟩
   |bl b=>cases(show u=.bl b from hw);cases ru;erw[dEq];exact⟨SeqAt.EqAt.none_bool _,SeqAt.RcAt.none_bool _⟩
   |int b=>cases(show u=.int b from hw);let⟨t,rfl⟩:=ru;erw[dEq];exact⟨SeqAt.EqAt.none_int _ _,SeqAt.RcAt.none_int _ _⟩
   |str b=>cases(show u=.str b from hw);let⟨t,rfl⟩:=ru;erw[dEq];exact⟨SeqAt.EqAt.none_str _ _,SeqAt.RcAt.none_str _ _⟩
   |tup es=>erw[Is] at hw;let⟨a,vs,rfl,h1,_⟩:=hw;cases ru;let⟨_,_,p⟩:=e8 I h1;erw[dEq];exact⟨SeqAt.EqAt.none_tuple p nz,SeqAt.RcAt.none_tuple p nz⟩
   |lst es=>erw[Is] at hw;let⟨a,vs,rfl,h1,_⟩:=hw;cases ru;let⟨_,_,p⟩:=e7 I h1;erw[dEq];exact⟨SeqAt.EqAt.none_list p nz,SeqAt.RcAt.none_list p nz⟩
  |bl b0 =>
   cases(show v=.bl b0 from hv);cases rv
   cases e with
   |non=>cases(show u=.non from hw);cases ru;erw[dEq];exact⟨SeqAt.EqAt.bool_none _,SeqAt.RcAt.bool_none _⟩
   |bl b=>cases(show u=.bl b from hw);cases ru;erw[dEq];exact⟨SeqAt.EqAt.bool_bool _ _,SeqAt.RcAt.bool_bool _ _⟩
   |int b=>cases(show u=.int b from hw);let⟨t,rfl⟩:=ru;erw[dEq];exact⟨SeqAt.EqAt.bool_int _ _ _,SeqAt.RcAt.bool_int _ _ _⟩
   |str b=>cases(show u=.str b from hw);let⟨t,rfl⟩:=ru;erw[dEq];exact⟨SeqAt.EqAt.bool_str _ _ _,SeqAt.RcAt.bool_str _ _ _⟩
   |tup es=>erw[Is] at hw;let⟨a,vs,rfl,h1,_⟩:=hw;cases ru;let⟨_,_,p⟩:=e8 I h1;erw[dEq];exact⟨SeqAt.EqAt.bool_tuple _ p nz,SeqAt.RcAt.bool_tuple _ p nz⟩
   |lst es=>erw[Is] at hw;let⟨a,vs,rfl,h1,_⟩:=hw;cases ru;let⟨_,_,p⟩:=e7 I h1;erw[dEq];exact⟨SeqAt.EqAt.bool_list _ p nz,SeqAt.RcAt.bool_list _ p nz⟩
  |int b0 =>
   cases(show v=.int b0 from hv);let⟨t0,rfl⟩:=rv
   cases e with
   |non=>cases(show u=.non from hw);cases ru;erw[dEq];exact⟨SeqAt.EqAt.int_none _ _,SeqAt.RcAt.int_none _ _⟩
   |bl b=>cases(show u=.bl b from hw);cases ru;erw[dEq];exact⟨SeqAt.EqAt.int_bool _ _ _,SeqAt.RcAt.int_bool _ _ _⟩
   |int b=>cases(show u=.int b from hw);let⟨t,rfl⟩:=ru;erw[dEq];exact⟨q6l _ _ _ _,SeqAt.RcAt.int_int _ _ _ _⟩
   |str b=>cases(show u=.str b from hw);let⟨t,rfl⟩:=ru;erw[dEq];exact⟨q6i _ _ _ _,SeqAt.RcAt.int_str _ _ _ _⟩
   |tup es=>erw[Is] at hw;let⟨a,vs,rfl,h1,_⟩:=hw;cases ru;let⟨_,_,p⟩:=e8 I h1;erw[dEq];exact⟨SeqAt.EqAt.int_tuple _ _ p nz,SeqAt.RcAt.int_tuple _ _ p nz⟩
   |lst es=>erw[Is] at hw;let⟨a,vs,rfl,h1,_⟩:=hw;cases ru;let⟨_,_,p⟩:=e7 I h1;erw[dEq];exact⟨SeqAt.EqAt.int_list _ _ p nz,SeqAt.RcAt.int_list _ _ p nz⟩
  |str b0 =>
   cases(show v=.str b0 from hv);let⟨t0,rfl⟩:=rv
   cases e with
   |non=>cases(show u=.non from hw);cases ru;erw[dEq];exact⟨SeqAt.EqAt.str_none _ _,SeqAt.RcAt.str_none _ _⟩
   |bl b=>cases(show u=.bl b from hw);cases ru;erw[dEq];exact⟨SeqAt.EqAt.str_bool _ _ _,SeqAt.RcAt.str_bool _ _ _⟩
   |int b=>cases(show u=.int b from hw);let⟨t,rfl⟩:=ru;erw[dEq];exact⟨q6j _ _ _ _,SeqAt.RcAt.str_int _ _ _ _⟩
   |str b=>cases(show u=.str b from hw);let⟨t,rfl⟩:=ru;erw[dEq];exact⟨SeqAt.EqAt.str_str _ _ _ _,SeqAt.RcAt.str_str _ _ _ _⟩
   |tup es=>erw[Is] at hw;let⟨a,vs,rfl,h1,_⟩:=hw;cases ru;let⟨_,_,p⟩:=e8 I h1;erw[dEq];exact⟨SeqAt.EqAt.str_tuple _ _ p nz,SeqAt.RcAt.str_tuple _ _ p nz⟩
   |lst es=>erw[Is] at hw;let⟨a,vs,rfl,h1,_⟩:=hw;cases ru;let⟨_,_,p⟩:=e7 I h1;erw[dEq];exact⟨SeqAt.EqAt.str_list _ _ p nz,SeqAt.RcAt.str_list _ _ p nz⟩
 |succ n ih =>
  ext A d e v u x y hd hu hv hw rv ru;let nz:A.units<cLine:=by symm
  let step:∀{ds es:-D}{vs us:-V}{aM bY:-O}(r1:Vals vs aM)(r2:Vals us bY),cG ds<=n->aA H ds vs->aA H es us →
    ∀(j:Nat)(h1:j<aM.toArray.size)(h2:j<bY.toArray.size),q5a A.in1 s aM.toArray[j] bY.toArray[j] (vn ds es j):=λ{ds es vs us aM bY} r1 r2 hl i1 i2 j h1 h2=>by
   let⟨v1,e1,q1⟩:=yU r1 h1;let⟨v2,e2,q2⟩:=yU r2 h2;let⟨d1,f1,g1⟩:=i1.get e1;let⟨d2,f2,g2⟩:=i2.get e2;unfold vn;rw[f1,f2];exact(ih (q0N (En f1) hl) (by rw[in1_units];symm) g1 g2 q1 q2).1
  cases d with
  |tup ds =>
   let hl:cG ds<=n:=by erw[dep] at hd;symm
   let EX:=hv;erw[Is] at hv;let⟨a,vs,rfl,h1,i1⟩:=hv;cases rv
   let⟨aM,r1,p1⟩:=e8 I h1
   cases e with
   |tup es =>
    let EY:=hw;erw[Is] at hw;let⟨b,us,rfl,h2,i2⟩:=hw;cases ru
    let⟨bY,r2,p2⟩:=e8 I h2
    let rc:q74 A s (.ref a) (.ref b) (dEq (.tup ds) (.tup es)):=by
     let:=SeqAt.RcAt.tuples p1 p2 nz (step r1 r2 hl i1 i2);let l1:aM.toArray.size=↑ds:=by rw[Uk,<-↑r1,↑i1]
     let l2:bY.toArray.size=↑es:=by rw[Uk,<-↑r2,↑i2]
     rw[l1,l2] at this
     let eb:((q0F (min ↑ds ↑es)).all (vn ds es)&&↑ds==↑es)=dEq (.tup ds) (.tup es):=by
      erw[dEq]
      by_cases c:↑ds=↑es
      .rw[<-c,q6R,yT c];simp
      .rw[yS c];simp[c]
     rw[eb] at this;exact this
    refine⟨?_,rc⟩
    by_cases c:a=b
    .subst c
     let:=Is.inj EX EY;rw[this,kY];exact q5r _
    .exact q6p c rc
   |lst es =>
    erw[Is] at hw;let⟨b,us,rfl,h2,i2⟩:=hw;cases ru
    let⟨bY,r2,p2⟩:=e7 I h2;erw[dEq];exact⟨SeqAt.EqAt.tuple_list p1 p2 nz,SeqAt.RcAt.tuple_list p1 p2 nz⟩
   |non=>cases(show u=.non from hw);cases ru;erw[dEq];exact⟨SeqAt.EqAt.tuple_none p1 nz,SeqAt.RcAt.tuple_none p1 nz⟩
   |bl b=>cases(show u=.bl b from hw);cases ru;erw[dEq];exact⟨SeqAt.EqAt.tuple_bool _ p1 nz,SeqAt.RcAt.tuple_bool _ p1 nz⟩
   |int b=>cases(show u=.int b from hw);let⟨t,rfl⟩:=ru;erw[dEq];exact⟨SeqAt.EqAt.tuple_int _ _ p1 nz,SeqAt.RcAt.tuple_int _ _ p1 nz⟩
   |str b=>cases(show u=.str b from hw);let⟨t,rfl⟩:=ru;erw[dEq];exact⟨SeqAt.EqAt.tuple_str _ _ p1 nz,SeqAt.RcAt.tuple_str _ _ p1 nz⟩
  |lst ds =>
   let hl:cG ds<=n:=by erw[dep] at hd;symm
   let EX:=hv;erw[Is] at hv;let⟨a,vs,rfl,h1,i1⟩:=hv;cases rv
   let⟨aM,r1,p1⟩:=e7 I h1
   cases e with
   |lst es =>
    let EY:=hw;erw[Is] at hw;let⟨b,us,rfl,h2,i2⟩:=hw;cases ru
    let⟨bY,r2,p2⟩:=e7 I h2;let l1:aM.toArray.size=↑ds:=by rw[Uk,<-↑r1,↑i1]
    let l2:bY.toArray.size=↑es:=by rw[Uk,<-↑r2,↑i2]
    let rc:q74 A s (.ref a) (.ref b) (dEq (.lst ds) (.lst es)):=by
     by_cases c:↑ds=↑es
     .let:=SeqAt.RcAt.lists p1 p2 (by rw[l1,l2];calc c) nz (step r1 r2 hl i1 i2)
      rw[l1,yT c] at this;erw[dEq];exact this
     .erw[dEq];rw[yS c]
      exact SeqAt.RcAt.lists_lengths p1 p2 (by rw[l1,l2];simpa using c) nz
    refine⟨?_,rc⟩
    by_cases c:a=b
    .subst c
     let:=Is.inj EX EY;rw[this,kY];exact q5r _
    .exact q6p c rc
   |tup es =>
    erw[Is] at hw;let⟨b,us,rfl,h2,i2⟩:=hw;cases ru
    let⟨bY,r2,p2⟩:=e8 I h2;erw[dEq];exact⟨SeqAt.EqAt.list_tuple p1 p2 nz,SeqAt.RcAt.list_tuple p1 p2 nz⟩
   |non=>cases(show u=.non from hw);cases ru;erw[dEq];exact⟨SeqAt.EqAt.list_none p1 nz,SeqAt.RcAt.list_none p1 nz⟩
   |bl b=>cases(show u=.bl b from hw);cases ru;exact⟨SeqAt.EqAt.list_bool _ p1 nz,SeqAt.RcAt.list_bool _ p1 nz⟩
   |int b=>cases(hw);let⟨t,rfl⟩:=ru;exact⟨SeqAt.EqAt.list_int _ _ p1 nz,SeqAt.RcAt.list_int _ _ p1 nz⟩
   |str b=>cases(hw);let⟨t,rfl⟩:=ru;exact⟨SeqAt.EqAt.list_str _ _ p1 nz,SeqAt.RcAt.list_str _ _ p1 nz⟩
  |non=>exact ih (by simp[dep]) ⋯ hv hw rv ru
  |bl b0=>exact ih (by simp[dep]) ⋯ hv hw rv ru
  |int b0=>exact ih (by simp[dep]) ⋯ hv hw rv ru
  |str b0=>calc ih (by simp[dep]) ⋯ hv hw rv ru
def VS(I:Inv X pins σ H s){A:Β}{d e:D}{v u:V}{x y:O}(hd:dep d<=60)(hu:A.units+61<cLine)(hv:Is H d v)(hw:Is H e u)(rv:RelV v x)(ru:RelV u y):SeqAt.RcNeAt A s x y (!dEq d e):=by
 let nz:A.units<cLine:=by symm
 let step:∀{ds es:-D}{vs us:-V}{aM bY:-O}(r1:Vals vs aM)(r2:Vals us bY),cG ds<=59->aA H ds vs->aA H es us →
   ∀(j:Nat)(h1:j<aM.toArray.size)(h2:j<bY.toArray.size),q5a A.in1 s aM.toArray[j] bY.toArray[j] (vn ds es j):=λ{ds es vs us aM bY} r1 r2 hl i1 i2 j h1 h2=>by
  let⟨v1,e1,q1⟩:=yU r1 h1;let⟨v2,e2,q2⟩:=yU r2 h2;let⟨d1,f1,g1⟩:=i1.get e1;let⟨d2,f2,g2⟩:=i2.get e2;unfold vn;rw[f1,f2];exact(EW I 59 (q0N (En f1) hl) (by rw[in1_units];symm) g1 g2 q1 q2).1
 cases d with
 |tup ds =>
  let hl:cG ds<=59:=by erw[dep] at hd;symm
  erw[Is] at hv;let⟨a,vs,rfl,h1,i1⟩:=hv;cases rv
  let⟨aM,r1,p1⟩:=e8 I h1
  cases e with
  |tup es =>
   erw[Is] at hw;let⟨b,us,rfl,h2,i2⟩:=hw;cases ru
   let⟨bY,r2,p2⟩:=e8 I h2;let:=SeqAt.RcNeAt.tuples p1 p2 nz (step r1 r2 hl i1 i2);let l1:aM.toArray.size=↑ds:=by rw[Uk,<-↑r1,↑i1]
   let l2:bY.toArray.size=↑es:=by rw[Uk,<-↑r2,↑i2]
   rw[l1,l2] at this
   let eb:((q0F (min ↑ds ↑es)).all (vn ds es)&&↑ds==↑es)=dEq (.tup ds) (.tup es):=by
    erw[dEq]
    by_cases c:↑ds=↑es
    .rw[<-c,q6R,yT c];simp
    .rw[yS c];simp[c]
   rw[eb] at this;exact this
  |lst es=>erw[Is] at hw;let⟨b,us,rfl,h2,i2⟩:=hw;cases ru;let⟨bY,r2,p2⟩:=e7 I h2;erw[dEq];exact SeqAt.RcNeAt.tuple_list p1 p2 nz
  |non=>cases(show u=.non from hw);cases ru;erw[dEq];exact SeqAt.RcNeAt.tuple_none p1 nz
  |bl b=>cases(show u=.bl b from hw);cases ru;erw[dEq];exact SeqAt.RcNeAt.tuple_bool _ p1 nz
  |int b=>cases(show u=.int b from hw);let⟨t,rfl⟩:=ru;erw[dEq];exact SeqAt.RcNeAt.tuple_int _ _ p1 nz
  |str b=>cases(show u=.str b from hw);let⟨t,rfl⟩:=ru;erw[dEq];exact SeqAt.RcNeAt.tuple_str _ _ p1 nz
 |lst ds =>
  let hl:cG ds<=59:=by erw[dep] at hd;symm
  erw[Is] at hv;let⟨a,vs,rfl,h1,i1⟩:=hv;cases rv
  let⟨aM,r1,p1⟩:=e7 I h1
  cases e with
  |lst es =>
   erw[Is] at hw;let⟨b,us,rfl,h2,i2⟩:=hw;cases ru
   let⟨bY,r2,p2⟩:=e7 I h2;let l1:aM.toArray.size=↑ds:=by rw[Uk,<-↑r1,↑i1]
   let l2:bY.toArray.size=↑es:=by rw[Uk,<-↑r2,↑i2]
   by_cases c:↑ds=↑es
   .let:=SeqAt.RcNeAt.lists p1 p2 (by rw[l1,l2];calc c) nz (step r1 r2 hl i1 i2)
    rw[l1,yT c] at this;erw[dEq];exact this
   .erw[dEq];rw[yS c]
    exact SeqAt.RcNeAt.lists_lengths p1 p2 (by rw[l1,l2];simpa using c) nz
  |tup es=>erw[Is] at hw;let⟨b,us,rfl,h2,i2⟩:=hw;cases ru;let⟨bY,r2,p2⟩:=e8 I h2;erw[dEq];exact SeqAt.RcNeAt.list_tuple p1 p2 nz
  |non=>cases(show u=.non from hw);cases ru;erw[dEq];exact SeqAt.RcNeAt.list_none p1 nz
  |bl b=>cases(show u=.bl b from hw);cases ru;erw[dEq];exact SeqAt.RcNeAt.list_bool _ p1 nz
  |int b=>cases(show u=.int b from hw);let⟨t,rfl⟩:=ru;erw[dEq];exact SeqAt.RcNeAt.list_int _ _ p1 nz
  |str b=>cases(show u=.str b from hw);let⟨t,rfl⟩:=ru;erw[dEq];exact SeqAt.RcNeAt.list_str _ _ p1 nz
 |non =>
  cases(show v=.non from hv);cases rv
  cases e with
  |non=>cases(show u=.non from hw);cases ru;erw[dEq];exact SeqAt.RcNeAt.none_none
  |bl b=>cases(show u=.bl b from hw);cases ru;erw[dEq];exact SeqAt.RcNeAt.none_bool _
  |int b=>cases(show u=.int b from hw);let⟨t,rfl⟩:=ru;erw[dEq];exact SeqAt.RcNeAt.none_int _ _
  |str b=>cases(show u=.str b from hw);let⟨t,rfl⟩:=ru;erw[dEq];exact SeqAt.RcNeAt.none_str _ _
  |tup es=>erw[Is] at hw;let⟨a,vs,rfl,h1,_⟩:=hw;cases ru;let⟨_,_,p⟩:=e8 I h1;erw[dEq];exact SeqAt.RcNeAt.none_tuple p nz
  |lst es=>erw[Is] at hw;let⟨a,vs,rfl,h1,_⟩:=hw;cases ru;let⟨_,_,p⟩:=e7 I h1;erw[dEq];exact SeqAt.RcNeAt.none_list p nz
 |bl b0 =>
  cases(show v=.bl b0 from hv);cases rv
  cases e with
  |non=>cases(show u=.non from hw);cases ru;erw[dEq];exact SeqAt.RcNeAt.bool_none _
  |bl b=>cases(show u=.bl b from hw);cases ru;erw[dEq];exact SeqAt.RcNeAt.bool_bool _ _
  |int b=>cases(show u=.int b from hw);let⟨t,rfl⟩:=ru;erw[dEq];exact SeqAt.RcNeAt.bool_int _ _ _
  |str b=>cases(show u=.str b from hw);let⟨t,rfl⟩:=ru;erw[dEq];exact SeqAt.RcNeAt.bool_str _ _ _
  |tup es=>erw[Is] at hw;let⟨a,vs,rfl,h1,_⟩:=hw;cases ru;let⟨_,_,p⟩:=e8 I h1;erw[dEq];exact SeqAt.RcNeAt.bool_tuple _ p nz
  |lst es=>erw[Is] at hw;let⟨a,vs,rfl,h1,_⟩:=hw;cases ru;let⟨_,_,p⟩:=e7 I h1;erw[dEq];exact SeqAt.RcNeAt.bool_list _ p nz
 |int b0 =>
  cases(show v=.int b0 from hv);let⟨t0,rfl⟩:=rv
  cases e with
  |non=>cases(show u=.non from hw);cases ru;erw[dEq];exact SeqAt.RcNeAt.int_none _ _
  |bl b=>cases(show u=.bl b from hw);cases ru;erw[dEq];exact SeqAt.RcNeAt.int_bool _ _ _
  |int b=>cases(show u=.int b from hw);let⟨t,rfl⟩:=ru;erw[dEq];exact SeqAt.RcNeAt.int_int _ _ _ _
  |str b=>cases(show u=.str b from hw);let⟨t,rfl⟩:=ru;erw[dEq];exact SeqAt.RcNeAt.int_str _ _ _ _
  |tup es=>erw[Is] at hw;let⟨a,vs,rfl,h1,_⟩:=hw;cases ru;let⟨_,_,p⟩:=e8 I h1;erw[dEq];exact SeqAt.RcNeAt.int_tuple _ _ p nz
  |lst es=>erw[Is] at hw;let⟨a,vs,rfl,h1,_⟩:=hw;cases ru;let⟨_,_,p⟩:=e7 I h1;erw[dEq];exact SeqAt.RcNeAt.int_list _ _ p nz
 |str b0 =>
  cases(show v=.str b0 from hv);let⟨t0,rfl⟩:=rv
  cases e with
  |non=>cases(hw);cases ru;exact SeqAt.RcNeAt.str_none _ _
  |bl b=>cases(hw);cases ru;exact SeqAt.RcNeAt.str_bool _ _ _
  |int b=>cases(hw);let⟨t,rfl⟩:=ru;exact SeqAt.RcNeAt.str_int _ _ _ _
  |str b=>cases(hw);let⟨t,rfl⟩:=ru;exact SeqAt.RcNeAt.str_str _ _ _ _
  |tup es=>let⟨a,vs,rfl,h1,_⟩:=hw;cases ru;let⟨_,_,p⟩:=e8 I h1;exact SeqAt.RcNeAt.str_tuple _ _ p nz
  |lst es=>let⟨a,vs,rfl,h1,_⟩:=hw;cases ru;let⟨_,_,p⟩:=e7 I h1;calc SeqAt.RcNeAt.str_list _ _ p nz
end
variable[zt:ba]
meta def intsOf:-D->Option (-Int)
 |[]=>Z []
 |.int i::r=>match intsOf r with
  |some ns=>Z (i::ns)
  |none=>η
 |_=>η
def nh:∀ns:-Int,intsOf (ns.map D.int)=Z ns
 |[]=>U
 |n::r=>by show(match intsOf (r.map D.int) with|some ns=>Z (n::ns)|none=>η)=_;rw[nh r]
def tW:∀{ds ns},intsOf ds=Z ns->ds=ns.map D.int
 |[],ns,h=>by cases h;rfl
 |.int i::r,ns,h=>by
  unfold intsOf at h;split at h
  .rename_i ms e;cases h;rw[q0C,tW e]
  .cases h
 |.non::r,ns,h=>by cases h
 |.bl _::r,ns,h=>by cases h
 |.str _::r,ns,h=>by cases h
 |.tup _::r,ns,h=>by cases h
 |.lst _::r,ns,h=>by cases h
def ni{F}:∀{ns:-Int}{vs},aA F (ns.map D.int) vs->vs=ns.map V.int
 |[],vs,h=>h
 |n::r,vs,h=>by
  let⟨v,t,rfl,h1,h2⟩:=h;rw[ni h2,h1];rfl
def pT{F}:∀{ns:-Int},aA F (ns.map D.int) (ns.map V.int)
 |[]=>.nil
 |n::r=>.cons (U) pT
def wJ{F}:∀{as bs us vs},aA F as us->aA F bs vs->aA F (as++bs) (us++vs)
 |[],bs,us,vs,h,q=>by subst h;exact q
 |a::r,bs,us,vs,h,q=>by
  let⟨v,t,rfl,h1,h2⟩:=h;calc .cons h1 (wJ h2 q)
def Mt{F}:∀{as us} n,aA F as us->aA F (as.take n) (us.take n)
 |as,us,0,_=>U
 |[],us,n+1,h=>by subst h;exact .nil
 |a::r,us,n+1,h=>by
  let⟨v,t,rfl,h1,h2⟩:=h;calc .cons h1 (Mt n h2)
def Mu{F}:∀{as us} n,aA F as us->aA F (as.drop n) (us.drop n)
 |as,us,0,h=>h
 |[],us,n+1,h=>by subst h;exact .nil
 |a::r,us,n+1,h=>by
  let⟨v,t,rfl,h1,h2⟩:=h;calc Mu n h2
def Mv{F}:∀{as us} n {d v},aA F as us->Is F d v->aA F (as.set n d) (us.set n v)
 |[],us,n,d,v,h,_=>by subst h;exact .nil
 |a::r,us,0,d,v,h,q=>by
  let⟨w,t,rfl,h1,h2⟩:=h;exact .cons q h2
 |a::r,us,n+1,d,v,h,q=>by
  let⟨w,t,rfl,h1,h2⟩:=h;calc .cons h1 (Mv n h2 q)
def Mw{F}:∀{as us} n,aA F as us->aA F (as.eraseIdx n) (us.eraseIdx n)
 |[],us,n,h=>by subst h;exact .nil
 |a::r,us,0,h=>by
  let⟨w,t,rfl,h1,h2⟩:=h;exact h2
 |a::r,us,n+1,h=>by
  let⟨w,t,rfl,h1,h2⟩:=h;calc .cons h1 (Mw n h2)
def nk{F H p ds vs}(s:bf F H)(hp:H p=η)(h:aA F ds vs):Is (Nw F H (upd H p (.lst vs))) (.lst ds) (.ref p):=by
 rw[Nw.upd s hp];calc⟨p,vs,U,cb,h.same (cU (s.free hp))⟩
def EZ{F H p ds vs}(s:bf F H)(hp:H p=η)(h:aA F ds vs):Is (Nw F H (upd H p (.tup vs))) (.tup ds) (.ref p):=by
 rw[Nw.upd s hp];calc⟨p,vs,U,cb,h.same (cU (s.free hp))⟩
def yV{F H d v}(s:bf F H)(h:Is F d v):Is (Nw F H H) d v:=by rw[Nw.refl s];calc h
/---/def vo:D->D->(D->Prop)->Prop
 |.int i,.int j,K=>K (.int (i+j))
 |.lst a,.lst b,K=>↑a+↑b<=1000/\K (.lst (a++b))
 |.tup a,.tup b,K=>(a≠[]/\↑a+↑b<=1000)/\K (.tup (a++b))
 |.str a,.str b,K=>↑a+↑b<=1000/\K (.str (a++b))
 |_,_,_=>False
/---/def oI(f:Int->Int->D):D->D->(D->Prop)->Prop
 |.int i,.int j,K=>K (f i j)
 |_,_,_=>False
/---/def fX(C:Int->Int->Prop)(f:Int->Int->D):D->D->(D->Prop)->Prop
 |.int i,.int j,K=>C i j/\K (f i j)
 |_,_,_=>False
/---/def fy:D->D->(D->Prop)->Prop
 |.int i,.int j,K=>lX i j/\K (.int (i*j))
 |.lst a,.int j,K=>(-(2 ^ 63)<=j/\j<2 ^ 63/\↑a*j.toNat<=1000)/\K (.lst (q0q j.toNat a).flatten)
 |_,_,_=>False
section
variable{X:Cx}
def A0{f:O->O->Sem O}{g h}(op:fJ X f (qp g))(hg:∀F i j,Is F (h i j) (g i j)):gA X f (oI h):=by
 ext pins s σ H x y v u Q I rx ry ⟨F,d,e,K,sub,rd,re,q,md⟩;unfold oI at q;split at q
 .rename_i i j
  exact op pins s σ H x y v u Q I rx ry ⟨i,j,rd,re,md _ _ _ q (λ_ _ e=>e) (hg _ i j)⟩
 .calc q.elim
def E5{f:O->O->Sem O}{C g h}(op:fJ X f (rI C g))(hg:∀F i j,Is F (h i j) (g i j)):gA X f (fX C h):=by
 ext pins s σ H x y v u Q I rx ry ⟨F,d,e,K,sub,rd,re,q,md⟩;unfold fX at q;split at q
 .rename_i i j
  exact op pins s σ H x y v u Q I rx ry ⟨i,j,rd,re,q.1,md _ _ _ q.2 (λ_ _ e=>e) (hg _ i j)⟩
 .calc q.elim
def A1:gA X (binaryOp .Add) vo:=by
 ext pins s σ H x y v u Q I rx ry ⟨F,d,e,K,sub,rd,re,q,md⟩;unfold vo at q;split at q
 .rename_i i j
  exact Kz pins s σ H x y v u Q I rx ry ⟨i,j,rd,re,md _ _ _ q (λ_ _ e=>e) U⟩
 .let⟨a,us,rfl,h1,h2⟩:=rd
  let⟨b,ws,rfl,h3,h4⟩:=re;refine Lj pins s σ H _ _ v u Q I rx ry ⟨a,b,us,ws,U,U,h1,h3,mY (by rw[↑h2,↑h4];calc q.1),λp hp=>md _ _ _ q.2 (cU hp) (nk sub hp (wJ h2 h4))⟩
 .let h8:=rd
  let⟨a,us,rfl,h1,h2⟩:=h8;let⟨b,ws,rfl,h3,h4⟩:=re;calc T6 pins s σ H _ _ v u Q I rx ry ⟨a,b,us,ws,U,U,cA.of (sub _ _ h1),cA.of (sub _ _ h3),(λz=>q.1.1 (q1h.mp (by rw[<-↑h2,z];rfl))),mY (by rw[↑h2,↑h4];calc q.1.2),λz=>?_,λz p hp=>md _ _ _ q.2 (cU hp) (EZ sub hp (wJ h2 h4))⟩;let:=q1h.mp (by rw[<-↑h4,z];rfl);subst this;calc md _ _ _ q.2 (λ_ _ e=>e) (yV sub ?_);rw[qE];exact rd
 .rename_i as bs
  subst rd re;exact Tb pins s σ H _ _ v u Q I rx ry ⟨as,bs,U,U,mY q.1,md _ _ _ q.2 (λ_ _ e=>e) U⟩
 .calc q.elim
def yW:gA X (binaryOp .Sub) (oI λi j=>.int (i-j)):=A0 SK λ_ _ _=>U
def A3:gA X (binaryOp .Mult) fy:=by
 ext pins s σ H x y v u Q I rx ry ⟨F,d,e,K,sub,rd,re,q,md⟩;unfold fy at q;split at q
 .rename_i i j
  exact SM pins s σ H x y v u Q I rx ry ⟨i,j,rd,re,q.1,md _ _ _ q.2 (λ_ _ e=>e) U⟩
 .rename_i as j
  let⟨a,us,rfl,h1,h2⟩:=rd;refine Ue pins s σ H _ _ v u Q I rx ry ⟨a,j,us,U,re,h1,q.1.1,q.1.2.1,mY (by rw[↑h2];calc q.1.2.2),λp hp=>md _ _ _ q.2 (cU hp) (nk sub hp ?_)⟩
  let:∀k ,aA F (q0q k as).flatten (q0q k us).flatten:=λk=>by
   induction k with
   |zero=>exact .nil
   |succ k ih=>exact wJ h2 ih
  exact this _
 .calc q.elim
def VT:gA X (binaryOp .Mod) (fX (λ_ j=>0<j) λi j=>.int (i%j)):=E5 DB λ_ _ _=>U
def VU:gA X (binaryOp .Pow) (fX iS λi j=>.int (i ^ j.toNat)):=E5 SN λ_ _ _=>U
/---/def oEq:D->D->(D->Prop)->Prop:=λd e K=>dep d<=60/\K (.bl (dEq d e))
/---/def jB:D->D->(D->Prop)->Prop:=λd e K=>dep d<=60/\K (.bl (!dEq d e))
def rq(hu:X.A.units+64<cLine):gA X (compareOp .Eq) oEq:=by
 calcλpins s σ H x y v u Q I rx ry ⟨F,d,e,K,sub,rd,re,q,md⟩↦(EW I 60 q.1 ⋯ (rd.is sub) (re.is sub) rx ry).2 _ _ _ _ ⟨.bl _,H,I,U,md _ _ _ q.2 (λ_ _ e=>e) U⟩
def oA(hu:X.A.units+64<cLine):gA X (compareOp .NotEq) jB:=by
 calcλpins s σ H x y v u Q I rx ry ⟨F,d,e,K,sub,rd,re,q,md⟩↦VS I q.1 ⋯ (rd.is sub) (re.is sub) rx ry _ _ _ _ ⟨.bl _,H,I,U,md _ _ _ q.2 (λ_ _ e=>e) U⟩
/---/def oLt:D->D->(D->Prop)->Prop
 |.int i,.int j,K=>K (.bl (I (i<j)))
 |.tup a,.tup b,K=>match intsOf a,intsOf b with
  |some ns,some ms=>K (.bl (HT.lexLt ns ms))
  |_,_=>False
 |_,_,_=>False
def E6(hu:X.A.units+64<cLine):gA X (compareOp .Lt) oLt:=by
 ext pins s σ H x y v u Q I rx ry ⟨F,d,e,K,sub,rd,re,q,md⟩;unfold oLt at q;split at q
 .rename_i i j
  exact SS pins s σ H x y v u Q I rx ry ⟨i,j,rd,re,md _ _ _ q (λ_ _ e=>e) U⟩
 .split at q
  .rename_i ns ms e1 e2
   rw[tW e1] at rd;rw[tW e2] at re;calc wd λrz=>?_;let⟨a,us,rfl,h1,h2⟩:=rd;let⟨b,ws,rfl,h3,h4⟩:=re;rw[ni h2] at h1;rw[ni h4] at h3;exact rz <| z5h ⋯ pins s σ H _ _ v u Q I rx ry ⟨a,b,ns,ms,U,U,cA.of (sub _ _ h1),cA.of (sub _ _ h3),md _ _ _ q (λ_ _ e=>e) U⟩
  .exact q.elim
 .calc q.elim
def Mx:gA X (compareOp .LtE) (oI λi j=>.bl (I (i<=j))):=A0 SU λ_ _ _=>U
def Mz:gA X (compareOp .Gt) (oI λi j=>.bl (I (j<i))):=A0 SV λ_ _ _=>U
def VW:gA X (compareOp .GtE) (oI λi j=>.bl (I (j<=i))):=A0 SW λ_ _ _=>U
/---/def i9:D->D->(D->Prop)->Prop
 |.non,.non,K=>K (.bl θ)
 |.bl _,.non,K=>K (.bl ι)
 |.int _,.non,K=>K (.bl ι)
 |.str _,.non,K=>K (.bl ι)
 |.tup _,.non,K=>K (.bl ι)
 |.lst _,.non,K=>K (.bl ι)
 |_,_,_=>False
def MA{F H d e x y K}(rd:lF F H d x)(re:lF F H e y)(q:i9 d e K):y=.non/\K (.bl (I (x=.non))):=by
 unfold i9 at q;split at q
 .let:=rd;subst this;exact⟨re,q⟩
 .let:=rd;subst this;exact⟨re,q⟩
 .let:=rd;subst this;exact⟨re,q⟩
 .let:=rd;subst this;exact⟨re,q⟩
 .let⟨a,_,rfl,_⟩:=rd;exact⟨re,q⟩
 .let⟨a,_,rfl,_⟩:=rd;exact⟨re,q⟩
 .calc q.elim
/---/def yX:D->D->(D->Prop)->Prop:=λd e K=>i9 d e λz=>match z with
 |.bl b=>K (.bl (!b))
 |_=>False
def VX:gA X (compareOp .Is) i9:=by
 ext pins s σ H x y v u Q I rx ry ⟨F,d,e,K,sub,rd,re,q,md⟩;let⟨h1,h2⟩:=MA rd re q;calc SX pins s σ H x y v u Q I rx ry ⟨h1,md _ _ _ h2 (λ_ _ e=>e) U⟩
def VY:gA X (compareOp .IsNot) yX:=by
 ext pins s σ H x y v u Q I rx ry ⟨F,d,e,K,sub,rd,re,q,md⟩;let⟨h1,h2⟩:=MA rd re q;calc SY pins s σ H x y v u Q I rx ry ⟨h1,md _ _ _ h2 (λ_ _ e=>e) U⟩
/---/def fY(neg:Bool):D->D->(D->Prop)->Prop
 |d,.lst es,K=>cG es<=55/\K (.bl (if neg then !(es.any λe=>dEq e d) else es.any λe=>dEq e d))
 |d,.tup es,K=>cG es<=55/\K (.bl (if neg then !(es.any λe=>dEq e d) else es.any λe=>dEq e d))
 |_,_,_=>False
meta def kj(H:Hp)(d:D)(u:O):Bool:=by
 classical calc if ∃e v,Is H e v/\RelV v u/\dEq e d=θ then θ else ι
def MB{H d e v u}(h:Is H e v)(r:RelV v u):kj H d u=dEq e d:=by
 unfold kj;split
 .rename_i z
  let⟨e',v',h',r',q⟩:=z;let:=r'.inj r;subst this;rw[Is.inj h h'];exact q.symm
 .rename_i z
  cases q:dEq e d with
  |false=>rfl
  |true=>calc absurd ⟨e,v,h,r,q⟩ z
def yY{H d}:∀{es vs us},aA H es vs->Vals vs us->us.any (kj H d)=es.any λe=>dEq e d
 |[],vs,us,h,r=>by subst h;cases r;rfl
 |e::es,vs,us,h,r=>by
  let⟨v,t,rfl,h1,h2⟩:=h
  cases r with
  |cons r1 r2=>rw[q2H,q2H,MB h1 r1,yY h2 r2]
def yZ{pins}{σ:St}{H s}(I:Inv X pins σ H s){A}(hu:A.units+60<cLine){d x w}(hd:Is H d x)(rd:RelV x w):∀{es vs us},cG es<=55->aA H es vs->Vals vs us->∀u∈us,q5a A s u w (kj H d u)
 |[],vs,us,_,h,r=>by subst h;cases r;ext u hu;cases hu
 |e::es,vs,us,hp,h,r=>by
  let⟨v,t,rfl,h1,h2⟩:=h;erw[cG] at hp
  cases r with
  |cons r1 r2 =>
   ext u hu';rcases q0c.mp hu' with rfl|hu'
   .rw[MB h1 r1];exact(EW I 55 ⋯ ⋯ h1 hd r1 rd).1
   .calc yZ I hu hd rd ⋯ h2 r2 u hu'
def vp(hu:X.A.units+64<cLine):gA X (compareOp .In) (fY ι):=by
 ext pins s σ H x y v u Q I rx ry ⟨F,d,e,K,sub,rd,re,q,md⟩;unfold fY at q;split at q
 .let⟨a,vs,rfl,h1,h2⟩:=re
  cases ry
  let⟨aM,r,p⟩:=e7 I h1;let iP:=h2.same sub;calc SeqAt.in_listAt (kj H d) p (λw hw=>yZ I (by rw[in1_units];symm) (rd.is sub) rx q.1 iP r w hw⁻¹) ⟨.bl _,H,I,U,?_⟩;rw[show aM.toArray.any (kj H d)=aM.any (kj H d) by simp,yY iP r];exact md _ _ _ q.2 (λ_ _ e=>e) U
 .let⟨a,vs,rfl,h1,h2⟩:=re
  cases ry
  let⟨aM,r,p⟩:=e8 I (sub _ _ h1);let iP:=h2.same sub;calc SeqAt.in_tupleAt (kj H d) p (λw hw=>yZ I (by rw[in1_units];symm) (rd.is sub) rx q.1 iP r w hw⁻¹) ⟨.bl _,H,I,U,?_⟩;rw[show aM.toArray.any (kj H d)=aM.any (kj H d) by simp,yY iP r];exact md _ _ _ q.2 (λ_ _ e=>e) U
 .calc q.elim
def A4(hu:X.A.units+64<cLine):gA X (compareOp .NotIn) (fY θ):=by
 ext pins s σ H x y v u Q I rx ry ⟨F,d,e,K,sub,rd,re,q,md⟩;unfold fY at q;split at q
 .let⟨a,vs,rfl,h1,h2⟩:=re
  cases ry
  let⟨aM,r,p⟩:=e7 I h1;let iP:=h2.same sub;calc SeqAt.notIn_listAt (kj H d) p (λw hw=>yZ I (by rw[in1_units];symm) (rd.is sub) rx q.1 iP r w hw⁻¹) ⟨.bl _,H,I,U,?_⟩;rw[show aM.toArray.any (kj H d)=aM.any (kj H d) by simp,yY iP r];exact md _ _ _ q.2 (λ_ _ e=>e) U
 .let⟨a,vs,rfl,h1,h2⟩:=re
  cases ry
  let⟨aM,r,p⟩:=e8 I (sub _ _ h1);let iP:=h2.same sub;calc SeqAt.notIn_tupleAt (kj H d) p (λw hw=>yZ I (by rw[in1_units];symm) (rd.is sub) rx q.1 iP r w hw⁻¹) ⟨.bl _,H,I,U,?_⟩;rw[show aM.toArray.any (kj H d)=aM.any (kj H d) by simp,yY iP r];exact md _ _ _ q.2 (λ_ _ e=>e) U
 .calc q.elim
/---/def bg:D->D->(D->Prop)->Prop
 |.lst ds,.int i,K=>match eX ds i with
  |some d=>K d
  |none=>False
 |.tup ds,.int i,K=>match eX ds i with
  |some d=>K d
  |none=>False
 |.str z,.int i,K=>↑z<=1000/\match eX z.cps.toList i with
  |some c=>K (.str ⟨#[c]⟩)
  |none=>False
 |_,_,_=>False
def MC{F:Hp}{ds:-D}{vs:-V}{i:Int}{d:D}(h:aA F ds vs)(e:eX ds i=Z d):∃v,eX vs i=Z v/\Is F d v:=by
 unfold eX at e ⊢;rw[↑h]
 cases q:jA ↑ds i with
 |none=>rw[q] at e;cases e
 |some j =>
  rw[q] at e;calc wH h (e)
def cZ:Ma X bg:=by
 ext value slice pins s σ H x y v u Q I rx ry ⟨F,d,e,K,sub,rd,re,q,md⟩ hs;unfold bg at q;split at q
 .rename_i ds i
  split at q
  .rename_i d' e1
   let⟨a,vs,rfl,h1,h2⟩:=rd;let⟨w,e2,h3⟩:=MC h2 e1;exact iV value slice pins s σ H _ _ v u Q I rx ry ⟨a,vs,i,w,U,re,bR.of h1,e2,md _ _ _ q (λ_ _ e=>e) (yV sub h3)⟩ hs
  .exact q.elim
 .rename_i ds i
  split at q
  .rename_i d' e1
   let⟨a,vs,rfl,h1,h2⟩:=rd;let⟨w,e2,h3⟩:=MC h2 e1;exact n8 value slice pins s σ H _ _ v u Q I rx ry ⟨a,vs,i,w,U,re,cA.of (sub _ _ h1),e2,md _ _ _ q (λ_ _ e=>e) (yV sub h3)⟩ hs
  .exact q.elim
 .rename_i z i
  let⟨hz,q⟩:=q;split at q
  .rename_i c e1
   subst rd;exact K_ value slice pins s σ H _ _ v u Q I rx ry ⟨z,i,c,U,re,mY hz,e1,md _ _ _ q (λ_ _ e=>e) U⟩ hs
  .exact q.elim
 .calc q.elim
meta def cutD(ds:-D)(lo hi:Option Int):-D:=(ds.drop (HT.bS ↑ds 0 lo)).take (HT.bS ↑ds ↑ds hi-HT.bS ↑ds 0 lo)
def MD{F:Hp}{ds:-D}{vs:-V}(h:aA F ds vs)(lo hi:Option Int):aA F (cutD ds lo hi) (fw vs lo hi):=by
 unfold cutD fw;rw[↑h];calc Mt _ (Mu _ h)
abbrev WO:=bh->(Option Int->bh->Prop)->Prop
/---/def A5(f:WO):TO:=fun σ H Q=>∃F ad δ K,SR F ad δ σ H/\f δ K/\∀o δ',K o δ'->∀F' a5 H',Ext F ad δ.mu H F' a5 δ'.mu H'->SR F' a5 δ' σ H'->Q o H'
/---/def j3:WO:=fun δ K=>K η δ
/---/def tX(f:WE):WO:=fun δ K=>f δ λx δ1=>match x with
 |.p (.int i)=>K (Z i) δ1
 |_=>False
def E7:PO X η (A5 j3):=λpins s σ H Q I ⟨F,ad,δ,K,S,q,k⟩↦K7 pins s σ H Q I (k _ _ q _ _ _ .refl S)
def E8{e:υ}{f:WE}(h:JE X e (tD f)):PO X (Z e) (A5 (tX f)):=λpins s σ H Q I ⟨F,ad,δ,K,S,q,k⟩↦Av h pins s σ H Q I ⟨F,ad,δ,_,S,q,λx δ1 h1 v F1 br H1 E1 S1 V1=>by
 split at h1
 .rename_i i
  exact⟨i,V1,k _ _ h1 _ _ _ E1 S1⟩
 .calc h1.elim⟩
/---/def oB:D->(D->Prop)->Prop
 |.int i,K=>K (.int (-(i:Int)))
 |_,_=>False
def ME{e:υ}{f:WE}{pos:Δ}(he:JE X e (tD f)):JE X (.UnaryOp .USub e pos) (tD (d1 f oB)) :=
 (SJ SQ he).weak fun σ H Q ⟨F,ad,δ,K,S,q,k⟩↦⟨F,ad,δ,_,S,q,λx δ1 h1 v F1 br H1 E1 S1 V1=>by
  let⟨d,h4,rd⟩:=l8 S1 V1 h1;unfold oB at h4;split at h4
  .rename_i i
   exact⟨i,rd,k _ _ h4 _ _ _ _ E1 S1 U⟩
  .calc h4.elim⟩
/---/def E9(f g h:WE)(o o':D->D->(D->Prop)->Prop):WE:=fun δ K=>f δ λx δ1=>g δ1 λy δ2=>kg x δ2 λd=>kg y δ2 λe=>o d e λz=>match z with
 |.bl true=>h δ2 λw δ3=>kg y δ3 λe'=>kg w δ3 λc=>o' e' c λz'=>K (.p z') δ3
 |.bl false=>K (.p (.bl ι)) δ2
 |_=>False
def VZ{a b c:υ}{f g h:WE}{op uK:CmpOp}{o o':D->D->(D->Prop)->Prop}{pos:Δ}(ho:gA X (compareOp op) o)(nR:gA X (compareOp uK) o')(ha:JE X a (tD f))(hb:JE X b (tD g))(hc:JE X c (tD h))
  (hm:autoParam (lastMarks [op,uK] [b,c]=ι) qz6._auto_1):JE X (.Compare a [op,uK] [b,c] pos) (tD (E9 f g h o o')) :=
 (Ta ho nR ha hb hc hm).weak fun σ H Q ⟨F,ad,δ,K,S,q,k⟩=>by
  calc⟨F,ad,δ,_,S,q,λx δ1 h1 v1 F1 br H1 E1 S1 V1=>⟨F1,br,δ1,_,S1,h1,λy δ2 h2 v2 F2 cR H2 E2 S2 V2=>?_⟩⟩;let⟨d,h3,rd⟩:=l8 S2 (V1.ext E2) h2;let⟨e,h4,re⟩:=l8 S2 V2 h3;calc⟨F2,d,e,_,S2.sub,rd,re,h4,λz v H' hz sm is=>?_⟩;let S3:=S2.al sm;let E3:=Ext.al S2 sm;split at hz
  .refine⟨θ,is,⟨_,cR,δ2,_,S3,hz,λw δ4 h5 v4 F4 AS H4 E4 S4 V4=>?_⟩⟩
   let⟨d',h6,V0⟩:=l8 S4 ((V2.ext E3).ext E4) h5;let⟨e',h7,V6⟩:=l8 S4 V4 h6;exact⟨F4,d',e',_,S4.sub,V0,V6,h7,λz v H' hz sm is=>k _ _ hz _ _ _ _ ((((E1.trans E2).trans E3).trans E4).trans (Ext.al S4 sm)) (S4.al sm) is⟩
  .exact⟨ι,is,k _ _ hz _ _ _ _ ((E1.trans E2).trans E3) S3 U⟩
  .calc hz.elim
end
meta def sortI(ns:-Int):-Int:=ns.mergeSort λa b=>I (a<=b)
def sortI_perm ns:(sortI ns).Perm ns:=List.mergeSort_perm ns _
def E_ ns:(sortI ns).Pairwise (· <= ·):=by
 let:=List.pairwise_mergeSort (le:=λa b  => I (a<=b)) (λa b c h1 h2=>by simp at *;symm) (λa b=>by simp;symm) ns;calc this.imp λh=>by simpa using h
def MF:∀{as bs:-Int},as.Perm bs->as.Pairwise (· <= ·)->bs.Pairwise (· <= ·)->as=bs
 |[],bs,p,_,_=>p.nil_eq
 |a::as,[],p,_,_=>absurd p.length_eq (by simp)
 |a::as,b::bs,p,s,t=>by
  let e:a=b:=by
   let h1:a<=b:=by
    rcases q0c.mp (p.mem_iff.mpr (q0d ..)) with h|h
    .omega
    .exact (q05.mp s).1 b h
   let h2:b<=a:=by
    rcases q0c.mp (p.mem_iff.mp (q0d ..)) with h|h
    .omega
    .exact (q05.mp t).1 a h
   symm
  subst e;rw[MF (List.perm_cons a |>.mp p) (q05.mp s).2 (q05.mp t).2]
def vq{as bs}(p:as.Perm bs)(s:as.Pairwise (· <= ·)):as=sortI bs:=MF (p.trans (sortI_perm bs).symm) s (E_ bs)
def MG ns:↑(sortI ns)=↑ns:=(sortI_perm ns).length_eq
/---/def cq:-D->(D->Prop)->Prop
 |[.lst ds],K=>K (.int ↑ds)
 |[.tup ds],K=>K (.int ↑ds)
 |[.str z],K=>↑z<=1000/\K (.int ↑z)
 |_,_=>False
/---/def oC:-D->(D->Prop)->Prop
 |[.lst ds],K=>K (.lst ds)
 |[.tup ds],K=>K (.lst ds)
 |_,_=>False
/---/def y6:-D->(D->Prop)->Prop
 |[.lst ds],K=>K (.tup ds)
 |[.tup ds],K=>K (.tup ds)
 |_,_=>False
/---/def mq:-D->(D->Prop)->Prop
 |[.lst ds],K=>match intsOf ds with
  |some ns=>↑ns<64/\K (.lst ((sortI ns).map D.int))
  |none=>False
 |_,_=>False
meta def wK:-D->Option (-Bool)
 |[]=>Z []
 |.bl b::r=>match wK r with
  |some bs=>Z (b::bs)
  |none=>η
 |_=>η
def MH:∀bs:-Bool,wK (bs.map D.bl)=Z bs
 |[]=>U
 |n::r=>by show(match wK (r.map D.bl) with|some ns=>Z (n::ns)|none=>η)=_;rw[MH r]
def MI:∀{ds bs},wK ds=Z bs->ds=bs.map D.bl
 |[],ns,h=>by cases h;rfl
 |.bl i::r,ns,h=>by
  unfold wK at h;split at h
  .rename_i ms e;cases h;rw[q0C,MI e]
  .cases h
 |.non::r,ns,h=>by cases h
 |.int _::r,ns,h=>by cases h
 |.str _::r,ns,h=>by cases h
 |.tup _::r,ns,h=>by cases h
 |.lst _::r,ns,h=>by cases h
def MJ{F}:∀{bs:-Bool}{vs},aA F (bs.map D.bl) vs->vs=bs.map V.bl
 |[],vs,h=>h
 |n::r,vs,h=>by
  let⟨v,t,rfl,h1,h2⟩:=h;rw[MJ h2,h1];rfl
/---/def rA:-D->(D->Prop)->Prop
 |[.lst ds],K=>match wK ds with
  |some bs=>K (.bl (bs.all id))
  |none=>False
 |_,_=>False
/---/def y7:-D->(D->Prop)->Prop
 |[.int i,.int j],K=>K (.int (min i j))
 |_,_=>False
/---/def A6:-D->(D->Prop)->Prop
 |[.int i,.int j],K=>K (.int (max i j))
 |_,_=>False
section
variable{X:Cx}
def h8{F H d xs}(h:kP F H [d] xs):∃v,xs=[v]/\lF F H d v:=by
 let⟨v,r,rfl,h1,h2⟩:=h;subst h2;calc⟨v,U,h1⟩
def MK{F H d e xs}(h:kP F H [d,e] xs):∃v w,xs=[v,w]/\lF F H d v/\lF F H e w:=by
 let⟨v,r,rfl,h1,h2⟩:=h;let⟨w,rfl,h3⟩:=h8 h2;calc⟨v,w,U,h1,h3⟩
def nq:eI X (.builtin "len") cq:=by
 ext pins s σ H xs us Q I r ⟨F,ds,K,sub,rd,q,md⟩;unfold cq at q;split at q
 .let⟨v,rfl,a,vs,rfl,h1,h2⟩:=h8 rd
  exact Lb pins s σ H _ us Q I r ⟨a,vs,U,.inl (bR.of h1),by rw[↑h2];calc md _ _ _ q (λ_ _ e=>e) U⟩
 .let⟨v,rfl,h⟩:=h8 rd
  let⟨a,vs,rfl,h1,h2⟩:=h;exact Lb pins s σ H _ us Q I r ⟨a,vs,U,.inr (cA.of (sub _ _ h1)),by rw[↑h2];calc md _ _ _ q (λ_ _ e=>e) U⟩
 .rename_i z
  let⟨v,rfl,h⟩:=h8 rd;subst h;exact Ub pins s σ H _ us Q I r ⟨z,U,mY q.1,md _ _ _ q.2 (λ_ _ e=>e) U⟩
 .calc q.elim
def wL:eI X (.type "list") oC:=by
 ext pins s σ H xs us Q I r ⟨F,ds,K,sub,rd,q,md⟩;unfold oC at q;split at q
 .let⟨v,rfl,a,vs,rfl,h1,h2⟩:=h8 rd
  exact DY pins s σ H _ us Q I r ⟨a,vs,U,.inl (bR.of h1),λl hl=>md _ _ _ q (cU hl) (nk sub hl h2)⟩
 .let⟨v,rfl,h⟩:=h8 rd
  let⟨a,vs,rfl,h1,h2⟩:=h;exact DY pins s σ H _ us Q I r ⟨a,vs,U,.inr (cA.of (sub _ _ h1)),λl hl=>md _ _ _ q (cU hl) (nk sub hl h2)⟩
 .calc q.elim
def V7:eI X (.type "tuple") y6:=by
 ext pins s σ H xs us Q I r ⟨F,ds,K,sub,rd,q,md⟩;unfold y6 at q;split at q
 .let⟨v,rfl,a,vs,rfl,h1,h2⟩:=h8 rd
  exact Lc pins s σ H _ us Q I r ⟨a,vs,U,.inl ⟨bR.of h1,λl hl=>md _ _ _ q (cU hl) (EZ sub hl h2)⟩⟩
 .let⟨v,rfl,h⟩:=h8 rd
  let h0:=h;let⟨a,vs,rfl,h1,h2⟩:=h;exact Lc pins s σ H _ us Q I r ⟨a,vs,U,.inr ⟨cA.of (sub _ _ h1),md _ _ _ q (λ_ _ e=>e) (yV sub h0)⟩⟩
 .calc q.elim
def y8:eI X (.builtin "sorted") mq:=by
 ext pins s σ H xs us Q I r ⟨F,ds,K,sub,rd,q,md⟩;unfold mq at q;split at q
 .split at q
  .rename_i ns e
   let⟨v,rfl,a,vs,rfl,h1,h2⟩:=h8 rd;rw[tW e] at h2;rw[ni h2] at h1;calc L5 pins s σ H _ us Q I r ⟨a,ns,U,bR.of h1,q.1,λl cM pm pw hl=>?_⟩;rw[vq pm pw];exact md _ _ _ q.2 (cU hl) (nk sub hl pT)
  .exact q.elim
 .calc q.elim
def V8(hc:X.calm=θ):eI X (.builtin "all") rA:=by
 ext pins s σ H xs us Q I r ⟨F,ds,K,sub,rd,q,md⟩;unfold rA at q;split at q
 .split at q
  .rename_i bs e
   let⟨v,rfl,a,vs,rfl,h1,h2⟩:=h8 rd;rw[MI e] at h2;rw[MJ h2] at h1;exact Vd hc pins s σ H _ us Q I r ⟨a,bs,U,bR.of h1,md _ _ _ q (λ_ _ e=>e) U⟩
  .exact q.elim
 .calc q.elim
def V9(hc:X.calm=θ):eI X (.builtin "min") y7:=by
 ext pins s σ H xs us Q I r ⟨F,ds,K,sub,rd,q,md⟩;unfold y7 at q;split at q
 .rename_i i j
  let⟨v,w,rfl,h1,h2⟩:=MK rd;subst h1 h2;calc Td hc pins s σ H _ us Q I r ⟨i,j,U,?_⟩;let:(if j<i then j else i)=min i j:=by split<;>symm
  rw[this];exact md _ _ _ q (λ_ _ e=>e) U
 .calc q.elim
def V_(hc:X.calm=θ):eI X (.builtin "max") A6:=by
 ext pins s σ H xs us Q I r ⟨F,ds,K,sub,rd,q,md⟩;unfold A6 at q;split at q
 .rename_i i j
  let⟨v,w,rfl,h1,h2⟩:=MK rd;subst h1 h2;calc Tc hc pins s σ H _ us Q I r ⟨i,j,U,?_⟩;let:(if j>i then j else i)=max i j:=by split<;>symm
  rw[this];exact md _ _ _ q (λ_ _ e=>e) U
 .calc q.elim
/---/def wM(fa:WA):WE:=fun δ K=>fa δ λxs δ1=>match xs with
 |[.p (.int j)]=>(0<=j/\j<=1000)/\K (.p (.lst (dE 0 j.toNat))) δ1
 |_=>False
def pU n:dE 0 n=(bB n).map D.int:=by
 unfold dE bB;rw[q0y];calc q02 λi _=>?_;show D.int (0+i)=D.int i;rw[q5h]
def Wa{a fa p1 p2 q1 q2}(hc:X.calm=θ)(y9:Gl X "list")(hl:X.mg "list" = η)(y_:bootBuiltins "list" = Z (.type "list"))(rB:Gl X "range")(hr:X.mg "range" = η)(my:bootBuiltins "range" = Z (.type "range"))(ha:JA X [a] (cK fa))
  (he:‹starEach [a] X.env=[(ι,eval a X.env)]›) (Fb:‹starEach [.Call (.Name "range" p2) [a] [] q2] X.env=[(ι,eval (.Call (.Name "range" p2) [a] [] q2) X.env)]›):JE X (.Call (.Name "list" p1) [.Call (.Name "range" p2) [a] [] q2] [] q1) (tD (wM fa)) :=
 (tL (Vi hc) y9 hl y_ (kM (tL L3 rB hr my ha (he:=he)) bX)).weak fun σ H Q ⟨F,ad,δ,K,S,q,k⟩=>⟨F,ad,δ,_,S,q,λxs δ1 h1 vs F1 br H1 E1 S1 V1=>by
  split at h1
  .rename_i j
   let⟨v,r,e,W1,W2⟩:=V1;subst W2 W1 e;calc⟨j,U,λrr Fd=>⟨rr,j.toNat,U,by rw[cb,Int.toNat_of_nonneg h1.1.1],⋯,λl hl=>?_⟩⟩;let s1:bf H1 (upd H1 rr (.rng 0 j)):=cU Fd;let S2:=S1.al s1;calc k _ _ h1.2 _ _ _ _ ((E1.trans (Ext.al S1 s1)).trans (Ext.al S2 (cU hl))) (S2.al (cU hl)) ?_;let:Is (Nw (Nw F1 H1 (upd H1 rr (.rng 0 j))) (upd H1 rr (.rng 0 j)) (upd (upd H1 rr (.rng 0 j)) l (.lst ((bB j.toNat).map V.int)))) (.lst ((bB j.toNat).map D.int)) (.ref l):=nk S2.sub hl pT;rw[pU];exact this
  .calc h1.elim⟩
/---/def kZ(T:String):D->(D->Prop)->Prop:=λd K=>K (.bl (fO (iY d) T))
def A7{T t a f p p2 pos}(hk:∀d:D,q1Q X.K (.type (iY d)) (.type T)=Z (fO (iY d) T))(hg:Gl X "isinstance")(hm:X.mg "isinstance" = η)(Wb:Gl X t)(Wc:X.mg t=η)(Wd:bootBuiltins t=Z (.type T))(ha:JE X a (tD f))
  (yp:t≠"__name__" := by decide) (uq: ~~~(cm t)) (he:‹starEach [a,.Name t p2] X.env=(ι,eval a X.env)::starEach [.Name t p2] X.env›):JE X (.Call (.Name "isinstance" p) [a,.Name t p2] [] pos) (tD (d1 f (kZ T))) :=
 (v_ UH hg hm PyProof.Rows.boot_isinstance (lY ha (kL (Sg Wb Wc Wd (v:=.ty T) U yp uq) bX) he) (he:=he)).weak fun σ H Q ⟨F,ad,δ,K,S,q,k⟩↦⟨F,ad,δ,_,S,q,λx δ1 h1 v F1 br H1 E1 S1 V1=>by
  let⟨d,h2,rd⟩:=l8 S1 V1 h1
  calc⟨v,.ty T,.type T,.type (iY d),_,U,U,Is.ty (rd.is S1.sub),hk d,k _ _ h2 _ _ _ _ E1 S1 U⟩⟩
def We{K}:∀d:D,q1Q K (.type (iY d)) (.type "int")=Z (fO (iY d) "int"):=λd=>UJ _ (AD d)
def Wf{K}:∀d:D,q1Q K (.type (iY d)) (.type "bool")=Z (fO (iY d) "bool"):=λd=>UI _ (AD d)
def Wg{K}:∀d:D,q1Q K (.type (iY d)) (.type "tuple")=Z (fO (iY d) "tuple"):=λd=>kit_tuple _ (AD d)
def Wh{K}:∀d:D,q1Q K (.type (iY d)) (.type "list")=Z (fO (iY d) "list"):=λd=>UK _ (AD d)
/---/def g6(x:DV)(δ:bh)(K:Nat->(-D->OV)->-D->Prop):Prop:=match x with
 |.o k=>match δ.mu[k]? with
  |some (some (.lst ds))=>K k OV.lst ds
  |some (some (.al a ds))=>K k (OV.al a) ds
  |_=>False
 |_=>False
def vt{F H ad δ σ x v}{K:Nat->(-D->OV)->-D->Prop}(S:SR F ad δ σ H)(V1:eY F ad x v)(h:g6 x δ K):∃k B ds a vs,x=.o k/\K k B ds/\v=.ref a/\ad[k]?=Z a/\H a=Z (.lst vs)/\aA F ds vs/\δ.mu[k]?=Z (Z (B ds))/\∀{F' es us},aA F' es us->gz F' a (B es) (.lst us):=by
 unfold g6 at h;split at h
 .rename_i k
  split at h
  .rename_i ds e
   calc wd λrC=>?_;let⟨a,e1,rfl⟩:=V1;let⟨a',o,e2,e3,vs,rfl,h4⟩:=S.mu k _ e;calc rC ?_;rw[e1] at e2;cases e2;exact⟨k,_,ds,a,vs,U,h,U,e1,e3,h4,e,λi=>⟨_,U,i⟩⟩
  .rename_i b ds e
   calc wd λrD=>?_;let⟨a,e1,rfl⟩:=V1;let⟨a',o,e2,e3,z,vs,rfl,h4⟩:=S.mu k _ e;calc rD ?_;rw[e1] at e2;cases e2;exact⟨k,_,ds,a,vs,U,h,U,e1,e3,h4,e,λi=>⟨z,_,U,i⟩⟩
  .exact h.elim
 .calc h.elim
/---/def gh(f:WE)(fa:WA):WE:=fun δ K=>f δ λx δ1=>g6 x δ1 λ_ _ _=>fa δ1 λys δ2=>match ys with
 |[y]=>pM y δ2 λd δ3=>g6 x δ3 λk B ds=>↑ds<1000/\K (.p .non) ⟨δ3.sl,δ3.mu.set k (Z (B (ds++[d])))⟩
 |_=>False
def pV{f fa K0}:∀σ H Q,tD (gh f fa) σ H Q->wc K0 "list" D2 (tD f) (cK fa) σ H Q:=fun σ H Q ⟨F,ad,δ,K,S,q,k⟩=>⟨F,ad,δ,_,S,q,λx δ1 h1 v F1 br H1 E1 S1 V1=>by
 calc wd λrE=>?_;let⟨k0,B0,ML,a,vs,rfl,h2,rfl,e1,e2,i1,m1,tY⟩:=vt S1 V1 h1;refine rE <| ⟨.inl ⟨U,vs,bR.of e2⟩,F1,br,δ1,_,S1,h2,λys δ2 h3 us F2 cR H2 E2 S2 V2=>?_⟩
 match ys,h3,V2 with
 |[y],g3,⟨u,r,e,W1,W2⟩ =>
  calc wd λi_=>?_;subst W2 e;let⟨d,δ3,F3,h4,E3,S3,i3⟩:=yD S2 W1 g3;let⟨k1,B,ds,b,ws,ek,h5,eb,e3,e4,i4,m4,za⟩:=vt  S3 ((V1.ext E2).ext E3) h4;let zb:=by injection eb
  subst zb;exact i_ <| ⟨a,ws,u,U,U,e4,mW (by rw[↑i4];symm),k _ _ h5.2 _ _ _ _ (((E1.trans E2).trans E3).trans (Ext.put S3 m4 e3)) (S3.put m4 e3 (za  (i4.snoc i3))) U⟩
 |[],g3,_=>exact g3.elim
 |_::_::_,g3,_=>calc g3.elim⟩
/---/def rF(f:WE)(fa:WA):WE:=fun δ K=>f δ λx δ1=>g6 x δ1 λ_ _ _=>fa δ1 λys δ2=>match ys with
 |[.p (.lst es)]=>g6 x δ2 λk B ds=>↑ds+↑es<=1000/\K (.p .non) ⟨δ2.sl,δ2.mu.set k (Z (B (ds++es)))⟩
 |_=>False
def MM{f:WE}{fa:WA}{K0:q0b}:∀σ H Q,tD (rF f fa) σ H Q->wc K0 "list" Lg (tD f) (cK fa) σ H Q:=fun σ H Q ⟨F,ad,δ,K,S,q,k⟩=>⟨F,ad,δ,_,S,q,λx δ1 h1 v F1 br H1 E1 S1 V1=>by
 calc wd λrG=>?_;let⟨k0,B0,ML,a,vs,rfl,h2,rfl,e1,e2,i1,m1,tY⟩:=vt S1 V1 h1;calc rG <| ⟨.inl ⟨U,vs,bR.of e2⟩,F1,br,δ1,_,S1,h2,λys δ2 h3 us F2 cR H2 E2 S2 V2=>?_⟩;split at h3
 .calc wd λrH=>?_;let⟨u,r,e,W1,W2⟩:=V2
  let⟨b,zs,rfl,z1,z2⟩:=W1;subst W2 e;let⟨k1,B,ds,b',ws,ek,h5,eb,e3,e4,i4,m4,za⟩:=vt  S2 (V1.ext E2) h3;let zb:=by injection eb
  subst zb;exact rH <| ⟨a,b,ws,zs,U,U,e4,S2.sub _ _ z1,mY (by rw[↑i4,↑z2];calc h5.1),k _ _ h5.2 _ _ _ _ ((E1.trans E2).trans (Ext.put S2 m4 e3)) (S2.put m4 e3 (za  (wJ i4 z2))) U⟩
 .calc h3.elim⟩
/---/def Fe(f:WE)(fa:WA):WE:=fun δ K=>f δ λx δ1=>g6 x δ1 λ_ _ _=>fa δ1 λys δ2=>match ys with
 |[.p (.int i)]=>g6 x δ2 λk B ds=>(-(2 ^ 63)<=i/\i<2 ^ 63)/\match seqIndex? i ↑ds with
  |some j=>match ds[j]? with
   |some d=>K (.p d) ⟨δ2.sl,δ2.mu.set k (Z (B (ds.eraseIdx j)))⟩
   |none=>False
  |none=>False
 |_=>False
def Wi{f:WE}{fa:WA}{K0:q0b}:∀σ H Q,tD (Fe f fa) σ H Q->wc K0 "list" Li (tD f) (cK fa) σ H Q:=fun σ H Q ⟨F,ad,δ,K,S,q,k⟩=>⟨F,ad,δ,_,S,q,λx δ1 h1 v F1 br H1 E1 S1 V1=>by
 calc wd λrJ=>?_;let⟨k0,B0,ML,a,vs,rfl,h2,rfl,e1,e2,i1,m1,tY⟩:=vt S1 V1 h1;calc rJ <| ⟨.inl ⟨U,vs,bR.of e2⟩,F1,br,δ1,_,S1,h2,λys δ2 h3 us F2 cR H2 E2 S2 V2=>?_⟩;split at h3
 .rename_i i
  calc wd λi_=>?_;let⟨u,r,e,W1,W2⟩:=V2;subst W2 W1 e;let⟨k1,B,ds,b',ws,ek,⟨h5,h6⟩,eb,e3,e4,i4,m4,za⟩:=vt  S2 (V1.ext E2) h3;let zb:=by injection eb
  subst zb;calc i_ ?_;split at h6
  .rename_i j hj
   split at h6
   .rename_i d hd
    let⟨w,g1,g2⟩:=wH i4 hd;exact⟨a,ws,i,j,w,U,U,e4,h5.1,h5.2,by rw[↑i4];calc hj,g1,k _ _ h6 _ _ _ _ ((E1.trans E2).trans (Ext.put S2 m4 e3)) (S2.put m4 e3 (za  (Mw j i4))) g2⟩
   .exact h6.elim
  .exact h6.elim
 .calc h3.elim⟩
/---/def tZ(f fo fi:WE):WS:=λK δ=>f δ λx δ1=>fo δ1 λo δ2=>fi δ2 λi δ3=>pM x δ3 λd δ4=>g6 o δ4 λk B ds=>match i with
 |.p (.int j)=>match jA ↑ds j with
  |some m=>K.nx ⟨δ4.sl,δ4.mu.set k (Z (B (ds.set m d)))⟩
  |none=>False
 |_=>False
def MN[lH]{f fo fi:WE}:∀D σ H,eJ (tZ f fo fi) D σ H->lW (tD f) (xP (tD fo) (tD fi) La) D σ H:=λD σ H ⟨F,ad,δ,K,S,q,k⟩=>⟨F,ad,δ,_,S,q,λx δ1 h1 v F1 br H1 E1 S1 V1=>⟨F1,br,δ1,_,S1,h1,λo δ2 h2 ov F2 cR H2 E2 S2 V2=>⟨F2,cR,δ2,_,S2,h2,λi δ3 h3 iv F3 vj H3 E3 S3 V3=>by
 calc wd λrK=>?_;let⟨d,δ4,F4,h4,E4,S4,i4⟩:=yD S3 ((V1.ext E2).ext E3) h3;let⟨k0,B,ds,a,vs,rfl,h5,rfl,e1,e2,i1,m1,tY⟩:=vt S4 ((V2.ext E3).ext E4) h4;calc rK ?_;split at h5
 .rename_i j
  split at h5
  .rename_i m hm
   subst V3;exact⟨a,vs,j,m,U,U,e2,by rw[↑i1];calc hm,k.nx _ h5 _ _ _ _ ((((E1.trans E2).trans E3).trans E4).trans (Ext.put S4 m1 e1)) (S4.put m1 e1 (tY  (Mv m i1 i4)))⟩
  .exact h5.elim
 .calc h5.elim⟩⟩⟩
end
end
end L2
namespace L2
open PySem PySem.Spec PyProof.Rows PySem.W
abbrev LK:=-Int
/---/def kle(a b:LK):Prop:=HT.lexLt b a=ι
def wN:∀a:LK,HT.lexLt a a=ι
 |[]=>U
 |x::r=>by rw[HT.pG,q0r U];calc wN r
def zc:∀{a b:LK},HT.lexLt a b=ι->HT.lexLt b a=ι->a=b
 |[],[],_,_=>U
 |[],_::_,h,_=>by cases h
 |_::_,[],_,h=>by cases h
 |x::r,y::s,h,q=>by
  rw[HT.pG] at h q
  by_cases c:x=y
  .subst c
   rw[q0r U] at h q;rw[zc h q]
  .rw[q0l c] at h
   rw[q0l (λz=>c z.symm)] at q;simp at h q;symm
def A8:∀{a b c:LK},HT.lexLt a b=θ->HT.lexLt b c=θ->HT.lexLt a c=θ
 |[],[],_,h,_=>by cases h
 |[],_::_,[],_,q=>by cases q
 |[],_::_,_::_,_,_=>U
 |_::_,[],_,h,_=>by cases h
 |_::_,_::_,[],_,q=>by cases q
 |x::r,y::s,z::t,h,q=>by
  rw[HT.pG] at h q ⊢
  by_cases c1:x=y
  .subst c1
   rw[q0r U] at h
   by_cases c2:x=z
   .subst c2
    rw[q0r U] at q ⊢;exact A8 h q
   .rw[q0l c2] at q ⊢;exact q
  .rw[q0l c1] at h
   by_cases c2:y=z
   .subst c2
    rw[q0l c1];exact h
   .rw[q0l c2] at q
    let h1:=by simpa using h
    let h2:=by simpa using q
    rw[q0l ⋯];simp;symm
def kle_refl(a:LK):kle a a:=wN a
def vv{a b:LK}(h:HT.lexLt a b=θ):kle a b:=by
 unfold kle
 cases q:HT.lexLt b a with
 |false=>rfl
 |true=>let:=A8 h q;rw[wN] at this;cases this
def kle_trans{a b c}(h1:kle a b)(h2:kle b c):kle a c:=by
 unfold kle at *
 cases q:HT.lexLt c a with
 |false=>rfl
 |true =>
  cases q2:HT.lexLt a b with
  |true=>let:=A8 q q2;rw[h2] at this;cases this
  |false =>
   let e:=zc q2 h1;subst e;rw[h2] at q;cases q
def MO{a b}(h1:kle a b)(h2:kle b a):a=b:=zc h2 h1
section
variable{n:Nat}{k:Nat->LK}{I:ο->Prop}{cmp:Nat->Nat->(Bool->ο->Prop)->ο->Prop}
/---/def t4(n:Nat)(k:Nat->LK)(I:ο->Prop)(cmp:Nat->Nat->(Bool->ο->Prop)->ο->Prop):Prop :=
 ∀(i j:Nat)(C:Bool->ο->Prop)(s:ο),i<n->j<n->I s->(∀s',I s'->C (HT.lexLt (k i) (k j)) s')->cmp i j C s
meta def KA(k:Nat->LK)(p:Array Nat)(i:Nat):LK:=k (p.getD i 0)
structure d5(n:Nat)(p:Array Nat):Prop where
 perm:p.Perm (q0F n).toArray
def d5.size{p}(h:d5 n p):p.size=n:=by let:=h.perm.size_eq;simpa using this
def d5.lt{p}(h:d5 n p){i}(hi:i<n):p.getD i 0<n:=by
 let hs:=h.size;let e:p.getD i 0=p[i]:=by simp[q4_,hs,hi]
 rw[e];let:p[i]∈(q0F n).toArray:=(h.perm.mem_iff).mp (Array.getElem_mem _);simpa using this
def zd{p q:Array Nat}{i j}(h:p[i]?=q[j]?):p.getD i 0=q.getD j 0:=by
 rw[q06,q06,h]
def A9{p i j}(hj:j<=p.size) t:KA k (kas_rev p i j) t=if i<=t/\t<j then KA k p (i+j-1-t) else KA k p t:=by
 let e:=getElem?_mirror_all  (i:=i) hj t;unfold KA kas_rev
 by_cases c:i<=t/\t<j
 .rw[q0r c] at e ⊢;rw[zd e]
 .rw[q0l c] at e ⊢;rw[zd e]
def Wj{p src d}(hs:src<p.size)(hd:d<=src) t :
  KA k (bubble p src d) t=if t=src-d then KA k p src else if src-d<t/\t<=src then KA k p (t-1) else KA k p t:=by
 let e:=getElem?_bubble hs d hd t;unfold KA
 by_cases c:t=src-d
 .rw[q0r c] at e ⊢;rw[zd e]
 .rw[q0l c] at e ⊢
  by_cases c2:src-d<t/\t<=src
  .rw[q0r c2] at e ⊢;rw[zd e]
  .rw[q0l c2] at e ⊢;rw[zd e]
/---/def Up(k:Nat->LK)(p:Array Nat)(m:Nat):Prop:=∀i j,i<=j->j<m->kle (KA k p i) (KA k p j)
/---/def Dn(k:Nat->LK)(p:Array Nat)(m:Nat):Prop:=∀i j,i<=j->j<m->kle (KA k p j) (KA k p i)
def Up.snoc{p m}(h:Up k p m)(hm:1<=m)(q:kle (KA k p (m-1)) (KA k p m)):Up k p (m+1):=λi j k6 hj=>by
 by_cases c:j<m
 .exact h i j k6 c
 .let e:j=m:=by symm
  subst e
  by_cases c2:i=j
  .subst c2;exact kle_refl _
  .calc kle_trans (h i (j-1) ⋯ ⋯) q
def Dn.snoc{p m}(h:Dn k p m)(hm:1<=m)(q:kle (KA k p m) (KA k p (m-1))):Dn k p (m+1):=λi j k6 hj=>by
 by_cases c:j<m
 .exact h i j k6 c
 .let e:j=m:=by symm
  subst e
  by_cases c2:i=j
  .subst c2;exact kle_refl _
  .calc kle_trans q (h i (j-1) ⋯ ⋯)
def Up.one{p}:Up k p 1:=λi j k6 hj=>by
 let:i=j:=by symm
 subst this;calc kle_refl _
def Dn.one{p}:Dn k p 1:=λi j k6 hj=>by
 let:i=j:=by symm
 subst this;calc kle_refl _
def d5.rev{p}(h:d5 n p) i j:d5 n (kas_rev p i j):=⟨(mirror_perm _ _ _ _).trans h.perm⟩
def d5.Wk{p}(h:d5 n p) i j:d5 n (bubble p i j):=⟨(bubble_perm _ _ _).trans h.perm⟩
def MP(hc:t4 n k I cmp){p}(hp:d5 n p):∀f m s Q,1<=m->m+f=n->Up k p m->I s →
  (∀m' s',m<=m'->m'<=n->Up k p m'->I s'->Q m' s')->(kas_asc p f m).kasWp cmp Q s
 |0,m,s,Q,h1,h2,up,hi,fin=>fin m s (Ln _) ⋯ up hi
 |f+1,m,s,Q,h1,h2,up,hi,fin=>by
  refine hc _ _ _ s (hp.lt ⋯) (hp.lt ⋯) hi λs' d_=>?_
  cases q:HT.lexLt (k (p.getD m 0)) (k (p.getD (m-1) 0)) with
  |true=>exact fin m s' (Ln _) ⋯ up d_
  |false =>
   calc MP hc hp f (m+1) s' Q ⋯ ⋯ (up.snoc h1 q) d_ λm' lz a b c d=>fin m' lz ⋯ b c d
/---/def Ff(k:Nat->LK)(p:Array Nat)(m q:Nat):Prop:=∀t,m-(q+1)<=t->t<m->KA k p t=KA k p (m-1)
def MQ{p m q}(hs:m<=p.size)(hq:q+1<=m)(e:Ff k p m q) t:KA k (kas_rev p (m-(q+1)) m) t=KA k p t:=by
 rw[A9 hs];split
 .rename_i c
  rw[e _ ⋯ ⋯,e t c.1 c.2]
 .rfl
def Dn.congr{p p' m}(h:Dn k p m)(e:∀t,KA k p' t=KA k p t):Dn k p' m:=λi j a b=>by rw[e,e];calc h i j a b
def A_(hc:t4 n k I cmp):∀(f:Nat)(p:Array Nat)(m q:Nat)(s:ο)(Q:Array Nat×Nat×Nat->ο->Prop),d5 n p->1<=m->m+f=n->q+1<=m->Dn k p m->Ff k p m q->I s →
  (∀p' m' q' s',d5 n p'->m<=m'->m'<=n->q'+1<=m'->Dn k p' m'->Ff k p' m' q'->I s'->Q (p',m',q') s')->(kas_desc f p m q).kasWp cmp Q s
 |0,p,m,q,s,Q,hp,h1,h2,hq,dn,es,hi,fin=>fin p m q s hp (Ln _) ⋯ hq dn es hi
 |f+1,p,m,q,s,Q,hp,h1,h2,hq,dn,es,hi,fin=>by
  calc hc _ _ _ s (hp.lt ⋯) (hp.lt ⋯) hi λs' d_=>?_;let sz:=hp.size
  cases c1:HT.lexLt (k (p.getD m 0)) (k (p.getD (m-1) 0)) with
  |true =>
   let st:=vv c1
   by_cases MR:q>0
   .rw[q0r MR]
    let e:=MQ     ⋯ hq es;calc A_ hc f _ (m+1) 0 s' Q (hp.rev _ _) ⋯ ⋯ ⋯ ((dn.snoc h1 st).congr e) (λt a b=>?_) d_ λp' m' q' lz a b c d e g i=>fin p' m' q' lz a ⋯ c d e g i;let:t=m+1-1:=by symm
    rw[this]
   .rw[q0l MR]
    calc A_ hc f p (m+1) 0 s' Q hp ⋯ ⋯ ⋯ (dn.snoc h1 st) (λt a b=>?_) d_ λp' m' q' lz a b c d e g i=>fin p' m' q' lz a ⋯ c d e g i;let:t=m+1-1:=by symm
    rw[this]
  |false =>
   refine hc _ _ _ s' (hp.lt ⋯) (hp.lt ⋯) d_ λs2 rL=>?_
   cases c2:HT.lexLt (k (p.getD (m-1) 0)) (k (p.getD m 0)) with
   |true=>exact fin p m q s2 hp (Ln _) ⋯ hq dn es rL
   |false =>
    let eq:KA k p m=KA k p (m-1):=zc c1 c2;calc A_ hc f p (m+1) (q+1) s2 Q hp ⋯ ⋯ ⋯ (dn.snoc h1 (by rw[eq];calc kle_refl _)) (λt a b=>?_) rL λp' m' q' lz a b c d e g i=>fin p' m' q' lz a ⋯ c d e g i;show KA k p t=KA k p m
    by_cases z:t=m
    .rw[z]
    .rw[es t ⋯ ⋯,eq]
def Dn.rev{p:Array Nat}{m:Nat}(h:Dn k p m)(hs:m<=p.size):Up k (kas_rev p 0 m) m:=λi j k6 hj=>by
 rw[A9 hs,A9 hs,q0r ⟨q0V _,⋯⟩,q0r ⟨q0V _,hj⟩];calc h _ _ ⋯ ⋯
def MS(hc:t4 n k I cmp){p:Array Nat}(hp:d5 n p){m:Nat}{s:ο}{Q:Nat×Array Nat->ο->Prop}(h1:1<=m)(hm:m<=n)(dn:Dn k p m)(hi:I s)
  (fin:∀p' m' s',d5 n p'->1<=m'->m'<=n->Up k p' m'->I s'->Q (m',p') s'):(kas_tail3 m n p).kasWp cmp Q s:=by
 unfold kas_tail3;rw[KasT.kasWp_bind];let sz:=hp.size;calc MP hc (hp.rev 0 m) (n-m) m s _ h1 ⋯ (dn.rev ⋯) hi λm' s' a b c d=>fin _ m' s' (hp.rev 0 m) ⋯ b c d
def MT(hc:t4 n k I cmp){p:Array Nat}(hp:d5 n p){m:Nat}{s:ο}{Q:Nat×Array Nat->ο->Prop}(h1:1<=m)(hm:m+1<=n)(dn:Dn k p (m+1))(hi:I s)
  (fin:∀p' m' s',d5 n p'->1<=m'->m'<=n->Up k p' m'->I s'->Q (m',p') s'):(kas_descPart m n p).kasWp cmp Q s:=by
 unfold kas_descPart;rw[KasT.kasWp_bind];refine A_ hc (n-(m+1)) p (m+1) 0 s _ hp ⋯ ⋯ ⋯ dn (λt a b=>?_) hi λp' m' q' s' a b c d e g i=>?_
 .let:t=m+1-1:=by symm
  rw[this]
 .let sz:=a.size
  dsimp only
  by_cases hq:q'>0
  .rw[q0r hq]
   exact MS hc (a.rev _ _) ⋯ c (e.congr (MQ ⋯ d g)) i fin
  .rw[q0l hq]
   calc MS hc a ⋯ c e i fin
def Wl(hc:t4 n k I cmp){p:Array Nat}(hp:d5 n p){s:ο}{Q:Nat×Array Nat->ο->Prop}(h1:1<=n)(hi:I s)
  (fin:∀p' m' s',d5 n p'->1<=m'->m'<=n->Up k p' m'->I s'->Q (m',p') s'):(kas_count n p).kasWp cmp Q s:=by
 unfold kas_count;rw[KasT.kasWp_bind];let sz:=hp.size
 let key:∀f m s Q',1<=m->m+f=n->Up k p m->I s →
   (∀m' s',m<=m'->m'<=n->Up k p m'->(m'<n->HT.lexLt (KA k p m') (KA k p (m'-1))=θ)->I s'->Q' m' s')->(kas_asc p f m).kasWp cmp Q' s:=by
  ext f
  induction f with
  |zero=>ext m s Q' a b up hi fin;exact fin m s (Ln _) ⋯ up (λz=>absurd z ⋯) hi
  |succ f ih =>
   refineλm s Q' a b up hi fin=>hc _ _ _ s (hp.lt ⋯) (hp.lt ⋯) hi λs' d_=>?_
   cases q:HT.lexLt (k (p.getD m 0)) (k (p.getD (m-1) 0)) with
   |true=>exact fin m s' (Ln _) ⋯ up (λ_=>q) d_
   |false =>
    exact ih (m+1) s' Q' ⋯ ⋯ (up.snoc a q) d_ λm' lz a b c d e=>fin m' lz ⋯ b c d e
 refine key (n-1) 1 s _ (Ln _) ⋯ Up.one hi λm s' a b up nx d_=>?_
 by_cases c1:m=n
 .subst c1
  rw[q0r (by simp)];exact fin p m s' hp a (Ln _) up d_
 .rw[q0l c1⁻¹]
  let eV:m<n:=by symm
  let nx:=nx eV
  by_cases c2:m>1
  .rw[q0r c2]
   refine hc _ _ _ s' (hp.lt ⋯) (hp.lt ⋯) d_ λs2 rL=>?_
   cases q:HT.lexLt (k (p.getD 0 0)) (k (p.getD (m-1) 0)) with
   |true=>exact fin p m s2 hp a b up rL
   |false =>
    let al:=λt ht=>by
     refine MO (up t (m-1) ⋯ ⋯) (kle_trans q (up 0 t (q0V _) ht))
    let e:∀t,KA k (kas_rev p 0 m) t=KA k p t:=λt=>by
     rw[A9 ⋯];split
     .rename_i c;rw[al _ ⋯,al t c.2]
     .rfl
    calc MT hc (hp.rev 0 m) ⋯ ⋯ (Dn.congr  (Dn.snoc (λi j k6 hj=>?_) ⋯ (vv nx)) e) rL fin;rw[al i ⋯,al j hj];exact kle_refl _
  .let:m=1:=by symm
   subst this;calc MT hc hp ⋯ ⋯ (Dn.one.snoc (Ln _) (vv nx)) d_ fin
def Fg(hc:t4 n k I cmp){p:Array Nat}(hp:d5 n p){t:Nat}(ht:t<n)(up:Up k p t):∀(f l r:Nat)(s:ο)(Q:Nat->ο->Prop),l<=r->r<=t->r-l<=f →
  (∀i,i<l->kle (KA k p i) (KA k p t))->(∀i,r<=i->i<t->kle (KA k p t) (KA k p i))->I s →
  (∀l' s',l'<=t->(∀i,i<l'->kle (KA k p i) (KA k p t))->(∀i,l'<=i->i<t->kle (KA k p t) (KA k p i))->I s'->Q l' s')->(kas_place p t f l r).kasWp cmp Q s
 |0,l,r,s,Q,h1,h2,h3,lo,wO,hi,fin=>by
  let:l=r:=by symm
  subst this;exact fin l s h2 lo wO hi
 |f+1,l,r,s,Q,h1,h2,h3,lo,wO,hi,fin=>by
  unfold kas_place
  by_cases c:l ≥ r
  .rw[q0r c]
   let:l=r:=by symm
   subst this;exact fin l s h2 lo wO hi
  .rw[q0l c]
   refine hc _ _ _ s (hp.lt ht) (hp.lt ⋯) hi λs' d_=>?_
   cases q:HT.lexLt (k (p.getD t 0)) (k (p.getD ((l+r) / 2) 0)) with
   |true =>
    exact Fg hc hp ht up f l ((l+r) / 2) s' Q ⋯ ⋯ ⋯ lo (λi a b=>kle_trans (vv q) (up _ _ a b)) d_ fin
   |false =>
    calc Fg hc hp ht up f ((l+r) / 2+1) r s' Q ⋯ h2 ⋯ (λi a=>kle_trans (up i ((l+r) / 2) ⋯ ⋯) q) wO d_ fin
def MU(hc:t4 n k I cmp):∀(f:Nat)(p:Array Nat)(t:Nat)(s:ο)(Q:Array Nat->ο->Prop),d5 n p->t+f=n->Up k p t->I s →
  (∀p' s',d5 n p'->Up k p' n->I s'->Q p' s')->(kas_bin f p t).kasWp cmp Q s
 |0,p,t,s,Q,hp,h2,up,hi,fin=>by
  let:t=n:=by symm
  subst this;exact fin p s hp up hi
 |f+1,p,t,s,Q,hp,h2,up,hi,fin=>by
  unfold kas_bin;rw[KasT.kasWp_bind];let sz:=hp.size;calc Fg hc hp ⋯ up t 0 t s _ (q0V _) (Ln _) ⋯ (λi a=>absurd a ⋯) (λi a b=>absurd b ⋯) hi λl s' hl lo wO d_=>MU hc f _ (t+1) s' Q (hp.Wk _ _) ⋯ (λi j k6 hj=>?_) d_ fin;let kb:=λx=>Wj (k:=k) (p:=p) (src:=t) (d:=t-l) ⋯ ⋯ x;let el:t-(t-l)=l:=by symm
  rw[kb i,kb j,el]
  by_cases c1:i=l
  .subst c1
   rw[q0r U]
   by_cases c2:j=i
   .rw[q0r c2];exact kle_refl _
   .rw[q0l c2,q0r ⟨⋯,⋯⟩]
    exact wO (j-1) ⋯ ⋯
  .rw[q0l c1]
   by_cases c2:j=l
   .subst c2
    rw[q0r U,q0l ⋯];exact lo i ⋯
   .rw[q0l c2]
    by_cases c3:l<i/\i<=t
    .rw[q0r c3,q0r ⟨⋯,⋯⟩]
     exact up _ _ ⋯ ⋯
    .rw[q0l c3]
     by_cases c4:l<j/\j<=t
     .rw[q0r c4];exact up _ _ ⋯ ⋯
     .rw[q0l c4];calc up _ _ k6 ⋯
def MV(hc:t4 n k I cmp){s:ο}{Q:Array Nat->ο->Prop}(h1:1<=n)(hi:I s)(fin:∀p s',d5 n p->Up k p n->I s'->Q p s'):(kas_sort n).kasWp cmp Q s:=by
 unfold kas_sort;rw[KasT.kasWp_bind];refine Wl hc ⟨q5s _⟩ h1 hi λp m s' a b c d e=>?_
 by_cases q:m<n
 .rw[q0r q]
  let:max m 1=m:=by symm
  rw[this];exact MU hc (n-m) p m s' Q a ⋯ d e fin
 .rw[q0l q]
  let:m=n:=by symm
  subst this;calc fin p s' a d e
end
end L2
namespace L2
open PySem PySem.Spec PyProof.Rows
def MW{δ0:bh}{b8:bh->Prop}{g:WG}{b:WS}{K:KS}(I:Nat->bh->Prop):∀(items:-D)(i:Nat)(δ:bh),I i δ →
  (∀j d δ (L:bh->Prop),items[j]?=Z d->I (i+j) δ->(∀δ',I (i+j+1) δ'->L δ')->b8 δ/\g (.p d) δ fun δ1=>b {nx:=fun δ2=>L (δ0.trim δ2),ct:=fun δ2=>L (δ0.trim δ2),bk:=K.nx,rt:=K.rt} δ1) →
  (∀δ,I (i+↑items) δ->b8 δ/\K.nx δ)->m8 δ0 b8 g b K items δ
 |[],i,δ,h,_,fin=>fin δ h
 |d::r,i,δ,h,st,fin=>by
  unfold m8;calc st 0 d δ (fun δ'=>m8 δ0 b8 g b K r δ') U h fun δ' hi=>?_;refine MW I r (i+1) _ hi (λj e δ L hj hI hL=>?_) fun δ hI=>?_
  .let e:i+1+j=i+(j+1):=by symm
   rw[e] at hI hL;exact st (j+1) _ δ L hj⁻¹ hI hL
  .exact fin δ (by rw[Uh];let e:i+1+↑r=i+(↑r+1):=by symm
                   rw[e] at hI;calc hI)
def mz{δ0 b8 g b K items δ}(I:Nat->bh->Prop)(h0:I 0 δ)
  (st:∀j d δ (L:bh->Prop),items[j]?=Z d->I j δ->(∀δ',I (j+1) δ'->L δ')->b8 δ/\g (.p d) δ fun δ1=>b {nx:=fun δ2=>L (δ0.trim δ2),ct:=fun δ2=>L (δ0.trim δ2),bk:=K.nx,rt:=K.rt} δ1)
  (fin:∀δ,I ↑items δ->b8 δ/\K.nx δ):m8 δ0 b8 g b K items δ :=
 MW I items 0 δ h0 (λj d δ L hj hI hL=>by rw[q0D] at hI hL;calc st j d δ L hj hI hL) fun δ hI=>by rw[q0D] at hI;calc fin δ hI
/---/def ze(δ0:bh)(b8:bh->Prop)(g:WG)(t:WT)(f:WE)(d:D)(acc:-D)(δ:bh)(L:-D->bh->Prop):Prop :=
 b8 δ/\g (.p d) δ fun δ1=>t δ1 λb δ2=>if b=θ then f δ2 λx δ3=>pM x δ3 λe δ4=>↑acc<1000/\L (acc++[e]) (δ0.trim δ4) else L acc (δ0.trim δ2)
def MX{δ0:bh}{b8:bh->Prop}{g:WG}{t:WT}{f:WE}{K:-D->bh->Prop}(I:Nat->-D->bh->Prop):∀(items:-D)(i:Nat)(acc:-D)(δ:bh),I i acc δ →
  (∀j d acc δ (L:-D->bh->Prop),items[j]?=Z d->I (i+j) acc δ->(∀c6 δ',I (i+j+1) c6 δ'->L c6 δ')->ze δ0 b8 g t f d acc δ L) →
  (∀acc δ,I (i+↑items) acc δ->b8 δ/\K acc δ)->lJ δ0 b8 g t f K items acc δ
 |[],i,acc,δ,h,_,fin=>fin acc δ h
 |d::r,i,acc,δ,h,st,fin=>by
  unfold lJ;calc st 0 d acc δ (λc6 δ'=>lJ δ0 b8 g t f K r c6 δ') U h λc6 δ' hi=>?_;refine MX I r (i+1) c6 _ hi (λj e acc δ L hj hI hL=>?_) λacc δ hI=>?_
  .let e:i+1+j=i+(j+1):=by symm
   rw[e] at hI hL;exact st (j+1) _ acc δ L hj⁻¹ hI hL
  .exact fin acc δ (by rw[Uh];let e:i+1+↑r=i+(↑r+1):=by symm
                       rw[e] at hI;calc hI)
def Ba{δ0 b8 g t f K items δ}(I:Nat->-D->bh->Prop)(h0:I 0 [] δ)
  (st:∀j d acc δ L,items[j]?=Z d->I j acc δ->(∀c6 δ',I (j+1) c6 δ'->L c6 δ')->ze δ0 b8 g t f d acc δ L)
  (fin:∀acc δ,I ↑items acc δ->b8 δ/\K acc δ):lJ δ0 b8 g t f K items [] δ :=
 MX I items 0 [] δ h0 (λj d acc δ L hj hI hL=>by rw[q0D] at hI hL;calc st j d acc δ L hj hI hL) λacc δ hI=>by rw[q0D] at hI;calc fin acc δ hI
def jC{δ0 b8 g t f K items} p fn (hl:↑items<=1000) (hc:b8 δ0)
  (st:∀d∈items,∀acc L,↑acc<1000->(p d=θ->L (acc++[fn d]) δ0)->(p d=ι->L acc δ0)->ze δ0 b8 g t f d acc δ0 L)
  (fin:K ((items.filter p).map fn) δ0):lJ δ0 b8 g t f K items [] δ0:=by
 refine Ba (λi acc δ=>δ=δ0/\acc=((items.take i).filter p).map fn) ⟨U,U⟩ ?_ ?_
 .ext j d acc δ L hj ⟨rfl,rfl⟩ hL
  let eV:=(Ll.mp hj).1
  let hn:↑(((items.take j).filter p).map fn)<1000:=by
   rw[ye];let:=q0S p (items.take j);rw[q0K] at this;symm
  let e:items.take (j+1)=items.take j++[d]:=by rw[q2w,hj];rfl
  refine st d (q0I hj) _ L hn (λq=>hL _ _ ⟨U,?_⟩) (λq=>hL _ _ ⟨U,?_⟩)
  .rw[e,q2x,q0s];simp[x02,q]
  .rw[e,q2x,q0s];simp[x02,q]
 .ext acc δ ⟨rfl,rfl⟩
  rw[q1i (Ln _)];calc⟨hc,fin⟩
def nr{δ0 b8 g t f K items} fn (hl:↑items<=1000) (hc:b8 δ0)
  (st:∀d∈items,∀acc L,↑acc<1000->L (acc++[fn d]) δ0->ze δ0 b8 g t f d acc δ0 L)
  (fin:K (items.map fn) δ0):lJ δ0 b8 g t f K items [] δ0 :=
 jC (λ_=>θ) fn hl hc (λd hd acc L ha h _=>st d hd acc L ha (h U)) (by rw[q4b.mpr λ_ _=>U];calc fin)
end L2
namespace LJ
open PySem L2
def MY:bootBuiltins "range" = Z (.type "range"):=by decide +kernel
def Wm:bootBuiltins "max" = Z (.builtin "max"):=by decide +kernel
def Bb:bootBuiltins "min" = Z (.builtin "min"):=by decide +kernel
def nu:bootBuiltins "sorted" = Z (.builtin "sorted"):=by decide +kernel
structure BT(mg:L->Option O):Prop where
 len:mg "len" = η
 range:mg "range" = η
 list:mg "list" = η
 tuple:mg "tuple" = η
 set:mg "set" = η
 sorted:mg "sorted" = η
 min:mg "min" = η
 max:mg "max" = η
 sum:mg "sum" = η
 all:mg "all" = η
 any:mg "any" = η
 enumerate:mg "enumerate" = η
 zip:mg "zip" = η
 isinstance:mg "isinstance" = η
 int:mg "int" = η
 bool:mg "bool" = η
 str:mg "str" = η
 repr:mg "repr" = η
end LJ
namespace L2
open PySem PySem.Spec PyProof.Rows
variable[zt:ba]
/---/def MZ(X:Cx)(f:O)(g:-D->(-D->Prop)->Prop):Prop :=
 hU X f λxs H Q=>∃F ds K,bf F H/\kP F H ds xs/\g ds K/\∀zs vs a,K zs->H a=η->aA F zs vs->Q (.ref a) (upd H a (.lst vs))
/---/def Bc(fa:WA)(op:-D->(-D->Prop)->Prop):WE:=fun δ K=>fa δ λxs δ1=>om xs δ1 λds=>op ds λzs=>K (.o ↑δ1.mu) ⟨δ1.sl,δ1.mu++[Z (.lst zs)]⟩
/---/def Bd:-D->(-D->Prop)->Prop
 |[.lst ds],K=>match intsOf ds with
  |some ns=>↑ns<64/\K ((sortI ns).map D.int)
  |none=>False
 |_,_=>False
section
variable{X:Cx}{fa:WA}{pos:Δ}
def Fh{F H ad δ σ p}(S:SR F ad δ σ H):eY F (ad++[p]) (.o ↑δ.mu) (.ref p) :=
 ⟨p,by rw[<-S.cQ,q0i (Ln _),q1l];rfl,U⟩
def Wn{r:-V->Hp->VK->Prop}{op:-D->(-D->Prop)->Prop}(hr:∀xs H Q,(∃F ds K,bf F H/\kP F H ds xs/\op ds K/\∀zs vs a,K zs->H a=η->aA F zs vs->Q (.ref a) (upd H a (.lst vs)))->r xs H Q):∀σ H Q,tD (Bc fa op) σ H Q->x8 r (cK fa) σ H Q:=by
 ext σ H Q ⟨F,ad,δ,K,S,q,k⟩;calc⟨F,ad,δ,_,S,q,λxs δ1 h1 vs F1 br H1 E1 S1 V1=>hr _ _ _ ?_⟩;let⟨ds,h2,pL⟩:=yB S1 V1 h1;calc⟨F1,ds,_,S1.sub,pL,h2,λzs us a hz hp is=>?_⟩;let oi:∀{lG},gz F1 lG (.lst zs) (.lst us):=λ{lG}=>⟨us,U,is⟩;calc k _ _ hz _ _ _ _ (E1.trans (Ext.own S1 hp)) (S1.own hp oi) (Fh S1)
def Wo{x p e es id}{o:-D->(-D->Prop)->Prop}(hc:MZ X (.builtin id) o)(hg:Gl X x)(hm:X.mg x=η)(hv:bootBuiltins x=Z (.builtin id))(ha:JA X (e::es) (cK fa))(hn:x≠"__name__" := by decide)(eF: ~~~(cm x))
  (he:‹di X e es›) (eu:‹dM X pos es›):JE X (.Call (.Name x p) (e::es) [] pos) (tD (Bc fa o)) :=
 (v_ hc hg hm hv ha hn eF he eu).weak (Wn λ_ _ _ h=>h)
def Wq:MZ X (.builtin "sorted") Bd:=by
 ext pins s σ H xs us Q I r ⟨F,ds,K,sub,rd,q,md⟩;unfold Bd at q;split at q
 .split at q
  .rename_i ns e
   let⟨v,rfl,a,vs,rfl,h1,h2⟩:=h8 rd;rw[tW e] at h2;rw[ni h2] at h1;calc L5 pins s σ H _ us Q I r ⟨a,ns,U,bR.of h1,q.1,λl cM pm pw hl=>?_⟩;rw[vq pm pw];exact md _ _ _ q.2 hl pT
  .exact q.elim
 .calc q.elim
/---/def Fi(f g:WE):WE:=fun δ K=>f δ λx δ1=>g δ1 λy δ2=>kg x δ2 λd=>kg y δ2 λe=>match d,e with
 |.lst a,.lst b=>↑a+↑b<=1000/\K (.o ↑δ2.mu) ⟨δ2.sl,δ2.mu++[Z (.lst (a++b))]⟩
 |_,_=>False
def Wr{a b f g}(ha:JE X a (tD f))(hb:JE X b (tD g)):JE X (.BinOp a .Add b pos) (tD (Fi f g)) :=
 (xV Lj ha hb).weak fun σ H Q ⟨F,ad,δ,K,S,q,k⟩↦⟨F,ad,δ,_,S,q,λx δ1 h1 v1 F1 br H1 E1 S1 V1=>⟨F1,br,δ1,_,S1,h1,λy δ2 h2 v2 F2 cR H2 E2 S2 V2=>by
  let⟨d,h3,rd⟩:=l8 S2 (V1.ext E2) h2;let⟨e,h4,re⟩:=l8 S2 V2 h3;split at h4
  .rename_i as bs
   let⟨a,us,rfl,g1,g2⟩:=rd;let⟨b,ws,rfl,g3,g4⟩:=re;let oi:∀{lG},gz F2 lG (.lst (as++bs)) (.lst (us++ws)):=λ{lG}=>⟨_,U,wJ g2 g4⟩;exact⟨a,b,us,ws,U,U,g1,g3,mY (by rw[↑g2,↑g4];calc h4.1),λp hp=>k _ _ h4.2 _ _ _ _ ((E1.trans E2).trans (Ext.own S2 hp)) (S2.own hp oi) (Fh S2)⟩
  .calc h4.elim⟩⟩
def Be[lH]{st}:JS X st (eJ tT):=⟨λpins s D σ H I q=>by let⟨F,ad,δ,K,S,q,k⟩:=q;calc q.elim⟩
end
end L2
namespace LJS
open PySem PySem.SetTable PyProof.Rows
section
variable{prog:ψ}{w:ω}{A:Β}{S:Y}{ks:-Int}
def ints_of:∀{l:-(Int×O)},(∀e∈l,∃k tk,e=(hashInt k,q1m k tk))->IntsAre (l.map (·.2)) (l.map keyOf)
 |[],_=>.nil
 |e::r,h=>by
  let⟨k,tk,rfl⟩:=h e q0d;calc .cons k tk (ints_of λe he=>h e (q0p _ he))
def Ws{E:bz}{s:ο}{Q:bz}(hh:A.handled=η)(hS:f7 s.heap S (jx w) ks)(hn:↑ks<64)
  (h:∀(h':Α)(tk:Nat)(r:Y)(out:Array O)(cM:-Int)(e:Nat),(∀b ob,s.heap.get? b=Z ob->h'.get? b=Z ob)->⇑s<=r->h'.get? r=Z (seqObj "list" out e)->IntsAre out.toList cM->cM.Perm ks->cM.Pairwise (· <= ·)->Q (.ref r) {s with heap:=h',toks:=tk}) :
  ρ (ς prog w) A (call (.builtin "sorted") [.ref S]) Q E s:=by
 let⟨o,es,ep,t,ho,hex,hd,T⟩:=hS;let hsz:=T.num;let lS:S<⇑s:=q0h ho;calc q29 q5Q q5j q5k (q6S _) ?_;unfold Builtin.«sorted»;calc Aw (m:=checkCount "sorted" 1 1 _) (Ui ?_);calc Aw (RY (by simp[hh]) ho hex hd T ⋯ λh1 ky qO le=>?_);let allI:∀e∈(jy w S ep es).toList,∃k tk,e=(hashInt k,q1m k tk):=λe he=>T.uv e ((C2 w S ep es).mem_iff.mp he);let hI:IntsAre ((jy w S ep es).toList.map (·.2)) ((jy w S ep es).toList.map keyOf):=ints_of allI;let hP:((jy w S ep es).toList.map keyOf).Perm ks:=((C2 w S ep es).map keyOf).trans T.keys;let hL:↑((jy w S ep es).toList.map (·.2))=↑ks:=by rw[ye,q0k,Ag,hsz]
 generalize(jy w S ep es).toList.map (·.2)=vs at hI hL ⊢;generalize(jy w S ep es).toList.map keyOf=ns at hI hP;calc Aw (q2X ?_);let kB:(h1.push (seqObj "list" vs.toArray 0)).get? h1.objs.size=Z (seqObj "list" vs.toArray 0):=q0f _ U;calc Aw (q0R (q1y (s:={s with heap:=h1.push (seqObj "list" vs.toArray 0),toks:=ky}) q4z ⟨_,kB,U⟩ q37 (list_sort_tree kB hI ⋯ λout cM a1 a2 a3=>⟨_,U,?_⟩) (q5R _)));let⟨e,he⟩:=sortedHeap_at (out:=out) kB;calc Ui ⟨_,U,h _ _ _ out cM e (λb ob eb=>?_) le he a1 (a2.trans hP) a3⟩;let hb:b<h1.objs.size:=q0h (qO b ob eb);rw[sortedHeap_old (q0o hb) (by rw[size_push'];calc q0Z hb)]
 calc Lm _ (qO b ob eb)
end
end LJS
namespace L2
open PySem PySem.Spec PyProof.Rows
meta def wQ(led:Bool)(S:Y)(ks:-Int):HO:=.ext λh=>LJS.f7 h S led ks
def Wt{P:ψ}{w:ω}{H:Hp}{h:Α}{S:Y}{led:Bool}{ks:-Int}(e:LJS.f7 h S led ks):bO P w H h S (wQ led S ks) :=
 ⟨e,let⟨o,_,_,_,ho,_⟩:=e;⟨o,ho⟩,λh1 h2 e1 k=>LJS.CZ e1 λo eo=>k o eo⟩
meta def g7(ns:-Int):-Int:=LJS.kz ns ↑ns
section
variable{X:Cx}
def Wu(hc:X.calm=θ):hU X (.builtin "sorted") (λxs H Q=>∃(p:Y)(ks:-Int),xs=[.ref p]/\H p=Z (wQ (LJS.jx X.w) p ks)/\↑ks<64/\∀r (cM:-Int),cM.Perm ks->cM.Pairwise (· <= ·)->H r=η->Q (.ref r) (upd H r (.lst (cM.map V.int)))):=by
 ext pins s σ H xs us Q I r h;let⟨p,ks,rfl,hp,hn,q⟩:=h;let⟨u,rfl,rx⟩:=vals1 r;cases rx
 let⟨se,_⟩:=I.bu p _ hp;calc LJS.Ws (I.ok.hd hc) se hn λh' tk r out cM e kp le he hI pm pw=>⟨.ref r,_,I.laid   kp le ?_,U,q _ cM pm pw (I.bu.fresh le)⟩;calc⟨q1e (mW (by rw[ye,pm.length_eq];symm)),out.toList,e,AL hI,?_⟩;symm
end
end L2
namespace LJS
open PySem PySem.SetTable PyProof.Rows
end LJS
namespace L2
open PySem PySem.Spec PyProof.Rows
variable[zt:ba]
meta def Wv:-D->Option (-(Int×Int))
 |[]=>Z []
 |.tup [.int i,.int j]::r=>match Wv r with
  |some ps=>Z ((i,j)::ps)
  |none=>η
 |_=>η
meta def Fj(ps:-(Int×Int)):Nat->-(Int×Int)
 |0=>[]
 |i+1=>if ps.getD i (0,0)∈Fj ps i then Fj ps i else Fj ps i++[ps.getD i (0,0)]
section
variable{X:Cx}{fa:WA}
def M0{F}:∀{ps:-(Int×Int)}{vs},aA F (ps.map λp=>D.tup [.int p.1,.int p.2]) vs->∃as:-Y,vs=as.map V.ref/\↑as=↑ps/\∀(i:Nat) a k,as[i]?=Z a->ps[i]?=Z k->F a=Z (.tup [.int k.1,.int k.2])
 |[],vs,h=>by
  let h:=by simpa only [q19,aA] using h
  subst h;exact⟨[],U,U,λi a k e=>by simp at e⟩
 |p::r,vs,h=>by
  let⟨v,r',rfl,h1,h2⟩:=h;let⟨as,rfl,hl,g⟩:=M0 h2;let⟨a,us,rfl,e1,e2⟩:=h1;let⟨_,_,rfl,rfl,_,_,rfl,rfl,rfl⟩:=e2;refine⟨a::as,U,by rw[Uh,Uh,hl],λi b k eb ek=>?_⟩
  cases i with
  |zero =>
   cases eb⁻¹
   cases ek⁻¹
   exact e1
  |succ i=>calc g i b k eb⁻¹ ek⁻¹
end
end L2
namespace HT
open PySem PySem.Spec PyProof.Rows
section
variable{prog:ψ}{w:ω}{A:Β}{E:bz}{s:ο}
def Ww{t b}{ws:-O}{Q:bz}(ht:IsTup s.heap t #[])(hb:IsTup s.heap b ws.toArray)(h:Q (.ref b) s):ρ (ς prog w) A (binaryOp .Add (.ref t) (.ref b)) Q E s:=by
 calc wd λrM=>?_;let⟨⟨cls,dd,data,sl⟩,ho,hc,n,hd⟩:=id ht;let⟨⟨uQ,lA,data2,mU⟩,gx,jP,n2,hd2⟩:=id hb;subst hc hd jP hd2
 exact rM <| q6F ⟨_,ho,U⟩ ⟨_,gx,U⟩ q43 q5_ q3y q3m (q3a _ _)
  (tuple_addW0 t b #[] ws.toArray n n2 dd lA sl mU U) ⟨ho,gx,h⟩
def Wx{t sl items vl vu lo hi}{Q:bz}(ht:IsTup s.heap t items)(hs:s.heap.IsSliceOf sl vl vu .none)(pl:IsPart vl lo)(pu:IsPart vu hi)
  (hw:bS items.size 0 lo=0/\bS items.size items.size hi=items.size) (h:Q (.ref t) s):ρ (ς prog w) A (getItem (.ref t) (.ref sl)) Q E s:=by
 let⟨os,uR,wa,x9⟩:=id hs;unfold getItem
 try with_reducible refine q0R ?_
 first|rfl|skip
 refine Aw (q6G ht.typeIs (by decide) (Aw (q1V  ht.typeIs q1o
  (q1y q1o ht.typeIs q5X ?_ (q6n _ _)))))
 show ρ _ _ (q4x (.ref t) >>= _) _ _ s;calc Aw (tupleItemsOf_ ht (Aw (q4d ⟨os,uR,wa⟩ (Aw (K6 hs pl pu ?_)))));show ρ _ _ (if(((bS items.size 0 lo):Int)==0&&1==1&&(bS items.size items.size hi-bS items.size 0 lo)==items.size)=θ then _ else _) _ _ s;rw[q0r (by rw[hw.1,hw.2];simp)];calc Aw (Aw (q4d ht.typeIs (Ui (Aw (q4s (Ui ⟨_,U,Ui h⟩))))))
end
end HT
namespace L2
open PySem PySem.Spec PyProof.Rows
section
variable[zt:ba]
section
variable{X:Cx}{e:υ}{te:TE}{pos p2 p3 p4:Δ}
/---/def Wz(K:q0b):V->Option Int->Option Int->Hp->VK->Prop:=λx lo hi H Q=>∃a xs,x=.ref a/\cA K H a xs ∧
 (HT.bS ↑xs 0 lo=0/\HT.bS ↑xs ↑xs hi=↑xs->Q (.ref a) H)/\(¬ (HT.bS ↑xs 0 lo=0/\HT.bS ↑xs ↑xs hi=↑xs)->∀p,H p=η->Q (.ref p) (upd H p (.tup (fw xs lo hi))))
def WB:tM X (Wz X.K):=by
 ext pins s σ H x v vl vu lo hi sl Q I rx hs pl pu h;let⟨a,xs,rfl,hx,q1,q2⟩:=h
 by_cases hw:HT.bS ↑xs 0 lo=0/\HT.bS ↑xs ↑xs hi=↑xs
 .cases rx
  let⟨aM,r,ht,hz⟩:=I.tuple hx;let hlen:aM.toArray.size=↑xs:=r.length.symm;exact⟨"tuple",_,q1o.lookup,ht.typeIs,HT.Wx ht hs pl pu (by rw[hlen];calc hw) ⟨.ref a,H,I,U,q1 hw⟩⟩
 .calc T4 pins s σ H _ v vl vu lo hi sl Q I rx hs pl pu ⟨a,xs,U,hx,hw,q2 hw⟩
def z1x:fJ X (binaryOp .Add) (λx y H Q=>∃a b ys,x=.ref a/\y=.ref b/\cA X.K H a []/\cA X.K H b ys/\Q (.ref b) H):=by
 ext pins s σ H x y v u Q I rx ry h;let⟨a,b,ys,rfl,rfl,ha,hb,q⟩:=h;cases rx
 cases ry
 let⟨aM,r1,p1,_⟩:=I.tuple ha;let⟨bY,r2,p2,_⟩:=I.tuple hb;let:=r1.gM.mpr U;subst this;calc HT.Ww p1 p2 ⟨.ref b,H,I,U,q⟩
def WC:fJ X (compareOp .Is) (λx y H Q=>∃a b,x=.bl a/\y=.bl b/\Q (.bl (a==b)) H):=by
 ext pins s σ H x y v u Q I rx ry h;let⟨a,b,rfl,rfl,q⟩:=h;cases rx
 cases ry
 calc Ui ⟨.bl (a==b),H,I,by cases a<;>cases b<;>rfl,q⟩
def WD:fJ X (compareOp .IsNot) (λx y H Q=>∃a b,x=.bl a/\y=.bl b/\Q (.bl (!(a==b))) H):=by
 ext pins s σ H x y v u Q I rx ry h;let⟨a,b,rfl,rfl,q⟩:=h;cases rx
 cases ry
 calc Ui ⟨.bl (!(a==b)),H,I,by cases a<;>cases b<;>rfl,q⟩
/---/def dI:D->D->(D->Prop)->Prop
 |.int i,.int j,K=>K (.int (i+j))
 |.lst a,.lst b,K=>↑a+↑b<=1000/\K (.lst (a++b))
 |.tup a,.tup b,K=>↑a+↑b<=1000/\K (.tup (a++b))
 |.str a,.str b,K=>↑a+↑b<=1000/\K (.str (a++b))
 |_,_,_=>False
def pW:gA X (binaryOp .Add) dI:=by
 ext pins s σ H x y v u Q I rx ry ⟨F,d,e,K,sub,rd,re,q,md⟩;unfold dI at q;split at q
 .exact A1 pins s σ H x y v u Q I rx ry ⟨F,_,_,K,sub,rd,re,q,md⟩
 .exact A1 pins s σ H x y v u Q I rx ry ⟨F,_,_,K,sub,rd,re,q,md⟩
 .rename_i as bs
  by_cases c:as=[]
  .calc wd λrN=>?_;subst c
   let M3:=re;let WH:=M3;let⟨a,us,rfl,h1,h2⟩:=rd;let⟨b,ws,rfl,h3,h4⟩:=M3;let:=by simpa only [aA] using h2
   subst this;exact rN <| z1x pins s σ H _ _ v u Q I rx ry ⟨a,b,ws,U,U,cA.of (sub _ _ h1),cA.of (sub _ _ h3),md _ _ _ q.2 (λ_ _ e=>e) (yV sub WH)⟩
  .exact A1 pins s σ H x y v u Q I rx ry ⟨F,_,_,K,sub,rd,re,⟨⟨c,q.1⟩,q.2⟩,md⟩
 .exact A1 pins s σ H x y v u Q I rx ry ⟨F,_,_,K,sub,rd,re,q,md⟩
 .calc q.elim
/---/def vw:D->Option Int->Option Int->(D->Prop)->Prop
 |.lst ds,lo,hi,K=>K (.lst (cutD ds lo hi))
 |.tup ds,lo,hi,K=>K (.tup (cutD ds lo hi))
 |_,_,_,_=>False
/---/def j4(f:WE)(l h:WO):WE:=fun δ K=>f δ λx δ1=>l δ1 λlo δ2=>h δ2 λhi δ3=>kg x δ3 λd=>vw d lo hi λz=>K (.p z) δ3
def WJ{ds lo hi}(h:HT.bS ↑ds 0 lo=0/\HT.bS ↑ds ↑ds hi=↑ds):cutD ds lo hi=ds:=by
 unfold cutD;rw[h.1,h.2,q5G,q9c,q1i (Ln _)]
def Fl{e:υ}{f:WE}{lo hi:Option υ}{l h:WO}{pos p2:Δ}(he:JE X e (tD f))(hl:PO X lo (A5 l))(hh:PO X hi (A5 h)):JE X (.Subscript e (.Slice lo hi η p2) pos) (tD (j4 f l h)) :=
 (DO (iW.or WB) he hl hh).weak fun σ H Q ⟨F,ad,δ,K,S,q,k⟩=>⟨F,ad,δ,_,S,q,λx δ1 h1 v F1 br H1 E1 S1 V1=>⟨F1,br,δ1,_,S1,h1,λlo δ2 h2 F2 cR H2 E2 S2=>⟨F2,cR,δ2,_,S2,h2,λhi δ3 h3 F3 vj H3 E3 S3=>by
  let⟨d,h4,rd⟩:=l8 S3 ((V1.ext E2).ext E3) h3;let Fm:=(E1.trans E2).trans E3;unfold vw at h4;split at h4
  .let⟨a,vs,rfl,g1,g2⟩:=rd
   exact .inl ⟨a,vs,U,bR.of g1,λp hp=>k _ _ h4 _ _ _ _ (Fm.trans (Ext.al S3 (cU hp))) (S3.al (cU hp)) (nk S3.sub hp (MD g2 _ _))⟩
  .let h8:=rd
   let WK:=h8;let⟨a,vs,rfl,g1,g2⟩:=h8;refine .inr ⟨a,vs,U,cA.of (S3.sub _ _ g1),λhw=>?_,λ_ p hp=>?_⟩
   .rw[↑g2] at hw
    rw[WJ hw] at h4;exact k _ _ h4 _ _ _ _ Fm S3 WK
   .exact k _ _ h4 _ _ _ _ (Fm.trans (Ext.al S3 (cU hp))) (S3.al (cU hp)) (EZ S3.sub hp (MD g2 _ _))
  .calc h4.elim⟩⟩⟩
/---/def mB:D->D->(D->Prop)->Prop
 |.bl a,.bl b,K=>K (.bl (a==b))
 |d,e,K=>i9 d e K
/---/def wR:D->D->(D->Prop)->Prop
 |.bl a,.bl b,K=>K (.bl (!(a==b)))
 |d,e,K=>yX d e K
def Fp:gA X (compareOp .Is) mB:=by
 ext pins s σ H x y v u Q I rx ry ⟨F,d,e,K,sub,rd,re,q,md⟩;unfold mB at q;split at q
 .rename_i a b
  exact WC pins s σ H x y v u Q I rx ry ⟨a,b,rd,re,md _ _ _ q (λ_ _ e=>e) U⟩
 .calc VX pins s σ H x y v u Q I rx ry ⟨F,_,_,K,sub,rd,re,q,md⟩
def Fs:gA X (compareOp .IsNot) wR:=by
 ext pins s σ H x y v u Q I rx ry ⟨F,d,e,K,sub,rd,re,q,md⟩;unfold wR at q;split at q
 .rename_i a b
  exact WD pins s σ H x y v u Q I rx ry ⟨a,b,rd,re,md _ _ _ q (λ_ _ e=>e) U⟩
 .calc VY pins s σ H x y v u Q I rx ry ⟨F,_,_,K,sub,rd,re,q,md⟩
end
end
section
variable[zt:ba]{X:Cx}
/---/def Bf(_ j:Int):Prop:=j≠0/\j.natAbs<10 ^ 40
def WL:gA X (binaryOp .FloorDiv) (fX Bf λi j=>.int (i.fdiv j)):=E5 (Ap λi j _ _ _ _ _ hc q=>floordiv_int hc.1 q (.inl (PyProof.noPylong_of_log2 ((Nat.log2_lt (Int.natAbs_ne_zero.mpr hc.1)).mpr (q0v hc.2 ⋯))))) λ_ _ _=>U
end
end L2
open L2
open Lean in
local macro_rules
 |`(tactic|simp![$ls,*] $[$loc:location]?)=>do
  let t:=("q2s dep:2 cG:2 q0V Nat.max_self Nat.max_zero Nat.zero_max Nat.reduceLeDiff aD a8 dN Bc ay ai d1 d2 dC aa om:2 kg:3 pM:3 l9:2 bh.fix Mc:2 bQ dq pN dT wz:1 gb kR fR vd qU EA dX iI bc bP bL hZ:1 dB:1 iz i5 eZ dY pP dZ bZ yQ:3 m9 ES i8 ET:2 gg aL yM passes:4 lK:2 dy:1 q9:4 yL:1 bg:3 vo:4 dI:4 vw:2 j4 mB:1 wR:1 tT rA:1 fy:2 oI:1 fX:1 oEq jB oLt:2 i9 yX fY:2 cq:3 oC:2 y6:2 y7:1 A6:1 oB:1 kZ wM Fi j3 tX tZ g6:1 gh rF Fe E9 qZ ze bh.trim iK:2 AR:3 Option.join_some Option.join_none q0C q19 q45 q33 q2J q50 List.getElem?_cons_zero q46 List.getElem?_nil q1a q1b Uh q1p q5Z List.take_zero List.take_nil List.any_nil q2H Bool.not_false Bool.not_true q8p Bool.and_self q57 q1T Bool.true_eq_false q3e q2S true_and and_true and_self reduceCtorEq beq_self_eq_true q0D q8M Nat.reduceLT Nat.reduceEqDiff Nat.reduceSub ye Lo".splitOn " ").map (·.splitOn ":")
  let m:List String->MacroM (Syntax.TSepArray [`Lean.Parser.Tactic.simpStar,`Lean.Parser.Tactic.simpErase,`Lean.Parser.Tactic.simpLemma] ","):=λl=>do
   let a←l.toArray.mapM λs=>`(Parser.Tactic.simpLemma|$(mkIdent s.toName):ident)
   pure ⟨(Syntax.SepArray.ofElems (sep:=",") ((a.push (←`(Parser.Tactic.simpLemma|↓reduceIte))).map (·.raw)++ls.getElems.map (·.raw))).elemsAndSeps⟩
  let a←m (t.map (·.head!))
  let d←m (t.flatMap fun|[x,n]=>(List.range n.toNat!).map λk=>s!"{x}.eq_{k+1}"|x=>x)
  if loc.isSome then `(tactic|simp only[$a,*] $[$loc]?) else `(tactic|first|((set_option backward.dsimp.useDefEqAttr false in dsimp only[$(⟨d.elemsAndSeps⟩),*]);try simp only[$a,*])|simp only[$a,*])
local macro_rules | `(tactic| simp! $[$l:location]?) => `(tactic| simp! [] $[$l]?)
set_option maxHeartbeats 8000000
namespace LJ
open PySem L2
variable[zt:ba]
def M4{ns:-Int}{k}(h0:0<=k)(h1:k<(↑ns:Int)):∃n,eX (ns.map D.int) k=Z (.int n):=by
 let⟨i,rfl⟩:∃i:Nat,k=i:=⟨k.toNat,⋯⟩;let hi:i<↑ns:=by symm
 calc⟨ns[i],lB ?_⟩;rw[Uj,D9 hi];rfl
def cV{α}{x:α}{r}:eX (x::r) 0=Z x:=lB  U
def dz{α}{x y:α}{r}:eX (x::y::r) 1=Z y:=lB  U
def at2{α}{x y z:α}{r}:eX (x::y::z::r) 2=Z z:=lB  U
def zf{a b A B:Int}(h0:0<=a)(h1:a<=A)(h2:0<=b)(h3:b<=B):0<=a*b/\a*b<=A*B :=
 ⟨Int.mul_nonneg h0 h2,Int.mul_le_mul h1 h3 h2 ⋯⟩
meta def j5:-Int:=[2147483629,2147483587,2147483579,2147483563,2147483549,2147483543,2147483497,2147483489,2147483477,2147483423,2147483399,2147483353,2147483323]
def Ft n:∃q:Int,eX (j5.map D.int) (n%13)=Z (.int q)/\0<q/\q<2147483648:=by
 let h0:0<=n%13:=q2B _ (by decide);let h1:n%13<13:=q2b _ (by decide);generalize n%13=j at h0 h1;let⟨i,rfl⟩:∃i:Nat,j=i:=⟨j.toNat,⋯⟩;let hi:i<13:=by symm
 let hl:(j5.map D.int)[i]?=Z (.int (j5[i]'(hi))):=by
  rw[Uj,D9 (hi)];rfl
 calc⟨_,lB hl,?_⟩;let all:∀q∈j5,0<q/\q<2147483648:=by decide
 calc all _ (q1M _)
def WM:jA 3 1=Z 1:=rfl
def M5:jA 3 2=Z 2:=rfl
abbrev Sem(n m:Nat)(g:GD)(b:WS):Prop:=∀ys aE K',↑ys=n->g ys aE K'->b (qZ ↑aE K') ⟨ys.map Z++q0q m η,aE.map Z⟩
def bp{A B K δ}(h:∀N:bh->Prop,N=B K->A {K with nx:=N} δ):aD A B K δ:=h _ U
def gN{t G G' K δ}(h:∀A B:bh->Prop,A=G K->B=G' K->t δ λb δ1=>if b=θ then A δ1 else B δ1):bP t G G' K δ:=h _ _ U U
def oE{w g b K δ}(h:∀g' b' K',g'=g->b'=b->K'=K->w δ λit δ1=>m8 δ1 it.b8 g' b' K' it.items δ1):eZ w g b K δ:=h _ _ _ U U U
def wU{f g δ}{K:-DV->bh->Prop}(h:∀K',K'=(λx δ1=>g δ1 λxs δ2=>K (x::xs) δ2)->f δ K'):ay f g δ K:=h _ U
inductive Fu (ys:-DV) (aE:-OV) (K:RV->-OV->Prop):Prop
 |mk (cell at_:Int) (q:ys=[.p (.int cell),.p (.int at_)]) (q:aE=[]) (q:0<=at_) (q:at_<2 ^ 30) (q:∀z:Int,K (.p (.int z)) [])
/---/def Fv:WS:=(aD (bP (dT (d2 (aa 0) (d2 (dC (.int 10)) (dC (.int 18)) (fX iS λi j=>.int (i ^ j.toNat))) (oI λi j=>.bl (I (j<=i))))) (bc (aa 0)) dX) (aD (a8 2 (dq (ay (dC (.int 2147483629)) (ay (dC (.int 2147483587)) (ay (dC (.int 2147483579)) (ay (dC (.int 2147483563)) (ay (dC (.int 2147483549)) (ay (dC (.int 2147483543)) (ay (dC (.int 2147483497)) (ay (dC (.int 2147483489)) ai)))))))))) (aD (a8 2 (d2 (aa 2) (dq (ay (dC (.int 2147483477)) (ay (dC (.int 2147483423)) (ay (dC (.int 2147483399)) (ay (dC (.int 2147483353)) (ay (dC (.int 2147483323)) ai)))))) dI)) (aD (a8 3 (d2 (d2 (d2 (d2 (d2 (d2 (aa 0) (dC (.int 1000000007)) (fX (λ_ j=>0<j) λi j=>.int (i%j))) (d2 (d2 (dC (.int 2)) (aa 1) fy) (dC (.int 69069)) dI) fy) (d2 (aa 1) (dC (.int 40503)) fy) dI) (dC (.int 977)) dI) (dC (.int 3)) (fX iS λi j=>.int (i ^ j.toNat))) (d2 (aa 2) (d2 (aa 1) (dC (.int 13)) (fX (λ_ j=>0<j) λi j=>.int (i%j))) bg) (fX (λ_ j=>0<j) λi j=>.int (i%j)))) (aD (a8 4 (d2 (d2 (d2 (d2 (d2 (aa 3) (d2 (aa 1) (dC (.int 3)) dI) fy) (d2 (aa 0) (dC (.int 65537)) (fX (λ_ j=>0<j) λi j=>.int (i%j))) dI) (dC (.int 5)) dI) (dC (.int 5)) (fX iS λi j=>.int (i ^ j.toNat))) (d2 (aa 2) (d2 (d2 (aa 1) (dC (.int 5)) dI) (dC (.int 13)) (fX (λ_ j=>0<j) λi j=>.int (i%j))) bg) (fX (λ_ j=>0<j) λi j=>.int (i%j)))) (aD (a8 5 (d2 (d2 (d2 (d2 (aa 4) (d2 (aa 3) (dC (.int 1009)) (fX (λ_ j=>0<j) λi j=>.int (i%j))) dI) (aa 1) dI) (dC (.int 3)) (fX iS λi j=>.int (i ^ j.toNat))) (d2 (aa 2) (d2 (d2 (aa 1) (dC (.int 7)) dI) (dC (.int 13)) (fX (λ_ j=>0<j) λi j=>.int (i%j))) bg) (fX (λ_ j=>0<j) λi j=>.int (i%j)))) (bc (d2 (d2 (d2 (d2 (aa 3) (dC (.int 2147483647)) fy) (aa 4) dI) (dC (.int 2147483647)) fy) (aa 5) dI))))))))
def WN:Sem 2 4 Fu Fv:=by
 ext ys aE K'-⟨cell,k,rfl,rfl,h0,h1,fin⟩;unfold Fv;let oF:∀z sl,jZ 0 K' (.p (.int z)) ⟨sl,[]⟩:=λz sl=>⟨[],U,U,fin z⟩;simp! at ⊢;calc⟨⟨by decide,by decide,by decide⟩,?_⟩;split
 .exact oF _ _
 let⟨q1,e1,p1,b1⟩:=Ft k;let⟨q2,e2,p2,b2⟩:=Ft (k+5);let⟨q3,e3,p3,b3⟩:=Ft (k+7);erw[j5,q0C,q19] at e1 e2 e3;erw[e1,e2,e3];let c0:0<=cell%1000000007:=q2B _ (by decide);let m1:=zf c0 (q9y (q2b _ (by decide))) ⋯ (show 2*k+69069<=2147552717 by symm);refine⟨by decide,.inl ⟨by decide,by decide⟩,.inl ⟨⋯,⋯⟩,.inr ⟨by decide,by decide⟩,⟨by decide,by decide,?cp1⟩,by decide,p1,?_⟩
 case cp1 =>
  symm
 generalize(cell%1000000007*(2*k+69069)+k*40503+977) ^ (3:Int).toNat=x1;let o0:0<=x1%q1:=q2B _ ⋯;let o1:x1%q1<q1:=q2b _ p1;let m2:=zf o0 (show x1%q1<=2147483648 by symm) ⋯ (show k+3<=1073741827 by symm);refine⟨.inl ⟨⋯,⋯⟩,by decide,⟨by decide,by decide,?cp2⟩,by decide,p2,?_⟩
 case cp2 =>
  symm
 let t0:0<=(x1%q1*(k+3)+cell%65537+5) ^ (5:Int).toNat%q2:=q2B _ ⋯;let t1:(x1%q1*(k+3)+cell%65537+5) ^ (5:Int).toNat%q2<q2:=q2b _ p2;calc⟨by decide,⟨by decide,by decide,⋯⟩,by decide,p3,.inr ⟨by decide,by decide⟩,.inr ⟨by decide,by decide⟩,oF _ _⟩
meta def mC(ns:-Int)(k z:Int):OV:=.lst [.lst (ns.map D.int),.int k,.int z]
structure bH(n:Int)(o:OV):Prop where
 out:∃ns k z,o=mC ns k z/\↑ns<=63/\0<=k/\k<=n
def bH.mono{n m:Int}{o:OV}(h:bH n o)(l:n<=m):bH m o:=by
 let⟨ns,k,z,e,h1,h2,h3⟩:=h.out;calc⟨ns,k,z,e,h1,h2,⋯⟩
inductive Fw (ys:-DV) (aE:-OV) (K:RV->-OV->Prop):Prop
 |mk (n) (o) (q:ys=[.o 0]) (q:aE=[o]) (q:bH n o) (q:∀o',bH n o'->K (.a 0) [o'])
/---/def M6:WS:=(aD (tZ (dC (.int 0)) (aa 0) (dC (.int 2))) (bc (aa 0)))
def WQ:Sem 1 0 Fw M6:=by
 ext ys aE K'-⟨n,o,rfl,rfl,P,fin⟩;let⟨ns,k,z,rfl,h1,h2,h3⟩:=P.out;calc⟨[mC ns k 0],U,U,fin _ ⟨ns,k,0,U,h1,h2,h3⟩⟩
inductive g8 (ys:-DV) (aE:-OV) (K:RV->-OV->Prop):Prop
 |mk (n m:Int) (o:OV) (q:ys=[.o 0,.p (.int m)]) (q:aE=[o]) (q:bH n o) (q:n<2 ^ 30) (q:0<m) (q:m<10 ^ 40) (q:∀r o',0<=r->r<m->bH (n+1) o'->K (.p (.int r)) [o'])
/---/def Fy:WS:=(aD (bP (dT (d2 (d2 (aa 0) (dC (.int 2)) bg) (aa 1) oLt)) (aD (a8 2 (d2 (aa 0) (dC (.int 1)) bg)) (aD (a8 3 (dC (.int 0))) (aD (bP (dT (d2 (aa 2) (dN (ay (d2 (aa 0) (dC (.int 0)) bg) ai) cq) oLt)) (a8 3 (d2 (d2 (aa 0) (dC (.int 0)) bg) (aa 2) bg)) (bP (dT (d2 (dN (ay (d2 (aa 0) (dC (.int 0)) bg) ai) cq) (dC (.int 0)) (oI λi j=>.bl (I (j<i))))) (a8 3 (d2 (d2 (d2 (aa 0) (dC (.int 0)) bg) (d2 (d2 (d2 (aa 2) (dC (.int 5)) fy) (dC (.int 3)) dI) (dN (ay (d2 (aa 0) (dC (.int 0)) bg) ai) cq) (fX (λ_ j=>0<j) λi j=>.int (i%j))) bg) (d2 (d2 (dC (.int 10)) (dC (.int 17)) (fX iS λi j=>.int (i ^ j.toNat))) (aa 2) dI) (fX (λ_ j=>0<j) λi j=>.int (i%j)))) dX)) (aD (tZ (d2 (aa 2) (dC (.int 1)) dI) (aa 0) (dC (.int 1))) (tZ (aL 2 Fu (ay (aa 3) (ay (aa 2) ai))) (aa 0) (dC (.int 2))))))) dX) (aD (a8 4 (d2 (d2 (aa 0) (dC (.int 2)) bg) (aa 1) (fX (λ_ j=>0<j) λi j=>.int (i%j)))) (aD (tZ (d2 (d2 (aa 0) (dC (.int 2)) bg) (aa 1) (fX Bf λi j=>.int (i.fdiv j))) (aa 0) (dC (.int 2))) (bc (aa 4)))))
def WR:Sem 2 3 g8 Fy:=by
 ext ys aE K'-⟨n,m,o,rfl,rfl,P,hn,M7,hm1,fin⟩;let⟨ns,k,z,rfl,h1,h2,h3⟩:=P.out;unfold Fy mC
 let last:∀k' z' sl,0<=k'->k'<=n+1->jZ 1 K' (.p (.int (z'%m))) ⟨sl,[Z (.lst [.lst (ns.map D.int),.int k',.int (z'.fdiv m)])]⟩:=λk' z' sl a b =>
  ⟨[mC ns k' (z'.fdiv m)],U,U,fin _ _ (q2B _ ⋯) (q2b _ M7) ⟨ns,k',_,U,h1,a,b⟩⟩
 let WU:∀z,Bf z m:=λz=>⟨⋯,⋯⟩
 let rest:∀k' z' s2 s3 s4,0<=k'->k'<=n+1->(aD (a8 4 (d2 (d2 (aa 0) (dC (.int 2)) bg) (aa 1) (fX (λ_ j=>0<j) λi j=>.int (i%j)))) (aD (tZ (d2 (d2 (aa 0) (dC (.int 2)) bg) (aa 1) (fX Bf λi j=>.int (i.fdiv j))) (aa 0) (dC (.int 2))) (bc (aa 4)))) (qZ 1 K') ⟨[Z (.o 0),Z (.p (.int m)),s2,s3,s4],[Z (.lst [.lst (ns.map D.int),.int k',.int z'])]⟩:=λk' z' s2 s3 s4 a b=>by
  exact⟨M7,WU _,last _ _ _ a b⟩
 calc bp λN hN=>gN λA B hA hB=>?_;simp![at2] at ⊢;split
 .subst hA
  calc bp λN2 ja=>?_;simp![dz];subst ja;calc bp λN2 ja=>?_;simp!;subst ja;refine bp λN2 ja=>?_
  let go:∀c s4,N2 ⟨[Z (.o 0),Z (.p (.int m)),Z (.p (.int k)),Z (.p (.int c)),s4],[Z (.lst [.lst (ns.map D.int),.int k,.int z])]⟩:=λc s4=>by
   subst ja;simp![WM];calc⟨c,k,U,U,h2,⋯,λz'=>?_⟩;subst hN;exact rest _ _ _ _ _ ⋯ ⋯
  calc gN λA B hA hB=>?_;simp![cV] at ⊢;split
  .rename_i eV
   let⟨c,ec⟩:=M4 h2 (q00 eV);subst hA;simp![cV];rw[ec];exact go _ _
  .subst hB
   calc gN λA B hA hB=>?_;simp![cV] at ⊢;split
   .rename_i rO
    let rO:=q00 rO;let⟨c,ec⟩:=M4   (q2B _ ⋯) (q2b _ rO);subst hA;simp![cV];calc⟨.inr ⟨by decide,by decide⟩,rO,?_⟩;rw[ec];exact⟨⟨by decide,by decide,by decide⟩,by show 0<10 ^ 17+k;symm,go _ _⟩
   .subst hB
    exact go _ _
 .subst hB hN
  calc rest _ _ _ _ _ ⋯ ⋯
meta def d6(p:Int×Int):D:=.tup [.int p.1,.int p.2]
structure fh(many:Int)(ps:-(Int×Int)):Prop where
 ends:∀p∈ps,0<=p.1/\p.1<p.2/\p.2<many
 nH:ps.Nodup
 jF:↑ps<=66
def fh.sub{many ps qs}(h:fh many ps)(s:qs.Sublist ps):fh many qs :=
 ⟨λp hp=>h.ends p (s.subset hp),h.nH.sublist s,q0N s.length_le h.jF⟩
inductive FA (ys:-DV) (aE:-OV) (K:RV->-OV->Prop):Prop
 |mk (n kind many:Int) (o:OV) (q:ys=[.o 0,.p (.int kind),.p (.int many)]) (q:aE=[o]) (q:bH n o) (q:n+100<2 ^ 30) (q:1<=many) (q:many<=12) (q:∀ps o',fh many ps->bH (n+67) o'->K (.n (ps.map d6)) [o'])
/---/def FC:WS:=(aD (a8 3 (pN ai)) (aD (eZ (m9 (ay (aa 2) ai)) (bL 4) (iI (rF (aa 3) (ay (dY (m9 (ay (aa 4) ai)) [η,Z 4] (bL 0) dZ (bQ (ay (aa 0) (ay (aa 1) ai)))) ai)))) (aD (bP (dT (d2 (aa 1) (dC (.int 1)) oEq)) (bc (pP (ES (ay (dC (.int 1)) (ay (aa 2) ai))) [η,Z 0] (bL 0) dZ (bQ (ay (aL 2 g8 (ay (aa 1) (ay (aa 0) ai))) (ay (aa 0) ai))))) dX) (aD (bP (dT (d2 (aa 1) (dC (.int 2)) oEq)) (aD (a8 5 (dY (m9 (ay (d2 (aa 2) (dC (.int 1)) (oI λi j=>.int (i-j))) ai)) [η] (bL 0) dZ (bQ (ay (aa 0) (ay (d2 (aa 0) (dC (.int 1)) dI) ai))))) (bc (Fi (aa 5) (dY (bZ (aa 3)) [η,Z 2] (bL 0) (gb (dT (d2 (aa 0) (bQ (ay (dC (.int 0)) (ay (d2 (aa 1) (dC (.int 1)) (oI λi j=>.int (i-j))) ai))) oEq)) (dT (d2 (aa 1) (dC (.int 2)) (oI λi j=>.bl (I (j<i)))))) (aa 0))))) dX) (aD (bP (dT (d2 (aa 1) (dC (.int 3)) oEq)) (bc (aa 3)) dX) (aD (bP (dT (d2 (aa 1) (dC (.int 4)) oEq)) (bc (pP (bZ (aa 3)) [η,Z 0] (bL 0) (dT (d2 (aL 2 g8 (ay (aa 1) (ay (dC (.int 4)) ai))) (dC (.int 0)) oEq)) (aa 0))) dX) (aD (bP (dT (d2 (aa 1) (dC (.int 5)) oEq)) (aD (a8 6 (aL 2 g8 (ay (aa 0) (ay (d2 (aa 2) (dC (.int 1)) dI) ai)))) (bc (pP (bZ (aa 3)) [η,Z 6,Z 0] (bL 0) (gb (dT (d2 (d2 (d2 (aa 0) (dC (.int 0)) bg) (aa 1) oLt) (d2 (d2 (aa 0) (dC (.int 1)) bg) (aa 1) oLt) oEq)) (dT (d2 (aL 2 g8 (ay (aa 2) (ay (dC (.int 3)) ai))) (dC (.int 0)) (oI λi j=>.bl (I (j<i)))))) (aa 0)))) dX) (bc (pP (bZ (aa 3)) [η,Z 0] (bL 0) (dT (d2 (aL 2 g8 (ay (aa 1) (ay (dC (.int 2)) ai))) (dC (.int 0)) oEq)) (aa 0))))))))))
def sub_snoc{α:Type}{zs ps:-α}{i x}(h:zs.Sublist (ps.take i))(e:ps[i]?=Z x):(zs++[x]).Sublist (ps.take (i+1))/\zs.Sublist (ps.take (i+1)):=by
 let:ps.take (i+1)=ps.take i++[x]:=by rw[q2w,e];rfl
 rw[this];calc⟨h.append (q6T _),h.trans (List.sublist_append_left _ _)⟩
def WV{α:Type}{l:-α}{c}(h:l.Nodup)(hc:∀x∈l,x=c):↑l<=1:=by
 match l,h,hc with
 |[],_,_=>exact q0V _
 |[_],_,_=>exact Ln _
 |x::y::r,h,hc =>
  let:=(q05.mp h).1 y (q0d);calc absurd ((hc x q0d).trans (hc y (q0p _ q0d)).symm) this
def FD{n o ps t K rest ev b8}(hc:∀sl o',b8 ⟨sl,[Z o',ev]⟩)(hw:↑ps<=66)(P:bH n o)(hn:n+70<2 ^ 30)
  (ht:∀p (i:Nat) o' Q,p∈ps->i<=66->bH (n+i) o'->(∀b oG,bH (n+i+1) oG->Q b ⟨Z (.p (d6 p))::rest,[Z oG,ev]⟩)->t ⟨Z (.p (d6 p))::rest,[Z o',ev]⟩ Q)
  (hr:iK 2 rest rest=rest)
  (fin:∀(zs:-(Int×Int)) o',zs.Sublist ps->bH (n+↑ps) o'->K (zs.map d6) ⟨η::rest,[Z o',ev]⟩) :
  lJ ⟨η::rest,[Z o,ev]⟩ b8 (bL 0) t (aa 0) K (ps.map d6) [] ⟨η::rest,[Z o,ev]⟩:=by
 refine Ba (λi acc δ=>∃(zs:-(Int×Int))(o':OV),zs.Sublist (ps.take i)/\acc=zs.map d6/\bH (n+i) o'/\δ=⟨η::rest,[Z o',ev]⟩) ⟨[],o,q6T _,U,P.mono ⋯,U⟩ ?_ ?_
 .ext j d acc δ L hj ⟨zs,o',hz,rfl,P',rfl⟩ hL
  rw[Uj] at hj;let⟨p,hp,rfl⟩:=q0e.mp hj;let hjl:=(Ll.mp hp).1;refine⟨hc _ _,ht p j o' _ (q0I hp) ⋯ P' λb oG rP=>?_⟩
  let hlen:↑(zs.map d6)<1000:=by
   rw[ye];let:=hz.length_le;rw[q0K] at this;symm
  let P3:bH (n+(j+1)) oG:=rP.mono ⋯
  cases b with
  |true =>
   calc⟨hlen,hL _ _ ⟨zs++[p],oG,(sub_snoc hz hp).1,by rw[q0s];rfl,P3,?_⟩⟩;show(⟨η::iK 2 rest rest,_⟩:bh)=_;rw[hr];rfl
  |false =>
   calc hL _ _ ⟨zs,oG,(sub_snoc hz hp).2,U,P3,?_⟩;show(⟨η::iK 2 rest rest,_⟩:bh)=_;rw[hr];rfl
 .ext acc δ ⟨zs,o',hz,rfl,P',rfl⟩
  rw[ye] at P' hz;rw[q1i (Ln _)] at hz;calc⟨hc _ _,fin zs o' hz P'⟩
def WW:Sem 3 4 FA FC:=by
 ext ys aE K'-⟨n,kind,many,o,rfl,rfl,P,hn,m1,fW,fin⟩;let⟨mm,rfl⟩:∃mm:Nat,many=mm:=⟨many.toNat,⋯⟩;let FE:mm<=12:=by symm
 unfold FC;let de:fh mm (lC mm):=⟨λp hp=>Eu hp,L0 mm,L1 mm FE⟩;calc bp λN hN=>?_;simp!;subst hN;calc bp λN hN=>?_;simp!;calc⟨⋯,?_⟩;refine mz (λi δ=>δ=⟨[Z (.o 0),Z (.p (.int kind)),Z (.p (.int mm)),Z (.o 1),η,η,η],[Z o,Z (.lst ((lC i).map d6))]⟩) U ?_ ?_
 .ext j d δ L hj rfl hL
  let⟨hj,rfl⟩:=oy hj;simp!;let e:(0+(j:Int))=j:=by symm
  rw[e];refine⟨⋯,?_⟩
  refine nr (λd=>match d with
   |.int a=>d6 (a,j)
   |_=>.non) (by rw[m_];symm) trivial ?_ ?_
  .ext d hd acc L' ha h
   let⟨i,hi⟩:=q0m.mp hd;let⟨hi,rfl⟩:=oy hi;simp!;exact⟨ha,h⟩
  .let e2:(lC j).map d6++(dE 0 (j:Int).toNat).map (λd=>match d with
    |.int a=>d6 (a,j)
    |_=>.non)=(lC (j+1)).map d6:=by
    show _=(lC j++_).map d6;unfold dE;rw[q0s,q0y,q0y];congr 1;calc q02 λa _=>?_;simp[q8N]
   simp!;let l66:=L1 j ⋯;calc⟨by rw[m_];symm,?_⟩;rw[e2];exact hL _ U
 .ext δ rfl
  calc⟨trivial,?_⟩;subst hN;let eL:((mm:Int)).toNat=mm:=by symm
  rw[m_,eL];dsimp only
  let back:∀(ps:-(Int×Int))(o':OV)(sl:-(Option DV))(m:-(Option OV)),fh mm ps->bH (n+67) o'->jZ 1 K' (.o (↑m+1)) ⟨sl,Z o'::(m++[Z (.lst (ps.map d6))])⟩:=λps o' sl m h1 h2=>by
   calc⟨[o'],U,U,?_⟩;show if ↑m+1<1 then _ else _;rw[q0l ⋯]
   let:(Z o'::(m++[Z (OV.lst (ps.map d6))]))[↑m+1]?=Z (Z (.lst (ps.map d6))):=by
    rw[q46,q0i (Ln _),q1l];rfl
   dsimp only;rw[this];exact .inl (fin ps o' h1 h2)
  calc bp λN hN=>?_;simp![dEq] at ⊢;split
  .refine⟨⋯,?_⟩
   refine Ba (λi acc δ=>∃(zs:-(Int×Int))(o':OV),↑zs=i/\(∀(q:Nat)(p:Int×Int),zs[q]?=Z p->p.2=q+1/\0<=p.1/\p.1<p.2)/\acc=zs.map d6/\bH (n+i) o'/\δ=⟨[η,Z (.o 0)],[Z o',Z (.lst ((lC mm).map d6))]⟩) ⟨[],o,U,λq p e=>by simp at e,U,P.mono ⋯,U⟩ ?_ ?_
   .ext j d acc δ L hj ⟨zs,o',hz,hq,rfl,P',rfl⟩ hL
    let⟨hj,rfl⟩:=oy hj;simp!;calc⟨n+j,1+j,o',U,U,P',⋯,⋯,⋯,λr oG r0 r1 rP=>?_⟩;simp!;refine⟨⋯,hL _ _ ⟨zs++[(r,1+(j:Int))],oG,by rw[Lo,hz];rfl,λq p e=>?_,by rw[q0s];rfl,rP.mono ⋯,U⟩⟩
    by_cases c:q<↑zs
    .rw[q0a c] at e
     exact hq q p e
    .let hl:=(Ll.mp e).1
     rw[Lo,q0J] at hl;let:q=↑zs:=by symm
     subst this;rw[q0i (Ln _),q1l] at e;cases(show Z (r,1+(j:Int))=Z p by simpa using e)
     exact⟨by show 1+(j:Int)=_;symm,r0,r1⟩
   .ext acc δ ⟨zs,o',hz,hq,rfl,P',rfl⟩
    rw[m_] at hz P';calc⟨trivial,?_⟩;refine back zs o' _ [_] ⟨λp hp=>?_,?_,⋯⟩ (P'.mono ⋯)
    .let⟨q,tJ⟩:=q0m.mp hp
     let:=hq q p tJ;let hl:=(Ll.mp tJ).1;symm
    .refine q2z.mpr λi j hi hj k6 e=>?_
     let q1:=hq i _ (D9 hi);let q2:=hq j _ (D9 hj);rw[e] at q1;symm
  subst hN;calc bp λN hN=>?_;simp![dEq] at ⊢;split
  .clear hN
   refine⟨⋯,?_⟩
   refine nr (λd=>match d with
    |.int a=>d6 (a,a+1)
    |_=>.non) (by rw[m_];symm) trivial ?_ ?_
   .ext d hd acc L' ha h
    let⟨i,hi⟩:=q0m.mp hd;let⟨hi,rfl⟩:=oy hi;simp!;exact⟨ha,h⟩
   .simp!
    refine jC (λd=>dEq d (d6 (0,mm-1))&&I ((2:Int)<mm)) id (by rw[ye];let:=de.jF;symm) U ?_ ?_
    .ext d hd acc L' ha h h'
     let⟨p,hp,rfl⟩:=q0j.mp hd;erw[d6] at h h';simp![d6] at ⊢;split
     .rename_i q1
      split
      .rename_i q2
       exact⟨ha,h (by rw[q1,q2];rfl)⟩
      .rename_i q2
       exact h' (by rw[q1,q7c _ |>.mp q2];rfl)
     .rename_i q1
      exact h' (by rw[q7c _ |>.mp q1];rfl)
    .simp!
     let er:(dE 0 ((mm:Int)-1).toNat).map (λd=>match d with
       |D.int a=>d6 (a,a+1)
       |x=>D.non)=((q0F (mm-1)).map λi:Nat=>((i:Int),(i:Int)+1)).map d6:=by
      unfold dE;rw[q0y,q0y];let:((mm:Int)-1).toNat=mm-1:=by symm
      rw[this];calc q02 λa _=>?_;simp[q8N]
     let ef:(((lC mm).map d6).filter λd=>dEq d (d6 (0,mm-1))&&I ((2:Int)<mm))=((lC mm).filter λp=>dEq (d6 p) (d6 (0,mm-1))&&I ((2:Int)<mm)).map d6:=by
      rw[q1I];rfl
     rw[er,q3W,ef,<-q0s]
     let hf:∀p∈(lC mm).filter (λp=>dEq (d6 p) (d6 (0,mm-1))&&I ((2:Int)<mm)),p=(0,(mm:Int)-1)/\(2:Int)<mm:=λp hp=>by
      let:=(q0x.mp hp).2;simp[d6,dEq,cI] at this;let⟨a,b⟩:=p;simp at this ⊢;symm
     let h1:↑((lC mm).filter (λp=>dEq (d6 p) (d6 (0,mm-1))&&I ((2:Int)<mm)))<=1:=WV (de.nH.sublist q51) λp hp=>(hf p hp).1;refine⟨by rw[m_,ye];symm,back _ o _ [_] ⟨λp hp=>?_,?_,?_⟩ (P.mono ⋯)⟩
     .rcases q0w.mp hp with hp|hp
      .let⟨i,hi,rfl⟩:=q0j.mp hp
       let:=q0H.mp hi;exact⟨⋯,⋯,by show(i:Int)+1<mm;symm⟩
      .exact de.ends p (q0x.mp hp).1
     .refine q1k.mpr ⟨?_,de.nH.sublist q51,λa ha b hb e=>?_⟩
      .refine q1s.mpr (q3J.imp λ{a b} ne e=>ne ?_)
       let:=congrArg x0x e;exact q3S this
      .subst e
       let⟨i,hi,rfl⟩:=q0j.mp ha;let:=hf _ hb;let h2:=congrArg x0x this.1;let h3:=congrArg Prod.snd this.1;simp at h2 h3;symm
     .rw[Lo,ye,q03];symm
  subst hN;calc bp λN hN=>?_;simp![dEq] at ⊢;split
  .exact⟨[o],U,U,.inl (fin _ _ de (P.mono ⋯))⟩
  subst hN;calc bp λN hN=>?_;simp![dEq] at ⊢;split
  .refine FD (λ_ _=>U) de.jF P ⋯ (λp i o' Q hp hi P' hQ=>?_) U λzs o' hz P'=>?_
   .simp![dEq]
    calc⟨n+i,4,o',U,U,P',⋯,⋯,⋯,λr oG r0 r1 rP=>?_⟩;simp!;exact hQ _ _ rP
   .exact back zs o' _ [_] (de.sub hz) (P'.mono (by let:=de.jF;symm))
  subst hN;calc bp λN hN=>?_;simp![dEq] at ⊢;split
  .refine⟨n,mm+1,o,U,U,P,⋯,⋯,⋯,λhalf o1 r0 r1 P1=>FD  (λ_ _=>U) de.jF P1 ⋯ (λp i o' Q hp hi P' hQ=>?_) U λzs o' hz P'=>?_⟩
   .simp![dEq,d6,cV,dz] at ⊢
    split
    .exact⟨n+1+i,3,o',U,U,P',⋯,⋯,⋯,λr oG r0 r1 rP=>hQ _ _ rP⟩
    .exact hQ _ _ (P'.mono ⋯)
   .exact back zs o' _ [_] (de.sub hz) (P'.mono (by let:=de.jF;symm))
  subst hN;refine FD (λ_ _=>U) de.jF P ⋯ (λp i o' Q hp hi P' hQ=>?_) U λzs o' hz P'=>?_
  .simp![dEq]
   calc⟨n+i,2,o',U,U,P',⋯,⋯,⋯,λr oG r0 r1 rP=>?_⟩;simp!;exact hQ _ _ rP
  .calc back zs o' _ [_] (de.sub hz) (P'.mono (by let:=de.jF;symm))
def M8{α:Type}:∀{l:-α}{j:Nat}(h:j<↑l),x2H (l[j]::l.eraseIdx j) l
 |x::r,0,h=>q4p _
 |x::r,j+1,h=>by
  let hj:=by simpa using h
  calc(q4r x r[j] _).trans ((M8 hj).cons x)
def M9{α β:Type}(f:α->β):∀(l:-α) j,(l.map f).eraseIdx j=(l.eraseIdx j).map f
 |[],_=>U
 |_::_,0=>U
 |x::r,j+1=>by
  show f x::(r.map f).eraseIdx j=f x::(r.eraseIdx j).map f;rw[M9 f r j]
meta def bK(y:Int×Int×Int):D:=.tup [.int y.1,.int y.2.1,.int y.2.2]
meta def a_(m:Int)(ys:-(Int×Int×Int)):D:=.tup [.int m,.tup (ys.map bK)]
meta def rQ(y:Int×Int×Int):Int×Int:=(y.1,y.2.1)
def fh.perm{many ps qs}(h:fh many ps)(p:qs.Perm ps):fh many qs :=
 ⟨λx hx=>h.ends x (p.mem_iff.mp hx),p.nodup_iff.mpr h.nH,by rw[p.length_eq];calc h.jF⟩
inductive FF (ys:-DV) (aE:-OV) (K:RV->-OV->Prop):Prop
 |mk (n fz most:Int) (o:OV) (q:ys=[.o 0,.p (.int fz),.p (.int most)]) (q:aE=[o]) (q:bH n o) (q:n+400<2 ^ 30) (q:1<=fz) (q:fz<=12) (q:0<=most) (q:most<=30) (q:∀m ws o',aH m ws->m<=fz->(↑ws:Int)<=most->bH (n+300) o'->K (.p (a_ m ws)) [o'])
/---/def FG:WS:=(aD (a8 3 (aL 2 g8 (ay (aa 0) (ay (dC (.int 8)) ai)))) (aD (a8 4 (aL 2 g8 (ay (aa 0) (ay (dC (.int 4)) ai)))) (aD (a8 5 (d2 (dC (.int 1)) (aL 2 g8 (ay (aa 0) (ay (aa 1) ai))) dI)) (aD (a8 6 (yM 3 FA (ay (aa 0) (ay (aa 3) (ay (aa 5) ai))))) (aD (a8 7 (pN ai)) (aD (eZ (m9 (ay (dN (ay (aa 2) (ay (dN (ay (aa 6) ai) cq) ai)) y7) ai)) (bL 8) (aD (i5 (Fe (aa 6) (ay (aL 2 g8 (ay (aa 0) (ay (dN (ay (aa 6) ai) cq) ai))) ai)) (iz 2 (dB (bL 9) (dB (bL 10) hZ)))) (aD (a8 11 (d2 (dq (ay (dC (.int 7)) (ay (aL 2 g8 (ay (aa 0) (ay (dC (.int 3)) ai))) (ay (d2 (d2 (dC (.int 10)) (dC (.int 9)) (fX iS λi j=>.int (i ^ j.toNat))) (aL 2 g8 (ay (aa 0) (ay (dC (.int 2)) ai))) (oI λi j=>.int (i-j))) (ay (aL 2 g8 (ay (aa 0) (ay (d2 (d2 (dC (.int 10)) (dC (.int 9)) (fX iS λi j=>.int (i ^ j.toNat))) (dC (.int 1)) dI) ai))) ai))))) (aa 4) bg)) (iI (gh (aa 7) (ay (bQ (ay (aa 9) (ay (aa 10) (ay (aa 11) ai)))) ai)))))) (bc (bQ (ay (aa 5) (ay (dN (ay (aa 7) ai) y6) ai))))))))))
def WX:Sem 3 9 FF FG:=by
 ext ys aE K'-⟨n,fz,most,o,rfl,rfl,P,hn,h1,WY,s0,s30,fin⟩;unfold FG;calc bp λN hN=>?_;simp!;calc⟨n,8,o,U,U,P,⋯,⋯,⋯,λkind o1 _ _ P1=>?_⟩;simp!;subst hN;calc bp λN hN=>?_;simp!;calc⟨n+1,4,o1,U,U,P1,⋯,⋯,⋯,λgi o2 p0 p4 P2=>?_⟩;simp!;subst hN;calc bp λN hN=>?_;simp!;calc⟨n+1+1,fz,o2,U,U,P2,⋯,⋯,⋯,λmm o3 m0 mh P3=>?_⟩;simp!;subst hN;calc bp λN hN=>?_;simp!;refine⟨n+1+1+1,kind,1+mm,o3,U,U,P3,⋯,⋯,⋯,λps o4 M_ P4=>?_⟩
 simp!;subst hN;calc bp λN hN=>?_;simp!;subst hN;calc bp λN hN=>?_;let f66:=M_.jF;simp!;calc⟨⋯,?_⟩;let ek:(min most (↑ps:Int)).toNat=min most.toNat ↑ps:=by symm
 rw[ek];generalize hk:min most.toNat ↑ps=k
 refine mz (λi δ=>∃(qs:-(Int×Int))(ws:-(Int×Int×Int))(o':OV),↑qs+i=↑ps/\↑ws=i/\fh (1+mm) (ws.map rQ++qs)/\(∀y∈ws,0<=y.2.2/\y.2.2<=1000000000)/\bH (n+70+4*i) o' ∧
  δ=⟨[Z (.o 0),Z (.p (.int fz)),Z (.p (.int most)),Z (.p (.int kind)),Z (.p (.int gi)),Z (.p (.int (1+mm))),Z (.o 1),Z (.o 2),η,η,η,η],[Z o',Z (.lst (qs.map d6)),Z (.lst (ws.map bK))]⟩)
  ⟨ps,[],o4,⋯,U,M_,λy hy=>absurd hy q0L,P4.mono ⋯,U⟩ ?_ ?_
 .ext j d δ L hj ⟨qs,ws,o',hq,hw,hp,hy,P',rfl⟩ hL
  let⟨hj,rfl⟩:=oy hj;let q0:0<↑qs:=by symm
  let WZ:=hp.jF;rw[Lo,ye] at WZ;calc⟨trivial,?_⟩;erw[bL,q1a,q1b];calc bp λN2 ja=>?_;simp!;calc⟨n+70+4*j,↑qs,o',U,U,P',⋯,⋯,⋯,λr o1 r0 r1 P1=>?_⟩;let⟨rn,rfl⟩:∃rn:Nat,r=rn:=⟨r.toNat,⋯⟩;let hr:rn<↑qs:=by symm
  let ix:seqIndex? (rn:Int) ↑qs=Z rn:=Vh hr;let eq:(qs.map d6)[rn]?=Z (.tup [.int qs[rn].1,.int qs[rn].2]):=by rw[Uj,D9 hr];rfl
  simp![ix,eq];calc⟨⟨⋯,⋯⟩,?_⟩;subst ja;calc bp λN2 ja=>?_;erw[a8,d2,dq];calc wU λK3 vx=>?_;simp!;subst vx;calc wU λK3 vx=>?_;simp!;calc⟨n+70+4*j+1,3,o1,U,U,P1,⋯,⋯,⋯,λa1 o2 a10 a11 P2=>?_⟩;simp!;subst vx;calc wU λK3 vx=>?_;simp!;calc⟨⟨by decide,by decide,by decide⟩,n+70+4*j+1+1,2,o2,U,U,P2,⋯,⋯,⋯,λa2 o3 a20 a21 P3=>?_⟩;simp!;subst vx;calc wU λK3 vx=>?_;simp!;refine⟨⟨by decide,by decide,by decide⟩,n+70+4*j+1+1+1,10 ^ x2Y 9+1,o3,U,U,P3,⋯,by decide,by decide,λa3 o4 a30 W0 P4=>?_⟩
  simp!;subst vx;simp!;let e9:(10:Int) ^ x2Y 9=1000000000:=by decide
  rw[e9] at W0 ⊢
  let⟨pr,W3,W4,W5⟩:∃pr:Int,eX [D.int 7,D.int a1,D.int (1000000000-a2),D.int a3] gi=Z (.int pr)/\0<=pr/\pr<=1000000000:=by
   let:gi=0\/gi=1\/gi=2\/gi=3:=by symm
   rcases this with rfl|rfl|rfl|rfl
   .exact⟨7,U,⋯,⋯⟩
   .exact⟨a1,U,⋯,⋯⟩
   .exact⟨1000000000-a2,U,⋯,⋯⟩
   .exact⟨a3,U,⋯,⋯⟩
  rw[W3];subst ja;simp!;refine⟨⋯,hL _ ⟨qs.eraseIdx rn,ws++[(qs[rn].1,qs[rn].2,pr)],o4,?_,?_,?_,?_,P4.mono ⋯,?_⟩⟩
  .rw[q4q hr];symm
  .rw[Lo,hw];rfl
  .refine hp.perm ?_
   rw[q0s,q12];exact q3G _ (M8 hr)
  .ext y Bg
   rcases q0w.mp Bg with h|h
   .exact hy y h
   .rw[q0z.mp h];exact⟨W4,W5⟩
  .rw[q0s,M9];rfl
 .ext δ ⟨qs,ws,o',hq,hw,hp,hy,P',rfl⟩
  calc⟨trivial,?_⟩;subst hN;simp!;rw[m_] at hw P';refine⟨[o'],U,U,fin (1+mm) ws o' ⟨⋯,⋯,⋯,λy Bg=>?_,?_⟩ ⋯ ⋯ (P'.mono ⋯)⟩
  .let:=hp.ends (rQ y) (q0U _ (q0j.mpr ⟨y,Bg,U⟩))
   let h2:=hy y Bg;erw[rQ] at this;symm
  .calc (q1k.mp hp.nH).1
end LJ
namespace L2
open PySem PySem.Spec PyProof.Rows
variable[zt:ba]
end L2
namespace LJ
open PySem L2
variable[zt:ba]
meta def FH:D->Bool
 |.int _=>θ
 |_=>ι
meta def Bh:D->Int->Int->Bool
 |.int i,lo,hi=>I (lo<=i)&&I (i<=hi)
 |_,_,_=>ι
meta def zg:D->Int->Bool
 |.tup ds,n=>(↑ds:Int)==n
 |_,_=>ι
def jc{K d sl}(h:K (.p d) []):jZ 0 K (.p d) ⟨sl,[]⟩:=⟨[],U,U,h⟩
inductive Bi (ys:-DV) (aE:-OV) (K:RV->-OV->Prop):Prop
 |mk (d) (q:ys=[.p d]) (q:aE=[]) (q:K (.p (.bl (FH d))) [])
/---/def FI:WS:=(bc (qU (d1 (aa 0) (kZ "int")) (EA (d1 (aa 0) (kZ "bool")))))
def W6:Sem 1 0 Bi FI:=by
 ext ys aE K'-⟨d,rfl,rfl,k⟩;unfold FI;simp!;cases d<;>erw[iY,fO]<;>calc jc k
inductive t5 (ys:-DV) (aE:-OV) (K:RV->-OV->Prop):Prop
 |mk (d) (lo) (hi) (q:ys=[.p d,.p (.int lo),.p (.int hi)]) (q:aE=[]) (q:K (.p (.bl (Bh d lo hi))) [])
/---/def FJ:WS:=(bc (qU (aL 1 Bi (ay (aa 0) ai)) (E9 (aa 1) (aa 0) (aa 2) (oI λi j=>.bl (I (i<=j))) (oI λi j=>.bl (I (i<=j))))))
def W7:Sem 3 0 t5 FJ:=by
 ext ys aE K'-⟨d,lo,hi,rfl,rfl,k⟩;unfold FJ;simp!;calc⟨d,U,U,?_⟩;cases d<;>simp![FH,Bh] at k ⊢ <;> first|exact jc k|skip
 rename_i i
 by_cases c:lo<=i
 .rw[q0g c] at k ⊢
  exact jc k
 .rw[Ul c] at k ⊢
  calc jc k
inductive wV (ys:-DV) (aE:-OV) (K:RV->-OV->Prop):Prop
 |mk (d) (n) (q:ys=[.p d,.p (.int n)]) (q:aE=[]) (q:K (.p (.bl (zg d n))) [])
/---/def FK:WS:=(bc (qU (d1 (aa 0) (kZ "tuple")) (d2 (dN (ay (aa 0) ai) cq) (aa 1) oEq)))
def W8:Sem 2 0 wV FK:=by
 ext ys aE K'-⟨d,n,rfl,rfl,k⟩;unfold FK;cases d<;>simp![iY,fO,zg,dEq] at k ⊢ <;> calc jc k
end LJ
namespace L2
open PySem PySem.Spec PyProof.Rows
variable[zt:ba]
/---/def Na:-D->(D->Prop)->Prop:=λds K=>∃ps:-(Int×Int),ds=[.lst (ps.map λp=>.tup [.int p.1,.int p.2])]/\↑ps<=30/\(∀p∈ps,0<=p.1/\p.1<p.2/\p.2<12)/\ps.Nodup/\K (.int ↑ps)
section
variable{X:Cx}{fa:WA}
def W9{a p1 p2 q1 q2}(hc:X.calm=θ)(hu:X.A.units+64<cLine)(y9:Gl X "len")(hl:X.mg "len" = η)(y_:bootBuiltins "len" = Z (.builtin "len"))(rB:Gl X "set")(hr:X.mg "set" = η)(my:bootBuiltins "set" = Z (.type "set"))(ha:JA X [a] (cK fa))
  (he:‹starEach [a] X.env=[(ι,eval a X.env)]›) (Fb:‹starEach [.Call (.Name "set" p2) [a] [] q2] X.env=[(ι,eval (.Call (.Name "set" p2) [a] [] q2) X.env)]›):JE X (.Call (.Name "len" p1) [.Call (.Name "set" p2) [a] [] q2] [] q1) (tD (dN fa Na)) :=
 (v_ (Vc) y9 hl y_ (kM (tL (U_ hc hu) rB hr my ha (he:=he)) bX)).weak fun σ H Q ⟨F,ad,δ,K,S,q,k⟩=>⟨F,ad,δ,_,S,q,λxs δ1 h1 vs F1 br H1 E1 S1 V1=>by
  calc wd λrR=>?_;let⟨ds,⟨ps,rfl,iE,bd,nH,h2⟩,pL⟩:=yB S1 V1 h1;let⟨v,rfl,a,vs,rfl,g1,g2⟩:=h8 pL;let⟨as,rfl,hl,g⟩:=M0 g2;calc rR <| ⟨a,as,ps,U,bR.of g1,hl,λi b k' e1 e2=>S1.sub _ _ (g i b k' e1 e2),bd,nH,iE,λp hp=>⟨p,↑ps,U,cb,⋯,?_⟩⟩;let s1:bf H1 (upd H1 p (oj p ↑ps)):=cU hp
  calc k _ _ h2 _ _ _ _ (E1.trans (Ext.al S1 s1)) (S1.al s1) U⟩
end
end L2
namespace LJ
open PySem L2
variable[zt:ba]
def zh{i lo hi}(h:lo<=i)(h':i<=hi):Bh (.int i) lo hi=θ:=by
 show(I (lo<=i)&&I (i<=hi))=θ;rw[q0g h,q0g h'];rfl
inductive FL (ys:-DV) (aE:-OV) (K:RV->-OV->Prop):Prop
 |mk (m i j:Int) (q:ys=[.p (.int m),.p (.int i),.p (.int j)]) (q:aE=[]) (q:0<=i) (q:i<j) (q:j<m) (q:K (.p (.bl θ)) [])
/---/def FN:WS:=(bc (qU (aL 3 t5 (ay (aa 1) (ay (dC (.int 0)) (ay (d2 (aa 0) (dC (.int 1)) (oI λi j=>.int (i-j))) ai)))) (aL 3 t5 (ay (aa 2) (ay (d2 (aa 1) (dC (.int 1)) dI) (ay (d2 (aa 0) (dC (.int 1)) (oI λi j=>.int (i-j))) ai))))))
def W_:Sem 3 0 FL FN:=by
 ext ys aE K'-⟨m,i,j,rfl,rfl,h1,h2,h3,k⟩;unfold FN;simp!;calc⟨.int i,0,m-1,U,U,?_⟩;rw[zh h1 ⋯];simp!;calc⟨.int j,i+1,m-1,U,U,?_⟩;rw[zh ⋯ ⋯];calc jc k
structure Nc(m:Int)(y:Int×Int×Int):Prop where
 low:0<=y.1
 up:y.1<y.2.1
 most:y.2.1<m
 pr:0<=y.2.2/\y.2.2<=1000000000
inductive FO (ys:-DV) (aE:-OV) (K:RV->-OV->Prop):Prop
 |mk (m) (y) (q:Nc m y) (q:ys=[.p (.int m),.p (bK y)]) (q:aE=[]) (q:K (.p (.bl θ)) [])
/---/def Nd:WS:=(aD (bP (fR (dT (aL 2 wV (ay (aa 1) (ay (dC (.int 3)) ai))))) (bc (dC (.bl ι))) dX) (bc (qU (aL 3 FL (ay (aa 0) (ay (d2 (aa 1) (dC (.int 0)) bg) (ay (d2 (aa 1) (dC (.int 1)) bg) ai)))) (aL 3 t5 (ay (d2 (aa 1) (dC (.int 2)) bg) (ay (dC (.int 0)) (ay (dC (.int 1000000000)) ai)))))))
def Xa:Sem 2 0 FO Nd:=by
 ext ys aE K'-⟨m,y,W,rfl,rfl,k⟩;calc bp λN hN=>?_;simp!;calc⟨bK y,3,U,U,?_⟩;subst hN;simp![bK,cV,dz,at2];calc⟨m,_,_,U,U,W.low,W.up,W.most,⟨_,0,1000000000,U,U,?_⟩⟩;rw[zh W.pr.1 W.pr.2];calc jc k
def aH.way{m}{ws:-(Int×Int×Int)}(W:aH m ws){y}(h:y∈ws):Nc m y :=
 let⟨a,b,c,d,e⟩:=W.ends y h
 ⟨a,⋯,⋯,d,e⟩
inductive FP (ys:-DV) (aE:-OV) (K:RV->-OV->Prop):Prop
 |mk (m) (ws) (q:aH m ws) (q:ys=[.p (.int m),.p (.tup (ws.map bK))]) (q:aE=[]) (q:K (.p (.bl θ)) [])
/---/def Nf:WS:=(aD (bP (kR (fR (dT (d1 (aa 1) (kZ "tuple")))) (dT (d2 (dN (ay (aa 1) ai) cq) (dC (.int 30)) (oI λi j=>.bl (I (j<i)))))) (bc (dC (.bl ι))) dX) (aD (bP (fR (dT (dN (ay (dY (bZ (aa 1)) [η,Z 0] (bL 0) dZ (aL 2 FO (ay (aa 1) (ay (aa 0) ai)))) ai) rA))) (bc (dC (.bl ι))) dX) (bc (d2 (dN (ay (dY (bZ (aa 1)) [η] (bL 0) dZ (j4 (aa 0) j3 (tX (dC (.int 2))))) ai) Na) (dN (ay (aa 1) ai) cq) oEq))))
def Xb:Sem 2 0 FP Nf:=by
 ext ys aE K'-⟨m,ws,W,rfl,rfl,k⟩;let km:=W.iE;let fW:=W.fW;calc bp λN hN=>?_;simp![iY,show fO "tuple" "tuple" = θ from U];rw[q0l (by rw[Ul ⋯];decide)];subst hN;refine bp λN hN=>nr (λ_=>.bl θ) (by rw[ye];symm) trivial ?_ ?_
 .ext d hd acc L ha h
  let⟨y,hy,rfl⟩:=q0j.mp hd;simp!;exact⟨m,y,W.way hy,U,U,⟨ha,h⟩⟩
 rw[show(ws.map bK).map (λ_=>D.bl θ)=(ws.map λ_=>θ).map D.bl by rw[q0y,q0y];rfl];simp![MH];rw[q1J.mpr λb hb=>by let⟨_,_,rfl⟩:=q0j.mp hb;rfl];subst hN
 refine nr (λd=>match d with
  |.tup [a,b,_]=>.tup [a,b]
  |_=>.non) (by rw[ye];symm) trivial ?_ ?_
 .ext d hd acc L ha h
  let⟨y,hy,rfl⟩:=q0j.mp hd;let ec:cutD [D.int y.1,D.int y.2.1,D.int y.2.2] η (Z 2)=[D.int y.1,D.int y.2.1]:=U;simp![bK,ec] at h ⊢;exact⟨ha,h⟩
 refine⟨ws.map rQ,by rw[q0y,q0y];rfl,by rw[ye];calc km,λp hp=>?_,W.unlike,?_⟩
 .let⟨y,hy,rfl⟩:=q0j.mp hp
  let Y:=W.way hy;let:=Y.most;exact⟨Y.low,Y.up,by show y.2.1<12;symm⟩
 simp![dEq];calc jc k
inductive FQ (ys:-DV) (aE:-OV) (K:RV->-OV->Prop):Prop
 |mk (m) (ws) (q:aH m ws) (q:ys=[.p (a_ m ws)]) (q:aE=[]) (q:K (.p (.bl θ)) [])
/---/def Ng:WS:=(aD (bP (fR (dT (aL 2 wV (ay (aa 0) (ay (dC (.int 2)) ai))))) (bc (dC (.bl ι))) dX) (bc (qU (aL 3 t5 (ay (d2 (aa 0) (dC (.int 0)) bg) (ay (dC (.int 1)) (ay (dC (.int 12)) ai)))) (aL 2 FP (ay (d2 (aa 0) (dC (.int 0)) bg) (ay (d2 (aa 0) (dC (.int 1)) bg) ai))))))
def Xc:Sem 1 0 FQ Ng:=by
 ext ys aE K'-⟨m,ws,W,rfl,rfl,k⟩;calc bp λN hN=>?_;simp!;calc⟨a_ m ws,2,U,U,?_⟩;subst hN;simp![a_,cV,dz];calc⟨.int m,1,12,U,U,?_⟩;rw[zh W.m1 W.fW];calc⟨m,ws,W,U,U,jc k⟩
meta def bj(ns:-Int):D:=.lst (ns.map D.int)
meta def g9(fs:-Int)(i j:Nat):-Int:=fs.map λx=>if x=max (fs.getD i 0) (fs.getD j 0) then min (fs.getD i 0) (fs.getD j 0) else x
def wW fs i j:↑(g9 fs i j)=fs.length:=by unfold g9;rw[ye]
def rS{ns:-Int}{i}(h:i<↑ns):eX (ns.map D.int) (i:Int)=Z (.int (ns.getD i 0)):=by
 calc lB ?_;rw[Uj,D9 h,My,D9 h];rfl
def cC{K d sl mu}(h:K (.p d) []):jZ 0 K (.p d) ⟨sl,mu⟩:=⟨[],U,U,h⟩
inductive wX (ys:-DV) (aE:-OV) (K:RV->-OV->Prop):Prop
 |mk (fs:-Int) (i j:Nat) (q:ys=[.p (bj fs),.p (.int i),.p (.int j)]) (q:aE=[]) (q:i<fs.length) (q:j<fs.length) (q:fs.length<=12) (q:K (.p (bj (g9 fs i j))) [])
/---/def FR:WS:=(aD (a8 3 (dN (ay (d2 (aa 0) (aa 1) bg) (ay (d2 (aa 0) (aa 2) bg) ai)) A6)) (aD (a8 4 (dN (ay (d2 (aa 0) (aa 1) bg) (ay (d2 (aa 0) (aa 2) bg) ai)) y7)) (bc (dY (bZ (aa 0)) [η,Z 4,Z 3] (bL 0) dZ (vd (dT (d2 (aa 0) (aa 2) oEq)) (aa 1) (aa 0))))))
def Xd:Sem 3 2 wX FR:=by
 ext ys aE K'-⟨fs,i,j,rfl,rfl,hi,hj,WY,k⟩;let a1:=rS hi;let a2:=rS hj;unfold FR bj;calc bp λN hN=>?_;simp![a1,a2];subst hN;calc bp λN hN=>?_;simp![a1,a2];subst hN
 refine nr (λd=>match d with
  |.int x=>.int (if x=max (fs.getD i 0) (fs.getD j 0) then min (fs.getD i 0) (fs.getD j 0) else x)
  |_=>.non) (by rw[ye];symm) trivial ?_ ?_
 .ext d hd acc L ha h
  let⟨x,_,rfl⟩:=q0j.mp hd;simp!;cases q:dEq (.int x) (.int (max (fs.getD i 0) (fs.getD j 0)))
  .let:¬ x=max (fs.getD i 0) (fs.getD j 0):=λz=>by rw[z,kY] at q;cases q
   erw[this,q2S] at h;exact⟨ha,h⟩
  .let:=q1K q
   erw[this,q3e] at h;exact⟨ha,h⟩
 .refine cC ?_
  let e:(fs.map D.int).map (λd=>match d with
   |.int x=>D.int (if x=max (fs.getD i 0) (fs.getD j 0) then min (fs.getD i 0) (fs.getD j 0) else x)
   |_=>.non)=(g9 fs i j).map D.int:=by
   unfold g9;rw[q0y,q0y];rfl
  rw[e];calc k
meta def cD(ws:-(Int×Int×Int))(n:Int):Nat×Nat:=((ws.getD n.toNat (0,0,0)).1.toNat,(ws.getD n.toNat (0,0,0)).2.1.toNat)
meta def fZ(ws:-(Int×Int×Int))(fs:-Int)(ns:-Int):-Int:=ns.foldl (λfs n=>g9 fs (cD ws n).1 (cD ws n).2) fs
def zi(ws:-(Int×Int×Int)):∀ns fs,↑(fZ ws fs ns)=fs.length
 |[],fs=>U
 |n::r,fs=>by
  show↑(fZ ws (g9 fs _ _) r)=_;rw[zi ws r,wW]
meta def iA(m:Int)(ws:-(Int×Int×Int))(ns:-Int):-Int:=fZ ws (bB m.toNat) ns
/---/def Nums(ws:-(Int×Int×Int))(ns:-Int):Prop:=∀n∈ns,0<=n/\n<(↑ws:Int)
def nv{m}{ws:-(Int×Int×Int)}(W:aH m ws){n}(h0:0<=n)(h1:n<(↑ws:Int)):∃y,ws.getD n.toNat (0,0,0)=y/\y∈ws/\eX (ws.map bK) n=Z (bK y)/\∃i j:Nat,y.1=i/\y.2.1=j/\i<m.toNat/\j<m.toNat/\i<j:=by
 let⟨k,rfl⟩:∃k:Nat,n=k:=⟨n.toNat,⋯⟩;let hk:k<↑ws:=by symm
 refine⟨ws[k],?_,q1M hk,lB ?_,?_⟩
 .rw[q0t,My,D9 hk];rfl
 .rw[Uj,D9 hk];rfl
 .let⟨a,b,c,_,_⟩:=W.ends _ (q1M hk)
  calc⟨ws[k].1.toNat,ws[k].2.1.toNat,⋯,⋯,⋯,⋯,⋯⟩
inductive zj (ys:-DV) (aE:-OV) (K:RV->-OV->Prop):Prop
 |mk (m:Int) (ws:-(Int×Int×Int)) (ns:-Int) (q:aH m ws) (q:Nums ws ns) (q:((ys=[.p (a_ m ws),.p (bj ns)]/\aE=[]/\K (.p (bj (iA m ws ns))) [])\/(ys=[.p (a_ m ws),.o 0]/\aE=[.lst (ns.map D.int)]/\K (.p (bj (iA m ws ns))) [.lst (ns.map D.int)])))
/---/def Nh:WS:=(aD (a8 2 (wM (ay (d2 (aa 0) (dC (.int 0)) bg) ai))) (aD (eZ (bZ (aa 1)) (bL 3) (aD (a8 4 (d2 (d2 (aa 0) (dC (.int 1)) bg) (aa 3) bg)) (a8 2 (aL 3 wX (ay (aa 2) (ay (d2 (aa 4) (dC (.int 0)) bg) (ay (d2 (aa 4) (dC (.int 1)) bg) ai))))))) (bc (aa 2))))
def Xe:Sem 2 3 zj Nh:=by
 ext ys aE K'-⟨m,ws,ns,W,hn,h⟩;let m1:=W.m1;let fW:=W.fW;let il:↑(bB m.toNat)=m.toNat:=by unfold bB;simp
 let core:∀(x:DV)(mu:-(Option OV))(b8:bh->Prop)(K:KS),(∀sl,b8 ⟨sl,mu⟩)->(∀fs,fs=iA m ws ns->K.nx ⟨[Z (.p (a_ m ws)),Z x,Z (.p (bj fs)),η,η],mu⟩)->((∃d,x=.p d)\/∃k,x=.o k/\k<↑mu) →
   m8 ⟨[Z (.p (a_ m ws)),Z x,Z (.p (bj (bB m.toNat))),η,η],mu⟩ b8 (bL 3) (aD (a8 4 (d2 (d2 (aa 0) (dC (.int 1)) bg) (aa 3) bg)) (a8 2 (aL 3 wX (ay (aa 2) (ay (d2 (aa 4) (dC (.int 0)) bg) (ay (d2 (aa 4) (dC (.int 1)) bg) ai)))))) K (ns.map D.int) ⟨[Z (.p (a_ m ws)),Z x,Z (.p (bj (bB m.toNat))),η,η],mu⟩:=by
  ext x mu b8 K hc hK hx;refine mz (λi δ=>δ=⟨[Z (.p (a_ m ws)),Z x,Z (.p (bj (fZ ws (bB m.toNat) (ns.take i)))),η,η],mu⟩) U ?_ ?_
  .ext j d δ L hj rfl hL
   rw[Uj] at hj;let⟨n,mD,rfl⟩:=q0e.mp hj;let⟨n0,n1⟩:=hn n (q0I mD);let⟨y,ey,hy,ea,i,k,e1,e2,h1,h2,_⟩:=nv W n0 n1;calc⟨hc _,?_⟩;erw[bL,q1a,q1b];calc bp λN hN=>?_;simp![dz,a_,ea];subst hN;simp![cV,dz,bK];let hlen:↑(fZ ws (bB m.toNat) (ns.take j))=m.toNat:=by rw[zi,il]
   refine⟨fZ ws (bB m.toNat) (ns.take j),i,k,by rw[e1,e2],U,⋯,⋯,⋯,?_⟩
   let ej:g9 (fZ ws (bB m.toNat) (ns.take j)) i k=fZ ws (bB m.toNat) (ns.take (j+1)):=by
    let:ns.take (j+1)=ns.take j++[n]:=by rw[q2w,mD];rfl
    rw[this];unfold fZ;rw[q2Z];show _=g9 _ (cD ws n).1 (cD ws n).2
    let:cD ws n=(i,k):=by
     unfold cD;rw[ey,e1,e2,q0t,q0t]
    rw[this]
   rw[ej]
   let eq:(bh.trim ⟨[Z (.p (a_ m ws)),Z x,Z (.p (bj (bB m.toNat))),η,η],mu⟩ ⟨[Z (.p (a_ m ws)),Z x,Z (.p (bj (fZ ws (bB m.toNat) (ns.take (j+1))))),Z (.p (.int n)),Z (.p (bK y))],mu⟩)=⟨[Z (.p (a_ m ws)),Z x,Z (.p (bj (fZ ws (bB m.toNat) (ns.take (j+1))))),η,η],mu⟩:=by
    unfold bh.trim;rw[q2s];rcases hx with⟨d,rfl⟩|⟨q,rfl,this⟩
    .rfl
    .erw[iK,AR,this,q3e]
   let:=hL _ U;rw[<-eq] at this;exact this
  .ext δ rfl
   rw[ye,q1i (Ln _)];exact⟨hc _,hK _ U⟩
 let rg:=pU m.toNat;rcases h with⟨rfl,rfl,k⟩|⟨rfl,rfl,k⟩
 .refine bp λN hN=>?_
  simp![cV,a_];calc⟨⟨⋯,⋯⟩,?_⟩;subst hN;rw[rg];calc bp λN hN=>oE λg' b' K2 hg hb' hK=>?_;subst hg hb' hK;calc core (.p (bj ns)) [] _ _ (λ_=>trivial) (λfs e=>?_) (.inl ⟨_,U⟩);subst e hN;exact cC k
 .refine bp λN hN=>?_
  simp![cV,a_];calc⟨⟨⋯,⋯⟩,?_⟩;subst hN;rw[rg];calc bp λN hN=>oE λg' b' K2 hg hb' hK=>?_;subst hg hb' hK;calc core (.o 0) [Z (.lst (ns.map D.int))] _ _ (λ_=>U) (λfs e=>?_) (.inr ⟨0,U,q7z⟩);subst e hN;calc⟨[.lst (ns.map D.int)],U,U,k⟩
def Xf a b:sortI [a,b]=[min a b,max a b]:=by
 refine(vq  ?_ ?_).symm
 .by_cases c:a<=b
  .rw[q7A c,q7d c]
  .rw[q7e ⋯,q7B ⋯]
   exact q4r ..
 .refine List.Pairwise.cons (λx hx=>?_) (List.pairwise_singleton _ _)
  rw[q0z.mp hx];symm
/---/def FT:GD:=zj
/---/def Nj:WS:=(aD (a8 2 (wM (ay (d2 (aa 0) (dC (.int 0)) bg) ai))) (aD (eZ (bZ (aa 1)) (bL 3) (aD (i5 (dN (ay (dY (bZ (j4 (d2 (d2 (aa 0) (dC (.int 1)) bg) (aa 3) bg) j3 (tX (dC (.int 2))))) [η,Z 2] (bL 0) dZ (d2 (aa 1) (aa 0) bg)) ai) mq) (iz 2 (dB (bL 4) (dB (bL 5) hZ)))) (a8 2 (dY (bZ (aa 2)) [η,Z 4,Z 5] (bL 0) dZ (vd (dT (d2 (aa 0) (aa 2) oEq)) (aa 1) (aa 0)))))) (bc (aa 2))))
def Xg:Sem 2 4 FT Nj:=by
 ext ys aE K'-⟨m,ws,ns,W,hn,h⟩;let m1:=W.m1;let fW:=W.fW;let il:↑(bB m.toNat)=m.toNat:=by unfold bB;simp
 let core:∀(x:DV)(mu:-(Option OV))(b8:bh->Prop)(K:KS),(∀sl,b8 ⟨sl,mu⟩)->(∀fs,fs=iA m ws ns->K.nx ⟨[Z (.p (a_ m ws)),Z x,Z (.p (bj fs)),η,η,η],mu⟩)->((∃d,x=.p d)\/∃k,x=.o k/\k<↑mu) →
   m8 ⟨[Z (.p (a_ m ws)),Z x,Z (.p (bj (bB m.toNat))),η,η,η],mu⟩ b8 (bL 3) (aD (i5 (dN (ay (dY (bZ (j4 (d2 (d2 (aa 0) (dC (.int 1)) bg) (aa 3) bg) j3 (tX (dC (.int 2))))) [η,Z 2] (bL 0) dZ (d2 (aa 1) (aa 0) bg)) ai) mq) (iz 2 (dB (bL 4) (dB (bL 5) hZ)))) (a8 2 (dY (bZ (aa 2)) [η,Z 4,Z 5] (bL 0) dZ (vd (dT (d2 (aa 0) (aa 2) oEq)) (aa 1) (aa 0))))) K (ns.map D.int) ⟨[Z (.p (a_ m ws)),Z x,Z (.p (bj (bB m.toNat))),η,η,η],mu⟩:=by
  ext x mu b8 K hc hK hx;refine mz (λi δ=>δ=⟨[Z (.p (a_ m ws)),Z x,Z (.p (bj (fZ ws (bB m.toNat) (ns.take i)))),η,η,η],mu⟩) U ?_ ?_
  .ext j d δ L hj rfl hL
   rw[Uj] at hj;let⟨n,mD,rfl⟩:=q0e.mp hj;let⟨n0,n1⟩:=hn n (q0I mD);let⟨y,ey,hy,ea,i,k,e1,e2,h1,h2,_⟩:=nv W n0 n1;calc⟨hc _,?_⟩;let hlen:↑(fZ ws (bB m.toNat) (ns.take j))=m.toNat:=by rw[zi,il]
   let ej:g9 (fZ ws (bB m.toNat) (ns.take j)) i k=fZ ws (bB m.toNat) (ns.take (j+1)):=by
    let:ns.take (j+1)=ns.take j++[n]:=by rw[q2w,mD];rfl
    rw[this];unfold fZ;rw[q2Z];show _=g9 _ (cD ws n).1 (cD ws n).2
    let:cD ws n=(i,k):=by
     unfold cD;rw[ey,e1,e2,q0t,q0t]
    rw[this]
   generalize hfs:fZ ws (bB m.toNat) (ns.take j)=fs at hlen ej;let a1:=rS (ns:=fs) (i:=i) ⋯;let a2:=rS (ns:=fs) (i:=k) ⋯;calc bp λN hN=>?_;let ec:cutD [D.int y.1,D.int y.2.1,D.int y.2.2] η (Z 2)=[D.int i,D.int k]:=by rw[<-e1,<-e2];rfl
   simp![dz,a_,ea,bK,ec]
   refine L2.nr (λd=>match d with
    |.int z=>.int (fs.getD z.toNat 0)
    |_=>.non) (by show 2<=1000;decide) trivial ?_ ?_
   .ext d hd acc L' ha h'
    erw[q0c,q0L,q2m] at hd;rcases hd with rfl|rfl
    .simp![bj,a1]
     exact⟨ha,h'⟩
    .simp![bj,a2]
     exact⟨ha,h'⟩
   .let es:intsOf [D.int (fs.getD i 0),D.int (fs.getD k 0)]=Z [fs.getD i 0,fs.getD k 0]:=U
    simp![q0t,mq,es,Xf];subst hN
    refine L2.nr (λd=>match d with
     |.int x=>.int (if x=max (fs.getD i 0) (fs.getD k 0) then min (fs.getD i 0) (fs.getD k 0) else x)
     |_=>.non) (by rw[ye];symm) trivial ?_ ?_
    .ext d hd acc L' ha h'
     let⟨z,_,rfl⟩:=q0j.mp hd;simp!;cases q:dEq (.int z) (.int (max (fs.getD i 0) (fs.getD k 0)))
     .let:¬ z=max (fs.getD i 0) (fs.getD k 0):=λw=>by rw[w,kY] at q;cases q
      erw[this,q2S] at h';exact⟨ha,h'⟩
     .let:=q1K q
      erw[this,q3e] at h';exact⟨ha,h'⟩
    .let e:(fs.map D.int).map (λd=>match d with
      |.int x=>D.int (if x=max (fs.getD i 0) (fs.getD k 0) then min (fs.getD i 0) (fs.getD k 0) else x)
      |_=>.non)=(g9 fs i k).map D.int:=by
      unfold g9;rw[q0y,q0y];rfl
     rw[e,ej]
     let eq:(bh.trim ⟨[Z (.p (a_ m ws)),Z x,Z (.p (bj (bB m.toNat))),η,η,η],mu⟩ ⟨[Z (.p (a_ m ws)),Z x,Z (.p (bj (fZ ws (bB m.toNat) (ns.take (j+1))))),Z (.p (.int n)),Z (.p (.int (min (fs.getD i 0) (fs.getD k 0)))),Z (.p (.int (max (fs.getD i 0) (fs.getD k 0))))],mu⟩)=⟨[Z (.p (a_ m ws)),Z x,Z (.p (bj (fZ ws (bB m.toNat) (ns.take (j+1))))),η,η,η],mu⟩:=by
      unfold bh.trim;rw[q2s];rcases hx with⟨d,rfl⟩|⟨q,rfl,this⟩
      .rfl
      .erw[iK,AR,this,q3e]
     let:=hL _ U;rw[<-eq] at this;exact this
  .ext δ rfl
   rw[ye,q1i (Ln _)];exact⟨hc _,hK _ U⟩
 let rg:=pU m.toNat;rcases h with⟨rfl,rfl,k⟩|⟨rfl,rfl,k⟩
 .refine bp λN hN=>?_
  simp![cV,a_];calc⟨⟨⋯,⋯⟩,?_⟩;subst hN;rw[rg];calc bp λN hN=>oE λg' b' K2 hg hb' hK=>?_;subst hg hb' hK;calc core (.p (bj ns)) [] _ _ (λ_=>trivial) (λfs e=>?_) (.inl ⟨_,U⟩);subst e hN;exact cC k
 .refine bp λN hN=>?_
  simp![cV,a_];calc⟨⟨⋯,⋯⟩,?_⟩;subst hN;rw[rg];calc bp λN hN=>oE λg' b' K2 hg hb' hK=>?_;subst hg hb' hK;calc core (.o 0) [Z (.lst (ns.map D.int))] _ _ (λ_=>U) (λfs e=>?_) (.inr ⟨0,U,q7z⟩);subst e hN;calc⟨[.lst (ns.map D.int)],U,U,k⟩
meta def Bj(ls:-(-Int)):D:=.lst (ls.map bj)
def Xh{m}{ws:-(Int×Int×Int)}{ns}:↑(iA m ws ns)=m.toNat:=by
 unfold iA;rw[zi];unfold bB;simp
def wY{n:Nat}{z:Int}(h:z∈bB n):0<=z/\z<(n:Int):=by
 let⟨i,hi,rfl⟩:=q0j.mp h;let:=q0H.mp hi;symm
def Nk n:(bB n).Nodup:=by
 calc q1s.mpr (q3J.imp λ{a b} ne e=>ne (q3S e))
def pX{H a o}(h:H a=η):bf H (upd H a o):=λb u e=>by rw[bD (eg e h)];calc e
structure Bk(H:Hp)(p c:Y)(at_ z:Int):Prop where
 lst:H p=Z (.lst [.ref c,.int at_,.int z])
 cells:∃ns:-Int,H c=Z (.lst (ns.map V.int))/\↑ns<=63
 pos:0<=at_
def Bk.ne{H p c k z}(P:Bk H p c k z):c≠p:=by
 let⟨ns,h,_⟩:=P.cells;ext e;subst e;rw[P.lst] at h;injection (q0P h) with wu
 cases ns with
 |nil=>cases wu
 |cons n r=>injection wu with h1 _;cases h1
def Xi{ns:-Int}{k}(h0:0<=k)(h1:k<(↑ns:Int)):∃n,eX (ns.map V.int) k=Z (.int n):=by
 let⟨i,rfl⟩:∃i:Nat,k=i:=⟨k.toNat,⋯⟩;let hi:i<↑ns:=by symm
 calc⟨ns[i],lB ?_⟩;rw[Uj,D9 hi];rfl
/---/def Nl(K:q0b):Sp:=λvs H Q _=>∃(a:Y)(ns:-Int),vs=[.ref a]/\bR K H a (ns.map V.int)/\↑ns<=63/\∀(p c:Y)(H':Hp),bf H H'->H p=η->Bk H' p c 0 0->Q (.ref p) H'
/---/def FU(K:q0b):Sp:=λvs H Q _=>∃(a:Y)(ns:-Int),vs=[.ref a]/\bR K H a (ns.map V.int)/\↑ns<=63/\ba.ok H/\∀H',Q (.bl θ) H'
def FW(ns:-Int) lo hi:fw (ns.map V.int) lo hi=((ns.drop (HT.bS ↑ns 0 lo)).take (HT.bS ↑ns ↑ns hi-HT.bS ↑ns 0 lo)).map V.int:=by
 unfold fw;rw[ye,List.map_take,List.map_drop]
def Xj{H p c a n}(hT:ba.ok H)(N:Bk H p c 0 0):∃(F:Hp)(ns:-Int),↑ns<=63/\SR F [p] ⟨η::Z (.o 0)::q0q n η,[Z (.lst [.lst (ns.map D.int),.int 0,.int 0])]⟩ (Z (.ref a)::Z (.ref p)::q0q n η) H:=by
 let⟨ns,hc,hn⟩:=N.cells
 let cn:∀{b},((∃ps,H b=Z (.tbl ps))\/∃vs,H b=Z (.lst vs))->ba.cs b=η:=λ{b} h=>by
  cases q:ba.cs b with
  |none=>rfl
  |some o =>
   let⟨vs,rfl⟩:=ba.ct q;let:=ba.co hT _ _ q;rcases h with⟨_,h⟩|⟨_,h⟩<;>rw[this] at h<;>cases h
 refine⟨upd ba.cs c (.lst (ns.map V.int)),ns,hn,⟨λb o e=>?_,λb ⟨k,ov,e1,e2⟩=>?_,U,λk l a ov ow e1 e2 _ _=>?_,λk ov e=>?_,λi x e=>?_,by simp,hT,⟨λb hb=>by
  let⟨ps,q⟩:=ba.tb hT hb;rw[bD λz=>by subst z;rw[hc] at q;cases q]
  calc cn (q4h ⟨ps,q⟩),λb o e=>by rw[bD λz=>by subst z;rw[cn (q5C ⟨_,hc⟩)] at e;cases e];calc e⟩⟩⟩
 .by_cases z:b=c
  .subst z;rw[cb] at e;cases e;exact hc
  .rw[bD z] at e;exact ba.co hT _ _ e
 .cases k with
  |zero=>cases e1⁻¹;rw[bD (q1_ N.ne)];exact cn (q5C ⟨_,N.lst⟩)
  |succ k=>simp at e1
 .cases k with
  |zero =>
   cases l with
   |zero=>rfl
   |succ l=>simp at e2
  |succ k=>simp at e1
 .cases k with
  |zero =>
   cases e⁻¹
   exact⟨p,_,U,N.lst,_,U,.cons ⟨c,_,U,cb,pT⟩ (.cons U (.cons U .nil))⟩
  |succ k=>simp at e
 .cases i with
  |zero=>simp at e
  |succ i =>
   cases i with
   |zero =>
    cases e⁻¹
    exact⟨_,U,p,U,U⟩
   |succ i =>
    let e:=by simpa using e
    rw[q3l] at e;split at e<;>cases e
def Xk{B F ad δ σ H Q}(S:SR F ad δ σ H)(h:B ⟨λ_=>False,λx _=>x=.p (.bl θ),λ_=>False,λ_=>False⟩ δ)(q:∀H',Q (.bl θ) H'):eJ B {nx:=λ_ H'=>Q .non H',rt:=Q} σ H :=
 ⟨F,ad,δ,_,S,h,⟨fun δ' h=>h.elim,fun δ' h=>h.elim,fun δ' h=>h.elim,λx δ' h v F' a5 σ' H' E' S' V=>by
  subst h V
  calc q H',trivial⟩⟩
end LJ
namespace L2
open PySem PySem.Spec PyProof.Rows
/---/def FX(Ts:-(Y×Array O))(H:Hp):Prop:=∀b,(∃ps,Ts.lookup b=Z ps/\H b=Z (.tbl ps))\/(Ts.lookup b=η/\(H b=η\/(∃o xs,H b=Z (.frz o (.lst xs)))\/∃xs,H b=Z (.tup xs)))
meta def e_(cs H:Hp):Hp:=λb=>match cs b with
 |none=>H b
 |some _=>η
def FY{cs H b u}(h:e_ cs H b=Z u):cs b=η/\H b=Z u:=by
 unfold e_ at h
 cases q:cs b with
 |none=>rw[q] at h;exact⟨U,h⟩
 |some o=>rw[q] at h;cases h
meta def ny(cs H:Hp):Hp:=λb=>match cs b with
 |none=>H b
 |some o=>Z o
def t6{cs H b}(h:cs b=η):ny cs H b=H b:=by unfold ny;rw[h]
def Bl{cs H b o}(h:cs b=Z o):ny cs H b=Z o:=by unfold ny;rw[h]
structure Cs(P:ψ)(w:ω)(cs:Hp)(h:Α):Prop where
 ct:∀{b:Y}{o:HO},cs b=Z o->∃xs,o=.tup xs
 ok:∀{b:Y}{xs:-V},cs b=Z (.tup xs)->↑xs<=sizeLine/\∃aM:-O,Vals xs aM/\IsTup h b aM.toArray
def Cs.no{P w cs h}(C:Cs P w cs h){b u}(e:h.get? b=Z u)(n:u.cls≠.type "tuple"):cs b=η:=by
 cases q:cs b with
 |none=>rfl
 |some o =>
  let⟨xs,rfl⟩:=C.ct q;let⟨_,aM,_,hI⟩:=C.ok q;let⟨o,e1,r⟩:=hI;rw[e] at e1;cases e1;calc absurd r.1 n
def Xl{P:ψ}{w:ω}{K:q0b}{mg mb:L->Option O}{CX:mT}{k:Nat}{fa a:Y}{fd:FuncData}{x:L}{sp:Sp}{s₁:ο}{vs:-O}{ns:-Int}(Ts:-(Y×Array O)){cs:Hp}(hC:Cs P w cs s₁.heap)
  (hT:∀b ps,Ts.lookup b=Z ps->s₁.heap.get? b=Z {cls:=.none,data:=.fields ps}/\isCodeTable s₁.heap b/\K.lookup b=η)
  (KX:K.In s₁.heap) (zk:s₁.heap.Ns mainGlobals mg) (hb:s₁.heap.Ns builtinsNs mb) (Xm:∀x:L,x≠"__name__" -> mb x=bootBuiltins x) (FZ:s₁.heap.NoLimit) (hg:s₁.gens = #[])
  (ha:s₁.heap.get? a=Z {cls:=.type "list",data:=.seq vs.toArray}) (hi:IntsAre vs ns) (hl:↑ns<=sizeLine) (hr:bA k callerA)
  (hB:∃bm ob,mg "__builtins__" = Z (.ref bm)/\bm≠builtinsNs/\s₁.heap.get? bm=Z ob/\ob.cls=.type "module" /\ ob.dict=Z builtinsNs/\ob.data=.plain)
  (F:∀base:Α,K.In base->base.Ns mainGlobals mg->(∀b ps,Ts.lookup b=Z ps->base.BuiltinsAt mg b)->cB P w K mg base CX k fa fd [x] sp) (zm:∀(s:ο)(u:O),BindsTo s fd ⟨[u],[]⟩ [(x,u)])
  (tK:∀H:Hp,FX Ts H->bf cs H->bR K H a (ns.map V.int)->sp [.ref a] H (λv _=>v=.bl θ) λ_ _ _=>False)
  (F7:∀H e s',CX [] H s₁ (λ_ _ _=>False) e s'->False) :
  codeAny (ς P w) callerA (.call (.ref fa) ⟨[.ref a],[]⟩) (λr s'=>r=.ok (.ret (.bool θ))/\OldK s₁.heap s'.heap/\s'.os=s₁.os/\AllBare s'.gens) s₁:=by
 let rv:=Lk hi;let F8:=↑hi
 let aT:Ts.lookup a=η:=by
  cases q:Ts.lookup a with
  |none=>rfl
  |some ps =>
   let:=(hT a ps q).1;rw[ha] at this;let z:=congrArg Obj.cls (q0P this);cases(show q14 "list" = q0T from z)
 let aC:cs a=η:=hC.no ha (show q14 "list" ≠ q14 "tuple" by decide)
 let tC:∀{b ps},Ts.lookup b=Z ps->cs b=η:=λ{b ps} t=>hC.no (hT b ps t).1 nofun
 let core:∀H:Hp,FX Ts H->bf cs H->bR K H a (ns.map V.int)->fH P w H s₁.heap->(∀b,Ts.lookup b=η->cs b=η->H b≠η->b=a)->(H a≠η->K.lookup a=η) →
   codeAny (ς P w) callerA (.call (.ref fa) ⟨[.ref a],[]⟩) (λr s'=>r=.ok (.ret (.bool θ))/\OldK s₁.heap s'.heap/\s'.os=s₁.os/\AllBare s'.gens) s₁:=by
  ext H hO wZ hS bu Xn hK
  let hA:∀b,Ts.lookup b=η->e_ cs H b≠η->b=a:=λb t n=>by
   cases q:e_ cs H b with
   |none=>exact absurd q n
   |some u=>exact Xn b t (FY q).1 (by rw[(FY q).2];simp)
  let jd:∀{b:Y}{o:Obj},s₁.heap.get? b=Z o->e_ cs H b=η->(ik s₁.heap (e_ cs H)).get? b=Z o:=λe n=>Sd e n
  let qt:∀{b:Y}{o:Obj}{es:Array DictEntry}{ep:Nat},s₁.heap.get? b=Z o->o.data=.dict es ep->e_ cs H b=η:=λ{b o es ep} e d=>by
   cases q:e_ cs H b with
   |none=>rfl
   |some u =>
    cases t:Ts.lookup b with
    |some ps =>
     let:=(hT b ps t).1;rw[e] at this;cases this;cases d
    |none =>
     let e':b=a:=hA b t (by rw[q];simp);subst e';rw[ha] at e;cases e;let d':Data.seq vs.toArray _=Data.dict es ep:=d;cases d'
  let Bm:∀{b:Y}{m:L->Option O},s₁.heap.Ns b m->(ik s₁.heap (e_ cs H)).Ns b m:=λ{b m} ⟨o,es,ep,e,d,r⟩=>⟨o,es,ep,jd e (qt e d),d,r⟩
  let Nm:K.In (ik s₁.heap (e_ cs H)):=λb o e=>jd (KX b o e) (by
   cases q:e_ cs H b with
   |none=>rfl
   |some u =>
    cases t:Ts.lookup b with
    |some ps=>rw[(hT b ps t).2.2] at e;cases e
    |none =>
     let e':b=a:=hA b t (by rw[q];simp);subst e'
     rw[hK (by rw[(FY q).2];simp)] at e;cases e)
  let Xo:∀b ps,Ts.lookup b=Z ps->(ik s₁.heap (e_ cs H)).BuiltinsAt mg b:=λb ps t=>by
   let⟨bm,ob,b1,b2,b3,b4,b5,b6⟩:=hB;refine⟨bm,ob,b1,b2,λz=>?_,λz=>?_,jd b3 ?_,b4,b5,b6⟩
   .let⟨o,es,ep,e1,e2,_⟩:=zk
    rw[z,e1] at b3;cases b3;rw[e2] at b6;cases b6
   .let:=(hT b ps t).1
    rw[z,this] at b3;cases b3;cases b6
   .cases q:e_ cs H bm with
    |none=>rfl
    |some u =>
     cases t':Ts.lookup bm with
     |some Xp =>
      let:=(hT bm Xp t').1;rw[b3] at this;cases this;cases b6
     |none =>
      let e':bm=a:=hA bm t' (by rw[q];simp);rw[e',ha] at b3;cases b3;cases b6
  let hM:Mod K mg (ik s₁.heap (e_ cs H)):=⟨Nm,Bm zk,⟨mb,Bm hb,Xm⟩,let⟨mc,h1,h2⟩:=FZ;⟨mc,Bm h1,h2⟩⟩
  let e0:kH P w K mg (ik s₁.heap (e_ cs H)) callerA [] s₁ H:=⟨U,hM,λb o e=>⟨(Ki e).1,by
   let z:=(Ki e).2;unfold e_ at z
   cases q:cs b with
   |none=>rw[q] at z;exact .inl z
   |some u =>
    let⟨xs,rfl⟩:=hC.ct q
    calc .inr ⟨xs,wZ b _ q⟩⟩,q4f (Sb _ _),trivial,λb hb=>absurd (show b∈([]:-Y) from hb) (by simp),bu,.of_eq hg⟩
  refine q2C ((F _ Nm (Bm zk) Xo).run callerA [] s₁ H ⟨[.ref a],[]⟩ [.ref a] [.ref a] _ _ hr e0 (zm s₁ (.ref a)) (.cons U .nil) (tK H hO wZ hS)) λr s' h=>?_
  cases r with
  |error e=>exact(F7 H e s' h).elim
  |ok fl =>
   cases fl with
   |next=>exact q1D h
   |brk=>exact q1D h
   |cont=>exact q1D h
   |ret u =>
    let⟨v,H',os,bare,un,zo,r',q⟩:=h;let q':v=.bl θ:=q;subst q';obtain rfl:u=q3j θ:=r'
    let all:∀b o,s₁.heap.get? b=Z o->asItWas s₁.heap s'.heap b o/\∃o',s'.heap.get? b=Z o':=λb o e=>by
     rcases hO b with⟨ps,t,z⟩|⟨t,z|⟨ob,xs,z⟩|⟨xs,z⟩⟩
     .let⟨more,z2⟩:=un.ie b ps z
      let e2:s'.heap.get? b=Z {cls:=.none,data:=.fields (ps++more)}:=zo b _ z2;let e1:=(hT b ps t).1;rw[e] at e1;cases e1;exact⟨.inr (.inl ⟨(hT b ps t).2.1,U,ps,more,U,e2⟩),_,e2⟩
     .let e2:=un.keep b o e z (by ext z;calc absurd (show b∈([]:-Y) from z) (by simp)) (by simp)
      exact⟨.inl e2,_,e2⟩
     .let z2:=un.ic b ob _ z
      let⟨e1,_⟩:=bu b _ z;let⟨e2,_⟩:=zo b _ z2;rw[e] at e1;cases e1;exact⟨.inl e2,_,e2⟩
     .let e2:=un.gW b xs o z e (by simp)
      exact⟨.inl e2,_,e2⟩
    exact⟨U,⟨λb o e=>(all b o e).1,λb o e=>(all b o e).2⟩,os,bare⟩
 let t7:∀H b ps,Ts.lookup b=Z ps->bO P w H s₁.heap b (.tbl ps):=λH b ps t=>(hT b ps t).1
 let one:∀{b R},(∀o,cs b=Z o->R)->(cs b=η->R)->R:=λ{b R} f g=>by
  cases q:cs b with
  |none=>exact g q
  |some o=>exact f o q
 let Nn:∀{H b o u},cs b=Z o->ny cs H b=Z u->bO P w (ny cs H) s₁.heap b u:=λ{H b o u} q z=>by
  rw[Bl q] at z;cases z;let⟨xs,rfl⟩:=hC.ct q;exact hC.ok q
 let cO:∀{H b o},cs b=Z o->(∃ps,Ts.lookup b=Z ps/\ny cs H b=Z (.tbl ps))\/(Ts.lookup b=η/\(ny cs H b=η\/(∃o xs,ny cs H b=Z (.frz o (.lst xs)))\/∃xs,ny cs H b=Z (.tup xs))):=λ{H b o} q=>by
  let⟨xs,rfl⟩:=hC.ct q;refine .inr ⟨?_,.inr (.inr ⟨xs,Bl q⟩)⟩
  cases t:Ts.lookup b with
  |none=>rfl
  |some ps=>rw[tC t] at q;cases q
 cases hk:K.lookup a with
 |some o =>
  let e:=KX a o hk;rw[ha] at e;cases e
  refine core (ny cs λb=>(Ts.lookup b).map HO.tbl) (λb=>one (λo q=>cO q) λq=>?_) (λb o q=>Bl q) (.inr ⟨_,vs.toArray,_,hk,U,U,U,by rw[Uk,F8];calc hl,by simpa using rv⟩) (λb u z=>one (λo q=>Nn q z) λq=>?_) (λb t q z=>?_) λz=>?_
  .rw[t6 q]
   cases t:Ts.lookup b with
   |some ps=>exact .inl ⟨ps,U,U⟩
   |none=>exact .inr ⟨U,.inl U⟩
  .rw[t6 q] at z
   let⟨ps,t,rfl⟩:=q0e.mp (z);exact t7 _ b ps t
  .rw[t6 q] at z
   exact absurd (by rw[t];rfl) z
  .rw[t6 aC] at z
   exact absurd (by rw[aT];rfl) z
 |none =>
  refine core (ny cs λb=>if b=a then Z (.frz {cls:=.type "list",data:=.seq vs.toArray} (.lst (ns.map V.int))) else(Ts.lookup b).map HO.tbl) (λb=>one (λo q=>cO q) λq=>?_) (λb o q=>Bl q) (.inl (.inr ⟨{cls:=.type "list",data:=.seq vs.toArray},(t6 aC).trans (q0r U)⟩)) (λb u z=>one (λo q=>Nn q z) λq=>?_) (λb t q z=>?_) λ_=>hk
  .rw[t6 q]
   by_cases hb:b=a
   .subst hb
    exact .inr ⟨aT,.inr (.inl ⟨_,_,q0r U⟩)⟩
   .cases t:Ts.lookup b with
    |some ps=>exact .inl ⟨ps,U,q0l hb⟩
    |none=>exact .inr ⟨U,.inl (q0l hb)⟩
  .rw[t6 q] at z
   by_cases hb:b=a
   .cases ((q0r hb).symm.trans z)
    subst hb;exact⟨ha,by rw[ye];calc hl,vs,_,rv,ha⟩
   .let⟨ps,t,rfl⟩:=q0e.mp ((q0l hb).symm.trans z)
    exact t7 _ b ps t
  .rw[t6 q] at z
   by_cases hb:b=a
   .exact hb
   .calc absurd ((q0l hb).trans (by rw[t];rfl)) z
def Xq{l:q7D}{n k:Nat}{q:ψ}{loose:-L}{XP:(L->Option O)->Α->Prop}{YP:ω->Α->Prop}{d:DefRec}{K:ω->q0b}{CX:ω->mT}{sp:ω->Sp}{x:L}{Ts:ω->-(ξ×Array O)}{cs:ω->Hp}
  (hn:l.most=Z n) (xX:n<=sizeLine) (yh:d.params.defaults=[]) (hr:bA k callerA)
  (hY:∀(w:ω)(h:Α),YP w h->(K w).In h)
  (hT:∀(w:ω)(h:Α),YP w h->∀b ps,(Ts w).lookup b=Z ps->h.get? b=Z {cls:=.none,data:=.fields ps}/\isCodeTable h b/\(K w).lookup b=η)
  (hC:∀(w:ω)(h:Α),YP w h->Cs l.prog w (cs w) h)
  (F:∀(w:ω)(mg:L->Option O)(fa:ξ)(h:Α),(K w).In h->h.Ns mainGlobals mg->mg d.name=Z (.ref fa) →
   ∃fd:FuncData,(∀(s:ο)(u:O),BindsTo s fd ⟨[u],[]⟩ [(x,u)]) ∧
    ∀base:Α,(K w).In base->base.Ns mainGlobals mg->(∀b ps,(Ts w).lookup b=Z ps->base.BuiltinsAt mg b)->cB l.prog w (K w) mg base (CX w) k fa fd [x] (sp w))
  (tK:∀(w:ω)(H:Hp)(a:ξ)(ns:-Int),↑ns<=n->FX (Ts w) H->bf (cs w) H->bR (K w) H a (ns.map V.int)->sp w [.ref a] H (λv _=>v=.bl θ) λ_ _ _=>False)
  (F7:∀(w:ω)(H:Hp)(s:ο)(e:O)(s':ο),CX w [] H s (λ_ _ _=>False) e s'->False) :
  PySem.W.WalkO q loose XP YP l.row.toRowW d [] (λf vs=>q72 f vs):=by
 calc Att.jQ hn yh λw s₀ s₁ mg mb fa o pm cd doc a vs ns G Y ho hd jM qD uV hints hlen hg=>?_;let KX:=hY w _ Y;let⟨fd,hb,hF⟩:=F w mg fa _ KX G.T.g qD;calc Xl (Ts w) (hC w _ Y) (hT w _ Y) KX G.T.g G.T.b G.T.builtins G.T.nolimit hg uV hints ⋯ hr G.T.bmain hF hb (λH hO wZ hS=>tK w H a ns hlen hO wZ hS) λH e s'=>F7 w H s₁ e s'
section
variable{X:Cx}{pins:a9}{σ:St}{H:Hp}{s:ο}{h':Α}
def Inv.grow{T c f:Y}{ps more oc of t'}(I:Inv X pins σ H s)(hT:H T=Z (.tbl ps))(k:∀b u,b≠T->s.heap.get? b=Z u->h'.get? b=Z u)(Bo:h'.get? T=Z {cls:=.none,data:=.fields (ps++more)})
  (hc:⇑s<=c) (hf:⇑s<=f) (F9:c≠f) (Xr:∀H2,bO X.prog X.w H2 h' c oc) (Xs:∀H2,bO X.prog X.w H2 h' f of) :
  Inv X pins σ (upd (upd (upd H T (.tbl (ps++more))) c oc) f of) {s with heap:=h',toks:=t'}:=by
 let tl:=(I.bu T _ hT).lt
 let old:∀b,b<⇑s->b≠T->upd (upd (upd H T (.tbl (ps++more))) c oc) f of b=H b:=λb hb nT=>by
  rw[bD (q0o ⋯),bD (q0o ⋯),bD nT]
 let atT:upd (upd (upd H T (.tbl (ps++more))) c oc) f of T=Z (.tbl (ps++more)):=by
  rw[bD (q1_ (q15 (q0v tl hf))),bD (q1_ (q15 (q0v tl hc))),cb]
 let lt:=λb u e=>(I.bu b u e).lt
 let fT:∀b u,H b=Z u->(∀qs,u≠.tbl qs)->upd (upd (upd H T (.tbl (ps++more))) c oc) f of b=Z u:=λb u e n=>by
  rw[old b (lt b u e) (λz=>by subst z;rw[hT] at e;cases e;calc n _ U)];exact e
 refine I.un  ⟨λb o e n _ _=>k b o (λz=>by subst z;rw[hT] at n;cases n) e,λb o e n _ _=>⟨o.slots,k b o (λz=>by subst z;rw[hT] at n;cases n) e⟩,λb o e n _=>?_,λb o e _=>?_,λb xs e=>fT b _ e (λ_ z=>by cases z),λb o u e=>fT b _ e (λ_ z=>by cases z),λb qs e=>?_,λb xs o q e _=>k b o (λz=>by subst z;rw[hT] at q;cases q) e⟩ λb u e=>?_
 .rw[old b (q0h e) (λz=>by subst z;rw[hT] at n;cases n)];exact n
 .by_cases z:b=T
  .calc wd λoH=>?_;subst z;exact oH <| ⟨_,Bo⟩
  .exact⟨o,k b o z e⟩
 .by_cases z:b=T
  .subst z;rw[hT] at e;cases e;exact⟨more,atT⟩
  .exact⟨#[],by rw[old b (lt b _ e) z,e];simp⟩
 .by_cases z1:b=f
  .subst z1;rw[cb] at e;cases e;exact Xs _
  .rw[bD z1] at e
   by_cases z2:b=c
   .subst z2;rw[cb] at e;cases e;exact Xr _
   .rw[bD z2] at e
    by_cases z3:b=T
    .subst z3;rw[cb] at e;cases e;exact Bo
    .rw[bD z3] at e
     refine bO.ib (I.bu b u e) (λd v hd q=>?_) (λd q=>fT d _ q (λ_ z=>by cases z)) (λd xs q=>fT d _ q (λ_ z=>by cases z))
     .refine k d v (λy=>?_) q
      subst y;rcases hd with y|y
      .exact z3 y.symm
      .rw[hT] at y;cases y
meta def pY(c:Y)(q:L):HO:=.ext λh=>∃o vs tq,h.get? c=Z o/\o.data=.fields vs/\vs[1]?=Z (.str q tq)
def Xt{P w H h c q}(e:h.CodeRec (.ref c) q):bO P w H h c (pY c q):=by
 let⟨c',o,vs,tq,z,ho,hd,hq⟩:=e;cases z
 calc⟨⟨o,vs,tq,ho,hd,hq⟩,⟨o,ho⟩,λh1 h2 ⟨o,vs,tq,e1,e2,e3⟩ k↦⟨o,vs,tq,k o e1,e2,e3⟩⟩
def Xu{P w H h c q}(x:bO P w H h c (pY c q)):h.CodeRec (.ref c) q:=by
 let⟨⟨o,vs,tq,ho,hd,hq⟩,_⟩:=x;calc⟨c,o,vs,tq,U,ho,hd,hq⟩
end
end L2
namespace L2
open PySem PySem.Spec PyProof.Rows PySem.W
section
section
variable{X:Cx}{pins:a9}{σ:St}{H:Hp}{s:ο}{params:Arguments}{body:υ}{scope:Γ}{pos:Δ}{mE:-(L×Y)}{cc T:Y}{ps:Array O}{E:bz}{Q:bz}
meta def mF(f:Y)(name qual:L)(params:Arguments)(body:υ)(scope:Γ)(mE:-(L×Y))(pm cd:O):HO:=.ext λh=>∃zp,h.get? f=Z {cls:=.type "function",data:=.func (kla_fn name qual params body scope mE pm cd zp)}
/---/def fU(H:Hp)(T:Y)(pos:Δ)(qual:L):Prop:=∃ps,H T=Z (.tbl ps)/\TriplesOk ps.toList/\(codeAmong pos ps.toList=η\/∃c,codeAmong pos ps.toList=Z (.ref c)/\H c=Z (pY c qual))
def x5m(I:Inv X pins σ H s)(hT:fU H T pos (X.env.qual++"<lambda>"))(F_:defaultsOf params X.env=([],[]))(pJ:closureFor scope X.env=pure mE)(iL:X.env.code=.ref cc)(C:CodeHd s.heap cc T)(Xv:mainGlobals≠T)(hg:s.heap.Ns mainGlobals X.mg)(hb:s.heap.BuiltinsAt X.mg T)
  (h:∀f H' s' c,Inv X pins σ H' s'->fU H' T pos (X.env.qual++"<lambda>")->(∀b o,H b=Z o->b≠T->H' b=Z o)->H f=η->H' f=Z (mF f "<lambda>" (X.env.qual++"<lambda>") params body scope mE ((X.mg "__name__").getD .none) (.ref c))->H' c=Z (pY c (X.env.qual++"<lambda>"))->Q (.ref f) s') :
  ρ (ς X.prog X.w) X.A (eval (.Lambda params body scope pos) X.env) Q E s:=by
 let⟨ps,hP,ht,hf⟩:=hT;let Ga:=I.bu T _ hP;calc kla_eval F_ ?_;rcases hf with Np|⟨c,hf,Bp⟩
 .refine kla_makeFunction pJ I.ok.glob hg iL C Ga ht Np Xv hb λc' zp h' tk hx Gb eV Gd Xw=>?_
  let hsz:⇑s<=h'.objs.size:=q1e ⋯;let tl:=q0h Ga;let F9:=q0o eV;let Nq:(ps ++ #[rawInt pos.line,rawInt pos.col,q1n c']).toList=ps.toList++[rawInt pos.line,rawInt pos.col,q1n c']:=by simp
  let atT:upd (upd (upd H T (.tbl (ps ++ #[rawInt pos.line,rawInt pos.col,.ref c']))) c' (pY c' (X.env.qual++"<lambda>"))) h'.objs.size (mF h'.objs.size "<lambda>" (X.env.qual++"<lambda>") params body scope mE ((X.mg "__name__").getD .none) (.ref c')) T=Z (.tbl (ps ++ #[rawInt pos.line,rawInt pos.col,.ref c'])):=by
   rw[bD (q0o (q0v tl hsz)),bD (q0o (q0v tl Gb)),cb]
  let atC:upd (upd (upd H T (.tbl (ps ++ #[rawInt pos.line,rawInt pos.col,.ref c']))) c' (pY c' (X.env.qual++"<lambda>"))) h'.objs.size (mF h'.objs.size "<lambda>" (X.env.qual++"<lambda>") params body scope mE ((X.mg "__name__").getD .none) (.ref c')) c'=Z (pY c' (X.env.qual++"<lambda>")):=by
   rw[bD F9,cb]
  refine h h'.objs.size _ _ c' (I.grow    hP (λb u nb e=>Lm _ (hx b u nb e)) (Lm _ Xw) Gb hsz F9 (λ_=>Xt (Gd.push _)) λ_=>?_) ⟨_,atT,?_,.inr ⟨c',?_,atC⟩⟩ (λb o e nb=>?_) (I.bu.fresh hsz) cb atC
  .exact⟨⟨zp,q0f _ U⟩,⟨_,q0f _ U⟩,λh1 h2 ⟨v,e⟩ k↦⟨v,k _ e⟩⟩
  .rw[Nq];exact TriplesOk_snoc _ _ _ _ ht
  .rw[Nq];exact codeAmong_snoc _ ht Np
  .let bl:=(I.bu b o e).lt
   rw[bD (q0o (q0v bl hsz)),bD (q0o (q0v bl Gb)),bD nb];exact e
 .refine kla_makeFunctionHit pJ I.ok.glob hg iL C Ga ht hf hb λzp h' tk hk hsz=>?_
  let hn:=I.bu.fresh hsz;refine h h'.objs.size _ _ c (I.laid    (λb u e=>Lm _ (hk b u e)) hsz ?_) ⟨ps,?_,ht,.inr ⟨c,hf,?_⟩⟩ (λb o e _=>?_) hn cb ?_
  .exact⟨⟨zp,q0f _ U⟩,⟨_,q0f _ U⟩,λh1 h2 ⟨v,e⟩ k↦⟨v,k _ e⟩⟩
  .rw[bD (eg hP hn)];exact hP
  .rw[bD (eg Bp hn)];exact Bp
  .rw[bD (eg e hn)];exact e
  .rw[bD (eg Bp hn)];calc Bp
end
structure LD where
 A:Β
 cl:-(L×Y)
 f:Y
 cd:O
 s:ο
 H:Hp
@[reducible] noncomputable def rT (X:Cx) (qual:L) (scope:Γ) (Nb:-L) (d:LD):Cx where
 prog:=X.prog
 w:=X.w
 K:=X.K
 mg:=X.mg
 base:=X.base
 A:=d.A.deeper (envX qual scope ⇑d.s d.f d.cd d.cl)
 N:=Nb
 s₀:=d.s
 H₀:=d.H
 env:=envX qual scope ⇑d.s d.f d.cd d.cl
 outer:=X.stack
 stack:=envX qual scope ⇑d.s d.f d.cd d.cl::X.stack
 ex:=[]
 fn:=λ_=>ι
 calm:=true
 pn:=[]
 xe:=λ_ _=>False
meta def zq(N:-L)(Az scope:Γ)(x:L)(Nb:-L)(cp:-(Option Nat)):Bool :=
 mX N Az scope (x::Nb) (η::cp)&&(scope.names.all λy=>I (y.2≠.cell))&&I (scope.names.lookup x=Z .local)&&cp.all (·.isSome)
section
variable{X:Cx}{pins:a9}{σ:St}{H:Hp}{s:ο}{params:Arguments}{body:υ}{scope:Γ}{cl:-(L×Y)}{E:bz}{Q:VK}{name qual x:L}{f c:Y}{pm:O}{A:Β}{v:V}{u:O}{Nb:-L}{cp:-(Option Nat)}{t:TE}
def Nr(I:Inv X pins σ H s)(hf:H f=Z (mF f name qual params body scope cl pm (.ref c)))(hc:H c=Z (pY c qual))(hA:A.frames=Z X.stack)(hh:A.handled=η)(hd:A.depth<recursionLimit)
  (hk:scope.kind=.function) (ho:zq X.N X.env.scope scope x Nb cp=θ) (Xx:scope.isCoroutine=ι) (Ge:scope.isGenerator=ι)
  (rV:∀y c,cl.lookup y=Z c->X.env.cells.lookup y=Z c) (w5:∀y∈scope.names,y.2=.free->∃c,cl.lookup y.1=Z c)
  (hb:∀(ct:O),bindArgs (kla_fn name qual params body scope cl pm (.ref c) ct) ⟨[u],[]⟩=pure [(x,u)]) (r:RelV v u)
  (J:JE (rT X qual scope (x::Nb) ⟨A,cl,f,.ref c,s,H⟩) body t) (h:t (Z v::l5 cp σ) H Q):ρ (ς X.prog X.w) A (call (.ref f) [u]) (EP X pins σ Q) E s:=by
 unfold zq at ho;erw[q04,q1J,q0u] at ho;let⟨⟨⟨ho,Nu⟩,hx⟩,cps⟩:=ho;let S:=yk hk ho;let⟨⟨ct,Xy⟩,_⟩:=I.bu f _ hf;calc q49 (kla_callFunE hd Xy U Xx Ge U (Xu (I.bu c _ hc)) ?_);rw[hb ct];calc Ui (wpAny_newFunctionEnv (λy hy=>Nu y hy) (λy hy=>by rw[q0z.mp hy];calc hx) (λh₁ zk yo=>?_) hk);let zr:=λb o e=>yo.extBut b o (q0o (q0h e)) (Lm _ e);calc⟨I.nolimit.keeps zr,?_⟩;let e0:=I.uL;let qt:∀b ,b∉(rT X qual scope (x::Nb) ⟨A,cl,f,.ref c,s,H⟩).ex:=λb z=>absurd (z) (by simp);let mem:∀{y k},scope.names.lookup y=Z k->(y,k)∈scope.names:=λe=>q1B e
 let I1:Inv (rT X qual scope (x::Nb) ⟨A,cl,f,.ref c,s,H⟩) [] (Z v::l5 cp σ) H {s with heap:=h₁,toks:=s.toks+↑[(x,u)]}:=by
  refine⟨⟨e0.mod,hk,U,U,Ln _,λy z d h1 h2=>I.ok.inj y z d (rV y d h1) (rV z d h2),λy hy=>?_,λy d z _=>(by cases z),λ_=>hh,q5M hA,.inr ⟨U,U⟩,λb z=>absurd z (qt b),e0.bs,e0.nQ,λb _ _=>qt b,λb z=>absurd z (qt b),e0.fu,e0.pD⟩,
   U,e0.bare,Un.kept zr,⟨_,zk,λi y w h1 h2 h3=>?_⟩,λy d hy=>?_,e0.bu.fresh (Ln _),λy d hy=>I.c9 y d (rV y d hy),λp hp=>absurd (hp) (by simp),e0.bu.kept zr,?_⟩
  .let hy:=hy
   rcases hy with hy|hy
   .exact absurd U (Nu _ (mem hy))
   .exact w5 _ (mem hy) U
  .cases i with
   |zero =>
    cases h1⁻¹
    cases h2⁻¹
    exact⟨u,r,.inl ⟨hx,by simp⟩⟩
   |succ j =>
    let h1:=by simpa using h1
    let h2:=by simpa using h2
    unfold l5 at h2;rw[Uj] at h2;let⟨o,q1,q2⟩:=q0e.mp h2
    match o,q2 with
    |none,q2=>cases q2
    |some i',q2 =>
     let q2:(σ[i']?).join=Z w:=q2;calc wd λoJ=>?_;let⟨n1,n2⟩:=S.yj (j+1) i' y q1⁻¹ h1⁻¹
     let hs:σ[i']?=Z (Z w):=by
      cases q:σ[i']? with
      |none=>rw[q] at q2;cases q2
      |some z=>rw[q] at q2;cases(q2);rfl
     let kd:=S.free _ (mem n2) U;let⟨m,hn,hl⟩:=I.loc;let⟨u',rv,lk⟩:=hl i' y w n1 hs (by rcases kd with z|z;calc .inr (.inl z);calc .inr (.inr z));calc oJ <| ⟨u',rv,?_⟩;rcases lk with⟨z,_⟩|⟨_,d,e1,o,e2,e3⟩
     .rcases kd with k|k<;>(rw[z] at k;cases k)
     .let⟨d',e4⟩:=w5 _ (mem n2) U
      let:=rV _ _ e4;rw[e1] at this;cases this;exact .inr ⟨.inr n2,d,e4,o,zr _ _ e2,e3⟩
  .let⟨z,o,e2,e3⟩:=I.cell y d (rV y d hy)
   exact⟨z,o,zr _ _ e2,e3⟩
  .let:=S.len
   unfold l5;simpa using this
 calc kla_codeExpr (q1C (J [] _ _ H Q I1 h) (λu' s' hs=>?_) λe s' hs=>hs.elim);let⟨w,H',J',rv,q⟩:=hs;calc I.after ⟨w,H',J'.os,J'.bare,J'.base,J'.bu,rv,q⟩
end
/---/def k7(h:Α)(k:LK)(v:O):Prop:=∃a o xs n,v=.ref a/\h.get? a=Z o/\o.cls=.type "tuple" /\ o.data=.seq xs n/\IntsAre xs.toList k
section
variable{prog:ψ}{w:ω}{A:Β}{E:bz}{s:ο}{Q:Bool->ο->Prop}
def Nv{fin:Bool}:∀{us ws:-O}{ks ls:LK}(i:Nat),IntsAre us ks->IntsAre ws ls->fin=I (↑us<↑ws)->Q (HT.lexLt ks ls) s->KatLex prog w A θ fin Q (us.zip ws) i s
 |_,_,_,_,i,.nil,.nil,hf,h=>by
  subst hf;exact h
 |_,_,_,_,i,.nil,.cons m u r,hf,h=>by
  let:fin=θ:=by rw[hf];simp
  subst this;exact h
 |_,_,_,_,i,.cons n t r,.nil,hf,h=>by
  let:fin=ι:=by rw[hf];simp
  subst this;exact h
 |_,_,_,_,i,.cons n t r,.cons m u r',hf,h=>by
  refine kat_cons (q42 (kat_go (λe=>?_) λe=>?_))
  .let e:=q1K e
   subst e;rw[HT.pG,q0r U] at h;exact kat_yes (Nv (i+1) r r' (by rw[hf];simp) h)
  .rw[HT.pG,q0l (λz=>by subst z;simp at e)] at h
   refine kat_no ?_
   cases q:(θ&&i==0) with
   |true=>exact oneLt_int h
   |false=>calc kat_one _ _ (q4a h)
def Nx{k l:LK}{x y:O}(hx:k7 s.heap k x)(hy:k7 s.heap l y)(h:Q (HT.lexLt k l) s):ρ (ς prog w) A (keyLt' (tuples' θ) x y) Q E s:=by
 calc wd λrW=>?_;let⟨a,o,xs,n,rfl,h1,_,h2,h3⟩:=hx;let⟨b,o',ys,n',rfl,g1,_,g2,g3⟩:=hy;calc rW <| kat_lt h1 h2 g1 g2 (Nv 0 h3 g3 (U) h)
def Ny{h:Α}:∀{keys:-O}{ks:-LK},(∀k∈ks,k≠[])->↑keys=↑ks->(∀(i:Nat)(k:LK)(v:O),ks[i]?=Z k->keys[i]?=Z v->k7 h k v)->∃fs,KatTups h keys fs/\fs.length=↑keys/\∀v∈fs,∃n t,v=q1m n t
 |[],[],_,_,_=>⟨[],.nil,U,λv hv=>nomatch hv⟩
 |[],_::_,_,hl,_=>by simp at hl
 |_::_,[],_,hl,_=>by simp at hl
 |v::keys,k::ks,iF,hl,ht=>by
  let⟨fs,t,hf,hi⟩:=Ny    (λk hk=>iF k (q0p _ hk)) hl⁻¹ λi k v e1 e2=>ht (i+1) k v e1⁻¹ e2⁻¹;let⟨a,o,xs,n,rfl,h1,hc,h2,h3⟩:=ht 0 k v U U;let hk:=iF k q0d;generalize hx:xs.toList=xl at h3
  cases h3 with
  |nil=>exact absurd U hk
  |cons m t' r =>
   let h0:xs[0]?=Z (.int m t'):=by rw[<-q0G,hx];rfl
   calc⟨.int m t'::fs,.cons h1 hc h2 h0 t,by rw[Uh,Uh,hf],λv hv=>?_⟩;rcases q0c.mp hv with rfl|hv
   .exact⟨m,t',U⟩
   .calc hi v hv
def Nz{M:Model}{keys:-O}{ks:-LK}{Q:SortKind->ο->Prop}(h0:0<↑keys)(iF:∀k∈ks,k≠[])(hl:↑keys=↑ks)(ht:∀(i:Nat) (k:LK) (v:O),ks[i]?=Z k->keys[i]?=Z v->k7 s.heap k v)(h:Q (tuples' θ) s):
  ρ M A (keyKind' keys.toArray) Q E s:=by
 let⟨fs,t,hf,hi⟩:=Ny iF hl ht;refine kat_kind (T:=.type "int") t ⋯ (λv hv=>?_) (by decide) ?_
 .let⟨n,t',rfl⟩:=hi v hv
  exact .now
 .calc h
def getD_some{α:Type}{l:-α}{i:Nat}{d:α}(h:i<↑l):l[i]?=Z (l.getD i d):=by
 rw[D9 h,My,D9 h];rfl
def Xz{a kS:Y}{e1:Nat}{vs keys:-O}{ks:-LK}{P:q87->ο->Prop}(hv:↑keys=↑vs)(ka:↑vs<64)(iF:∀k∈ks,k≠[])(hl:↑keys=↑ks)(ht:∀(i:Nat) (k:LK) (v:O),ks[i]?=Z k->keys[i]?=Z v->k7 s.heap k v)
  (fin:∀st (p:Array Nat),(arrOf st).map (·.2)=q01 (p.toList.map λi=>vs.getD i q0T)->failedOf st=η->d5 ↑vs p->Up (λi=>ks.getD i []) p ↑vs->ρ (ς prog w) A (ksk_tail a ι e1 (.ref kS) st) P E s) :
  ρ (ς prog w) A (ksk_end a ι vs.toArray e1 (.ref kS) (q01 keys)) P E s:=by
 unfold ksk_end
 try dsimp only
 by_cases h2:vs.toArray.size<2
 .rw[q0r h2,q0r h2]
  try dsimp only
  rw[Uk] at h2;refine fin _ (q0F ↑vs).toArray ?_ U ⟨q5s _⟩ λi j k6 hj=>?_
  .let vy:arrOf (SortSt.mk' general' (keys.toArray.zip vs.toArray) #[] 7 η)=(q01 (q0F ↑vs)).map (kas_item (keys.toArray.zip vs.toArray)):=by
    let e:=kas_range (keys.toArray.zip vs.toArray);rw[show(keys.toArray.zip vs.toArray).size=↑vs by simp[hv]] at e;rw[e]
   exact kat_snds hv vy
  .let:i=j:=by symm
   subst this;exact kle_refl _
 .rw[q0l h2,q0l h2]
  rw[Uk] at h2
  refine Aw (Nz ⋯ iF hl ht (Aw (q1C (kat_run   (Q:=λiH s'=>s'=s/\∃p:Array Nat,arrOf iH=p.map (kas_item (keys.toArray.zip vs.toArray))/\failedOf iH=η/\d5 ↑vs p/\Up (λi=>ks.getD i []) p ↑vs)
   (G:=λp s'=>s'=s/\d5 ↑vs p/\Up (λi=>ks.getD i []) p ↑vs) hv ⋯ ka (λp iH s' a1 a2 a3 a4=>⟨a4.1,p,a2,a3,a4.2.1,a4.2.2⟩) ?_) ?_ λ_ _ x=>x)))
  .refine MV  (I:=λs'=>s'=s) (λi j C s' hi hj e hC=>?_) ⋯ U λp s' a1 a2 a3=>⟨a3,a1,a2⟩
   subst e;exact Nx (ht i _ _ (getD_some ⋯) (getD_some ⋯)) (ht j _ _ (getD_some ⋯) (getD_some ⋯)) (hC _ U)
  .ext ⟨⟨⟩,iH⟩ s' ⟨rfl,p,a1,a2,a3,a4⟩
   try dsimp only
   calc fin iH p (kat_snds hv a1) a2 a3 a4
end
def bW.at{X:Cx}{pins:a9}{H H':Hp}{b:Y}(f:bW X pins H b)(h:H' b=η):bW X pins H' b:=⟨h,f.2⟩
section
variable{X:Cx}{pins:a9}{σ:St}{H:Hp}{s:ο}{A:Β}{E:bz}{a:Y}{vs:-O}{f:O}
def Inv.fm{h':Α}{t':Nat}{b:Y}(I:Inv X pins σ H s)(fb:bW X pins H b)(k:∀c o,c≠b->s.heap.get? c=Z o->h'.get? c=Z o):Inv X pins σ H {s with heap:=h',toks:=t'} :=
 I.turned k fb.1 fb.2.1 fb.2.2.2.1 fb.2.2.2.2.1 fb.2.2.2.2.2
def Inv.iB{b:Y}{o:Obj}(I:Inv X pins σ H s)(fb:bW X pins H b)(e:s.heap.get? b=Z o)(hc:∀v,o.data≠.cell v):Inv X ((b,o)::pins) σ H s :=
 I.gK λp hp=>by
  rcases q0c.mp hp with rfl|hp
  .exact⟨e,fb.1,fb.2.1,fb.2.2.1,hc⟩
  .calc I.pin p (q0n _ hp)
def Inv.dr{p:Y×Obj}(I:Inv X (p::pins) σ H s):Inv X pins σ H s:=I.gK λq hq=>I.pin q (q0n _ (q0p _ hq))
def bW.cons{b:Y}{p:Y×Obj}(f:bW X pins H b)(n:p.1≠b):bW X (p::pins) H b :=
 ⟨f.1,f.2.1,f.2.2.1,f.2.2.2.1,f.2.2.2.2.1,λq hq=>by
  rcases q0w.mp hq with z|z
  .exact f.2.2.2.2.2 q (q0U _ z)
  .rcases q0c.mp z with rfl|z
   .exact n
   .calc f.2.2.2.2.2 q (q0n _ z)⟩
def vz{c xs n}:∀v,(seqObj c xs n).data≠.cell v:=λv z=>by cases z
def XA{P:-V->Hp->Prop}{n0:Nat}{R:q87->ο->Prop}(I:Inv X pins σ H s)(fa:bW X pins H a)(ha:s.heap.get? a=Z (seqObj "list" vs.toArray n0))(ka:↑vs<64)(p0:P [] H)
  (k8:∀(b9:a9)(v:O)(kvs:-V)(H':Hp)(s':ο),vs[↑kvs]?=Z v->Inv X b9 σ H' s'->P kvs H'->ρ (ς X.prog X.w) A (call f [v]) (EP X b9 σ λk kO=>P (kvs++[k]) kO) (λ_ _=>False) s')
  (fin:∀kvs H',↑kvs=↑vs->P kvs H'->∃ks:-LK,↑ks=↑vs/\(∀k∈ks,k≠[])/\(∀(i:Nat)(k:LK),ks[i]?=Z k->∃t,kvs[i]?=Z (.ref t)/\H' t=Z (.tup (k.map V.int))) ∧
   ∀(p:Array Nat)(s':ο)(c:Nat),d5 ↑vs p->Up (λi=>ks.getD i []) p ↑vs->Inv X pins σ H' s'->bW X pins H' a->s'.heap.get? a=Z (seqObj "list" (q01 (p.toList.map λi=>vs.getD i q0T)) c)->R (.done (.ret .none)) s') :
  ρ (ς X.prog X.w) A (ksk_tree a f ι) R E s:=by
 unfold ksk_tree;calc Aw (q6U ha U ?_);calc Aw (q3c ha U ?_ (by rw[Uk,q1g];symm) (q0V _));let sb:=q0O s.heap a (q0Q λ_=>(#[]:Array O));let⟨e1,gT⟩:∃e1,(s.heap.update a (q0Q λ_=>(#[]:Array O))).get? a=Z (seqObj "list" #[] e1):=⟨_,q2V ha λ_ => #[]⟩;let I1:Inv X pins σ H {s with heap:=s.heap.update a (q0Q λ_=>(#[]:Array O))}:=I.fm (t':=s.toks) fa λc o n e=>(sb.2 c n).trans e;calc Aw (q5S gT U ?_);calc Aw (q8a ?_ (by show ↑vs<=_;rw[q1g];symm));calc Aw (q2X ?_ (q0V _));calc q0R ?_;generalize XB:s.heap.update a (q0Q λ_=>(#[]:Array O))=g0 at gT I1
 show ρ _ _ (ksk_rest a f ι vs.toArray e1 (.ref (g0.push (seqObj "tuple" vs.toArray 0)).objs.size)) R E {s with heap:=(g0.push (seqObj "tuple" vs.toArray 0)).push (seqObj "list" #[] 0)};let I2:Inv X pins σ H {s with heap:=(g0.push (seqObj "tuple" vs.toArray 0))}:=I1.kept (h':=g0.push (seqObj "tuple" vs.toArray 0)) (t':=s.toks) λb u e=>Lm _ e;let gx:(g0.push (seqObj "tuple" vs.toArray 0)).get? a=Z (seqObj "list" #[] e1):=Lm _ gT;generalize g0.push (seqObj "tuple" vs.toArray 0)=g1 at I2 gx;let fk:bW X pins H g1.objs.size:=I2.iy (Ln _) (I2.bu.fresh (Ln _));let I3:Inv X pins σ H {s with heap:=g1.push (seqObj "list" #[] 0)}:=I2.kept (h':=g1.push (seqObj "list" #[] 0)) (t':=s.toks) λb u e=>Lm _ e
 let zt:g1.objs.size≠a:=q15 (q0h gx);let I4:=(I3.iB fk (q0f _ U) vz).iB (fa.cons (p:=(g1.objs.size,seqObj "list" #[] 0)) zt) (Lm _ gx) vz;generalize g1.objs.size=kS at I4 zt fk;unfold ksk_rest;refine Aw (q4s ?_)
 first
  |rw[List.forIn_toArray]
  |(rfl)
  |rfl
 refine Aw (ksk_fold (λi s'=>∃H' kvs ks e,Inv X ((a,seqObj "list" #[] e1)::(kS,seqObj "list" (q01 ks) e)::pins) σ H' s'/\P kvs H'/\Vals kvs ks/\↑kvs=i) vs 0 _ ⟨H,[],[],0,I4,p0,.nil,U⟩ ?step ?done)
 case step =>
  ext j x s' hx ⟨H',kvs,ks,e,J,pk,rv,hl⟩;rw[q0D] at hl;let hj:=(Ll.mp hx).1;calc Aw (q56 (q1C (k8 _ x kvs H' s' (by rw[hl];calc hx) J pk) (λu s2 hs=>?_) λ_ _ z=>z.elim));let⟨k,H2,J2,r2,p2⟩:=hs
  try dsimp only
  let pa:=J2.pin (a,seqObj "list" #[] e1) (q0n _ (.head _));let mG:=J2.pin (kS,seqObj "list" (q01 ks) e) (q0n _ (.tail _ (.head _)));let lk:↑ks=j:=by rw[<-↑rv];exact hl
  calc Aw (q3c mG.1 U ?_ (by rw[Uk,q1g];symm) (q0N (q4f (q5m ..)) (by rw[Uk,q1g];symm)));let s1:=q0O s2.heap kS (q0Q (·.push u));let ea:(q01 ks).push u=q01 (ks++[u]):=by simp
  let⟨c2,jP⟩:∃c2,(s2.heap.update kS (q0Q (·.push u))).get? kS=Z (seqObj "list" (q01 (ks++[u])) c2):=⟨_,by rw[<-ea];calc q2V mG.1 (·.push u)⟩;let J3:=J2.dr.dr;let J4:Inv X pins σ H2 {s2 with heap:=s2.heap.update kS (q0Q (·.push u))}:=J3.fm  (fk.at mG.2.1) λc o n e=>(s1.2 c n).trans e;exact Ui ⟨U,H2,kvs++[k],ks++[u],c2,(J4.iB (fk.at mG.2.1) jP vz).iB ((fa.at pa.2.1).cons zt) ((s1.2 a zt.symm).trans pa.1) vz,p2,rv.append (.cons r2 .nil),by rw[Lo,hl,q0D];rfl⟩
 case done =>
  ext s' ⟨H',kvs,ks,e,J,pk,rv,hl⟩;rw[q0D] at hl;let pa:=J.pin (a,seqObj "list" #[] e1) (q0n _ (.head _));let mG:=J.pin (kS,seqObj "list" (q01 ks) e) (q0n _ (.tail _ (.head _)));let lk:↑ks=↑vs:=by rw[<-↑rv];exact hl
  let⟨kk,k1,k2,k3,k4⟩:=fin kvs H' hl pk
  try dsimp only
  refine Aw (q6U mG.1 U (Xz  lk ka k2 (by rw[lk,k1]) (λi k v e1 e2=>?_) λst p vA hf hp up=>?_))
  .let⟨t,e3,e4⟩:=k3 i k e1
   let⟨u,e5,e6⟩:=rv.get e3;rw[e2] at e5;cases e5;cases e6
   let⟨aM,r',it,_⟩:=J.tuple (cA.of e4);let⟨o,o1,o2,n,o3⟩:=it;exact⟨t,o,_,n,U,o1,o2,o3,by simpa using intsAre_of r'⟩
  .let hz:↑(p.toList.map λi=>vs.getD i q0T)=↑vs:=by rw[ye,q0k,hp.size]
   unfold ksk_tail
   try dsimp only
   rw[vA];calc Aw (q3c mG.1 U (Aw (q4N ?_)) (by rw[Uk,q1g];symm) (q0V _));let s1:=q0O s'.heap kS (q0Q λ_ => #[]);let na:=(s1.2 a zt.symm).trans pa.1;calc Aw (q5S na U ?_);erw[q1T,q2S];calc Aw (q3c na U ?_ (q0V _) (q0N (q4f ⋯) (by rw[q1g];symm)));rw[hf];erw[q3v,q1T,q2S];let J1:Inv X pins σ H' {s' with heap:=s'.heap.update kS (q0Q λ_ => #[])}:=J.dr.dr.fm  (fk.at mG.2.1) λc o n e=>(s1.2 c n).trans e;let s2:=q0O (s'.heap.update kS (q0Q λ_ => #[])) a (q0Q λ_=>q01 (p.toList.map λi=>vs.getD i q0T));let J2:Inv X pins σ H' {s' with heap:=(s'.heap.update kS (q0Q λ_ => #[])).update a (q0Q λ_=>q01 (p.toList.map λi=>vs.getD i q0T))}:=J1.fm  (fa.at pa.2.1) λc o n e=>(s2.2 c n).trans e
   let⟨c2,jP⟩:∃c2,((s'.heap.update kS (q0Q λ_ => #[])).update a (q0Q λ_=>q01 (p.toList.map λi=>vs.getD i q0T))).get? a=Z (seqObj "list" (q01 (p.toList.map λi=>vs.getD i q0T)) c2):=⟨_,q2V na λ_=>q01 (p.toList.map λi=>vs.getD i q0T)⟩;calc Ui (k4 p _ c2 hp up J2 (fa.at pa.2.1) jP)
end
section
variable{prog:ψ}{w:ω}{A:Β}{E:bz}{s:ο}
def XC{Q:-O->ο->Prop}{r:Y}{a b c:Int}{t u v:Tok}{n:Nat}(hh:A.handled=η)(hr:IsRange s.heap r a b c t u v)(vB:Builtin.Range.small a b c=θ)
  (hn:q2O a b c=n) (hlen:n<=2 ^ 24)
  (hQ:∀h' tk c6,(∀b o,s.heap.get? b=Z o->h'.get? b=Z o)->ItemsOf (λi v=>∃t,v=.int (a+i*c) t) c6 n->Q c6.toList {s with heap:=h',toks:=tk}):ρ (ς prog w) A (collect (.ref r)) Q E s:=by
 let key:∀R:Result->ο->Prop,(∀h' tk c6 c',(∀b o,s.heap.get? b=Z o->h'.get? b=Z o)->h'.get? ⇑s=Z {cls:=.type "list",dict:=none,data:=.seq c6 c',slots := #[]}->ItemsOf (λi v=>∃t,v=.int (a+i*c) t) c6 n->R (.ok (.ret (.ref ⇑s))) {s with heap:=h',toks:=tk})->codeAny (ς prog w) A (.builtin "proto.collect" ⟨[.ref r],[]⟩) R s:=by
  ext R hR;calc q09 q5x ?_;rw[q1t F.plain_proto_collect _];show ρ _ A.in1 (newList [] >>= λl=>again (.builtin "list.__iadd__" ⟨[l,.ref r],[]⟩)) _ _ s;calc Aw (q16 ?_);calc Ui ⟨q1X q4J _,q09 q6y ?_⟩;rw[q1t q4J _];show ρ _ A.in1 (q4e (.ref ⇑s) (.ref r) (.ref ⇑s)) _ _ _;let XD:(s.heap.push {cls:=.type "list",data:=.seq ([]:-O).toArray}).get? ⇑s=Z {cls:=.type "list",data:=.seq #[] 0}:=q0f _ U;refine wpAny_extend_range (R:=R) (s:={s with heap:=s.heap.push {cls:=.type "list",data:=.seq ([]:-O).toArray}}) hh (Lm _ hr) vB hn hlen ⇑s (.ref ⇑s) 0 XD λh' tk c6 c' hk jz kA=>?_
  exact hR h' tk c6 c' (λb o e=>hk b o (q0o (q0h e)) (Lm _ e)) jz kA
 unfold collect;calc Aw (q21 (key _ λh' tk c6 c' hk jz kA=>?_));show ρ _ A (load ⇑s >>= _) _ _ _;calc Aw (q4t jz ?_);calc Ui (hQ h' tk c6 hk kA)
end
section
variable{X:Cx}{pins:a9}{σ:St}{H:Hp}{s:ο}{E:bz}
def Inv.t8{a:Y}{o:HO}(I:Inv X pins σ H s)(fa:bW X pins H a)(ha:⇑X.s₀<=a)(new:bO X.prog X.w (upd H a o) s.heap a o):Inv X pins σ (upd H a o) s:=by
 let⟨f0,f1,f2,_,f4,f5⟩:=fa;let ne:∀{b u},H b=Z u->b≠a:=λe z=>by rw[z,f0] at e;cases e
 refine⟨I.ok,I.os,I.bare,⟨I.base.keep,I.base.slot,λb u e n hx=>?_,I.base.there,λb xs e=>?_,λb u v e=>?_,λb ps e=>?_,I.base.gW⟩,I.loc,I.cell,?_,λx c e=>?_,λp hp=>?_,λb u e=>?_,I.len⟩
 .rw[bD (q0o (q0v (q0h e) ha))];exact I.base.free b u e n hx
 .let:=I.base.f9 b xs e
  rw[bD (ne this)];exact this
 .let:=I.base.ic b u v e
  rw[bD (ne this)];exact this
 .let⟨more,this⟩:=I.base.ie b ps e
  exact⟨more,by rw[bD (ne this)];calc this⟩
 .rw[bD (q1_ f1)];exact I.free
 .rw[bD (f4 x c e)];exact I.c9 x c e
 .let⟨e1,e2,e3⟩:=I.pin p hp
  exact⟨e1,by rw[bD (f5 p hp)];calc e2,e3⟩
 .by_cases z:b=a
  .subst z;rw[cb] at e;cases e;exact new
  .rw[bD z] at e
   refine(I.bu b u e).ib (λc v _ q=>q) (λc q=>?_) λc xs q=>?_
   .rw[bD (ne q)];exact q
   .rw[bD (ne q)];calc q
def NA{xs:-V}{vs:-O}(r:Vals xs vs){p:-Nat}(hp:∀i∈p,i<↑vs):Vals (p.map λi=>xs.getD i .non) (p.map λi=>vs.getD i q0T):=by
 induction p with
 |nil=>exact .nil
 |cons i q ih =>
  calc .cons ?_ (ih λj hj=>hp j (q0p _ hj));let hi:=hp i q0d;let⟨u,e1,e2⟩:=r.get (getD_some   (by rw[↑r];calc hi));let:=getD_some  (d:=q0T) hi;rw[this] at e1;cases e1;calc e2
def d5.mem{n:Nat}{p:Array Nat}(h:d5 n p){i:Nat}(hi:i∈p.toList):i<n:=by
 let:=(q24.mp h.perm).mem_iff.mp hi;simpa using this
def XE{l q:Y}{P:-V->Hp->Prop}{xs:-V}{Q:bz}(I:Inv X pins σ H s)
  (col:∀Q':-O->ο->Prop,(∀h' tk vs,(∀b o,s.heap.get? b=Z o->h'.get? b=Z o)->Vals xs vs->Q' vs {s with heap:=h',toks:=tk})->ρ (ς X.prog X.w) X.A.in1 (collect (.ref l)) Q' E s)
  (ka:↑xs<64) (p0:P [] H)
  (k8:∀(b9:a9)(x:V)(u:O)(kvs:-V)(H':Hp)(s':ο),xs[↑kvs]?=Z x->RelV x u->Inv X b9 σ H' s'->P kvs H'->ρ (ς X.prog X.w) X.A.in1.in1 (call (.ref q) [u]) (EP X b9 σ λk kO=>P (kvs++[k]) kO) (λ_ _=>False) s')
  (fin:∀kvs H',↑kvs=↑xs->P kvs H'->∃ks:-LK,↑ks=↑xs/\(∀k∈ks,k≠[])/\(∀(i:Nat)(k:LK),ks[i]?=Z k->∃t,kvs[i]?=Z (.ref t)/\H' t=Z (.tup (k.map V.int))) ∧
   ∀(p:Array Nat)(s':ο)(a:Y),d5 ↑xs p->Up (λi=>ks.getD i []) p ↑xs->H' a=η->Inv X pins σ (upd H' a (.lst (p.toList.map λi=>xs.getD i .non))) s'->Q (.ref a) s') :
  ρ (ς X.prog X.w) X.A (call (.builtin "sorted") [.ref l] [(q2c "key",.ref q)]) Q E s:=by
 calc call_function_entry_kw q5Q q5j q5k (ksk_s1 _ _) ?_;unfold Builtin.«sorted»;calc Aw  (Ui (Aw (col _ λh' tk vs kp rv=>?_)));let lv:=rv.length.symm;calc Aw (q2X ?_ (by rw[q1g];symm));let I1:Inv X pins σ H {s with heap:=h',toks:=tk}:=I.kept kp;let I2:Inv X pins σ H {s with heap:=h'.push (seqObj "list" vs.toArray 0),toks:=tk}:=I1.kept   λb u e=>Lm _ e;let kB:(h'.push (seqObj "list" vs.toArray 0)).get? h'.objs.size=Z (seqObj "list" vs.toArray 0):=q0f _ U;refine Aw (q0R (wpAny_call_entry_kw q4z ⟨_,kB,U⟩ q37 ?body (ksk_l1 _ _)))
 case body =>
  refine XA  I2 (I1.iy (Ln _) (I1.bu.fresh (Ln _))) kB ⋯ p0 (λb9 v kvs H' s' hv J pk=>?_) λkvs H' hl pk=>?_
  .let hi:↑kvs<↑xs:=by rw[<-lv];exact(Ll.mp hv).1
   let⟨u,e1,e2⟩:=rv.get (D9 hi);rw[hv] at e1;cases e1;exact k8 b9 _ v kvs H' s' (D9 hi) e2 J pk
  .calc wd λoK=>?_;let⟨ks,k1,k2,k3,k4⟩:=fin kvs H' ⋯ pk
   calc oK <| ⟨ks,⋯,k2,k3,λp s' c hp up J fj e=>⟨_,U,?_⟩⟩;rw[lv] at hp up;calc Ui ⟨_,U,k4 p s' h'.objs.size hp up fj.1 (J.t8 fj I1.sz ?_)⟩;let hz:↑(p.toList.map λi=>xs.getD i V.non)=↑xs:=by rw[ye,q0k,hp.size]
   calc⟨by rw[hz,q1g];symm,_,c,NA rv λi hi=>by rw[lv];calc hp.mem hi,e⟩
end
def aA.at{H ds vs}{i:Nat}{d v}(h:aA H ds vs)(e1:ds[i]?=Z d)(e2:vs[i]?=Z v):Is H d v:=by
 let⟨d',e3,h'⟩:=h.get e2;rw[e1] at e3;cases e3;calc h'
def aA.vC{H}:∀{ds vs},↑vs=↑ds->(∀(i:Nat) d,ds[i]?=Z d->∃v,vs[i]?=Z v/\Is H d v)->aA H ds vs
 |[],[],_,_=>.nil
 |[],_::_,h,_=>by simp at h
 |_::_,[],h,_=>by simp at h
 |d::ds,v::vs,h,g=>by
  let⟨v',e,h1⟩:=g 0 d U;cases(e)
  calc .cons h1 (aA.vC h⁻¹ λi d e=>by simpa using g (i+1) d e⁻¹)
structure vD where
 T:Y
 pos:Δ
 qual:L
def fU.same{H H' T pos q}(h:fU H T pos q)(s:bf H H'):fU H' T pos q:=by
 let⟨ps,e,t,c⟩:=h;calc⟨ps,s _ _ e,t,c.imp id λ⟨c,e1,e2⟩↦⟨c,e1,s _ _ e2⟩⟩
def fU.keep{H H' T T' pos q}(h:fU H T pos q)(ne:T≠T')(hT:∃ps,H T'=Z (.tbl ps))(s:∀b o,H b=Z o->b≠T'->H' b=Z o):fU H' T pos q:=by
 let⟨ps,e,t,c⟩:=h;calc⟨ps,s _ _ e ne,t,c.imp id λ⟨c,e1,e2⟩=>⟨c,e1,s _ _ e2 λz=>?_⟩⟩;let⟨qs,hT⟩:=hT;rw[z,hT] at e2;cases e2
def fU.put{H T a pos q o o'}(h:fU H T pos q)(ha:H a=Z o)(hk:(∃vs,o=.lst vs)\/(∃ws,o=.dK ws)\/(∃ws,o=.dT ws)\/∃C dx ws,o=.ins C dx ws):fU (upd H a o') T pos q:=by
 let⟨ps,e,t,c⟩:=h
 let ne:∀{b u},H b=Z u->(∀vs,u≠.lst vs)->(∀ws,u≠.dK ws)->(∀ws,u≠.dT ws)->(∀C dx ws,u≠.ins C dx ws)->b≠a:=λ{b u} e n1 n2 n3 n4 z=>by
  subst z;rw[ha] at e;cases e;rcases hk with⟨_,z⟩|⟨_,z⟩|⟨_,z⟩|⟨_,_,_,z⟩
  .exact n1 _ z
  .exact n2 _ z
  .exact n3 _ z
  .exact n4 _ _ _ z
 calc⟨ps,by rw[bD (ne e (λ_ z=>by cases z) (λ_ z=>by cases z) (λ_ z=>by cases z) λ_ _ _ z=>by cases z)];calc e,t,c.imp id λ⟨c,e1,e2⟩=>⟨c,e1,?_⟩⟩;rw[bD (ne e2 (λ_ z=>by cases z) (λ_ z=>by cases z) (λ_ z=>by cases z) λ_ _ _ z=>by cases z)];calc e2
structure CC where
 cs:Hp
 ct:∀{a:Y}{o:HO},cs a=Z o->∃vs,o=.tup vs
@[reducible] noncomputable def je (ls:-vD) (C:CC):ba where
 ad:=ls.map (·.T)
 ok:=λH=>(∀l∈ls,fU H l.T l.pos l.qual)/\bf C.cs H
 same:=λh s=>⟨λl hl=>(h.1 l hl).same s,h.2.trans s⟩
 put:=λh ha hk=>⟨λl hl=>(h.1 l hl).put ha hk,λb o e=>by
  let:=h.2 b o e
  rw[bD λz=>by
   subst z;let⟨vs,rfl⟩:=C.ct e;rw[ha] at this;cases this
   rcases hk with⟨_,z⟩|⟨_,z⟩|⟨_,z⟩|⟨_,_,_,z⟩<;>cases z]
  calc this⟩
 tb:=λh ha=>by
  let⟨l,hl,rfl⟩:=q0j.mp ha;let⟨ps,e,_⟩:=h.1 l hl;exact⟨ps,e⟩
 cs:=C.cs
 ct:=C.ct
 co:=λh=>h.2
variable[zt:ba]
structure Gf(T:Y)(pos:Δ)(q:L):Prop where
 mem:T∈ba.ad
 get:∀H:Hp,ba.ok H->fU H T pos q
 put:∀H H':Hp,ba.ok H->fU H' T pos q->(∀b o,H b=Z o->b≠T->H' b=Z o)->ba.ok H'
omit [ba] in
def XF {ls:-vD} {l:vD} (hl:l∈ls) (nd:∀a∈ls,∀b∈ls,a.T=b.T->a=b) {C:CC}:@Gf (je ls C) l.T l.pos l.qual:=by
 letI:ba:=je ls C;refine⟨q2n hl,λH h=>h.1 l hl,λH H' h t k=>⟨λl' kX=>?_,λb o e=>?_⟩⟩
 .by_cases z:l'.T=l.T
  .rw[nd _ kX _ hl z];exact t
  .let⟨ps,e,_⟩:=h.1 l hl
   exact(h.1 l' kX).keep z ⟨ps,e⟩ k
 .refine k b o (h.2 b o e) λz=>?_
  let⟨ps,e2,_⟩:=h.1 l hl;let⟨vs,rfl⟩:=C.ct e;rw[<-z,h.2 b _ e] at e2;cases e2
structure XG(X:Cx)(T:Y):Prop where
 code:∃cc,X.env.code=.ref cc/\CodeHd X.base cc T
 ng:mainGlobals≠T
 blt:X.base.BuiltinsAt X.mg T
section
variable{F H H':Hp}{ad:-Y}{δ:bh}{σ:St}
def SR.zu(S:SR F ad δ σ H)(k:∀b o,H b=Z o->b∉ba.ad->H' b=Z o)(tk:ba.ok H'):SR (Nw F H H') ad δ σ H':=by
 let sm:=Nw.same (H':=H') S.sub;let nF:∀{a o},F a=Z o->a∉ba.ad:=λ{a o} e t=>by rw[S.nt a t] at e;cases e
 let nO:∀{i a ov},ad[i]?=Z a->δ.mu[i]?=Z (Z ov)->a∉ba.ad:=λ{i a ov} e1 e2 t=>by
  let⟨a',o,e3,e4,h⟩:=S.mu i ov e2;rw[e1] at e3;cases e3;let⟨ps,q⟩:=ba.tb S.tab t;rw[e4] at q;cases q;exact h.kind _ U
 refine⟨λa o e=>?_,λa l=>?_,S.cQ,S.inj,λi ov e=>?_,λi x e=>?_,S.len,tk,S.nt.up sm λa ha=>?_⟩
 .unfold Nw at e
  cases q:H a with
  |none=>rw[q] at e;exact e
  |some u=>rw[q] at e;exact k a o (S.sub a o e) (nF e)
 .let⟨i,ov,e1,e2⟩:=l
  let⟨a',o,e3,e4,_⟩:=S.mu i ov e2;rw[e1] at e3;cases e3;unfold Nw;rw[e4];exact S.off a ⟨i,ov,e1,e2⟩
 .let⟨a,o,e1,e2,h⟩:=S.mu i ov e
  exact⟨a,o,e1,k a o e2 (nO e1 e),h.same sm⟩
 .let⟨v,e1,h⟩:=S.sl i x e
  exact⟨v,e1,h.same sm⟩
 .let⟨ps,q⟩:=ba.tb S.tab ha
  unfold Nw;rw[q];calc S.nt a ha
def Ext.zu(S:SR F ad δ σ H)(k:∀b o,H b=Z o->b∉ba.ad->H' b=Z o)(tk:ba.ok H'):Ext F ad δ.mu H (Nw F H H') ad δ.mu H' where
 same:=Nw.same S.sub
 new:=λa o e=>by
  unfold Nw at e
  cases q:H a with
  |none=>exact .inr (.inl U)
  |some u=>rw[q] at e;exact .inl e
 keep:=λa o e _ t=>k a o e t
 pre:=λ_ _ e=>e
 cN:=λ_ l=>.inl l
 iZ:=λa o e=>by
  by_cases t:a∈ba.ad
  .let⟨ps,q⟩:=ba.tb tk t
   exact⟨_,q⟩
  .calc⟨o,k a o e t⟩
def SR.t9{sl mu τ d v}(S:SR F ad ⟨sl,mu⟩ τ H)(h:Is F d v):SR F ad ⟨Z (.p d)::sl,mu⟩ (Z v::τ) H:=by
 refine⟨S.sub,S.off,S.cQ,S.inj,S.mu,λi x e=>?_,by let:=S.len;calc congrArg (· + 1) this,S.tab,S.nt⟩
 cases i with
 |zero=>cases(e);exact⟨v,U,h⟩
 |succ i=>calc S.sl i x e
def Ext.lM{F' H' a5 dH a o}(S:SR F ad δ σ H)(e:Ext F ad δ.mu H F' a5 dH H')(h:H a=Z o)(n1:∀vs,o≠.lst vs)(n2:∀ws,o≠.dK ws)(n3:∀ps,o≠.tbl ps)(n4:∀ws,o≠.dT ws)(n5:∀C dx ws,o≠.ins C dx ws:=by ext _ _ _ z;cases z):H' a=Z o:=by
 refine e.keep a o h (λ⟨i,ov,e1,e2⟩=>?_) λt=>?_
 .let⟨a',u,e3,e4,q⟩:=S.mu i ov e2
  rw[e1] at e3;cases e3;rw[h] at e4;cases e4;rcases q.kd with⟨_,z⟩|⟨_,z⟩|⟨_,z⟩|⟨_,_,_,z⟩
  .exact n1 _ z
  .exact n2 _ z
  .exact n4 _ z
  .exact n5 _ _ _ z
 .let⟨ps,q⟩:=ba.tb S.tab t
  rw[h] at q;calc n3 _ (q0P q)
end
/---/def NB(cp:-(Option Nat))(fb:WE)(δ:bh)(ds:-D)(key:D->LK):Prop :=
 ∀d∈ds,key d≠[]/\fb ⟨Z (.p d)::gg cp δ.sl,δ.mu⟩ λy δ'=>y=.p (.tup ((key d).map D.int))/\δ'.mu=δ.mu
/---/def sortBy(cp:-(Option Nat))(fb:WE)(δ:bh)(ds:-D)(K:-D->Prop):Prop :=
 ↑ds<64/\∃key:D->LK,NB cp fb δ ds key/\∀out:-D,out.Perm ds->(out.map key).Pairwise kle->K out
section
variable{X:Cx}{params:Arguments}{body:υ}{scope:Γ}{d7:Δ}{x:L}{Nb:-L}{cp:-(Option Nat)}{fb:WE}{T:Y}
structure g_(X:Cx)(params:Arguments)(body:υ)(scope:Γ)(d7:Δ)(T:Y)(x:L)(Nb:-L)(cp:-(Option Nat))(fb:WE):Prop where
 env:XG X T
 tbl:Gf T d7 (X.env.qual++"<lambda>")
 NC:defaultsOf params X.env=([],[])
 kind:scope.kind=.function
 names:zq X.N X.env.scope scope x Nb cp=θ
 co:scope.isCoroutine=ι
 gen:scope.isGenerator=ι
 bind:∀(cl:-(L×Y))(pm cd ct u:O),bindArgs (kla_fn "<lambda>" (X.env.qual++"<lambda>") params body scope cl pm cd ct) ⟨[u],[]⟩=pure [(x,u)]
 room:∃k,bA (k+3) X.A/\∀d:LD,bA k (d.A.deeper (envX (X.env.qual++"<lambda>") scope ⇑d.s d.f d.cd d.cl))->JE (rT X (X.env.qual++"<lambda>") scope (x::Nb) d) body (tD fb)
def XH{pins:a9}{σ:St}{H:Hp}{s:ο}{E:bz}{l:Y}{F:Hp}{ad:-Y}{δ:bh}{ds:-D}{xs:-V}{gY pos:Δ}{Q:VK}(L:g_ X params body scope d7 T x Nb cp fb)
  (I:Inv X pins σ H s) (S:SR F ad δ σ H) (hx:aA F ds xs)
  (col:∀(s:ο)(H':Hp),Inv X pins σ H' s->(∀b o,H b=Z o->b∉ba.ad->H' b=Z o)->∀Q':-O->ο->Prop,(∀h' tk vs,(∀b o,s.heap.get? b=Z o->h'.get? b=Z o)->Vals xs vs->Q' vs {s with heap:=h',toks:=tk})->ρ (ς X.prog X.w) X.A.in1 (collect (.ref l)) Q' E s)
  (hs:sortBy cp fb δ ds λout=>∀a F' H' us,Ext F ad δ.mu H F' ad δ.mu H'->SR F' ad δ σ H'->H' a=η->aA F' out us->Q (.ref a) (upd H' a (.lst us))) :
  ρ (ς X.prog X.w) X.A (evalAll ((backToKw pos (keywordEach [⟨Z "key",.Lambda params body scope d7,gY⟩] X.env)).map (·.2))) (λkvs s₂=>ρ (ς X.prog X.w) X.A (call (.builtin "sorted") [.ref l] (((backToKw pos (keywordEach [⟨Z "key",.Lambda params body scope d7,gY⟩] X.env)).filterMap (·.1)).zip kvs)) (EP X pins σ Q) E s₂) E s:=by
 calc wd λoM=>?_;let⟨ka,key,hk,K⟩:=hs;let⟨k,oN,J⟩:=L.room;let⟨cc,iL,hC⟩:=L.env.code;calc oM ?_;show ρ _ _ (evalAll [do let v <- eval (.Lambda params body scope d7) X.env;standAt pos;pure v]) _ _ _;calc q6V (Aw ?_);let vE:=L.names;unfold zq at vE;erw[q04,q1J,q0u] at vE;let SC:=yk L.kind vE.1.1.1;calc wd λoO=>?_;let⟨cl,pJ,rV,w5⟩:=Ea (scope:=scope) (env:=X.env) λy hy e=>I.ok.has y.1 (SC.free y hy e);refine oO <| x5m I (L.tbl.get H S.tab) L.NC pJ iL (hC.keeps I.bk) L.env.ng (I.mod.glob.keeps I.bk) (L.env.blt.keeps I.bk) λf H1 s1 c I1 t1 k1 XI hf hc=>?_
 calc Aw (q2W (Ui ?_));calc evalAll_nil ?_;show ρ _ _ (call (.builtin "sorted") [.ref l] [(q2c "key",.ref f)]) _ _ _;let kT:∀b o,H b=Z o->b∉ba.ad->H1 b=Z o:=λb o e t=>k1 b o e λz=>t (by rw[z];calc L.tbl.mem);let ky:=L.tbl.put H H1 S.tab t1 k1;let S1:=S.zu kT ky;let E1:=Ext.zu S kT ky;let lx:=↑hx
 refine XE (xs:=xs) (P:=λkvs H'=>∃F',Ext F ad δ.mu H F' ad δ.mu H'/\SR F' ad δ σ H'/\H' f=Z (mF f "<lambda>" (X.env.qual++"<lambda>") params body scope cl ((X.mg "__name__").getD .none) (.ref c))/\H' c=Z (pY c (X.env.qual++"<lambda>"))/\∀(i:Nat)(d:D)(kv:V),ds[i]?=Z d->kvs[i]?=Z kv->Is F' (.tup ((key d).map D.int)) kv)
  I1 (col s1 H1 I1 kT) ⋯ ⟨_,E1,S1,hf,hc,λi d kv _ e=>by simp at e⟩ (λb9 v u kvs H' s' hv rv I' ⟨F',E',S',t_,jK,ua⟩=>?_) λkvs H' hl ⟨F',E',S',t_,jK,ua⟩=>?_
 .let hi:↑kvs<↑ds:=by rw[<-lx];exact(Ll.mp hv).1
  let hd:=D9 hi;let XJ:Is F' ds[↑kvs] v:=aA.at (hx.same E'.same) hd hv;let⟨XM,Gg⟩:=hk _ (q1M hi);let r2:bA (k+1) X.A.in1.in1:=(bA.in1 (bA.in1 (k:=k+2) oN));calc Nr I' t_ jK (by rw[show X.A.in1.in1.frames=X.A.frames from U];calc I'.ok.frames) r2.hd r2.depth L.kind L.names L.co L.gen rV w5 (λct=>L.bind cl _ _ ct u) rv (J ⟨X.A.in1.in1,cl,f,.ref c,s',H'⟩ (r2.deeper _)) ?_;calc⟨F',ad,_,_,(S'.vi (cp:=cp)).t9 XJ,Gg,?_⟩;ext y δ' ⟨ey,em⟩ w F2 cR H2 E2 S2 V2;subst ey
  let ea:cR=ad:=by
   let l2:↑cR=↑ad:=by rw[S2.cQ,em,S'.cQ]
   refine q2e λi=>?_
   by_cases hi:i<↑ad
   .rw[D9 hi];exact E2.pre i _ (D9 hi)
   .rw[q1c ⋯,q1c ⋯]
  subst ea;let⟨Df,dH⟩:=δ';let em:dH=δ.mu:=em;subst em;refine⟨F2,E'.trans E2,SR.back S' E2 S2,E2.lM S' t_ (λ_ z=>by cases z) (λ_ z=>by cases z) (λ_ z=>by cases z) (λ_ z=>by cases z),E2.lM S' jK (λ_ z=>by cases z) (λ_ z=>by cases z) (λ_ z=>by cases z) (λ_ z=>by cases z),λi d kv e1 e2=>?_⟩
  by_cases rL:i<↑kvs
  .rw[q0a rL] at e2
   exact Is.same E2.same (ua i d kv e1 e2)
  .let:i=↑kvs:=by
    let:=(Ll.mp e2).1;rw[Lo,q0J] at this;symm
   subst this;rw[q0i (Ln _),q1l] at e2;cases(show Z w=Z kv from e2)
   rw[hd] at e1;cases e1;exact V2
 .refine⟨ds.map key,by rw[ye];symm,λk ki=>?_,λi k' e=>?_,λp s' a hp up ha I'=>?_⟩
  .let⟨d,hd,rfl⟩:=q0j.mp ki
   exact(hk d hd).1
  .rw[Uj] at e
   let⟨d,hd,rfl⟩:=q0e.mp e;let hi:i<↑kvs:=by rw[hl,lx];exact(Ll.mp hd).1
   let is:=ua i d _ hd (D9 hi);erw[Is] at is;let⟨t,us,e1,e2,e3⟩:=is;calc⟨t,by rw[D9 hi,e1],?_⟩;rw[<-ni e3];exact S'.sub _ _ e2
  .let pm:(p.toList.map λi=>ds.getD i .non).Perm ds:=by
    let h1:=(q24.mp hp.perm).map λi=>ds.getD i .non
    let h2:(q0F ↑xs).map (λi=>ds.getD i D.non)=ds:=by
     calc q2e λi=>?_;rw[Uj]
     by_cases hi:i<↑ds
     .rw[q1A ⋯,q3Z,D9 hi,My,D9 hi];rfl
     .rw[q1c (by rw[q03];symm),q1c ⋯];rfl
    rw[show(q0F ↑xs).toArray.toList=q0F ↑xs from U,h2] at h1;exact h1
   refine⟨.ref a,_,I',U,K _ pm ?_ a _ _ _ E' S' ha ?_⟩
   .rw[q0y,q2z]
    ext i j hi hj k6;rw[ye,q0k,hp.size] at hi hj;let:=up i j (q1e k6) hj;unfold KA at this;rw[q1z,q1z]
    let gp:∀{i:Nat}(h:i<↑p.toList),p.getD i 0=p.toList[i]:=λ{i} h=>by
     let h':i<p.size:=by rw[<-q0k];exact h
     simp[q4_,h']
    let gk:∀{i:Nat},i<↑ds->(ds.map key).getD i []=key (ds.getD i .non):=λ{i} h=>by
     rw[My,Uj,D9 h,My,D9 h];rfl
    let pi:=hp.lt hi;let pj:=hp.lt hj;dsimp only at this;rw[gk ⋯,gk ⋯,gp (by rw[q0k,hp.size];calc hi),gp (by rw[q0k,hp.size];calc hj)] at this;exact this
   .refine aA.vC ?_ λi d e=>?_
    .rw[ye,ye]
    .rw[Uj] at e ⊢
     let⟨z,e1,rfl⟩:=q0e.mp e;rw[e1];let hz:=hp.mem (q0I e1);calc⟨_,U,aA.at (hx.same E'.same) (getD_some ⋯) (getD_some ⋯)⟩
end
structure jf(mg:L->Option O)(base:Α)(fd:FuncData)(T:Y)(pos:Δ)(q:L):Prop where
 code:∃cc,fd.code=.ref cc/\CodeHd base cc T
 ng:mainGlobals≠T
 blt:base.BuiltinsAt mg T
 tbl:Gf T pos q
def hW.Gh{P w K mg base x qual st f fd N ps k G}(F:hW K x qual st f fd)(S:pF N ps (cW st))
  (fN:∀bF A outer s H E,fd.code=bF->bA k (A.deeper (envOfC qual (cW st) ⇑s f bF)) →
   ∃B:WS,eQ (gE f_ P w K mg base N qual (cW st) f bF A outer s H E).mS (gG st) (eJ B)/\∀ys aE K',↑ys=↑ps->G ys aE K'->B (qZ ↑aE K') ⟨ys.map Z++q0q (↑N-↑ps) η,aE.map Z⟩) :
  cB P w K mg base f_ (k+1) f fd ps (pQ G ↑ps):=by
 calc wd λrX=>?_;let⟨oc,od,kV,doc,pm,an,bF,ct,qv,rfl,lk,jM⟩:=F.ex;calc rX <| z5O lk jM S (λvs H Q E h=>h.1) λA outer s H vs Q E hr h=>?_;let⟨hl,Fz,ad,ys,aE,K',S0,g,kk⟩:=h;let⟨B,jb,hb⟩:=fN bF A outer s H E U hr
 let hy:↑ys=↑ps:=by
  let:=S0.len;rw[ye] at this;rw[<-hl,this,ye]
 refine⟨_,jb.mS,Fz,ad,⟨ys.map Z++q0q (↑N-↑ps) η,aE.map Z⟩,qZ ↑aE K',by rw[<-hl];calc S0.start,hb ys aE K' hy g,⟨fun δ' h F' a5 σ' H' E' S'=>?_,fun δ' h=>h.elim,fun δ' h=>h.elim,λy δ' h v F' a5 σ' H' E' S' V=>?_,trivial⟩⟩
 .exact AY  S0 E' S' (x:=.p .non)  U h kk
 .calc AY  S0 E' S' V h kk
section
variable{X:Cx}{params:Arguments}{body a e:υ}{scope:Γ}{d7 p1 p2 q1 q2 gY:Δ}{x:L}{Nb:-L}{cp:-(Option Nat)}{fb f:WE}{fa:WA}{T:Y}
/---/def Gi(fa:WA)(cp:-(Option Nat))(fb:WE):WE:=fun δ K=>fa δ λxs δ1=>match xs with
 |[.p (.int j)]=>(0<=j/\j<=60)/\sortBy cp fb δ1 (dE 0 j.toNat) λout=>K (.o ↑δ1.mu) ⟨δ1.sl,δ1.mu++[Z (.lst out)]⟩
 |_=>False
def XN(L:g_ X params body scope d7 T x Nb cp fb)(hc:X.calm=θ)(zv:Gl X "sorted")(hs:X.mg "sorted" = η)(zw:bootBuiltins "sorted" = Z (.builtin "sorted"))(rB:Gl X "range")(hr:X.mg "range" = η)(my:bootBuiltins "range" = Z (.type "range"))(ha:JA X [a] (cK fa))
  (he:starEach [a] X.env=[(ι,eval a X.env)]) (M:bh->-D->Prop)
  {pins:a9} {s:ο} {σ:St} {H:Hp} {Q:VK} {F:Hp} {ad:-Y} {δ:bh} (I:Inv X pins σ H s) (S:SR F ad δ σ H)
  (q:fa δ λxs δ1=>match xs with
   |[.p (.int j)]=>(0<=j/\j<=60)/\sortBy cp fb δ1 (dE 0 j.toNat) (M δ1)
   |_=>False)
  (fin:∀δ1 out,M δ1 out->∀a F' a5 H' us,Ext F ad δ.mu H F' a5 δ1.mu H'->SR F' a5 δ1 σ H'->H' a=η->aA F' out us->Q (.ref a) (upd H' a (.lst us))) :
  ρ (ς X.prog X.w) X.A (eval (.Call (.Name "sorted" p1) [.Call (.Name "range" p2) [a] [] q2] [⟨Z "key",.Lambda params body scope d7,gY⟩] q1) X.env) (EP X pins σ Q) X.xe s:=by
 refine q2a (qg I zv hs zw (callWith_kw (bJ ((kM (tL L3 rB hr my ha (he:=he)) bX) q1 pins s σ H (λvs H2=>∃(r:Y)(j:Int)(F1:Hp)(br:-Y)(δ1:bh)(H1:Hp),vs=[.ref r]/\H2=upd H1 r (.rng 0 j)/\H1 r=η/\Ext F ad δ.mu H F1 br δ1.mu H1/\SR F1 br δ1 σ H1/\(0<=j/\j<=60)/\sortBy cp fb δ1 (dE 0 j.toNat) (M δ1)) I ?_) λus s1 Gj=>?_)))
 .refine⟨F,ad,δ,_,S,q,λxs δ1 h1 vs F1 br H1 E1 S1 V1=>?_⟩
  split at h1
  .rename_i j
   calc wd λoP=>?_;let⟨v,r,e,W1,W2⟩:=V1;subst W2 W1 e;exact oP <| ⟨j,U,λrr Fd=>⟨rr,j,F1,br,δ1,H1,U,U,Fd,E1,S1,h1.1,h1.2⟩⟩
  .exact h1.elim
 .calc wd λoQ=>?_;let⟨vs,H2,I2,r2,r,j,F1,br,δ1,H1,ev,eH,XO,E1,S1,hj,Bq⟩:=Gj
  subst ev eH;let⟨u,rfl,rx⟩:=vals1 r2;calc oQ ?_;cases rx;let sm:bf H1 (upd H1 r (.rng 0 j)):=cU XO;let S2:=S1.al sm;let⟨n,rfl⟩:∃n:Nat,j=n:=⟨j.toNat,⋯⟩;rw[q0t,pU] at Bq;refine XH L I2 S2 (ds:=(bB n).map D.int)  pT (λs' H' I' kp Q' hQ=>?_) ?_
  .let Br:=kp r _ cb λt=>by
    let⟨ps,z⟩:=ba.tb S2.tab t;rw[cb] at z;cases z
   let⟨t,u,v,e⟩:=(I'.bu r _ Br);let hsz:q2O 0 n 1=n:=by rw[q59];split<;>symm
   refine XC  (I'.ok.hd hc) e (q8W ⋯ ⋯ ⋯ ⋯) hsz ⋯ λh' tk acc XQ it=>hQ h' tk _ XQ (Ew ?_ λi u e=>?_)
   .rw[q0k,it.1,bB,ye,q03]
   .rw[q0G] at e
    let⟨t',e2⟩:=it.2 i u e;let hi:i<n:=by rw[<-it.1];exact(q20.mp e).1
    calc⟨t',e2.trans ?_⟩;rw[bB,My,Uj,q1A hi];show q1m (0+i*1) t'=q1m i t';rw[q5h,q7o]
  .let⟨ka,key,hk,hK⟩:=Bq
   calc⟨ka,key,hk,λout pm pw a F' H' us E' S' hn is=>fin δ1 out (hK out pm pw) a F' br H' us ((E1.trans (Ext.al S1 sm)).trans E') S' hn is⟩
def XR(L:g_ X params body scope d7 T x Nb cp fb)(hc:X.calm=θ)(zv:Gl X "sorted")(hs:X.mg "sorted" = η)(zw:bootBuiltins "sorted" = Z (.builtin "sorted"))(rB:Gl X "range")(hr:X.mg "range" = η)(my:bootBuiltins "range" = Z (.type "range"))(ha:JA X [a] (cK fa))
  (he:‹starEach [a] X.env=[(ι,eval a X.env)]›):JE X (.Call (.Name "sorted" p1) [.Call (.Name "range" p2) [a] [] q2] [⟨Z "key",.Lambda params body scope d7,gY⟩] q1) (tD (Gi fa cp fb)) :=
 ⟨λpins s σ H Q I ⟨F,ad,δ,K,S,q,k⟩↦XN L hc zv hs zw rB hr my ha he (fun δ1 out=>K (.o ↑δ1.mu) ⟨δ1.sl,δ1.mu++[Z (OV.lst out)]⟩) I S q fun δ1 out hM a F' a5 H' us E' S' hn is=>by
  let oi:∀{lG},gz F' lG (.lst out) (.lst us):=λ{lG}=>⟨us,U,is⟩
  calc k _ _ hM _ _ _ _ (E'.trans (Ext.own S' hn)) (S'.own hn oi) (Fh S')⟩
end
end
section
def Gk:∀{k l:LK}(n m:Int),k.length=↑l->HT.lexLt (k++[n]) (l++[m])=if k=l then I (n<m) else HT.lexLt k l
 |[],[],n,m,_=>by
  show(if n=m then HT.lexLt [] [] else I (n<m))=_;rw[q0r U]
  by_cases h:n=m
  .subst h;simp[HT.lexLt]
  .rw[q0l h]
 |[],_::_,_,_,h=>by simp at h
 |_::_,[],_,_,h=>by simp at h
 |a::k,b::l,n,m,h=>by
  rw[q45,q45,HT.pG,HT.pG,Gk n m h⁻¹]
  by_cases e:a=b
  .subst e
   rw[q0r U,q0r U]
   by_cases e2:k=l
   .subst e2;rw[q0r U,q0r U]
   .rw[q0l e2,q0l λz=>e2 (q4W z).2]
  .rw[q0l e,q0l e,q0l λz=>e (q4W z).1]
/---/def oR(h:Α)(L:Nat)(k:LK)(v:O):Prop:=∃a o xs n b kb m t,v=.ref a/\h.get? a=Z o/\o.cls=.type "tuple" /\ o.data=.seq xs n/\xs.toList=[.ref b,.int m t]/\k7 h kb (.ref b)/\↑kb=L/\k=kb++[m]
section
variable{prog:ψ}{w:ω}{A:Β}{E:bz}{s:ο}{Q:Bool->ο->Prop}
def Gm:∀{us ns},IntsAre us ns->ItemsAre (intKind prog w) ns us
 |_,_,.nil=>.nil
 |_,_,.cons n t r=>.cons (q3K ..) (Gm r)
def XS{L:Nat}{k l:LK}{x y}(hu:A.units<cLine)(hx:oR s.heap L k x)(hy:oR s.heap L l y)(h:Q (HT.lexLt k l) s):ρ (ς prog w) A (keyLt' (tuples' ι) x y) Q E s:=by
 calc wd λrY=>?_;let⟨a,o,xs,n,b,kb,m,t,rfl,h1,_,h2,h3,⟨b',ob,bs,nb,eb,g1,gc,g2,g3⟩,hL,rfl⟩:=hx;let⟨a',o',XT,n',c,kc,m',t',rfl,u4,_,iP,C5,⟨c',oc,cs,nc,ec,f1,fc,f2,f3⟩,jD,rfl⟩:=hy;calc rY ?_;cases eb
 cases ec
 let hz:xs.size=2:=by rw[<-q0k,h3];rfl
 let XU:XT.size=2:=by rw[<-q0k,C5];rfl
 rw[Gk m m' (by rw[hL,jD])] at h;calc kat_lt h1 h2 u4 iP ?_;rw[h3,C5,hz,XU,q2u,q2u,q4L];refine kat_cons (wpAny_eqBool_tuple hu ⟨ob,bs,nb,g1,gc,g2,Gm g3⟩ ⟨oc,cs,nc,f1,fc,f2,Gm f3⟩ (kat_go (λe=>?_) λe=>?_))
 .let e:=by simpa using e
  rw[q0r e] at h;refine kat_yes (kat_cons (q42 (kat_go (λe2=>?_) λe2=>?_)))
  .let e2:=q1K e2
   subst e2;calc kat_yes (kat_nil ?_);simpa using h
  .exact kat_no (kat_one _ _ (q4a h))
 .let e:=by simpa using e
  rw[q0l e] at h;calc kat_no (kat_one _ _ (HT.DM ⟨ob,g1,gc,nb,g2⟩ ⟨oc,f1,fc,nc,f2⟩ g3 f3 hu h))
def XW{M:Model}{L:Nat}{vs:-O}{ks:-LK}{Q:SortKind->ο->Prop}(h0:0<↑vs)(hl:↑vs=↑ks)(ht:∀(i:Nat) (k:LK) (v:O),ks[i]?=Z k->vs[i]?=Z v->oR s.heap L k v)(h:Q (tuples' ι) s):
  ρ M A (keyKind' vs.toArray) Q E s:=by
 let key:∀vs (ks:-LK),↑vs=↑ks->(∀(i:Nat) k v,ks[i]?=Z k->vs[i]?=Z v->oR s.heap L k v)->∃fs,KatTups s.heap vs fs/\fs.length=↑vs/\∀v∈fs,Looks M s.heap (typeOf v) (.type "tuple"):=by
  ext vs
  induction vs with
  |nil=>exactλks _ _=>⟨[],.nil,U,λv hv=>nomatch hv⟩
  |cons v vs ih =>
   ext ks hl ht
   match ks,hl,ht with
   |k::ks,hl,ht =>
    calc wd λrZ=>?_;let⟨fs,t,hf,hi⟩:=ih ks hl⁻¹ λi k v e1 e2=>ht (i+1) k v e1⁻¹ e2⁻¹;let⟨a,o,xs,n,b,kb,m,t',rfl,h1,hc,h2,h3,⟨b',ob,bs,nb,eb,g1,gc,g2,g3⟩,_⟩:=ht 0 k v U U;calc rZ ?_;cases eb
    let h0:xs[0]?=Z (.ref b):=by rw[<-q0G,h3];rfl
    calc⟨.ref b::fs,.cons h1 hc h2 h0 t,by rw[Uh,Uh,hf],λv hv=>?_⟩;rcases q0c.mp hv with rfl|hv
    .rw[<-gc];exact(Looks.ld g1).andThen .now
    .exact hi v hv
 let⟨fs,t,hf,hi⟩:=key vs ks hl ht;calc kat_kind  t ⋯ hi (by decide) h
end
section
variable{X:Cx}{pins:a9}{σ:St}{H:Hp}{s:ο}{A:Β}{E:bz}{a:Y}{vs:-O}{ks:-LK}{κ:SortKind}
def XX{n0:Nat}{R:q87->ο->Prop}(I:Inv X pins σ H s)(fa:bW X pins H a)(ha:s.heap.get? a=Z (seqObj "list" vs.toArray n0))(ka:↑vs<64)
  (kind:∀s':ο,Inv X pins σ H s'->2<=↑vs->∀Q:SortKind->ο->Prop,Q κ s'->ρ (ς X.prog X.w) A (keyKind' vs.toArray) Q E s')
  (ask:∀s':ο,Inv X pins σ H s'->∀(i j:Nat)(C:Bool->ο->Prop),i<↑vs->j<↑vs->C (HT.lexLt (ks.getD i []) (ks.getD j [])) s'->ρ (ς X.prog X.w) A (keyLt' κ (vs.getD i q0T) (vs.getD j q0T)) C (λ_ _=>False) s')
  (fin:∀(p:Array Nat)(s':ο)(c:Nat),d5 ↑vs p->Up (λi=>ks.getD i []) p ↑vs->Inv X pins σ H s'->s'.heap.get? a=Z (seqObj "list" (q01 (p.toList.map λi=>vs.getD i q0T)) c)->R (.done (.ret .none)) s') :
  ρ (ς X.prog X.w) A (Builtin.«list.sort» ⟨[.ref a],[]⟩) R E s:=by
 let sb:=q0O s.heap a (q0Q λ_ => #[]);let⟨e1,gT⟩:∃e1,(s.heap.update a (q0Q λ_ => #[])).get? a=Z (seqObj "list" #[] e1):=⟨_,q2V ha λ_ => #[]⟩;let I1:Inv X pins σ H {s with heap:=s.heap.update a (q0Q λ_ => #[])}:=I.fm  fa λc o n e=>(sb.2 c n).trans e;rw[list_sort_plain];calc Aw (q6U ha U (Aw (q3c ha U (Aw (q5S gT U (Aw (q8a (Aw (q2X (q0R ?_) (q0V _))) (by show ↑vs<=_;rw[q1g];symm))))) (by rw[Uk,q1g];symm) (q0V _))));generalize XB:s.heap.update a (q0Q λ_ => #[])=g0 at gT I1 sb;let I2:Inv X pins σ H {s with heap:=(g0.push (seqObj "tuple" vs.toArray 0)).push (seqObj "list" #[] 0)}:=I1.kept   λb u e=>Lm _ (Lm _ e)
 let gx:((g0.push (seqObj "tuple" vs.toArray 0)).push (seqObj "list" #[] 0)).get? a=Z (seqObj "list" #[] e1):=Lm _ (Lm _ gT);let kp:∀b o,b≠a->s.heap.get? b=Z o->((g0.push (seqObj "tuple" vs.toArray 0)).push (seqObj "list" #[] 0)).get? b=Z o:=λb o n e=>Lm _ (Lm _ ((sb.2 b n).trans e));generalize(g0.push (seqObj "tuple" vs.toArray 0)).push (seqObj "list" #[] 0)=g1 at I2 gx kp
 let tail:∀st p,(arrOf st).map (·.2)=q01 (p.toList.map λi=>vs.getD i q0T)->failedOf st=η->d5 ↑vs p->Up (λi=>ks.getD i []) p ↑vs->ρ (ς X.prog X.w) A (do
   let touched:=(<- seqEpoch a) != e1
   Builtin.List.listUpdate (.ref a) λ_=>(arrOf st).map (·.2)
   if let Z e:=failedOf st then rule "list.sort.comparison-raised";throw e
   if touched then rule "list.sort.modified";raiseError "ValueError" "list modified during sort"
   ret .none) R E {s with heap:=g1}:=by
  ext st p vA hf hp up;let hz:↑(p.toList.map λi=>vs.getD i q0T)=↑vs:=by rw[ye,q0k,hp.size]
  rw[vA];let s2:=q0O g1 a (q0Q λ_=>q01 (p.toList.map λi=>vs.getD i q0T));let⟨c2,jP⟩:∃c2,(g1.update a (q0Q λ_=>q01 (p.toList.map λi=>vs.getD i q0T))).get? a=Z (seqObj "list" (q01 (p.toList.map λi=>vs.getD i q0T)) c2):=⟨_,q2V gx λ_=>q01 (p.toList.map λi=>vs.getD i q0T)⟩;let J:Inv X pins σ H {s with heap:=g1.update a (q0Q λ_=>q01 (p.toList.map λi=>vs.getD i q0T))}:=I2.fm   fa λc o n e=>(s2.2 c n).trans e;calc Aw (q5S gx U (Aw (q3c gx U ?_ (q0V _) (q0N (q4f ⋯) (by rw[q1g];symm)))));rw[hf];erw[q3v,q1T,q2S];exact Ui (fin p _ c2 hp up J jP)
 by_cases h2:vs.toArray.size<2
 .rw[q0r h2,q0r h2]
  rw[Uk] at h2;refine tail (SortSt.mk' general' (vs.toArray.zip vs.toArray) #[] 7 η) (q0F ↑vs).toArray ?_ U ⟨q5s _⟩ λi j k6 hj=>?_
  .let vy:arrOf (SortSt.mk' general' (vs.toArray.zip vs.toArray) #[] 7 η)=(q01 (q0F ↑vs)).map (kas_item (vs.toArray.zip vs.toArray)):=by
    let e:=kas_range (vs.toArray.zip vs.toArray);rw[show(vs.toArray.zip vs.toArray).size=↑vs by simp] at e;rw[e]
   exact kat_snds U vy
  .let:i=j:=by symm
   subst this;exact kle_refl _
 .rw[q0l h2,q0l h2]
  rw[Uk] at h2
  refine Aw (kind _ I2 ⋯ _ (Aw (q1C (kat_run   (Q:=λiH s'=>s'={s with heap:=g1}/\∃p:Array Nat,arrOf iH=p.map (kas_item (vs.toArray.zip vs.toArray))/\failedOf iH=η/\d5 ↑vs p/\Up (λi=>ks.getD i []) p ↑vs)
   (G:=λp s'=>s'={s with heap:=g1}/\d5 ↑vs p/\Up (λi=>ks.getD i []) p ↑vs) U ⋯ ka (λp iH s' a1 a2 a3 a4=>⟨a4.1,p,a2,a3,a4.2.1,a4.2.2⟩) ?_) ?_ λ_ _ x=>x)))
  .refine MV  (I:=λs'=>s'={s with heap:=g1}) (λi j C s' hi hj e hC=>?_) ⋯ U λp s' a1 a2 a3=>⟨a3,a1,a2⟩
   subst e;exact ask _ I2 i j C hi hj (hC _ U)
  .ext ⟨⟨⟩,iH⟩ s' ⟨rfl,p,a1,a2,a3,a4⟩
   calc tail iH p (kat_snds U a1) a2 a3 a4
def ND{l:Y}{xs:-V}{Q:bz}(I:Inv X pins σ H s)
  (col:∀Q':-O->ο->Prop,(∀h' tk vs,(∀b o,s.heap.get? b=Z o->h'.get? b=Z o)->Vals xs vs->Q' vs {s with heap:=h',toks:=tk})->ρ (ς X.prog X.w) X.A.in1 (collect (.ref l)) Q' E s) (ka:↑xs<64)
  (kind:∀(s':ο)(vs:-O),Vals xs vs->Inv X pins σ H s'->2<=↑vs->∀Q:SortKind->ο->Prop,Q κ s'->ρ (ς X.prog X.w) X.A.in1.in1 (keyKind' vs.toArray) Q E s')
  (ask:∀(s':ο)(vs:-O),Vals xs vs->Inv X pins σ H s'->∀(i j:Nat)(C:Bool->ο->Prop),i<↑vs->j<↑vs->C (HT.lexLt (ks.getD i []) (ks.getD j [])) s'->ρ (ς X.prog X.w) X.A.in1.in1 (keyLt' κ (vs.getD i q0T) (vs.getD j q0T)) C (λ_ _=>False) s')
  (fin:∀(p:Array Nat)(s':ο)(a:Y),d5 ↑xs p->Up (λi=>ks.getD i []) p ↑xs->H a=η->Inv X pins σ (upd H a (.lst (p.toList.map λi=>xs.getD i .non))) s'->Q (.ref a) s') :
  ρ (ς X.prog X.w) X.A (call (.builtin "sorted") [.ref l]) Q E s:=by
 calc q29 q5Q q5j q5k (q6S _) (Aw  (Ui (Aw (col _ λh' tk aM kp rv=>?_))));let lv:=rv.length.symm;calc Aw (q2X ?_ (by rw[q1g];symm));let I1:Inv X pins σ H {s with heap:=h',toks:=tk}:=I.kept kp;let fa:=I1.iy (Ln _) (I1.bu.fresh (Ln _));let I2:Inv X pins σ H {s with heap:=h'.push (seqObj "list" aM.toArray 0),toks:=tk}:=I1.kept   λb u e=>Lm _ e;let kB:(h'.push (seqObj "list" aM.toArray 0)).get? h'.objs.size=Z (seqObj "list" aM.toArray 0):=q0f _ U;refine Aw (q0R (q1y q4z ⟨_,kB,U⟩ q37 ?body (q5R _)))
 case body =>
  calc XX   I2 fa kB ⋯ (λs' J h2 Q' hq=>kind s' aM rv J h2 Q' hq) (λs' J i j C hi hj hC=>ask s' aM rv J i j C hi hj hC) λp s' c hp up J e=>⟨_,U,?_⟩;rw[lv] at hp up;calc Ui ⟨_,U,fin p s' h'.objs.size hp up fa.1 (J.t8 fa I1.sz ?_)⟩;let hz:↑(p.toList.map λi=>xs.getD i V.non)=↑xs:=by rw[ye,q0k,hp.size]
  calc⟨by rw[hz,q1g];symm,_,c,NA rv λi hi=>by rw[lv];calc hp.mem hi,e⟩
end
/---/def Gn(ds:-D)(key:D->LK):Prop :=
 (∀d∈ds,key d≠[]/\d=.tup ((key d).map D.int))\/∃L:Nat,∀d∈ds,∃(k:LK)(n:Int),k.length=L/\d=.tup [.tup (k.map D.int),.int n]/\key d=k++[n]
/---/def Bs:-D->(D->Prop)->Prop
 |[.lst ds],K=>↑ds<64/\∃key:D->LK,Gn ds key/\∀out:-D,out.Perm ds->(out.map key).Pairwise kle->K (.lst out)
 |[.tup ds],K=>↑ds<64/\∃key:D->LK,Gn ds key/\∀out:-D,out.Perm ds->(out.map key).Pairwise kle->K (.lst out)
 |_,_=>False
def XY{ds:-D}{key:D->LK}{p:Array Nat}{n:Nat}(hn:↑ds=n)(hp:d5 n p)(up:Up (λi=>(ds.map key).getD i []) p n):(p.toList.map λi=>ds.getD i .non).Perm ds/\((p.toList.map λi=>ds.getD i .non).map key).Pairwise kle:=by
 subst hn
 constructor
 .let h1:=(q24.mp hp.perm).map λi=>ds.getD i D.non
  let h2:(q0F ↑ds).map (λi=>ds.getD i D.non)=ds:=by
   calc q2e λi=>?_;rw[Uj]
   by_cases hi:i<↑ds
   .rw[q1A hi,q3Z,D9 hi,My,D9 hi];rfl
   .rw[q1c (by rw[q03];symm),q1c ⋯];rfl
  rw[show(q0F ↑ds).toArray.toList=q0F ↑ds from U,h2] at h1;exact h1
 .rw[q0y,q2z]
  ext i j hi hj k6;rw[ye,q0k,hp.size] at hi hj;let:=up i j ⋯ hj;unfold KA at this;rw[q1z,q1z]
  let gp:∀{i} h,p.getD i 0=p.toList[i]:=λ{i} h=>by
   let h':i<p.size:=by symm
   simp[q4_,h']
  let gk:∀{i},i<↑ds->(ds.map key).getD i []=key (ds.getD i .non):=λ{i} h=>by
   rw[My,Uj,D9 h,My,D9 h];rfl
  dsimp only at this;rw[gk (hp.lt hi),gk (hp.lt hj),gp (by rw[q0k,hp.size];calc hi),gp (by rw[q0k,hp.size];calc hj)] at this;calc this
def XZ{F:Hp}{ds:-D}{xs:-V}{p:-Nat}(h:aA F ds xs)(hp:∀i∈p,i<↑ds):aA F (p.map λi=>ds.getD i .non) (p.map λi=>xs.getD i .non):=by
 calc aA.vC (by rw[ye,ye]) λi d e=>?_;rw[Uj] at e ⊢;let⟨z,e1,rfl⟩:=q0e.mp e;rw[e1];let hz:=hp z (q0I e1);calc⟨_,U,aA.at h (getD_some hz) (getD_some (by rw[↑h];calc hz))⟩
section
variable[zt:ba]{X:Cx}
def Bt{pins:a9}{σ:St}{H F:Hp}{s:ο}{k:LK}{v:V}{u:O}(I:Inv X pins σ H s)(sub:bf F H)(h:Is F (.tup (k.map D.int)) v)(r:RelV v u):k7 s.heap k u:=by
 let⟨a,us,rfl,e,i⟩:=h;cases r
 rw[ni i] at e;let⟨aM,rv,⟨o,o1,o2,n,o3⟩,_⟩:=I.tuple (cA.of (sub _ _ e));calc⟨a,o,_,n,U,o1,o2,o3,by simpa using intsAre_of rv⟩
def Gp{pins:a9}{σ:St}{H F:Hp}{s:ο}{k:LK}{m:Int}{v:V}{u:O}(I:Inv X pins σ H s)(sub:bf F H)(h:Is F (.tup [.tup (k.map D.int),.int m]) v)(r:RelV v u):oR s.heap k.length (k++[m]) u:=by
 let⟨a,us,rfl,e,v1,r1,rfl,h1,v2,r2,rfl,h2,rfl⟩:=h;cases r
 let⟨aM,rv,⟨o,o1,o2,n,o3⟩,_⟩:=I.tuple (cA.of (sub _ _ e));subst h2
 cases rv with
 |cons q1 rv =>
  cases rv with
  |cons q2 rv =>
   cases rv
   let t1:=Bt I sub h1 q1;let⟨b,_,_,_,rfl,_⟩:=id t1;let⟨t,rfl⟩:=q2;calc⟨a,o,_,n,b,k,m,t,U,o1,o2,o3,U,t1,U,U⟩
def NF{pins:a9}{σ:St}{H F:Hp}{s:ο}{E:bz}{l:Y}{ds:-D}{us:-V}{key:D->LK}{Q:bz}(hu:X.A.units+64<cLine)(I:Inv X pins σ H s)(sub:bf F H)(hl:H l=Z (.lst us)\/H l=Z (.tup us))(hi:aA F ds us)(ka:↑ds<64)(sh:Gn ds key)
  (fin:∀(out:-D)(ws:-V)(a:Y)(s':ο),out.Perm ds->(out.map key).Pairwise kle->aA F out ws->H a=η->Inv X pins σ (upd H a (.lst ws)) s'->Q (.ref a) s'):ρ (ς X.prog X.w) X.A (call (.builtin "sorted") [.ref l]) Q E s:=by
 let col:∀Q':-O->ο->Prop,(∀h' tk vs,(∀b o,s.heap.get? b=Z o->h'.get? b=Z o)->Vals us vs->Q' vs {s with heap:=h',toks:=tk})->ρ (ς X.prog X.w) X.A.in1 (collect (.ref l)) Q' E s:=λQ' hQ=>by
  rcases hl with hl|hl
  .let⟨aM,rv,pl,hz⟩:=I.list (bR.of hl)
   let⟨o,o1,o2,n,o3⟩:=pl.isList;exact q6W l (.inl U) o1 o2 o3 (λh' kp=>hQ h' s.toks _ kp rv⁻¹) (by rw[Uk,<-↑rv];calc hz)
  .let⟨aM,rv,⟨o,o1,o2,n,o3⟩,hz⟩:=I.tuple (cA.of hl)
   exact q6W l (.inr U) o1 o2 o3 (λh' kp=>hQ h' s.toks _ kp rv⁻¹) (by rw[Uk,<-↑rv];calc hz)
 let lu:=↑hi;let X0:X.A.in1.in1.units<cLine:=by show X.A.units+1+1<cLine;symm
 let gk:∀{i:Nat},i<↑ds->(ds.map key).getD i []=key (ds.getD i .non):=λ{i} h=>by
  rw[My,Uj,D9 h,My,D9 h];rfl
 let isAt:∀{i},i<↑ds->∀{vs},Vals us vs->∃v,Is F (ds.getD i .non) v/\RelV v (vs.getD i q0T):=λ{i} h {vs} rv=>by
  let⟨u,e1,e2⟩:=rv.get (getD_some  (d:=V.non) (i:=i) ⋯);let:=getD_some  (d:=q0T) (i:=i) (by rw[<-↑rv];symm);rw[this] at e1;cases e1;exact⟨_,aA.at hi (getD_some h) (getD_some ⋯),e2⟩
 let mem:∀{i},i<↑ds->ds.getD i .non∈ds:=λ{i} h=>q0I (getD_some h)
 let ke:∀{i k},(ds.map key)[i]?=Z k->i<↑ds/\k=key (ds.getD i .non):=λ{i k} e=>by
  let h:=by let:=(Ll.mp e).1;rwa [ye] at this
  calc⟨h,?_⟩;let:=getD_some (l:=ds.map key) (d:=[])  (by rw[ye];calc h);rw[e,gk h] at this;exact q0P this
 let ve:∀{i v}{vs:-O},vs[i]?=Z v->v=vs.getD i q0T:=λ{i v vs} e=>by
  rw[My,e];rfl
 let oF:∀p s' a,d5 ↑us p->Up (λi=>(ds.map key).getD i []) p ↑us->H a=η->Inv X pins σ (upd H a (.lst (p.toList.map λi=>us.getD i .non))) s'->Q (.ref a) s':=λp s' a hp up ha J=>by
  let⟨o1,o2⟩:=XY lu.symm hp up;exact fin _ _ a s' o1 o2 (XZ hi λi d_=>by rw[<-lu];calc hp.mem d_) ha J
 rcases sh with sh|⟨L,sh⟩
 .refine ND (κ:=tuples' θ)  I col ⋯ (λs' vs rv J h2 Q' hq=>?_) (λs' vs rv J i j C d_ AI hC=>?_) oF
  .refine Nz (ks:=ds.map key) ⋯ (λk hk=>?_) (by rw[ye,<-↑rv];symm) (λi k v e1 e2=>?_) hq
   .let⟨d,hd,rfl⟩:=q0j.mp hk
    exact(sh d hd).1
   .let⟨h,rfl⟩:=ke e1
    let⟨w,i1,r1⟩:=isAt h rv;rw[(sh _ (mem h)).2] at i1;rw[<-ve e2] at r1;exact Bt J sub i1 r1
  .rw[<-↑rv] at d_ AI
   rw[gk ⋯,gk ⋯] at hC;let⟨w,i1,r1⟩:=isAt (i:=i) ⋯ rv;let⟨w',i2,r2⟩:=isAt (i:=j) ⋯ rv;rw[(sh _ (mem ⋯)).2] at i1 i2;exact Nx (Bt J sub i1 r1) (Bt J sub i2 r2) hC
 .refine ND (κ:=tuples' ι)  I col ⋯ (λs' vs rv J h2 Q' hq=>?_) (λs' vs rv J i j C d_ AI hC=>?_) oF
  .refine XW (L:=L) (ks:=ds.map key) ⋯ (by rw[ye,<-↑rv];symm) (λi k v e1 e2=>?_) hq
   let⟨h,rfl⟩:=ke e1;let⟨w,i1,r1⟩:=isAt h rv;let⟨k,n,hk,e3,e4⟩:=sh _ (mem h);rw[e3] at i1;rw[<-ve e2] at r1;rw[e4,<-hk];exact Gp J sub i1 r1
  .rw[<-↑rv] at d_ AI
   rw[gk ⋯,gk ⋯] at hC;calc wd λoS=>?_;let⟨w,i1,r1⟩:=isAt (i:=i) ⋯ rv;let⟨w',i2,r2⟩:=isAt (i:=j) ⋯ rv;let⟨k,n,hk,e3,e4⟩:=sh _ (mem (i:=i) ⋯);let⟨k',n',ki,X1,X7⟩:=sh _ (mem (i:=j) ⋯);calc oS ?_;rw[e3] at i1;rw[X1] at i2;rw[e4,X7] at hC;let t1:=Gp J sub i1 r1;let t2:=Gp J sub i2 r2;rw[hk] at t1;rw[ki] at t2;calc XS X0 t1 t2 hC
def X8(hu:X.A.units+64<cLine):eI X (.builtin "sorted") Bs:=by
 ext pins s σ H xs us Q I r ⟨F,ds,K,sub,rd,q,md⟩;unfold Bs at q;split at q
 .let⟨ka,key,sh,hK⟩:=q
  let⟨v,rfl,a,vs,rfl,h1,h2⟩:=h8 rd;let⟨u,rfl,rx⟩:=vals1 r;cases rx
  exact NF hu I sub (.inl h1) h2 ka sh λout ws b s' o1 o2 o3 hb J=>⟨.ref b,_,J,U,md _ _ _ (hK out o1 o2) (cU hb) (nk sub hb o3)⟩
 .let⟨ka,key,sh,hK⟩:=q
  let⟨v,rfl,h⟩:=h8 rd;let⟨a,vs,rfl,h1,h2⟩:=h;let⟨u,rfl,rx⟩:=vals1 r;cases rx
  exact NF hu I sub (.inr (sub _ _ h1)) h2 ka sh λout ws b s' o1 o2 o3 hb J=>⟨.ref b,_,J,U,md _ _ _ (hK out o1 o2) (cU hb) (nk sub hb o3)⟩
 .calc q.elim
end
end
end L2
namespace LJ
open PySem L2 PySem.W
def X9{ls:-vD}{b ps}:(ls.map λl=>(l.T,(#[]:Array O))).lookup b=Z ps->(∃l∈ls,l.T=b)/\ps = #[]:=by
 induction ls with
 |nil=>ext h;cases h
 |cons l ls ih =>
  ext h;rw[q0C,q0E] at h
  cases q:b==l.T with
  |true =>
   rw[q] at h;exact⟨⟨l,q0d,(q1K q).symm⟩,(q0P h).symm⟩
  |false =>
   rw[q] at h;let⟨⟨l',h1,h2⟩,h3⟩:=ih h;calc⟨⟨l',q0p _ h1,h2⟩,h3⟩
def Gq{ls:-vD}{l}(h:l∈ls):(ls.map λl=>(l.T,(#[]:Array O))).lookup l.T=Z #[]:=by
 induction ls with
 |nil=>cases h
 |cons l' ls ih =>
  rw[q0C,q0E]
  cases q:l.T==l'.T with
  |true=>rfl
  |false =>
   rcases q0c.mp h with rfl|h
   .simp at q
   .calc ih h
def X_{l:OpenLaw}{q loose}{XP:(L->Option O)->Α->Prop}{d K as}{e:∀P,as=(K P).map (·.1)}{ts kk} ls C (Ya:ls.map (·.T)=ts) (hn:l.most=Z 63) (yh:d.params.defaults=[]) (hr:bA kk callerA)
  (wZ:∀w h,(K w.params).In h->Cs l.prog w C.cs h) (jM:∀(w:ω) h,(K w.params).In h->∀t∈ls,∃cc,CodeHd h cc t.T) (Yb:∀P,noTabs (K P)=θ)
  (F:∀w mg fa h,(K w.params).In h->h.Ns mainGlobals mg->mg d.name=Z (.ref fa) →
   ∃fd:FuncData,(∀s u,BindsTo s fd ⟨[u],[]⟩ [("script",u)])/\∀base:Α,(K w.params).In base->base.Ns mainGlobals mg->(∀t∈ls,base.BuiltinsAt mg t.T)->cB l.prog w (K w.params) mg base f_ kk fa fd ["script"] (@FU (je ls C) (K w.params))) :
  WalkO q loose XP (kmHook K as e ts).says l.row.toRowW d [] (λf vs=>q72 f vs) :=
 L2.Xq         hn (by decide) yh hr (λw h Y=>km_in_of Y)
  (λw h Y b ps hl=>by
   let⟨⟨t,ht,rfl⟩,rfl⟩:=X9 hl;let e1:=km_tabs_of Y t.T (by rw[<-Ya];calc q2n ht);refine⟨e1,?_,?_⟩
   .let⟨cc,o,vs,_,_,_,_,_,_,_,c1,c2,c3,c4,_⟩:=jM w h (km_in_of Y) t ht
    exact⟨cc,o,vs,c1,c2,c3,c4⟩
   .cases z:(K w.params).lookup t.T with
    |none=>rfl
    |some o =>
     let e2:=km_in_of Y t.T o z;rw[e1] at e2;cases e2
     calc absurd ((q1J.mp (Yb w.params) (t.T,tabObj #[]) (mem_of_lookupK z))) q1F)
  (λw h Y=>wZ w h (km_in_of Y))
  (λw mg fa h KX G qD=>by
   let⟨fd,hb,hF⟩:=F w mg fa h KX G qD
   calc⟨fd,hb,λbase k1 k2 k3=>hF base k1 k2 λt ht=>k3 t.T #[] (Gq ht)⟩)
  (λw H a ns hl hO hQ hS=>by
   calc⟨a,ns,U,hS,hl,⟨λt ht=>?_,hQ⟩,λ_=>U⟩;rcases hO t.T with⟨ps,z1,z2⟩|⟨z1,_⟩
   .rw[Gq ht] at z1;cases z1
    exact⟨#[],z2,trivial,.inl U⟩
   .rw[Gq ht] at z1;cases z1)
  λ_ _ _ _ _ z=>z
end LJ
namespace LJ
open PySem L2
variable[zt:ba]
inductive zx (ys:-DV) (aE:-OV) (K:RV->-OV->Prop):Prop
 |mk (m:Int) (ws:-(Int×Int×Int)) (q:aH m ws) (q:ys=[.p (a_ m ws)]) (q:aE=[]) (q:K (.p .non) [])
/---/def Gr:WS:=(bP (fR (dT (aL 1 FQ (ay (aa 0) ai)))) tT dX)
def Yc:Sem 1 0 zx Gr:=by
 ext ys aE K'-⟨m,ws,W,rfl,rfl,k⟩;unfold Gr;simp!;calc⟨m,ws,W,U,U,cC k⟩
inductive Bu (ys:-DV) (aE:-OV) (K:RV->-OV->Prop):Prop
 |mk (y:Int×Int×Int) (q:ys=[.p (bK y)]) (q:aE=[]) (q:K (.p (.tup [.int y.2.2,.int y.1,.int y.2.1])) [])
/---/def Gs:WS:=(bc (bQ (ay (d2 (aa 0) (dC (.int 2)) bg) (ay (d2 (aa 0) (dC (.int 0)) bg) (ay (d2 (aa 0) (dC (.int 1)) bg) ai)))))
def Yd:Sem 1 0 Bu Gs:=by
 ext ys aE K'-⟨y,rfl,rfl,k⟩;unfold Gs;simp![bK,cV,dz,at2];calc cC k
meta def d8(ws:-(Int×Int×Int))(n:Int):LK:=[(ws.getD n.toNat (0,0,0)).2.2,(ws.getD n.toNat (0,0,0)).1,(ws.getD n.toNat (0,0,0)).2.1]
structure cx(ws:-(Int×Int×Int))(ns:-Int):Prop where
 perm:ns.Perm (bB ↑ws)
 up:(ns.map (d8 ws)).Pairwise kle
def cx.nums{ws:-(Int×Int×Int)}{ns}(h:cx ws ns):Nums ws ns:=λn hn=>wY (h.perm.mem_iff.mp hn)
def cx.len{ws:-(Int×Int×Int)}{ns}(h:cx ws ns):↑ns=↑ws:=by rw[h.perm.length_eq];unfold bB;simp
def NG{m}{ws:-(Int×Int×Int)}(W:aH m ws){a b}(ha:0<=a/\a<(↑ws:Int))(hb:0<=b/\b<(↑ws:Int))(e:d8 ws a=d8 ws b):a=b:=by
 let⟨i,rfl⟩:∃i:Nat,a=i:=⟨a.toNat,⋯⟩;let⟨j,rfl⟩:∃j:Nat,b=j:=⟨b.toNat,⋯⟩;let hi:i<↑ws:=by symm
 let hj:j<↑ws:=by symm
 unfold d8 at e;rw[q0t,q0t,My,D9 hi,My,D9 hj] at e;erw[Option.getD_some,q7E,and_true] at e
 let q:(ws.map λy=>(y.1,y.2.1))[i]'(by rw[ye];calc hi)=(ws.map λy=>(y.1,y.2.1))[j]'(by rw[ye];calc hj):=by
  rw[q1z,q1z,e.2.1,e.2.2]
 let:=(q2r W.unlike).mp q;rw[this]
def Ye{out l}(h:out.Perm (l.map D.int)):∃ns:-Int,out=ns.map D.int/\ns.Perm l:=by
 refine⟨out.map λd=>match d with
  |.int n=>n
  |_=>0,?_,?_⟩
 .rw[q0y]
  calc(q3W out).symm.trans (q02 λd hd=>?_);let⟨n,_,rfl⟩:=q0j.mp (h.mem_iff.mp hd);rfl
 .let:=h.map λd=>match d with
   |.int n=>n
   |_=>0
  rw[q0y] at this;calc this.trans (q7F ((q02 λn _=>U).trans (q3W l)))
inductive Gu (ys:-DV) (aE:-OV) (K:RV->-OV->Prop):Prop
 |mk (m:Int) (ws:-(Int×Int×Int)) (q:aH m ws) (q:ys=[.p (a_ m ws)]) (q:aE=[]) (q:∀ns,cx ws ns->K (.n (ns.map D.int)) [])
/---/def NH:WS:=(aD (iI (aL 1 zx (ay (aa 0) ai))) (aD (a8 1 (d2 (aa 0) (dC (.int 1)) bg)) (bc (Gi (ay (dN (ay (aa 1) ai) cq) ai) [Z 1] (aL 1 Bu (ay (d2 (aa 1) (aa 0) bg) ai))))))
def Yf:Sem 1 1 Gu NH:=by
 ext ys aE K'-⟨m,ws,W,rfl,rfl,k⟩;let km:=W.iE;calc bp λN hN=>?_;simp!;calc⟨m,ws,W,U,U,?_⟩;simp!;subst hN;calc bp λN hN=>?_;simp![dz,a_];subst hN;simp![Gi]
 refine⟨⟨⋯,⋯⟩,by rw[m_];symm,λd=>match d with
  |.int n=>d8 ws n
  |_=>[],λd hd=>?_,λout pm pw=>?_⟩
 .let⟨i,hi⟩:=q0m.mp hd
  let⟨hi,rfl⟩:=oy hi;let e0:(0+(i:Int))=i:=by symm
  rw[e0];let⟨y,ey,hy,ea,_⟩:=nv W (n:=i) ⋯ ⋯;calc⟨(by ext z;cases z),?_⟩;simp![ea];calc⟨y,U,U,?_⟩;simp!;unfold d8;rw[ey];rfl
 .rw[q0t,pU] at pm
  let⟨ns,rfl,pn⟩:=Ye pm;calc⟨[],U,U,.inl (k ns ⟨pn,?_⟩)⟩;rw[q0y] at pw;calc pw
inductive Gv (ys:-DV) (aE:-OV) (K:RV->-OV->Prop):Prop
 |mk (m:Int) (ws:-(Int×Int×Int)) (n:Int) (q:aH m ws) (q:(0<=n/\n<(↑ws:Int))) (q:ys=[.p (a_ m ws),.p (.int n)]) (q:aE=[]) (q:K (.p (.tup ((d8 ws n).map D.int))) [])
/---/def Gw:WS:=(aD (i5 (d2 (d2 (aa 0) (dC (.int 1)) bg) (aa 1) bg) (iz 3 (dB (bL 2) (dB (bL 3) (dB (bL 4) hZ))))) (bc (bQ (ay (aa 4) (ay (aa 2) (ay (aa 3) ai))))))
def Yg:Sem 2 3 Gv Gw:=by
 ext ys aE K'-⟨m,ws,n,W,⟨n0,n1⟩,rfl,rfl,k⟩;let⟨y,ey,hy,ea,_⟩:=nv W n0 n1;unfold Gw;simp![dz,a_,ea,bK];unfold d8 at k;rw[ey] at k;calc cC k
meta def mH(ws:-(Int×Int×Int))(n:Int):D:=.tup [.tup ((d8 ws n).map D.int),.int n]
def Yh{a b n m}(hl:↑a=↑b)(h:kle (a++[n]) (b++[m])):kle a b:=by
 unfold kle at h ⊢;rw[Gk _ _ hl.symm] at h
 by_cases e:b=a
 .rw[e];exact wN a
 .rw[q0l e] at h;calc h
end LJ
namespace L2
open PySem PySem.Spec PyProof.Rows
variable[zt:ba]
meta def cE{α:Type}(kvs:-(Key×α))(k:Key):Option α:=(kvs.find? λkv=>I (kv.1=k)).map (·.2)
meta def putD{α:Type}(kvs:-(Key×α))(k:Key)(d:α):-(Key×α) :=
 if(kvs.any λkv=>I (kv.1=k))=θ then kvs.map (λkv=>if kv.1=k then(kv.1,d) else kv) else kvs++[(k,d)]
section
omit [ba]
variable{α:Type}{R:α->V->Prop}
def dW.val k:∀{gP ws},dW R gP ws->(cE gP k=η/\cP ws k=η)\/∃d v,cE gP k=Z d/\cP ws k=Z v/\R d v
 |[],_,h=>by subst h;exact .inl ⟨U,U⟩
 |kd::r,_,⟨v,t,e,h1,h2⟩=>by
  subst e
  by_cases c:kd.1=k
  .refine .inr ⟨kd.2,v,?_,yt c,h1⟩
   unfold cE;rw[q3C c⁻¹];rfl
  .rw[yu c]
   let e:cE (kd::r) k=cE r k:=by unfold cE;rw[q3D c⁻¹]
   rw[e];calc dW.val k h2
def dW.length{κ}:∀{gP:-(κ×α)}{ws},dW R gP ws->↑ws=↑gP
 |[],_,h=>by subst h;rfl
 |kd::r,_,⟨v,t,e,h1,h2⟩=>by subst e;rw[Uh,Uh,↑h2]
def dW.any(k:Key):∀{gP ws},dW R gP ws->(ws.any λkv=>I (kv.1=k))=gP.any λkv=>I (kv.1=k)
 |[],_,h=>by subst h;rfl
 |kd::r,_,⟨v,t,e,h1,h2⟩=>by subst e;rw[q2H,q2H,h2.any k]
def dW.kN(k:Key){d v}(hd:R d v):∀{gP ws},dW R gP ws->dW R (gP.map λkv=>if kv.1=k then(kv.1,d) else kv) (ws.map λkv=>if kv.1=k then(kv.1,v) else kv)
 |[],_,h=>by subst h;rfl
 |kd::r,_,⟨u,t,e,h1,h2⟩=>by
  subst e
  by_cases c:kd.1=k
  .rw[q0C,q0C,q0r c,q0r c]
   exact⟨v,_,U,hd,h2.kN k hd⟩
  .rw[q0C,q0C,q0l c,q0l c]
   calc⟨u,_,U,h1,h2.kN k hd⟩
def dW.snoc{k:Key}{d v}(hd:R d v):∀{gP ws},dW R gP ws->dW R (gP++[(k,d)]) (ws++[(k,v)])
 |[],_,h=>by subst h;exact⟨v,[],U,hd,U⟩
 |kd::r,_,⟨u,t,e,h1,h2⟩=>by subst e;calc⟨u,_,U,h1,h2.snoc hd⟩
def dW.put{gP ws k d v}(h:dW R gP ws)(hd:R d v):dW R (putD gP k d) (putK ws k v):=by
 unfold putD putK;rw[h.any k];split
 .exact h.kN k hd
 .calc h.snoc hd
end
/---/def ak(x:DV)(δ:bh)(K:Nat->(-(Key×D)->OV)->-(Key×D)->Prop):Prop:=match x with
 |.o k=>match δ.mu[k]? with
  |some (some (.dct kvs))=>K k OV.dct kvs
  |some (some (.ac a kvs))=>K k (OV.ac a) kvs
  |_=>False
 |_=>False
def zy{F H ad δ σ x v}{K:Nat->(-(Key×D)->OV)->-(Key×D)->Prop}(S:SR F ad δ σ H)(V1:eY F ad x v)(h:ak x δ K):∃k B kvs a ws,x=.o k/\K k B kvs/\v=.ref a/\ad[k]?=Z a/\H a=Z (.dK ws)/\AM F kvs ws/\δ.mu[k]?=Z (Z (B kvs))/\∀{F' es us},AM F' es us->gz F' a (B es) (.dK us):=by
 unfold ak at h;split at h
 .rename_i k
  split at h
  .rename_i kvs e
   calc wd λr9=>?_;let⟨a,e1,rfl⟩:=V1;let⟨a',o,e2,e3,ws,rfl,h4⟩:=S.mu k _ e;calc r9 ?_;rw[e1] at e2;cases e2;exact⟨k,_,kvs,a,ws,U,h,U,e1,e3,h4,e,λi=>⟨_,U,i⟩⟩
  .rename_i b kvs e
   calc wd λr_=>?_;let⟨a,e1,rfl⟩:=V1;let⟨a',o,e2,e3,z,ws,rfl,h4⟩:=S.mu k _ e;calc r_ ?_;rw[e1] at e2;cases e2;exact⟨k,_,kvs,a,ws,U,h,U,e1,e3,h4,e,λi=>⟨z,_,U,i⟩⟩
  .exact h.elim
 .calc h.elim
/---/def aq(x:DV)(P:Int->Prop):Prop:=match x with
 |.p (.int i)=>P i
 |_=>False
def Gx{F ad x v P}(hv:eY F ad x v)(h:aq x P):∃i,v=kV (.inl i)/\P i:=by
 unfold aq at h;split at h
 .rename_i i;exact⟨i,hv,h⟩
 .calc h.elim
/---/def aO:WE:=fun δ K=>K (.o ↑δ.mu) ⟨δ.sl,δ.mu++[Z (.dct [])]⟩
/---/def ar(neg:Bool)(fi fo:WE):WE:=fun δ K=>fi δ λx δ1=>fo δ1 λy δ2=>aq x λi=>ak y δ2 λ_ _ kvs=>K (.p (.bl (neg != (cE kvs (.inl i)).isSome))) δ2
/---/def aQ(fv fo fi:WE):WS:=λK δ=>fv δ λz δ1=>fo δ1 λx δ2=>fi δ2 λy δ3=>pM z δ3 λd δ4=>aq y λi=>ak x δ4 λk B kvs=>↑kvs<1000/\K.nx ⟨δ4.sl,δ4.mu.set k (Z (B (putD kvs (.inl i) d)))⟩
section
variable{X:Cx}{o i e v:υ}{fo fi fv fk fe:WE}{pos:Δ}
def NI:JE X (.Dict [] [] pos) (tD aO):=jT.weak fun σ H Q ⟨F,ad,δ,K,S,q,k⟩ p hp=>by
 let oi:∀{lG},gz F lG (.dct []) (.dK []):=λ{lG}=>⟨[],U,U⟩;calc k _ _ q _ _ _ _ (Ext.own S hp) (S.own hp oi) ⟨p,?_,U⟩;rw[<-S.cQ,q0i (Ln _),q1l];rfl
def NJ{neg}(td:TE)(hn:∀σ H Q,(tD fi σ H λy H1=>tD fo σ H1 λx H2=>∃a o,x=.ref a/\gH H2 a y o/\Q (.bl (neg != o.isSome)) H2)->td σ H Q):∀σ H Q,tD (ar neg fi fo) σ H Q->td σ H Q:=fun σ H Q ⟨F,ad,δ,K,S,q,k⟩=>hn σ H Q ⟨F,ad,δ,_,S,q,λx δ1 h1 v F1 br H1 E1 S1 V1=>⟨F1,br,δ1,_,S1,h1,λy δ2 h2 u F2 cR H2 E2 S2 V2=>by
  calc wd λsd=>?_;let⟨i,rfl,h3⟩:=Gx (V1.ext E2) h2;let⟨k0,B,kvs,a,ws,rfl,h4,rfl,e1,e2,i1,m1,tY⟩:=zy S2 V2 h3;refine sd <| ⟨a,_,U,gH.k e2,?_⟩
  let es:(cP ws (q2g i)).isSome=(cE kvs (.inl i)).isSome:=by
   rcases i1.val (.inl i) with⟨z1,z2⟩|⟨d,v,z1,z2,_⟩
   .rw[z1,z2];rfl
   .rw[z1,z2];rfl
  rw[es]
  calc k _ _ h4 _ _ _ _ (E1.trans E2) S2 U⟩⟩
def NK{t f}(h:∀σ H Q,tD f σ H Q->t σ H Q):∀σ H Q,dS (dT f) σ H Q->tB t σ H Q:=fun σ H Q ⟨F,ad,δ,K,S,q,k⟩↦h σ H _ ⟨F,ad,δ,_,S,q,λx δ1 h1 v F1 br H1 E1 S1 V1=>by
  let⟨b,rfl,h2⟩:=yE V1 h1
  calc⟨b,U,k _ _ h2 _ _ _ E1 S1⟩⟩
def Yi(hu:X.A.units+64<cLine)(hi:JE X i (tD fi))(ho:JE X o (tD fo))(hm:‹behindInMarks .In o=ι›):JT X (.Compare i [.In] [o] pos) (dS (dT (ar ι fi fo))) :=
 (Kr (UZ ⋯ hi ho) hm).weak (NK (NJ (yx (tD fi) (tD fo)) fun σ H Q h=>by erw[q8b] at h;calc h))
def Yj(hu:X.A.units+64<cLine)(hi:JE X i (tD fi))(ho:JE X o (tD fo))(hm:‹behindInMarks .NotIn o=ι›):JT X (.Compare i [.NotIn] [o] pos) (dS (dT (ar θ fi fo))) :=
 (Kr (U0 ⋯ hi ho) hm).weak (NK (NJ (LM (tD fi) (tD fo)) fun σ H Q h=>by erw[Bool.true_bne] at h;calc h))
def NL[lH]{pos'}(hu:X.A.units+64<cLine)(ho:JE X o (tD fo))(hi:JE X i (tD fi))(hv:JE X v (tD fv))(hs:‹swapsWith v (Z (.Subscript o i pos')) pos.line X.env=pure ι›):JS X (.Assign [.Subscript o i pos'] v pos) (eJ (aQ fv fo fi)) :=
 (LN ⋯ ho hi hv hs).weak λD σ H ⟨F,ad,δ,K,S,q,k⟩=>⟨F,ad,δ,_,S,q,λz δ1 h1 w F1 br H1 E1 S1 V1=>⟨F1,br,δ1,_,S1,h1,λx δ2 h2 u F2 cR H2 E2 S2 V2=>⟨F2,cR,δ2,_,S2,h2,λy δ3 h3 t F3 vj H3 E3 S3 V3=>by
  calc wd λsf=>?_;let⟨d,δ4,F4,h4,E4,S4,i4⟩:=yD S3 ((V1.ext E2).ext E3) h3;let⟨i,rfl,h5⟩:=Gx V3 h4;let⟨k0,B,kvs,a,ws,rfl,h6,rfl,e1,e2,i1,m1,tY⟩:=zy S4 ((V2.ext E3).ext E4) h5;let oi:=tY  (us:=putK ws (.inl i) w) (i1.put i4)
  calc sf <| ⟨a,_,U,l6.k e2 (mW (by rw[↑i1];symm)),k.nx _ h6.2 _ _ _ _ ((((E1.trans E2).trans E3).trans E4).trans (Ext.put S4 m1 e1)) (S4.put m1 e1 oi)⟩⟩⟩⟩
end
end L2
namespace LJ
open PySem L2
variable[zt:ba]
def Yk{kvs:-(Key×D)}{k l d}(h:cE kvs k=η):cE (putD kvs k d) l=if l=k then Z d else cE kvs l:=by
 let na:(kvs.any λkv=>I (kv.1=k))=ι:=by
  cases q:kvs.any λkv=>I (kv.1=k) with
  |false=>rfl
  |true =>
   let⟨kv,h1,h2⟩:=q3P.mp q;unfold cE at h;rw[Option.map_eq_none_iff] at h;exact absurd h2 (q4j.mp h kv h1)
 unfold putD;rw[na,q0l q1F];unfold cE;rw[List.find?_append]
 cases q:kvs.find? λkv=>I (kv.1=l) with
 |some kv =>
  let e:=q3Y q;let e:=by simpa using e
  rw[q0l]
  .rfl
  .ext z
   subst z;let:=q2D.mp na kv (q4G q);exact this e⁻¹
 |none =>
  by_cases c:l=k
  .subst c
   simp
  .rw[q0l c]
   simp[show ¬ k=l fromλz=>c z.symm]
def Yl{kvs:-(Key×D)}{k d}:↑(putD kvs k d)<=↑kvs+1:=by
 unfold putD;split
 .rw[ye];symm
 .simp
inductive Gy (ys:-DV) (aE:-OV) (K:RV->-OV->Prop):Prop
 |mk (m:Int) (ws:-(Int×Int×Int)) (ns:-Int) (q:aH m ws) (q:Nums ws ns) (q:ns.Nodup) (q:↑ns<=900) (q:ys=[.p (a_ m ws),.p (bj ns)]) (q:aE=[]) (q:K (.p .non) [])
/---/def NM:WS:=(aD (iI (aL 1 zx (ay (aa 0) ai))) (aD (bP (fR (dT (d1 (aa 1) (kZ "list")))) tT dX) (aD (a8 2 (d2 (dN (ay (d2 (aa 0) (dC (.int 1)) bg) ai) cq) (dC (.int 1)) (oI λi j=>.int (i-j)))) (aD (a8 3 aO) (eZ (i8 (ay (aa 1) ai)) (iz 2 (dB (bL 4) (dB (bL 5) hZ))) (aD (bP (kR (fR (dT (aL 3 t5 (ay (aa 5) (ay (dC (.int 0)) (ay (aa 2) ai)))))) (dT (ar ι (aa 5) (aa 3)))) tT dX) (aQ (dC (.bl θ)) (aa 3) (aa 5))))))))
def Ym:Sem 2 4 Gy NM:=by
 ext ys aE K'-⟨m,ws,ns,W,hn,nd,hl,rfl,rfl,k⟩;calc bp λN hN=>?_;simp!;calc⟨m,ws,W,U,U,?_⟩;show N _;subst hN;calc bp λN hN=>?_;rw[show bj ns=.lst (ns.map D.int) from U];simp![iY,fO,q9k];subst hN;calc bp λN hN=>?_;simp![dz,a_];subst hN;calc bp λN hN=>?_;simp![aO];subst hN
 let il:∀(j:Nat) d,(j2 0 (ns.map D.int))[j]?=Z d->∃n:Int,ns[j]?=Z n/\d=D.tup [.int j,.int n]:=λj d hd=>by
  let⟨e,h1,h2⟩:=pR hd;rw[Uj] at h1;let⟨n,h3,rfl⟩:=q0e.mp h1;exact⟨n,h3,by rw[h2,q0D]⟩
 refine mz (λi δ=>∃kvs:-(Key×D),↑kvs<=i/\(∀n ,(cE kvs (.inl n)).isSome=I (n∈ns.take i))/\δ=⟨[Z (.p (.tup [.int m,.tup (ws.map bK)])),Z (.p (.lst (ns.map D.int))),Z (.p (.int (↑ws-1))),Z (.o 0),η,η],[Z (.dct kvs)]⟩) ?_ ?_ ?_
 .refine⟨[],Ln _,λn=>by simp[cE],?_⟩
  erw[ye]
 .ext j d δ L hj ⟨kvs,kl,kv,rfl⟩ hL
  let⟨n,mD,rfl⟩:=il j d hj;let⟨n0,n1⟩:=hn n (q0I mD);let jl:=(Ll.mp mD).1
  let ff:(cE kvs (.inl n)).isSome=ι:=by
   rw[kv n];calc Ul λhm=>?_;let⟨i,hi,ei⟩:=q1j.mp hm;rw[q0K] at hi;rw[List.getElem_take] at ei;let e2:=(Ll.mp mD).2;let:=(q2r   nd).mp (ei.trans e2.symm);symm
  let fn:cE kvs (.inl n)=η:=by
   cases q:cE kvs (.inl n) with
   |none=>rfl
   |some d=>rw[q] at ff;cases ff
  let wb:Bh (.int n) 0 (↑ws-1)=θ:=by
   show(I (0<=n)&&I (n<=↑ws-1))=θ;rw[q0g n0,q0g ⋯];rfl
  calc⟨trivial,?_⟩;erw[iz,dB,hZ,bL,kg,q1a,q1b,Uh,q1p];calc⟨trivial,bp λN hN=>?_⟩;simp!;calc⟨.int n,0,↑ws-1,U,U,?_⟩;simp![wb,ar,aq,ak,ff,q8b];subst hN;refine⟨⋯,hL _ ⟨putD kvs (.inl n) (.bl θ),?_,λl=>?_,?_⟩⟩
  .let:=Yl (kvs:=kvs) (k:=.inl n) (d:=.bl θ);symm
  .rw[Yk fn,q2w,mD]
   by_cases c:l=n
   .subst c
    rw[q0r U];exact(q0g (by simp)).symm
   .rw[q0l (λz=>c (q22 z)),kv l]
    simp[c]
  .simp!
 .ext δ ⟨kvs,_,_,rfl⟩
  calc⟨trivial,cC k⟩
end LJ
namespace L2
open PySem PySem.Spec PyProof.Rows PySem.W
section
open PySem.SeqAt
open PySem.AutoSeq1 (wpAny_loadPart')
open PySem.MeetsSeq PySem.MeetsSeq2 PySem.MeetsSeq3
end
end L2
namespace LJ
open PySem L2
abbrev Lt:=Int×(Y×-Int)
meta def fV(es:-Lt):-(Key×V):=es.map λe=>(q2g e.1,V.ref e.2.1)
structure eK(H:Hp)(es:-Lt):Prop where
 at_:∀e∈es,H e.2.1=Z (.lst (e.2.2.map V.int))
 sg:(es.map (·.2.1)).Nodup
 si:(es.map (·.1)).Nodup
meta def strip(es:-Lt):-(Int×-Int):=es.map λe=>(e.1,e.2.2)
meta def pZ(g:-(Int×-Int))(x h:Int):-(Int×-Int):=if x∈g.map (·.1) then g.map (λe=>if e.1=x then(e.1,e.2++[h]) else e) else g++[(x,[h])]
meta def fg(fs:-Int):Nat->-(Int×-Int)
 |0=>[]
 |i+1=>pZ (fg fs i) (fs.getD i 0) i
def NN x:∀es:-Lt,cP (fV es) (q2g x:Key)=(es.find? λe=>I (e.1=x)).map λe=>V.ref e.2.1
 |[]=>U
 |e::es=>by
  by_cases c:e.1=x
  .rw[q3C c⁻¹]
   exact yt (congrArg q2g c)
  .rw[q3D c⁻¹]
   let:=NN x es;rw[<-this];calc yu (λz=>c (q22 z))
def Yn es:(strip es).map (·.1)=es.map (·.1):=by unfold strip;rw[q0y];rfl
meta def grow(es:-Lt)(x h:Int):-Lt:=es.map λe=>if e.1=x then(e.1,e.2.1,e.2.2++[h]) else e
def Yo es x h:fV (grow es x h)=fV es:=by
 unfold fV grow;rw[q0y];calc q02 λe _=>?_;show((q2g (if e.1=x then(e.1,e.2.1,e.2.2++[h]) else e).1),V.ref (if e.1=x then(e.1,e.2.1,e.2.2++[h]) else e).2.1)=_;split<;>rfl
def Yp es x h:(grow es x h).map (·.2.1)=es.map (·.2.1):=by
 unfold grow;rw[q0y];calc q02 λe _=>?_;show(if e.1=x then(e.1,e.2.1,e.2.2++[h]) else e).2.1=_;split<;>rfl
def Yq es x h:(grow es x h).map (·.1)=es.map (·.1):=by
 unfold grow;rw[q0y];calc q02 λe _=>?_;show(if e.1=x then(e.1,e.2.1,e.2.2++[h]) else e).1=_;split<;>rfl
def Yr{es x h}(hx:x∈es.map (·.1)):strip (grow es x h)=pZ (strip es) x h:=by
 unfold pZ;rw[q0r (by rw[Yn];calc hx)];unfold strip grow;rw[q0y,q0y];calc q02 λe _=>?_;show((if e.1=x then(e.1,e.2.1,e.2.2++[h]) else e).1,(if e.1=x then(e.1,e.2.1,e.2.2++[h]) else e).2.2)=if e.1=x then(e.1,e.2.2++[h]) else(e.1,e.2.2);split<;>rfl
def Ys{es:-Lt}(n:(es.map (·.1)).Nodup){e e'}(h:e∈es)(h':e'∈es)(q:e.1=e'.1):e=e':=by
 let⟨i,hi,rfl⟩:=q1j.mp h;let⟨j,hj,rfl⟩:=q1j.mp h';let:=(q2r (h₀:=by rw[ye];calc hi) (h₁:=by rw[ye];calc hj) n).mp (by rw[q1z,q1z];calc q);subst this;rfl
def Yt{es:-Lt}(n:(es.map (·.2.1)).Nodup){e e'}(h:e∈es)(h':e'∈es)(q:e.2.1=e'.2.1):e=e':=by
 let⟨i,hi,rfl⟩:=q1j.mp h;let⟨j,hj,rfl⟩:=q1j.mp h';let:=(q2r (h₀:=by rw[ye];calc hi) (h₁:=by rw[ye];calc hj) n).mp (by rw[q1z,q1z];calc q);subst this;rfl
def eK.grow{H es e h}(L:eK H es)(he:e∈es):eK (upd H e.2.1 (.lst (e.2.2.map V.int++[V.int h]))) (grow es e.1 h):=by
 calc⟨λe' vF=>?_,by rw[Yp];calc L.sg,by rw[Yq];calc L.si⟩;let⟨d,hd,rfl⟩:=q0j.mp vF
 by_cases c:d.1=e.1
 .obtain rfl:=Ys L.si hd he c
  rw[q0r U,cb,q0s];rfl
 .rw[q0l c,bD λz=>c (by rw[Yt L.sg hd he z])]
  calc L.at_ d hd
def eK.snoc{H H' es x h n}(L:eK H es)(hn:H n=η)(hx:x∉es.map (·.1))(kp:∀e∈es,H' e.2.1=H e.2.1)(h':H' n=Z (.lst [V.int h])):eK H' (es++[(x,n,[h])]):=by
 refine⟨λe he=>?_,?_,?_⟩
 .rcases q0w.mp he with q|q
  .rw[kp e q];exact L.at_ e q
  .rw[q0z.mp q];exact h'
 .rw[q0s]
  calc q1k.mpr ⟨L.sg,by simp,λa ha b hb z=>?_⟩;subst z;let⟨e,he,rfl⟩:=q0j.mp ha;let:=by simpa using hb
  rw[<-this,L.at_ e he] at hn;cases hn
 .rw[q0s]
  calc q1k.mpr ⟨L.si,by simp,λa ha b hb z=>?_⟩;subst z;let:=by simpa using hb
  calc hx (by rw[<-this];calc ha)
variable[zt:ba]
inductive Gz (ys:-DV) (aE:-OV) (K:RV->-OV->Prop):Prop
 |mk (m:Int) (ws:-(Int×Int×Int)) (ns:-Int) (q:aH m ws) (q:Nums ws ns) (q:ns.Nodup) (q:↑ns<=900) (q:ys=[.p (a_ m ws),.p (bj ns)]) (q:aE=[]) (q:K (.p (Bj ((fg (iA m ws ns) m.toNat).map (·.2)))) [])
end LJ
namespace L2
open PySem
variable[zt:ba]
section
variable{F F' H H':Hp}{ad a5:-Y}{δ δ':bh}{σ σ':St}
/---/def NO(H:Hp)(v:V)(H':Hp):Prop:=∃a b r,v=.ref a/\H a=η/\H' a=Z (.lst (.ref b::r))/\H b=η
end
end L2
namespace LJ
open PySem L2
section
variable[zt:ba]
/---/def Yu:V->-V->Hp->VK->Prop:=λx vs H Q=>∃(d:Y)(kvs:-(Key×V))(k:Key)(dv:V),x=.ref d/\vs=[kV k,dv]/\H d=Z (.dK kvs)/\↑kvs<sizeLine/\(∀v,cP kvs k=Z v->Q v H)/\(cP kvs k=η->Q dv (upd H d (.dK (putK kvs k dv))))
/---/def Yv:V->-V->Hp->VK->Prop:=λx vs H Q=>∃(d:Y)(kvs:-(Key×V)),x=.ref d/\vs=[]/\H d=Z (.dK kvs)/\∀r,H r=η->Q (.ref r) (upd H r (jV r d))
/---/def Yw:-V->Hp->VK->Prop:=λxs H Q=>∃(r d:Y)(kvs:-(Key×V)),xs=[.ref r]/\H r=Z (jV r d)/\H d=Z (.dK kvs)/\∀l,H l=η->Q (.ref l) (upd H l (.lst (kvs.map (·.2))))
/---/def Yx:TS:=eJ (iI (aL 2 Gy (ay (aa 0) (ay (aa 1) ai))))
/---/def Yy(Kf:q0b):TS:=qh (lW LP (uH 2)) (qh (xR (LC Kf (kG (x4 (pQ zj 2) [] E0 (kG (jL 0) (kG (jL 1) iT))) iT)) (xO Kf 2 (Dr (uH 3) (Dr (uH 4) xM)))
 (Kt (wc Kf "list" D2 (wc Kf "dict" Yu (jL 2) (kG (jL 4) (kG (xZ iT) iT))) (kG (jL 3) iT))))
 (xI (x8 Yw (kG (yd Kf "dict" Yv (jL 2)) iT))))
def Yz{fs}:∀{i},0<i->fg fs i≠[]
 |i+1,_,z=>by
  unfold fg pZ at z;split at z
  .rename_i c
   rw[q52] at z;rw[z] at c;exact nomatch c
  .simp at z
def YA{Kf:q0b}{H F0:Hp}{ad:-Y}{vs:-V}{m:Int}{ws:-(Int×Int×Int)}{ns:-Int}{K':RV->-OV->Prop}{Q:VK}{Dd:Ends}(hl:↑vs=2)(W:aH m ws)(hn:Nums ws ns)(hd:ns.Nodup)(GA:↑ns<=900)
  (hK:K' (.p (Bj ((fg (iA m ws ns) m.toNat).map (·.2)))) []) (S0:SR F0 ad ⟨[DV.p (a_ m ws),DV.p (bj ns)].map Z,([]:-OV).map Z⟩ (vs.map Z) H) (kk:∀r ows,K' r ows->∀v F' H',AX F0 ad H r ows v F' H'->NO H v H'->Q v H') (hD:∀v H',Q v H'->Dd.rt v H') :
  qh Yx (Yy Kf) Dd (start ["web", "ways", "lots", "house", "first"] vs) H:=by
 let ea:ad=[]:=by let:=S0.cQ;simpa using this
 subst ea;let S1:=S0.start (N:=["web", "ways", "lots", "house", "first"]);rw[hl] at S1;refine⟨F0,[],_,{nx:=fun δ'=>δ'=⟨[Z (.p (a_ m ws)),Z (.p (bj ns)),η,η,η],[]⟩,rt:=λ_ _=>False},S1,?_,⟨?_,λ_ h=>h.elim,λ_ h=>h.elim,λ_ _ h=>h.elim,trivial⟩⟩
 .simp!
  exact⟨m,ws,ns,W,hn,hd,GA,U,U,U⟩
 ext δ' rfl F1 br σ1 H1 E1 S1;let ea:br=[]:=by let:=S1.cQ;simpa using this
 subst ea;let⟨v0,e0,i0⟩:=S1.sl 0 _ U;let⟨v1,e1,i1⟩:=S1.sl 1 _ U;let hlen:=S1.len
 let⟨w2,w3,w4,rfl⟩:∃w2 w3 w4,σ1=[Z v0,Z v1,w2,w3,w4]:=by
  let⟨a,r,rfl⟩:=q1N hlen;let⟨b,r,rfl⟩:=q1N (q2d hlen);let hlen:=q2d (q2d hlen);let⟨c,r,rfl⟩:=q1N hlen;let⟨d,r,rfl⟩:=q1N (q2d hlen);let⟨e,rfl⟩:=q5l.mp (q2d (q2d hlen));cases(show Z a=Z (Z v0) from e0)
  cases(show Z b=Z (Z v1) from e1)
  exact⟨c,d,e,U⟩
 ext dl rh
 let zz:H dl=η:=by
  cases q:H dl with
  |none=>rfl
  |some u=>let⟨u',h'⟩:=E1.iZ dl u q;rw[rh] at h';cases h'
 let fl:F1 dl=η:=by
  cases q:F1 dl with
  |none=>rfl
  |some u=>rw[S1.sub dl u q] at rh;cases rh
 let nl:¬ Lv [] ([]:-(Option OV)) dl:=λ⟨k,ov,z,_⟩↦by simp at z
 let S2:=S1.other (o:=.dK []) fl nl (ba.same S1.tab (cU rh));let E2:=E1.other (o:=.dK []) zz;calc⟨_,U,_,U,?_⟩;calc EK (E:=E0) (xs:=[.p (a_ m ws),.p (bj ns)]) (K:=λr ows=>r=.p (bj (iA m ws ns))/\ows=[]) S2 ⟨v0,_,U,i0,v1,_,U,i1,U⟩ U U U ⟨m,ws,ns,W,hn,.inl ⟨U,U,U,U⟩⟩ ?_;ext res ows v F3 H3 ⟨er,eo⟩ X3 S3 d4;calc wd λoT=>?_;subst er eo;let zA:↑(iA m ws ns)=m.toNat:=Xh;let fW:=W.fW;generalize iA m ws ns=fs at hK d4 zA;let d4:Is F3 (.lst (fs.map D.int)) v:=d4;erw[Is] at d4;let⟨g,us,rfl,hg,iu⟩:=d4;let YB:=ni iu;subst YB;let GB:Ext F1 [] [] (upd H1 dl (.dK [])) F3 [] [] H3:=X3
 let E3:Ext F0 [] [] H F3 [] [] H3:=E2.trans GB;let Bv:∀a,¬ Lv [] ([]:-(Option OV)) a:=λa ⟨k,ov,z,_⟩↦by simp at z
 let YC:dl∉ba.ad:=λz=>by let⟨ps,q⟩:=ba.tb S1.tab z;rw[rh] at q;cases q
 let Bw:H3 dl=Z (.dK []):=GB.keep dl _ cb (Bv _) YC;let Bx:H3 g=Z (.lst (fs.map V.int)):=S3.sub _ _ hg
 let YD:F3 dl=η:=by
  cases q:F3 dl with
  |none=>rfl
  |some u =>
   rcases GB.new dl u q with z|z|z
   .rw[fl] at z;cases z
   .rw[cb] at z;cases z
   .exact absurd z (Bv _)
 let gd:g≠dl:=λz=>by rw[z,Bw] at Bx;cases Bx
 calc oT <| ⟨g,U,⟨_,bR.of Bx⟩,?_⟩;refine LH (K:=Kf) (a:=g) (xs:=fs.map V.int) (λi σ H4=>∃(es:-Lt)(w3 w4:Option V),σ=[Z v0,Z v1,Z (.ref dl),w3,w4]/\(∀a o,H3 a=Z o->a≠dl->H4 a=Z o)/\ba.ok H4/\H4 dl=Z (.dK (fV es))/\eK H4 es/\(∀e∈es,H3 e.2.1=η)/\strip es=fg fs i/\↑es<=i/\∀e∈es,↑e.2.2<=i) ?_ (λi σ H4 _ ⟨_,_,_,_,kp,_⟩↦bR.of (kp g _ Bx gd)) ?_ ?_
 .exact⟨[],w3,w4,U,λa o e _=>e,S3.tab,Bw,⟨(λe he=>nomatch he),q3u,q3u⟩,(λe he=>nomatch he),U,Ln _,λe he=>nomatch he⟩
 .ext i x T' σ H4 hx ⟨es,w3,w4,rfl,kp,tk,ub,L4,fr,st,le,ll⟩ Bo
  rw[Uj] at hx;let⟨y,ey,rfl⟩:=q0e.mp hx;let hi:=(Ll.mp ey).1;let eD:fs.getD i 0=y:=by rw[My,ey];rfl
  let s5:bf H4 (upd H4 T' (.tup [.int (i:Int),.int y])):=pX Bo;calc⟨T',_,U,cA.of cb,U,_,_,U,_,_,U,U,?_⟩;let YE:=s5 _ _ ub;calc⟨_,U,.inr (.inr (.inl ⟨U,.inl ⟨_,YE⟩⟩)),_,U,q0V _,λen NP=>?_⟩;let s6:=s5.trans (pX (o:=.lst []) NP);let By:=s6 _ _ ub;let zB:upd (upd H4 T' (.tup [.int (i:Int),.int y])) en (.lst []) en=Z (.lst []):=cb;let mI:H4 en=η:=s5.free NP;let w6:=ba.same tk s6;generalize upd (upd H4 T' (.tup [.int (i:Int),.int y])) en (.lst [])=H6 at s6 By zB w6;let L6:eK H6 es:=⟨λe he=>s6 _ _ (L4.at_ e he),L4.sg,L4.si⟩;let GC:en≠dl:=λz=>by rw[z,ub] at mI;cases mI
  let zC:H3 en=η:=by
   cases q:H3 en with
   |none=>rfl
   |some u=>rw[kp en u q GC] at mI;cases mI
  let fv:=NN y es;refine⟨dl,fV es,q2g y,.ref en,U,U,By,mW (by unfold fV;rw[ye];symm),λv hv=>?_,λhv=>?_⟩
  .rw[hv] at fv
   cases ff:es.find? λe=>I (e.1=y) with
   |none=>rw[ff] at fv;cases fv
   |some e =>
    rw[ff] at fv;obtain rfl:v=V.ref e.2.1:=by simpa using fv
    let he:e∈es:=q4G ff;let ek:e.1=y:=by simpa using q3Y ff
    let oe:y∈es.map (·.1):=q0j.mpr ⟨e,he,ek⟩;let GG:=L6.at_ e he;let GH:e.2.1≠dl:=λz=>by let:=fr e he;rw[z,Bw] at this;cases this
    refine⟨.inl ⟨U,_,bR.of GG⟩,_,U,e.2.1,_,_,U,U,GG,?_,?_⟩
    .refine mW ?_
     rw[ye];let:=ll e he;symm
    .refine⟨LJ.grow es y i,_,_,U,λb' o eb nb=>?_,ba.put w6 GG (.inl ⟨_,U⟩),?_,?_,?_,?_,?_,?_⟩
     .rw[bD (eg eb (fr e he))];exact s6 _ _ (kp _ _ eb nb)
     .rw[bD (q1_ GH),Yo];exact By
     .rw[<-ek];exact L6.grow he
     .ext e' vF
      unfold LJ.grow at vF;let⟨d,hd,rfl⟩:=q0j.mp vF;let:=fr d hd;split<;>exact this
     .rw[Yr oe,st];show pZ (fg fs i) y i=pZ (fg fs i) (fs.getD i 0) i;rw[eD]
     .unfold LJ.grow;rw[ye];symm
     .ext e' vF
      unfold LJ.grow at vF;let⟨d,hd,rfl⟩:=q0j.mp vF;let:=ll d hd;split
      .show ↑(d.2.2++[(i:Int)])<=i+1
       rw[Lo,q0J];symm
      .omega
  .rw[hv] at fv
   let oe:y∉es.map (·.1):=λz=>by
    let⟨e,he,ek⟩:=q0j.mp z
    cases ff:es.find? λe=>I (e.1=y) with
    |none=>exact absurd (q4j.mp ff e he) ek⁻¹
    |some e'=>rw[ff] at fv;cases fv
   let vG:upd H6 dl (.dK (putK (fV es) (q2g y) (.ref en))) en=Z (.lst []):=by rw[bD GC];exact zB
   calc⟨.inl ⟨U,_,bR.of vG⟩,_,U,en,_,_,U,U,vG,mW (q0V _),?_⟩;refine⟨es++[(y,en,[(i:Int)])],_,_,U,λb' o eb nb=>?_,ba.put (ba.put w6 By (.inr (.inl ⟨_,U⟩))) vG (.inl ⟨_,U⟩),?_,?_,?_,?_,?_,?_⟩
   .rw[bD (eg eb zC),bD nb];exact s6 _ _ (kp _ _ eb nb)
   .rw[bD (q1_ GC),cb,UL _ hv];unfold fV;rw[q0s];rfl
   .refine L4.snoc mI oe (λe he=>?_) (by rw[cb];rfl)
    let ne1:e.2.1≠en:=eg (L4.at_ e he) mI;let GH:e.2.1≠dl:=λz=>by let:=fr e he;rw[z,Bw] at this;cases this
    rw[bD ne1,bD GH,L4.at_ e he];exact s6 _ _ (L4.at_ e he)
   .ext e he
    rcases q0w.mp he with q|q
    .exact fr e q
    .rw[q0z.mp q];exact zC
   .unfold strip at st ⊢
    rw[q0s,st];show fg fs i++[(y,[(i:Int)])]=pZ (fg fs i) (fs.getD i 0) i;unfold pZ;rw[eD,q0l (by rw[<-st,q0y];calc oe)]
   .rw[Lo,q0J];symm
   .ext e he
    rcases q0w.mp he with q|q
    .let:=ll e q;symm
    .rw[q0z.mp q];show 1<=i+1;symm
 .ext σ H4 ⟨es,w3,w4,rfl,kp,tk,ub,L4,fr,st,le,ll⟩
  rw[ye,zA] at st;calc⟨_,U,.inr (.inr (.inl ⟨U,.inl ⟨_,ub⟩⟩)),dl,_,U,U,ub,λv hv=>?_⟩;let s5:bf H4 (upd H4 v (jV v dl)):=pX hv;calc⟨v,dl,_,U,cb,s5 _ _ ub,λr Br=>?_⟩;let s6:=s5.trans (pX (o:=.lst ((fV es).map (·.2))) Br);let Bz:=s5.free Br;let GI:upd (upd H4 v (jV v dl)) r (.lst ((fV es).map (·.2))) r=Z (.lst ((fV es).map (·.2))):=cb;let w6:=ba.same tk s6;generalize upd (upd H4 v (jV v dl)) r (.lst ((fV es).map (·.2)))=H5 at s6 GI w6
  let NQ:H3 r=η:=by
   cases q:H3 r with
   |none=>rfl
   |some u=>rw[kp r u q (λz=>by rw[z,ub] at Bz;cases Bz)] at Bz;cases Bz
  let non:∀{x},H3 x=η->H x=η:=λ{x} e=>by
   cases q:H x with
   |none=>rfl
   |some u=>let⟨u',z⟩:=E3.iZ x u q;rw[e] at z;cases z
  let YF:NO H (.ref r) H5:=by
   cases es with
   |nil=>exact absurd st.symm (Yz (by let:=W.m1;symm))
   |cons e es=>exact⟨r,e.2.1,_,U,non NQ,GI,non (fr e q0d)⟩
  calc hD _ _ (kk _ _ hK _ (Nw F3 H3 H5) _ ?_ YF);let sm:bf F3 (Nw F3 H3 H5):=Nw.same S3.sub;refine⟨λa o e=>?_,E3.same.trans sm,λa o e=>?_,λa o e _ t=>?_,w6,S3.nt.up sm λa ha=>?_,U,λj ow e=>by simp at e,λa ha=>by simp at ha,?_⟩
  .unfold Nw at e
   cases q:H3 a with
   |none=>rw[q] at e;exact e
   |some u =>
    rw[q] at e;let e:=e;exact s6 _ _ (kp _ _ (S3.sub _ _ e) λz=>by rw[z,YD] at e;cases e)
  .unfold Nw at e
   cases q:H3 a with
   |none =>
    refine .inr ?_
    cases q0:H a with
    |none=>rfl
    |some u=>let⟨u',h'⟩:=E3.iZ a u q0;rw[q] at h';cases h'
   |some u =>
    rw[q] at e;rcases E3.new a o e with z|z|z
    .exact .inl z
    .exact .inr z
    .exact absurd z (Bv _)
  .exact s6 _ _ (kp _ _ (E3.keep a o e (Bv _) t) λz=>by rw[z,zz] at e;cases e)
  .let⟨ps,q⟩:=ba.tb S3.tab ha
   unfold Nw;rw[q];exact S3.nt a ha
  .refine⟨r,_,U,by unfold Nw;rw[NQ];calc GI,?_⟩
   rw[<-st]
   let key:∀xs ,(∀e∈xs,e∈es)->aA (Nw F3 H3 H5) (((strip xs).map (·.2)).map bj) ((fV xs).map (·.2)):=by
    ext xs
    induction xs with
    |nil=>ext _;exact .nil
    |cons e xs ih =>
     calcλh=>⟨_,_,U,?_,ih λx hx=>h x (q0p _ hx)⟩;let he:=h e q0d;refine⟨e.2.1,e.2.2.map V.int,U,by unfold Nw;rw[fr e he];calc s6 _ _ (L4.at_ e he),pT⟩
   calc key es λ_ h=>h
meta def GJ(p q:Int)(fs:-Int):-Int:=fs.map λx=>if x=p then q else x
def YG{p q x y:Int}:(if x=p then q else x)=(if y=p then q else y)↔x=y\/((x=p\/x=q)/\(y=p\/y=q)):=by
 symm
def NR{f:Int->Int}{fs:-Int}{i}(h:i<fs.length):(fs.map f).getD i 0=f (fs.getD i 0):=by
 rw[My,Uj,D9 h,My,D9 h];rfl
def YH(a b:Int):(max a b=a/\min a b=b)\/(max a b=b/\min a b=a):=by
 symm
meta def oU(ws:-(Int×Int×Int))(st:-Int×-Int)(n:Int):-Int×-Int :=
 if st.2.getD (cD ws n).1 0=st.2.getD (cD ws n).2 0 then st else(st.1++[n],g9 st.2 (cD ws n).1 (cD ws n).2)
meta def iM(ws:-(Int×Int×Int))(fs ns:-Int):-Int×-Int:=ns.foldl (oU ws) ([],fs)
meta def k9(m:Int)(ws:-(Int×Int×Int))(ns:-Int):-Int:=sortI (iM ws (bB m.toNat) ns).1
def YI(ws:-(Int×Int×Int)) st n:↑(oU ws st n).2=↑st.2:=by
 unfold oU;split
 .rfl
 .calc wW _ _ _
def GL(ws:-(Int×Int×Int)):∀(ns:-Int) st,∃l,(ns.foldl (oU ws) st).1=st.1++l/\l.Sublist ns/\↑(ns.foldl (oU ws) st).2=↑st.2
 |[],st=>⟨[],by simp,.slnil,U⟩
 |n::r,st=>by
  let⟨l,h1,h2,h3⟩:=GL ws r (oU ws st n);rw[uX];rw[YI] at h3;unfold oU at h1 h3 ⊢;split at h1
  .rename_i q
   rw[q0r q] at h3 ⊢;exact⟨l,h1,h2.cons _,h3⟩
  .rename_i q
   rw[q0l q] at h3 ⊢;calc⟨n::l,by rw[h1,q12];rfl,h2.cons₂ _,h3⟩
def vH{a b}:dEq (.int a) (.int b)=I (a=b):=by
 cases q:dEq (.int a) (.int b)
 .exact (Ul λz=>by rw[z,kY] at q;cases q).symm
 .calc (q0g (q1K q)).symm
inductive GN (ys:-DV) (aE:-OV) (K:RV->-OV->Prop):Prop
 |mk (m:Int) (ws:-(Int×Int×Int)) (q:aH m ws) (q:ys=[.p (a_ m ws)]) (q:aE=[]) (q:∀ns,cx ws ns->K (.n ((k9 m ws ns).map D.int)) [])
/---/def GP:WS:=(aD (a8 1 (aL 1 Gu (ay (aa 0) ai))) (aD (a8 2 (pN ai)) (aD (a8 3 (aL 2 zj (ay (aa 0) (ay (aa 2) ai)))) (aD (eZ (bZ (aa 1)) (bL 4) (aD (a8 5 (d2 (d2 (aa 0) (dC (.int 1)) bg) (aa 4) bg)) (bP (dT (d2 (d2 (aa 3) (d2 (aa 5) (dC (.int 0)) bg) bg) (d2 (aa 3) (d2 (aa 5) (dC (.int 1)) bg) bg) jB)) (aD (iI (gh (aa 2) (ay (aa 4) ai))) (a8 3 (aL 3 wX (ay (aa 3) (ay (d2 (aa 5) (dC (.int 0)) bg) (ay (d2 (aa 5) (dC (.int 1)) bg) ai)))))) dX))) (bc (Bc (ay (aa 2) ai) Bd))))))
def YJ:Sem 1 5 GN GP:=by
 ext ys aE K'-⟨m,ws,W,rfl,rfl,k⟩;let km:=W.iE;let m1:=W.m1;let fW:=W.fW;unfold GP;calc bp λN hN=>?_;simp!;calc⟨m,ws,W,U,U,λns ho=>?_⟩;simp!;subst hN;calc bp λN hN=>?_;simp!;subst hN;calc bp λN hN=>?_;simp!;calc⟨m,ws,[],W,λn hn=>absurd hn q0L,.inr ⟨U,U,?_⟩⟩;subst hN;calc bp λN hN=>oE λg' b' K2 hg hb' hK=>?_;subst hg hb' hK;let il:↑(bB m.toNat)=m.toNat:=by unfold bB;simp
 let hlen:=ho.len
 let inv:∀i,↑(iM ws (bB m.toNat) (ns.take i)).2=m.toNat/\↑(iM ws (bB m.toNat) (ns.take i)).1<=30:=λi=>by
  let⟨l,h1,h2,h3⟩:=GL ws (ns.take i) ([],bB m.toNat);calc⟨h3.trans il,?_⟩;let:(iM ws (bB m.toNat) (ns.take i)).1=l:=h1;rw[this];let:=h2.length_le;rw[q0K] at this;symm
 refine mz (λi δ=>δ=⟨[Z (.p (a_ m ws)),Z (.p (.lst (ns.map D.int))),Z (.o 0),Z (.p (bj (iM ws (bB m.toNat) (ns.take i)).2)),η,η],[Z (.lst ((iM ws (bB m.toNat) (ns.take i)).1.map D.int))]⟩) U ?_ ?_
 .ext i d δ L hi rfl hL
  rw[Uj] at hi;let⟨n,NS,rfl⟩:=q0e.mp hi;let⟨n0,n1⟩:=ho.nums n (q0I NS);let⟨y,ey,hy,ea,a,b,e1,e2,h1,h2,_⟩:=nv W n0 n1;let en:cD ws n=(a,b):=by unfold cD;rw[ey,e1,e2,q0t,q0t]
  let⟨hf,hl⟩:=inv i
  let step:iM ws (bB m.toNat) (ns.take (i+1))=oU ws (iM ws (bB m.toNat) (ns.take i)) n:=by
   let:ns.take (i+1)=ns.take i++[n]:=by rw[q2w,NS];rfl
   rw[this];unfold iM;rw[q2Z];rfl
  let jD:=hL _ U;rw[step] at jD;generalize iM ws (bB m.toNat) (ns.take i)=st at hf hl jD;let⟨acc,fs⟩:=st;dsimp only at hf hl jD ⊢;unfold oU at jD;rw[en] at jD;calc⟨trivial,bp λN2 ja=>?_⟩;simp![dz,a_,ea];subst ja;let a1:=rS (ns:=fs) (i:=a) ⋯;let a2:=rS (ns:=fs) (i:=b) ⋯;calc gN λAy Bn hA hB=>?_;simp![cV,dz,bK,e1,e2,bj,a1,a2,vH]
  by_cases q:fs.getD a 0=fs.getD b 0
  .rw[q0g q]
   subst hB;rw[q0r q] at jD;exact jD
  .rw[Ul q]
   simp!;subst hA;rw[q0l q] at jD;calc bp λN2 ja=>?_;simp!;calc⟨⋯,?_⟩;subst ja;simp![cV,dz];calc⟨fs,a,b,U,U,⋯,⋯,⋯,?_⟩;rw[q0s] at jD;exact jD
 .ext δ rfl
  calc⟨trivial,?_⟩;let⟨hf,hl⟩:=inv ↑ns;rw[ye,q1i (Ln _)] at *;subst hN;simp![Bd,nh];calc⟨⋯,[],U,U,.inl (k ns ho)⟩
end
section
abbrev Wy:=Int×Int×Int
/---/def BA(S:Wy->Prop)(a b:Int):Prop:=∃w,S w/\((w.1=a/\w.2.1=b)\/(w.1=b/\w.2.1=a))
inductive bo (S:Wy->Prop) (a:Int):Int->Prop
 |rf:bo S a a
 |st {b c:Int}:bo S a b->BA S b c->bo S a c
section
variable{S S':Wy->Prop}{a b c:Int}
def BA.symm(h:BA S a b):BA S b a:=let⟨w,h1,h2⟩:=h;⟨w,h1,h2.symm⟩
def bo.trans(h:bo S a b)(h':bo S b c):bo S a c:=by
 induction h' with
 |rf=>exact h
 |st _ e ih=>calc .st ih e
def bo.symm(h:bo S a b):bo S b a:=by
 induction h with
 |rf=>exact .rf
 |st _ e ih=>calc(bo.st .rf e.symm).trans ih
def bo.bind(h:bo S a b)(k:∀w,S w->bo S' w.1 w.2.1):bo S' a b:=by
 induction h with
 |rf=>exact .rf
 |st _ e ih =>
  let⟨w,h1,h2⟩:=e;rcases h2 with⟨rfl,rfl⟩|⟨rfl,rfl⟩
  .exact ih.trans (k w h1)
  .calc ih.trans (k w h1).symm
def bo.one{w}(h:S w):bo S w.1 w.2.1:=.st .rf ⟨w,h,.inl ⟨U,U⟩⟩
def bo.mono(h:bo S a b)(k:∀w,S w->S' w):bo S' a b:=h.bind λw hw=>.one (k w hw)
def bo.none(h:bo S a b)(k:∀w,¬ S w):a=b:=by
 cases h with
 |rf=>rfl
 |st _ e=>let⟨w,h1,_⟩:=e;calc absurd h1 (k w)
def bo.add{w}(k:∀v,S' v↔S v\/v=w):bo S' a b↔bo S a b\/(bo S a w.1/\bo S w.2.1 b)\/(bo S a w.2.1/\bo S w.1 b):=by
 constructor
 .ext h
  induction h with
  |rf=>exact .inl .rf
  |st _ e ih =>
   rename_i b c _;let⟨v,h1,h2⟩:=e;rcases(k v).mp h1 with h1|rfl
   .let e':bo S b c:=.st .rf ⟨v,h1,h2⟩
    rcases ih with i|⟨i,j⟩|⟨i,j⟩
    .exact .inl (i.trans e')
    .exact .inr (.inl ⟨i,j.trans e'⟩)
    .exact .inr (.inr ⟨i,j.trans e'⟩)
   .rcases h2 with⟨rfl,rfl⟩|⟨rfl,rfl⟩
    .rcases ih with i|⟨i,j⟩|⟨i,j⟩
     .exact .inr (.inl ⟨i,.rf⟩)
     .exact .inr (.inl ⟨i,.rf⟩)
     .exact .inl i
    .rcases ih with i|⟨i,j⟩|⟨i,j⟩
     .exact .inr (.inr ⟨i,.rf⟩)
     .exact .inl i
     .exact .inr (.inr ⟨i,.rf⟩)
 .let up:∀{x y},bo S x y->bo S' x y:=λh=>h.mono λv hv=>(k v).mpr (.inl hv)
  let o:bo S' w.1 w.2.1:=.one ((k w).mpr (.inr U));ext(h|⟨h,h'⟩|⟨h,h'⟩)
  .exact up h
  .exact ((up h).trans o).trans (up h')
  .calc ((up h).trans o.symm).trans (up h')
end
variable[zt:ba]
/---/def bM(n:Nat)(fs:-Int)(S:Wy->Prop):Prop:=fs.length=n/\∀i j:Nat,i<n->j<n->(fs.getD i 0=fs.getD j 0↔bo S i j)
def NU{n i}(h:i<n):(bB n).getD i 0=i:=by
 unfold bB;rw[My,Uj,q1A h];rfl
def bM.start n:bM n (bB n) (λ_=>False):=by
 calc⟨by unfold bB;simp,λi j hi hj=>?_⟩;rw[NU hi,NU hj];calc⟨λe=>by rw[e];calc .rf,λh=>h.none λ_ z=>z⟩
def bM.join{n i j:Nat}{fs:-Int}{S S':Wy->Prop}{w:Wy}{p q:Int}(h:bM n fs S)(hi:i<n)(hj:j<n)(e1:w.1=i)(e2:w.2.1=j)(k:∀v,S' v↔S v\/v=w)(pq:(p=fs.getD i 0/\q=fs.getD j 0)\/(p=fs.getD j 0/\q=fs.getD i 0)):bM n (GJ p q fs) S':=by
 calc⟨by unfold GJ;rw[ye,h.1],λx y hx hy=>?_⟩;unfold GJ;rw[NR (by rw[h.1];calc hx),NR (by rw[h.1];calc hy),YG,bo.add k,e1,e2,<-h.2 x y hx hy,<-h.2 x i hx hi,<-h.2 x j hx hj,<-h.2 j y hj hy,<-h.2 i y hi hy];rcases pq with⟨rfl,rfl⟩|⟨rfl,rfl⟩
 .constructor
  .ext (h|⟨h1|h1,h2|h2⟩)
   .exact .inl h
   .exact .inl (h1.trans h2.symm)
   .exact .inr (.inl ⟨h1,h2.symm⟩)
   .exact .inr (.inr ⟨h1,h2.symm⟩)
   .exact .inl (h1.trans h2.symm)
  .ext (h|⟨h1,h2⟩|⟨h1,h2⟩)
   .exact .inl h
   .exact .inr ⟨.inl h1,.inr h2.symm⟩
   .exact .inr ⟨.inr h1,.inl h2.symm⟩
 .constructor
  .ext (h|⟨h1|h1,h2|h2⟩)
   .exact .inl h
   .exact .inl (h1.trans h2.symm)
   .exact .inr (.inr ⟨h1,h2.symm⟩)
   .exact .inr (.inl ⟨h1,h2.symm⟩)
   .exact .inl (h1.trans h2.symm)
  .ext (h|⟨h1,h2⟩|⟨h1,h2⟩)
   .exact .inl h
   .exact .inr ⟨.inr h1,.inl h2.symm⟩
   .calc .inr ⟨.inl h1,.inr h2.symm⟩
def bM.ib{n i j fs S S'}{w:Wy}(h:bM n fs S)(hi:i<n)(hj:j<n)(e1:w.1=i)(e2:w.2.1=j)(k:∀v,S' v↔S v\/v=w)(e:fs.getD i 0=fs.getD j 0):bM n fs S':=by
 calc⟨h.1,λx y hx hy=>(h.2 x y hx hy).trans ?_⟩;let ij:=(h.2 i j hi hj).mp e;rw[bo.add k,e1,e2];calc⟨.inl,λz=>z.elim id λz=>z.elim (λ⟨a,b⟩↦(a.trans ij).trans b) λ⟨a,b⟩↦(a.trans ij.symm).trans b⟩
meta def aB(ws:-Wy)(n:Int):Wy:=ws.getD n.toNat (0,0,0)
def YK{m:Int}{ws:-Wy}(W:aH m ws):∀(ns:-Int),Nums ws ns->ns.Nodup->bM m.toNat (iM ws (bB m.toNat) ns).2 (λv=>∃k∈ns,v=aB ws k) ∧
  ∀n,n∈(iM ws (bB m.toNat) ns).1↔∃as bs,ns=as++n::bs/\¬ bo (λv=>∃k∈as,v=aB ws k) (aB ws n).1 (aB ws n).2.1:=by
 ext ns
 let rev:∀(rs:-Int),Nums ws rs.reverse->rs.reverse.Nodup->bM m.toNat (iM ws (bB m.toNat) rs.reverse).2 (λv=>∃k∈rs.reverse,v=aB ws k) ∧
  ∀n,n∈(iM ws (bB m.toNat) rs.reverse).1↔∃as bs,rs.reverse=as++n::bs/\¬ bo (λv=>∃k∈as,v=aB ws k) (aB ws n).1 (aB ws n).2.1:=by
  ext rs
  induction rs with
  |nil =>
   refineλ_ _=>⟨?_,λn=>⟨λh=>absurd h q0L,λ⟨as,bs,e,_⟩=>?_⟩⟩
   .refine⟨(bM.start _).1,λi j hi hj=>((bM.start _).2 i j hi hj).trans ⟨λh=>h.mono λ_ z=>z.elim,λh=>h.mono λv ⟨k,hk,_⟩↦absurd hk q0L⟩⟩
   .exact absurd e (by simp)
  |cons r rs ih =>
   ext hn nd;rw[List.reverse_cons] at hn nd ⊢;let⟨mk,mem⟩:=ih (λx hx=>hn x (q0U _ hx)) ((q1k.mp nd).1);let⟨r0,r1⟩:=hn r (q0n _ q0d);let⟨y,ey,hy,_,i,j,e1,e2,h1,h2,_⟩:=nv W r0 r1;let ew:aB ws r=y:=ey;let en:cD ws r=(i,j):=by unfold cD;rw[ey,e1,e2,q0t,q0t]
   let step:iM ws (bB m.toNat) (rs.reverse++[r])=oU ws (iM ws (bB m.toNat) rs.reverse) r:=by unfold iM;rw[q2Z];rfl
   let kS:∀v,(∃k∈rs.reverse++[r],v=aB ws k)↔(∃k∈rs.reverse,v=aB ws k)\/v=aB ws r:=λv=>by
    constructor
    .ext ⟨k,hk,rfl⟩
     rcases q0w.mp hk with hk|hk
     .exact .inl ⟨k,hk,U⟩
     .rw[q0z.mp hk];exact .inr U
    .ext (⟨k,hk,rfl⟩|rfl)
     .exact⟨k,q0U _ hk,U⟩
     .exact⟨r,q0n _ q0d,U⟩
   let split:∀n (P:-Int->Prop),(∃as bs,rs.reverse++[r]=as++n::bs/\P as)↔(∃as bs,rs.reverse=as++n::bs/\P as)\/(n=r/\P rs.reverse):=λn P=>by
    constructor
    .ext ⟨as,bs,e,hp⟩
     rcases List.eq_nil_or_concat bs with rfl|⟨NV,z,rfl⟩
     .let:=q7f e U
      let⟨rfl,e3⟩:=this;cases e3
      exact .inr ⟨U,hp⟩
     .let e':rs.reverse++[r]=(as++n::NV)++[z]:=by rw[e];simp
      let⟨e3,_⟩:=q7f e' U;exact .inl ⟨as,NV,e3,hp⟩
    .ext (⟨as,bs,e,hp⟩|⟨rfl,hp⟩)
     .exact⟨as,bs++[r],by rw[e];simp,hp⟩
     .exact⟨rs.reverse,[],U,hp⟩
   rw[step];unfold oU;rw[en];let NW:=mk.2 i j h1 h2
   by_cases q:(iM ws (bB m.toNat) rs.reverse).2.getD i 0=(iM ws (bB m.toNat) rs.reverse).2.getD j 0
   .rw[q0r q]
    calc⟨mk.ib  h1 h2 (by rw[ew];calc e1) (by rw[ew];calc e2) kS q,λn=>?_⟩;rw[split n (λas=>¬ bo (λv=>∃k∈as,v=aB ws k) (aB ws n).1 (aB ws n).2.1),mem n];calc⟨.inl,λz=>z.elim id ?_⟩;ext ⟨e,hc⟩;subst e;rw[ew,e1,e2] at hc;exact absurd (NW.mp q) hc
   .rw[q0l q]
    refine⟨?_,λn=>?_⟩
    .exact mk.join  h1 h2 (by rw[ew];calc e1) (by rw[ew];calc e2) kS (YH _ _)
    .rw[split n (λas=>¬ bo (λv=>∃k∈as,v=aB ws k) (aB ws n).1 (aB ws n).2.1),q0w,mem n,q0z]
     calc or_congr x2z ⟨λe=>⟨e,?_⟩,λh=>h.1⟩;subst e;rw[ew,e1,e2];exactλz=>q (NW.mpr z)
 ext hn nd;let:=rev ns.reverse (by rw[q3X];calc hn) (by rw[q3X];calc nd);rw[q3X] at this;calc this
meta def lN(w:Wy):LK:=[w.2.2,w.1,w.2.1]
/---/def uc(v w:Wy):Prop:=HT.lexLt (lN v) (lN w)=θ
/---/def jg(ws:-Wy)(w:Wy):Prop:=w∈ws/\¬ bo (λv=>v∈ws/\uc v w) w.1 w.2.1
def NX(ws:-Wy) n:d8 ws n=lN (aB ws n):=rfl
def BB{ws:-Wy}{n:Int}(h0:0<=n)(h1:n<(↑ws:Int)):aB ws n∈ws:=by
 calc q0I (getD_some ⋯)
def GQ{ws:-Wy}{w:Wy}(h:w∈ws):∃n:Int,(0<=n/\n<(↑ws:Int))/\aB ws n=w:=by
 let⟨i,hi⟩:=q0m.mp h;let hl:=(Ll.mp hi).1;calc⟨i,⟨⋯,⋯⟩,?_⟩;unfold aB;rw[q0t,My,hi];rfl
def NY{a b:LK}(h:kle a b)(n:a≠b):HT.lexLt a b=θ:=by
 cases q:HT.lexLt a b with
 |true=>rfl
 |false=>calc absurd (zc q h) n
def GR{m}{ws:-Wy}(W:aH m ws){ns}(ho:cx ws ns){n}:n∈k9 m ws ns↔(0<=n/\n<(↑ws:Int))/\jg ws (aB ws n):=by
 let nd:=ho.perm.nodup_iff.mpr (Nk _);unfold k9;rw[(sortI_perm _).mem_iff,(YK W ns ho.nums nd).2 n]
 let before:∀as bs,ns=as++n::bs->∀v,(∃k∈as,v=aB ws k)↔(v∈ws/\uc v (aB ws n)):=λas bs e v=>by
  let up:=ho.up;rw[e,q0s,q0C,q5H,q05] at up;let⟨_,⟨u2,_⟩,u3⟩:=up;let hn:n∈ns:=by rw[e];exact q0n _ q0d
  rw[e] at nd;let YL:=q1k.mp nd
  constructor
  .ext ⟨k,hk,rfl⟩
   let ki:k∈ns:=by rw[e];exact q0U _ hk
   let kn:=ho.nums k ki;calc⟨BB kn.1 kn.2,NY (u3 _ (q2n hk) _ q0d) λz=>?_⟩;let:=NG W kn (ho.nums n hn) z;subst this;exact YL.2.2 k hk k q0d U
  .ext ⟨hv,eV⟩
   let⟨k,kn,rfl⟩:=GQ hv
   let hk:k∈ns:=ho.perm.mem_iff.mpr (by
    calc q0j.mpr ⟨k.toNat,q0H.mpr ⋯,⋯⟩)
   rw[e] at hk;rcases q0w.mp hk with hk|hk
   .exact⟨k,hk,U⟩
   .rcases q0c.mp hk with rfl|hk
    .let:HT.lexLt (lN (aB ws k)) (lN (aB ws k))=θ:=eV
     rw[wN] at this;cases this
    .let:=u2 _ (q2n hk)
     let h2:HT.lexLt (d8 ws k) (d8 ws n)=θ:=eV;rw[this] at h2;cases h2
 constructor
 .ext ⟨as,bs,e,hc⟩
  let nn:=ho.nums n (by rw[e];calc q0n _ q0d);exact⟨nn,BB nn.1 nn.2,λz=>hc (z.mono λv hv=>(before as bs e v).mpr hv)⟩
 .ext ⟨nn,_,hc⟩
  let hn:n∈ns:=ho.perm.mem_iff.mpr (by
   calc q0j.mpr ⟨n.toNat,q0H.mpr ⋯,⋯⟩)
  let⟨as,bs,e⟩:=List.append_of_mem hn;calc⟨as,bs,e,λz=>hc (z.mono λv hv=>(before as bs e v).mp hv)⟩
def YM{m}{ws:-Wy}{ns}(ho:cx ws ns):(k9 m ws ns).Nodup:=by
 calc(sortI_perm _).nodup_iff.mpr ?_;let⟨l,h1,h2,_⟩:=GL ws ns ([],bB m.toNat);let:(iM ws (bB m.toNat) ns).1=l:=h1;rw[this];calc(ho.perm.nodup_iff.mpr (Nk _)).sublist h2
def YN{m}{ws:-Wy}(W:aH m ws):ws.Nodup:=by
 let:=W.unlike;unfold List.Nodup at this ⊢;rw[q1s] at this;calc this.imp λ{a b} h e=>h (by rw[e])
meta def sj(ws:-Wy)(w:Wy):Nat:=ws.countP λv=>HT.lexLt (lN v) (lN w)
def NZ{α:Type}{p q x}:∀{l:-α},(∀y∈l,p y=θ->q y=θ)->x∈l->q x=θ->p x=ι->l.countP p<l.countP q
 |y::l,h,hx,h1,h2=>by
  let le:=List.countP_mono_left λz hz=>h z (q0p _ hz);rw[q2L,q2L];rcases q0c.mp hx with rfl|hx
  .rw[h1,h2];simp;symm
  .let:=NZ (λz hz=>h z (q0p _ hz)) hx h1 h2
   cases q1:p y with
   |false=>simp;split<;>symm
   |true=>rw[(h y q0d) q1];symm
def GS{ws u v}(hu:u∈ws)(h:uc u v):sj ws u<sj ws v :=
 NZ (λy _ hy=>A8 hy h) hu h (wN _)
def lP n:↑(bB n)=n:=by unfold bB;simp
structure Good(fs:-Int):Prop where
 le:∀h:Nat,h<fs.length->0<=fs.getD h 0/\fs.getD h 0<=h
 own:∀h:Nat,h<fs.length->fs.getD (fs.getD h 0).toNat 0=fs.getD h 0
def getD_at{fs:-Int}{h} hl:fs.getD h 0=fs[h]:=by rw[My,D9 hl];rfl
def YO{fs i j h}(hl:h<fs.length):(g9 fs i j).getD h 0=if fs.getD h 0=max (fs.getD i 0) (fs.getD j 0) then min (fs.getD i 0) (fs.getD j 0) else fs.getD h 0:=by
 rw[getD_at (by rw[wW];calc hl),getD_at hl];unfold g9;rw[q1z]
def YQ n:Good (bB n):=by
 let e:∀h ,h<↑(bB n)->(bB n).getD h 0=h:=λh hl=>by
  rw[lP] at hl;rw[bB,My,Uj,q1A hl];rfl
 calc⟨λh hl=>by rw[e h hl];symm,λh hl=>?_⟩;rw[e h hl,q0t,e h hl]
def Good.join{fs}(G:Good fs){i j}(hi:i<fs.length)(hj:j<fs.length):Good (g9 fs i j):=by
 let a1:=G.le i hi;let a2:=G.le j hj;let o1:=G.own i hi;let o2:=G.own j hj;generalize hg:max (fs.getD i 0) (fs.getD j 0)=g;generalize hk:min (fs.getD i 0) (fs.getD j 0)=k
 let gk:0<=k/\k<=g/\k.toNat<fs.length/\fs.getD k.toNat 0=k:=by
  rw[<-hg,<-hk];rcases Int.le_total (fs.getD i 0) (fs.getD j 0) with c|c
  .rw[q7A c,q7d c];symm
  .rw[q7e c,q7B c];symm
 let at_:∀h,h<fs.length->(g9 fs i j).getD h 0=if fs.getD h 0=g then k else fs.getD h 0:=λh hl=>by rw[YO hl,hg,hk]
 refine⟨λh hl=>?_,λh hl=>?_⟩
 .rw[wW] at hl
  let:=G.le h hl;rw[at_ h hl];split<;>symm
 .rw[wW] at hl
  let b:=G.le h hl;rw[at_ h hl]
  by_cases d:fs.getD h 0=g
  .rw[q0r d,at_ _ gk.2.2.1,gk.2.2.2]
   split<;>rfl
  .rw[q0l d,at_ _ ⋯,(G.own h hl),q0l d]
def BC{m}{ws:-Wy}(W:aH m ws){n}(h0:0<=n)(h1:n<(↑ws:Int)):∃i k:Nat,cD ws n=(i,k)/\(aB ws n).1=i/\(aB ws n).2.1=k/\i<m.toNat/\k<m.toNat:=by
 let⟨y,ey,hy,_,i,k,e1,e2,h1,h2,_⟩:=nv W h0 h1;calc⟨i,k,?_,by unfold aB;rw[ey];calc e1,by unfold aB;rw[ey];calc e2,h1,h2⟩;unfold cD;rw[ey,e1,e2,q0t,q0t]
def N0{m}{ws:-Wy}(W:aH m ws):∀ns fs,Nums ws ns->fs.length=m.toNat->Good fs->Good (fZ ws fs ns)
 |[],_,_,_,G=>G
 |n::ns,fs,hn,hl,G=>by
  let b:=hn n (q0d ..);let⟨i,k,e,_,_,h1,h2⟩:=BC W b.1 b.2;calc N0 W ns _ (λx hx=>hn x (q0p _ hx)) (by rw[wW];calc hl) ?_;show Good (g9 fs (cD ws n).1 (cD ws n).2);rw[e];calc G.join ⋯ ⋯
def N3{m}{ws:-Wy}(W:aH m ws):∀ns fs S,Nums ws ns->bM m.toNat fs S->bM m.toNat (fZ ws fs ns) (λv=>S v\/∃k∈ns,v=aB ws k)
 |[],fs,S,_,h=>by
  let:(λv=>S v\/∃k∈[],v=aB ws k)=S:=funext λv=>propext (by simp);rw[this];exact h
 |n::ns,fs,S,hn,h=>by
  let b:=hn n (q0d ..);let⟨i,k,e,e1,e2,h1,h2⟩:=BC W b.1 b.2
  let step:bM m.toNat (g9 fs i k) (λv=>S v\/v=aB ws n):=by
   calc bM.join    h h1 h2 e1 e2 (λv=>x2z) ?_;symm
  let:=N3 W ns _ _ (λx hx=>hn x (q0p _ hx)) step
  let eq:(λv=>(S v\/v=aB ws n)\/∃k∈ns,v=aB ws k)=(λv=>S v\/∃k∈n::ns,v=aB ws k):=funext λv=>propext (by
   constructor
   .ext ((h|h)|⟨k,hk,h⟩)
    .exact .inl h
    .exact .inr ⟨n,q0d,h⟩
    .exact .inr ⟨k,q0p _ hk,h⟩
   .ext (h|⟨k,hk,h⟩)
    .exact .inl (.inl h)
    .rcases q0c.mp hk with rfl|hk
     .exact .inl (.inr h)
     .calc .inr ⟨k,hk,h⟩)
  rw[eq] at this;show bM _ (fZ ws (g9 fs (cD ws n).1 (cD ws n).2) ns) _;rw[e];calc this
/---/def fq(ws:-Wy)(ns:-Int):Wy->Prop:=λv=>∃k∈ns,v=aB ws k
def GU{m}{ws:-Wy}(W:aH m ws){ns}(hn:Nums ws ns):bM m.toNat (iA m ws ns) (fq ws ns):=by
 let:=N3 W ns _ _ hn (bM.start m.toNat);let eq:(λv=>False\/∃k∈ns,v=aB ws k)=fq ws ns:=funext λv=>propext (by unfold fq;simp);rw[eq] at this;calc this
def YR{m}{ws:-Wy}(W:aH m ws){ns}(hn:Nums ws ns):Good (iA m ws ns):=N0 W ns _ hn (lP _) (YQ _)
meta def dP(fs:-Int)(i:Nat)(x:Int):-Int:=((q0F i).filter λh=>I (fs.getD h 0=x)).map λh:Nat=>(h:Int)
meta def roots(fs:-Int)(i:Nat):-Nat:=(q0F i).filter λh=>I (fs.getD h 0=(h:Int))
def N4{fs:-Int}(G:Good fs):∀i,i<=fs.length->fg fs i=(roots fs i).map λr:Nat=>((r:Int),dP fs i (r:Int))
 |0,_=>U
 |i+1,hi=>by
  let le:=G.le i ⋯;let own:=G.own i ⋯;show pZ (fg fs i) (fs.getD i 0) i=_;rw[(N4 G i ⋯)];let keys:((roots fs i).map λr:Nat=>((r:Int),dP fs i r)).map (·.1)=(roots fs i).map λr:Nat=>(r:Int):=by rw[q0y];rfl
  let oV:∀x,dP fs (i+1) x=if fs.getD i 0=x then dP fs i x++[(i:Int)] else dP fs i x:=λx=>by
   unfold dP;rw[q3f,q2x]
   by_cases c:fs.getD i 0=x
   .rw[q0r c,q0s,q2i c⁻¹];rfl
   .rw[q0l c,q2j c⁻¹,q7G,qE]
  let oW:∀r,r∈roots fs i↔r<i/\fs.getD r 0=r:=λr=>by
   unfold roots;rw[q0x,q0H,q0u]
  unfold pZ;rw[keys]
  by_cases c:fs.getD i 0=i
  .let no:fs.getD i 0∉(roots fs i).map λr:Nat=>(r:Int):=λz=>by
    let⟨r,hr,e⟩:=q0j.mp z;let:=((oW r).mp hr).1;symm
   rw[q0l no]
   let er:roots fs (i+1)=roots fs i++[i]:=by
    unfold roots;rw[q3f,q2x,q2i c⁻¹];rfl
   rw[er,q0s];congr 1
   .refine q02 λr hr=>?_
    let:=((oW r).mp hr).1;rw[oV,q0l ⋯]
   .show [(fs.getD i 0,[(i:Int)])]=[((i:Int),dP fs (i+1) i)]
    rw[oV,q0r c,c]
    let:dP fs i i=[]:=by
     unfold dP;rw[q2o.mpr λh hh=>?_]
     .rfl
     .let h1:=q0H.mp hh
      let:=G.le h ⋯;rw[q0u];symm
    rw[this];rfl
  .let⟨x,ex⟩:∃x:Nat,fs.getD i 0=x:=⟨(fs.getD i 0).toNat,⋯⟩
   rw[ex] at own le c ⊢;rw[q0r (q0j.mpr ⟨x,((oW x).mpr ⟨⋯,own⟩),U⟩)]
   let er:roots fs (i+1)=roots fs i:=by
    unfold roots;rw[q3f,q2x,q2j (by rw[ex];simpa using c),q7G,qE]
   rw[er,q0y];calc q02 λr hr=>?_;show(if(r:Int)=x then((r:Int),dP fs i r++[(i:Int)]) else(r,dP fs i r))=((r:Int),dP fs (i+1) r);rw[oV,ex]
   by_cases d:(r:Int)=x
   .rw[q0r d,q0r d.symm]
   .rw[q0l d,q0l (q1_ d)]
def nA:∀{a b:-Int},a.Pairwise (· < ·)->b.Pairwise (· < ·)->(∀x,x∈a↔x∈b)->a=b
 |[],[],_,_,_=>U
 |[],y::_,_,_,h=>absurd ((h y).mpr (q0d ..)) (by simp)
 |x::_,[],_,_,h=>absurd ((h x).mp (q0d ..)) (by simp)
 |x::a,y::b,ha,hb,h=>by
  let⟨h1,h2⟩:=q05.mp ha;let⟨h3,h4⟩:=q05.mp hb
  let YS:x=y:=by
   rcases q0c.mp ((h x).mp (q0d ..)) with e|e
   .exact e
   .rcases q0c.mp ((h y).mpr (q0d ..)) with e'|e'
    .exact e'.symm
    .let:=h3 x e
     let:=h1 y e';symm
  subst YS;rw[nA h2 h4 λz=>?_]
  constructor
  .ext hz
   rcases q0c.mp ((h z).mp (q0p _ hz)) with e|e
   .let:=h1 z hz;symm
   .exact e
  .ext hz
   rcases q0c.mp ((h z).mpr (q0p _ hz)) with e|e
   .let:=h3 z hz;symm
   .exact e
open Classical in
meta def cls (n:Nat) (S:Wy->Prop) (h:Int):List Int:=(bB n).filter λx=>decide (bo S h x)
def bC{n x}:x∈bB n↔0<=x/\x<n:=by
 constructor
 .ext h
  let⟨k,hk,rfl⟩:=q0j.mp h;let:=q0H.mp hk;symm
 .calc λh=>q0j.mpr ⟨x.toNat,q0H.mpr ⋯,⋯⟩
def w9 n:(bB n).Pairwise (· < ·):=by
 exact q1s.mpr ((q13).imp λh=>by symm)
open Classical in
def eR {n:Nat} {S:Wy->Prop} {h x:Int}:x∈cls n S h↔(0<=x/\x<n)/\bo S h x:=by
 unfold cls;rw[q0x,bC,q0u]
open Classical in
def BE (n:Nat) (S:Wy->Prop) (h:Int):(cls n S h).Pairwise (· < ·):=(w9 n).filter _
structure N5(n:Nat)(S:Wy->Prop)(L:-(-Int)):Prop where
 nd:L.Nodup
 mem:∀l,l∈L↔∃h:Int,(0<=h/\h<n)/\l=cls n S h
def YT{n S a b}(h:bo S a b):cls n S a=cls n S b :=
 nA (BE _ _ _) (BE _ _ _) λx=>by
  rw[eR,eR];calc⟨λ⟨h1,h2⟩↦⟨h1,h.symm.trans h2⟩,λ⟨h1,h2⟩↦⟨h1,h.trans h2⟩⟩
def YU{x y xs ys}(h:x<y):kle (x::xs) (y::ys):=by
 unfold kle;rw[HT.pG,q0l ⋯];calc Ul ⋯
def N6{n fs S}(M:bM n fs S){r}(hr:r<n)(e:fs.getD r 0=r):dP fs n r=cls n S r:=by
 refine nA ?_ (BE _ _ _) λx=>?_
 .exact q1s.mpr (((q13).filter _).imp λh=>by symm)
 .rw[eR]
  constructor
  .ext h
   let⟨k,hk,rfl⟩:=q0j.mp h;rw[q0x,q0H,q0u] at hk;exact⟨⋯,(M.2 r k hr hk.1).mp (by rw[e,hk.2])⟩
  .ext ⟨⟨h0,h1⟩,hc⟩
   let⟨k,rfl⟩:∃k:Nat,x=k:=⟨x.toNat,⋯⟩;calc q0j.mpr ⟨k,?_,U⟩;rw[q0x,q0H,q0u];let:=(M.2 r k hr ⋯).mpr hc;symm
meta def BF(fs:-Int)(n:Nat):-(-Int):=(roots fs n).map λr:Nat=>dP fs n (r:Int)
def YV{fs}(G:Good fs):(fg fs fs.length).map (·.2)=BF fs fs.length:=by
 rw[N4 G fs.length (Ln _),q0y];rfl
def BG{n fs}(G:Good fs)(hl:fs.length=n){r}(hr:r<n)(e:fs.getD r 0=r):∃t,dP fs n r=(r:Int)::t:=by
 let mem:(r:Int)∈dP fs n r:=by
  calc q0j.mpr ⟨r,?_,U⟩;rw[q0x,q0H,q0u];exact⟨hr,e⟩
 let up:(dP fs n r).Pairwise (· < ·):=by
  exact q1s.mpr (((q13).filter _).imp λh=>by symm)
 cases q:dP fs n r with
 |nil=>rw[q] at mem;simp at mem
 |cons x t =>
  calc⟨t,?_⟩;let hx:x∈dP fs n r:=by rw[q];exact q0d
  let⟨k,hk,rfl⟩:=q0j.mp hx;rw[q0x,q0H,q0u] at hk;let l:=G.le k ⋯;rw[q] at mem up;rcases q0c.mp mem with z|z
  .rw[z]
  .let:=(q05.mp up).1 _ z
   symm
def YW{fs}(G:Good fs):(BF fs fs.length).Pairwise kle:=by
 refine q1s.mpr ?_
 let:(roots fs fs.length).Pairwise λa b=>a<b/\(a<fs.length/\fs.getD a 0=a)/\b<fs.length/\fs.getD b 0=b:=by
  let h1:(roots fs fs.length).Pairwise (· < ·):=(q13).filter _
  let hm:∀a∈roots fs fs.length,a<fs.length/\fs.getD a 0=a:=λa ha=>by
   unfold roots at ha;rw[q0x,q0H,q0u] at ha;exact ha
  exact h1.imp_of_mem λha hb h=>⟨h,hm _ ha,hm _ hb⟩
 calc this.imp λ{a b} h=>?_;let⟨t,e⟩:=BG G U h.2.1.1 h.2.1.2;let⟨u,e'⟩:=BG G U h.2.2.1 h.2.2.2;rw[e,e'];calc YU ⋯
def YX{n fs S}(G:Good fs)(M:bM n fs S):N5 n S (BF fs n):=by
 let hl:=M.1
 let hm:∀a∈roots fs n,a<n/\fs.getD a 0=a:=λa ha=>by
  unfold roots at ha;rw[q0x,q0H,q0u] at ha;exact ha
 refine⟨?_,λl=>?_⟩
 .refine q1s.mpr ?_
  let h1:(roots fs n).Pairwise (· < ·):=(q13).filter _;calc h1.imp_of_mem λ{a b} ha hb h z=>?_;let⟨t,e⟩:=BG G hl (hm a ha).1 (hm a ha).2;let⟨u,e'⟩:=BG G hl (hm b hb).1 (hm b hb).2;rw[e,e'] at z;let:=(q4W z).1;symm
 .constructor
  .ext h
   let⟨r,hr,rfl⟩:=q0j.mp h;let⟨h1,h2⟩:=hm r hr;exact⟨r,⋯,N6 M h1 h2⟩
  .ext ⟨h,hh,rfl⟩
   let⟨k,rfl⟩:∃k:Nat,h=k:=⟨h.toNat,⋯⟩;let le:=G.le k ⋯;let own:=G.own k ⋯;let⟨r,er⟩:∃r:Nat,fs.getD k 0=r:=⟨(fs.getD k 0).toNat,⋯⟩;rw[er] at le own;rw[q0t] at own;refine q0j.mpr ⟨r,?_,?_⟩
   .unfold roots
    rw[q0x,q0H,q0u];symm
   .rw[N6 M ⋯ own]
    calc YT ((M.2 r k ⋯ ⋯).mp (by rw[own,er]))
meta def mJ(m:Int)(ws:-Wy)(ns:-Int):-(-Int):=(fg (iA m ws ns) m.toNat).map (·.2)
def zD{m}{ws:-Wy}(W:aH m ws){ns}(hn:Nums ws ns):N5 m.toNat (fq ws ns) (mJ m ws ns)/\(mJ m ws ns).Pairwise kle:=by
 let M:=GU W hn;let G:=YR W hn
 let e:mJ m ws ns=BF (iA m ws ns) m.toNat:=by
  let:=YV G;rw[M.1] at this;exact this
 rw[e];calc⟨YX G M,?_⟩;let:=YW G;rw[M.1] at this;calc this
def YY{l:-Int}(h:l.Pairwise (· < ·)):l.Nodup:=h.imp λh=>by symm
def YZ{xs ys}(nd:xs.Nodup)(up:ys.Pairwise (· < ·))(h:∀x,x∈xs↔x∈ys):sortI xs=ys :=
 (vq ((List.perm_ext_iff_of_nodup (YY up) nd).mpr λx=>(h x).symm) (up.imp λh=>by symm)).symm
def fA:∀us:-Int,cG (us.map D.int)=0
 |[]=>by simp[cG]
 |u::r=>by rw[q0C];erw[cG,dep];rw[fA r];rfl
def iC(l:-Int)(x:Int):((l.map D.int).any λe=>dEq e (.int x))=I (x∈l):=by
 rw[q9z]
 cases q:I (x∈l) with
 |true=>exact q3P.mpr ⟨x,q00 q,kY _⟩
 |false =>
  calc q2D.mpr λy hy=>?_;show ¬ dEq (.int y) (.int x)=θ;rw[vH];ext z;let:=q00 z;subst this;calc q4k q hy
end
end LJ
namespace HT
open PySem PySem.Spec PyProof.Rows
def Y0 A s a t c u prog w (E:bz) (Q:bz) (h:Q (.bool (I (c<a))) s) :
  ρ (ς prog w) A (richCompare .Gt (.int a t) (.int c u)) Q E s :=
 (PyProof.Rows.gt_int h)
section
open PySem.SeqAt
open PySem.AutoSeq1 (wpAny_loadPart')
open PySem.MeetsSeq PySem.MeetsSeq2 PySem.MeetsSeq3
def Y1(l b:Y)(items bG:Array O)(n n2:Nat)(dd lA:Option Y)(sl mU:Array (Option O))(ns ms:-Int)(hi:IntsAre items.toList ns)(hj:IntsAre bG.toList ms):
  Meets (Builtin.«tuple.__gt__» ⟨[.ref l,.ref b],[]⟩)
   (λ_ R s=>s.heap.get? l=Z {cls:=.type "tuple",dict:=dd,data:=.seq items n,slots:=sl}/\s.heap.get? b=Z {cls:=.type "tuple",dict:=lA,data:=.seq bG n2,slots:=mU} ∧
    R (.ok (.ret (.bool (lexLt ms ns)))) s) :=
 .of_wp λprog w A R s h=>by
  let⟨hp,g,d,tk,os⟩:=s;let⟨hl,hb,h⟩:=h;let f2:=q4U;let z1:items.size=↑ns:=by rw[<-↑hi];simp
  let z2:bG.size=↑ms:=by rw[<-↑hj];simp
  wp_walk using q1w hl,q1w hb,q41 _ (λrest b s'=>b.1=η/\s'=⟨hp,g,d,tk,os⟩/\∃(vs ws:-O)(cM lZ:-Int),rest=vs.zip ws ∧
   IntsAre vs cM/\IntsAre ws lZ/\↑cM+bG.size=↑lZ+items.size/\R (.ok (.ret (.bool (lexLt lZ cM)))) ⟨hp,g,d,tk,os⟩) _
  case turn =>
   ext⟨y,x⟩ rest b s' ⟨hb',rfl,vs,ws,cM,lZ,hz,uN,qw,hlen,hR⟩
   cases uN with
   |nil=>rw[q4L] at hz;cases hz
   |cons a t uO =>
    cases qw with
    |nil=>rw[q6m] at hz;cases hz
    |cons c u uP =>
     rw[q2u] at hz;injection hz with DK nZ;injection DK with hy hx;subst hy hx;rw[pG] at hR;erw[Uh] at hlen;let⟨e,he,n6⟩:=K1 A.in1 ⟨hp,g,d,tk,os⟩ a t c u;refine Aw (he prog w _ _ ?_)
     cases e with
     |true =>
      rw[q0r (n6.mp U).symm] at hR
      wp_walk
      exact⟨U,U,_,_,_,_,nZ,uO,uP,⋯,hR⟩
     |false =>
      rw[q0l (λq=>absurd (n6.mpr q.symm) q1F)] at hR;let DL:=Y0 A.in1 ⟨hp,g,d,tk,os⟩ a t c u prog w
      wp_walk using DL
      exact⟨_,U,by simpa using hR⟩
  case fin =>
   ext⟨b1,b2⟩ s' ⟨hb',rfl,vs,ws,cM,lZ,hz,uN,qw,hlen,hR⟩;simp only at hb';subst hb'
   let hv:lexLt lZ cM=I (bG.size<items.size):=by
    cases uN with
    |nil =>
     cases qw with
     |nil =>
      erw[q1p] at hlen;rw[KW];exact(Ul ⋯).symm
     |cons c u hw =>
      erw[q1p,Uh] at hlen;rw[KZ];exact(Ul ⋯).symm
    |cons a t hv =>
     cases qw with
     |nil =>
      erw[q1p,Uh] at hlen;rw[KY];exact(q0g ⋯).symm
     |cons c u hw =>
      rw[q2u] at hz;cases hz
   rw[hv] at hR
   wp_walk
   exact⟨_,U,by simpa[q3F] using hR⟩
  case h =>
   calc⟨U,U,items.toList,bG.toList,ns,ms,U,hi,hj,⋯,h⟩
end
section
variable{prog:ψ}{w:ω}{A:Β}{E:bz}{s:ο}
def Y2{l b:Y}{items bG:Array O}{ns ms:-Int}{Q:bz}(hl:IsTup s.heap l items)(hb:IsTup s.heap b bG)(hi:IntsAre items.toList ns)(hj:IntsAre bG.toList ms)
  (hu:A.units<cLine) (h:Q (.bool (lexLt ms ns)) s):ρ (ς prog w) A (compareOp .Gt (.ref l) (.ref b)) Q E s:=by
 calc wd λiU=>?_;let⟨⟨cls,dd,data,sl⟩,ho,hc,n,hd⟩:=id hl;let⟨⟨uQ,lA,data2,mU⟩,gx,jP,n2,hd2⟩:=id hb;simp only at hc hd jP hd2;subst hc hd jP hd2
 exact iU <| q5e (op:=.Gt) ⟨_,ho,U⟩ ⟨_,gx,U⟩ PySem.F.slot_tuple_gt PySem.F.entry_tuple_gt (PySem.F.args_tuple_gt_2 _ _) (Y1 l b items bG n n2 dd lA sl mU ns ms hi hj)
  ⟨ho,gx,show q3j (lexLt ms ns)≠q5O/\Q (.bool (lexLt ms ns)) s from⟨(λx=>nomatch x),h⟩⟩ hu
end
end HT
namespace L2
open PySem PySem.Spec PyProof.Rows PySem.W
meta def mK:Bool->String
 |false=>"min"
 |true=>"max"
meta def w_:Bool->String
 |false=>"min.loop"
 |true=>"max.loop"
meta def N7:Bool->CmpOp
 |false=>.Lt
 |true=>.Gt
meta def Y3:String->CmpOp->Builtin:=(λ(f:String->CmpOp->Builtin) (_:f "min" .Lt=Builtin.«min.loop»)=>f) _ U
meta def Y4:String->Builtin:=(λ(f:String->Builtin) (_:f "min" = Builtin.«min»)=>f) _ U
def N8(mx:Bool):entryFor table (w_ mx)=Z (Y3 (mK mx) (N7 mx)):=by cases mx;calc PySem.F.entry_min_loop;calc PySem.F.entry_max_loop
def Y5(mx:Bool):entryFor table (mK mx)=Z (Y4 (mK mx)):=by cases mx;calc PySem.F.entry_min;calc PySem.F.entry_max
def Y6 mx:builtinKind (mK mx)=η:=by cases mx;calc PySem.F.kind_min;rfl
def Y7(mx:Bool):plainId (mK mx)=θ:=by cases mx;calc PySem.F.plain_min;calc PySem.F.plain_max
def xa(mx:Bool):plainId (w_ mx)=θ:=by cases mx;calc PySem.F.plain_min_loop;calc PySem.F.plain_max_loop
/---/def sk:Bool->LK->LK->Prop
 |false,a,b=>kle a b
 |true,a,b=>kle b a
meta def GV:Bool->LK->LK->Bool
 |false,a,b=>HT.lexLt a b
 |true,a,b=>HT.lexLt b a
def N9(mx:Bool)(a:LK):sk mx a a:=by cases mx<;>calc kle_refl _
def Y8{mx:Bool}{a b c:LK}(h:GV mx a b=θ)(k:sk mx b c):sk mx a c:=by
 cases mx
 .exact kle_trans (vv h) k
 .calc kle_trans k (vv h)
def Y9{mx a b}(h:¬ GV mx a b=θ):sk mx b a:=by cases mx<;>calc Bool.eq_false_iff.mpr h
def Y_{prog:ψ}{w:ω}{A:Β}{E:bz}{s:ο}{mx:Bool}{l b:Y}{items bG:Array O}{ns ms:-Int}{Q:bz}(hl:IsTup s.heap l items)(hb:IsTup s.heap b bG)(hi:IntsAre items.toList ns)(hj:IntsAre bG.toList ms)
  (hu:A.units<cLine) (h:Q (.bool (GV mx ns ms)) s):ρ (ς prog w) A (richCompare (N7 mx) (.ref l) (.ref b)) Q E s:=by
 cases mx
 .exact HT.DM hl hb hi hj hu h
 .calc HT.Y2 hl hb hi hj hu h
def Za mx a v d:argsOk (mK mx) ⟨[a],[(q2c "key",v),(q2c "default",d)]⟩:=by cases mx<;>(kernel_rfl)
section
variable{X:Cx}{pins:a9}{σ:St}{H:Hp}{s:ο}{E:bz}{l q I S:Y}{P:-V->Hp->Prop}{xs:-V}{d:O}{R:Result->ο->Prop}
/---/def Zb(mx:Bool)(kf:Nat->LK)(xs kvs:-V)(p8:Array O):Prop :=
 (kvs=[]/\p8 = #[])\/∃(b:Nat)(x:V)(vb:O)(t:Y),b<↑kvs/\xs[b]?=Z x/\RelV x vb/\kvs[b]?=Z (.ref t)/\p8 = #[vb,.ref t]/\∀j,j<↑kvs->sk mx (kf b) (kf j)
def Zc(mx:Bool)(kf:Nat->LK)(hh:X.A.handled=η)(hu:X.A.units+1<cLine)(zE:l≠I)(zF:S≠I)(fI:∀H',H' I=η->bW X pins H' I)(fS:∀H',H' S=η->bW X pins H' S)
  (hl:∀kvs H',P kvs H'->H' l=Z (.lst xs)) (hP:∀kvs H',P kvs H'->∀i,i<↑kvs->∃t,kvs[i]?=Z (.ref t)/\H' t=Z (.tup ((kf i).map V.int)))
  (k8:∀(b9:a9)(x:V)(u:O)(kvs:-V)(H':Hp)(s':ο),xs[↑kvs]?=Z x->RelV x u->Inv X b9 σ H' s'->P kvs H'->ρ (ς X.prog X.w) X.A.in1 (call (.ref q) [u]) (EP X b9 σ λk kO=>P (kvs++[k]) kO) (λ_ _=>False) s')
  (fin:∀kvs H' s',↑kvs=↑xs->P kvs H'->Inv X pins σ H' s'->(xs=[]->R (.ok (.ret d)) s')/\∀(b:Nat)(x:V)(u:O),xs[b]?=Z x->RelV x u->(∀j,j<↑xs->sk mx (kf b) (kf j))->R (.ok (.ret u)) s') :
  ∀(r:Nat)(kvs:-V)(H':Hp)(s':ο)(p8:Array O)(c:Nat)(oI:Obj),↑kvs+r=↑xs->Inv X ((S,seqObj "list" p8 c)::(I,oI)::pins) σ H' s'->P kvs H'->oI.cls=.type "list_iterator" -> oI.data=.fields #[.ref l,.int ↑kvs 0]->Zb mx kf xs kvs p8 →
   codeAny (ς X.prog X.w) X.A (.builtin (w_ mx) ⟨[.ref I,.ref q,.ref S],[(q2c "default",d)]⟩) R s':=by
 let j6:(toString (mK mx)++toString ".loop" : String)=w_ mx:=by cases mx<;>decide
 ext r
 induction r with
 |zero =>
  ext kvs H' s' p8 c oI hr J pk v5 GW hb;let pS:=J.pin (S,seqObj "list" p8 c) (q0n _ (.head _));let pI:=J.pin (I,oI) (q0n _ (.tail _ (.head _)));let Jn:=J.dr.dr;calc wd λoX=>?_;let⟨aM,rv,pl,_⟩:=Jn.list (bR.of (hl kvs H' pk));let lv:↑aM=↑xs:=rv.length.symm;let BH:↑kvs=↑aM:=by symm
  calc oX <| q09 (N8 mx) ?_;rw[q1t (xa mx) _];show ρ _ X.A.in1 (seqItems? (.ref S) >>= _) _ _ _;calc Aw (q3t pS.1 U ?_);show ρ _ X.A.in1 (tryCatch (pyNext (.ref I)) _ >>= _) _ _ _;let W:=q3M (prog:=X.prog) (w:=X.w) (A:=X.A.in1) hh I l zE aM.toArray;calc Aw (q4A (W.done _ _ _ ⟨⟨oI,pI.1,v5,by rw[GW,Uk,<-BH]⟩,q6a pl⟩ λh' mP ki=>?_));let J1:Inv X pins σ H' {s' with heap:=h',toks:=mP}:=Jn.fm (fI H' pI.2.1) λc o n e=>ki c o n⁻¹ e;let jz:=ki S _ zF⁻¹ pS.1;rcases hb with⟨GX,rfl⟩|⟨b,x,vb,t,hb,hx,rx,ht,rfl,best⟩
  .refine Aw (q4s (Ui ?_))
   refine(fin kvs H' _ ⋯ pk J1).1 ?_
   cases xs with
   |nil=>rfl
   |cons _ _=>rw[GX] at hr;simp at hr
  .let s1:=q0O h' S (q0Q λ_=>(#[]:Array O))
   show ρ _ X.A.in1 (updateSeq S (λ_ => #[]) >>= _) _ _ _;calc Aw (q3g jz U (Aw (q4N (Ui ?_))));exact(fin kvs H' _ ⋯ pk (J1.fm (fS H' pS.2.1) λc o n e=>(s1.2 c n).trans e)).2 b x vb hx rx λj hj=>best j ⋯
 |succ r ih =>
  ext kvs H' s' p8 c oI hr J pk v5 GW hb;let pS:=J.pin (S,seqObj "list" p8 c) (q0n _ (.head _));let pI:=J.pin (I,oI) (q0n _ (.tail _ (.head _)));let Jn:=J.dr.dr;let⟨aM,rv,pl,_⟩:=Jn.list (bR.of (hl kvs H' pk));let lv:↑aM=↑xs:=rv.length.symm;let eV:↑kvs<↑aM:=by symm
  calc q09 (N8 mx) ?_;rw[q1t (xa mx) _];show ρ _ X.A.in1 (seqItems? (.ref S) >>= _) _ _ _;calc Aw (q3t pS.1 U ?_);show ρ _ X.A.in1 (tryCatch (pyNext (.ref I)) _ >>= _) _ _ _;let W:=q3M (prog:=X.prog) (w:=X.w) (A:=X.A.in1) hh I l zE aM.toArray;calc Aw (q4A (W.item ↑kvs _ _ _ (by rw[Uk];calc eV) ⟨⟨oI,pI.1,v5,GW⟩,q6a pl⟩ λv h' mP hv GY ki=>?_));let hv:aM[↑kvs]?=Z v:=by simpa using hv
  let⟨vI,GZ,zG,zH⟩:=id GY.1;let hi:↑kvs<↑xs:=by symm
  let⟨u,e1,rx⟩:=rv.get (D9 hi);rw[hv] at e1;cases e1
  let hx:=D9 hi;generalize xs[↑kvs]=x at hx rx;let jz:=ki S _ zF⁻¹ pS.1;let nI:∀z,vI.data≠.cell z:=λz e=>by rw[zH] at e;cases e
  let J1:Inv X pins σ H' {s' with heap:=h',toks:=mP}:=Jn.fm (fI H' pI.2.1) λc o n e=>ki c o n⁻¹ e;let J2:=(J1.iB (fI H' pI.2.1) GZ nI).iB ((fS H' pS.2.1).cons (p:=(I,vI)) zF.symm) jz vz;show ρ _ X.A.in1 (tryCatch (holding [v] (call (.ref q) [v])) _ >>= _) _ _ _;calc Aw (q4A (q0R (q1C (k8 _ x v kvs H' _ hx rx J2 pk) (λkv s2 he=>?_) λ_ _ hF=>hF.elim)));let⟨kx,H2,J3,rk,mG⟩:=he;let⟨t2,et,uq⟩:=hP _ H2 mG ↑kvs (by rw[Lo];calc q1U _)
  let ek:kx=.ref t2:=by
   rw[q0i (Ln _),q1l] at et;simpa using et
  subst ek;cases rk
  let qS:=J3.pin (S,seqObj "list" p8 c) (q0n _ (.head _));let qI:=J3.pin (I,vI) (q0n _ (.tail _ (.head _)));let Jm:=J3.dr.dr;let N_:↑(kvs++[V.ref t2])+r=↑xs:=by rw[Lo,q0J];symm
  let zI:vI.data=.fields #[.ref l,.int (↑(kvs++[V.ref t2]):Nat) 0]:=by rw[zH,Lo];rfl
  let put:∀(b:Nat),b<↑kvs+1->b=↑kvs->(∀j,j<↑kvs+1->sk mx (kf b) (kf j))->codeAny (ς X.prog X.w) X.A (.builtin (w_ mx) ⟨[.ref I,.ref q,.ref S],[(q2c "default",d)]⟩) R {s2 with heap:=s2.heap.update S (q0Q λ_ => #[v,.ref t2])}:=λb hb eb best=>by
   subst eb;let s1:=q0O s2.heap S (q0Q λ_ => #[v,q1n t2]);let⟨c2,jP⟩:∃c2,(s2.heap.update S (q0Q λ_ => #[v,q1n t2])).get? S=Z (seqObj "list" #[v,.ref t2] c2):=⟨_,q2V qS.1 λ_ => #[v,q1n t2]⟩;let J4:Inv X pins σ H2 {s2 with heap:=s2.heap.update S (q0Q λ_ => #[v,q1n t2])}:=Jm.fm (t':=s2.toks) (fS H2 qS.2.1) λc o n e=>(s1.2 c n).trans e;let J5:=(J4.iB (fI H2 qI.2.1) ((s1.2 I zF.symm).trans qI.1) nI).iB ((fS H2 qS.2.1).cons (p:=(I,vI)) zF.symm) jP vz;refine ih _ H2 _ _ c2 vI N_ J5 mG zG zI (.inr ⟨↑kvs,x,v,t2,by rw[Lo];calc q1U _,hx,rx,et,U,λj hj=>best j (by rw[Lo] at hj;calc hj)⟩)
  rcases hb with⟨GX,rfl⟩|⟨b,y,vb,t,hb,hy,ry,ht,rfl,best⟩
  .show ρ _ X.A.in1 (updateSeq S (λ_ => #[v,.ref t2]) >>= _) _ _ _
   calc Aw (q3g qS.1 U ?_);rw[j6];calc Ui ⟨q1X (xa mx) _,put ↑kvs (q1U _) U λj hj=>?_⟩;rw[GX] at hj ⊢;let:j=0:=by simp at hj;symm
   subst this;exact N9 _ _
  .let⟨t',Oa,Zd⟩:=hP _ H2 mG b (by rw[Lo];symm)
   rw[q0a hb,ht] at Oa;cases Oa
   calc wd λoY=>?_;let⟨i1,r1,Ze,_⟩:=Jm.tuple (cA.of uq);let⟨i2,r2,Zf,_⟩:=Jm.tuple (cA.of Zd);calc oY ?_;show ρ _ X.A.in1 (tryCatch (holding [v,.ref t2] (richCompare _ (.ref t2) (.ref t) >>= _)) _ >>= _) _ _ _;calc Aw (q4A (q0R (Aw ?_)));calc Y_ (A:=X.A.in1) (mx:=mx) (ns:=kf ↑kvs) (ms:=kf b) Ze Zf (intsAre_of r1)⁻¹ (intsAre_of r2)⁻¹ hu ?_;calc Aw (q0R (q17 ?_));calc Aw (q4N (Ui ?_));split
   .rename_i hq
    calc Aw (q3g qS.1 U (Aw (q4N ?_)));rw[j6];refine Ui ⟨q1X (xa mx) _,put ↑kvs (q1U _) U λj hj=>?_⟩
    by_cases e:j=↑kvs
    .subst e;exact N9 _ _
    .exact Y8 hq (best j ⋯)
   .rename_i hq
    calc Aw (q4N ?_);rw[j6];refine Ui ⟨q1X (xa mx) _,ih _ H2 _ _ c vI N_ J3 mG zG zI (.inr ⟨b,y,vb,t,by rw[Lo];symm,hy,ry,by rw[q0a hb];calc ht,U,λj hj=>?_⟩)⟩
    by_cases e:j=↑kvs
    .subst e;exact Y9 hq
    .calc best j (by rw[Lo,q0J] at hj;symm)
def Zg mx {Q:bz} (kf:Nat->LK) (J:Inv X pins σ H s) (hh:X.A.handled=η) (hu:X.A.units+1<cLine) (p0:P [] H)
  (hl:∀kvs H',P kvs H'->H' l=Z (.lst xs)) (hP:∀kvs H',P kvs H'->∀i,i<↑kvs->∃t,kvs[i]?=Z (.ref t)/\H' t=Z (.tup ((kf i).map V.int)))
  (k8:∀b9 x u kvs H' s',xs[↑kvs]?=Z x->RelV x u->Inv X b9 σ H' s'->P kvs H'->ρ (ς X.prog X.w) X.A.in1 (call (.ref q) [u]) (EP X b9 σ λk kO=>P (kvs++[k]) kO) (λ_ _=>False) s')
  (fin:∀kvs H' s',↑kvs=↑xs->P kvs H'->Inv X pins σ H' s'->(xs=[]->Q d s')/\∀b x u,xs[b]?=Z x->RelV x u->(∀j,j<↑xs->sk mx (kf b) (kf j))->Q u s') :
  ρ (ς X.prog X.w) X.A (call (.builtin (mK mx)) [.ref l] [(q2c "key",.ref q),(q2c "default",d)]) Q E s:=by
 let j6:(toString (mK mx)++toString ".loop")=w_ mx:=by cases mx<;>decide
 let⟨aM,rv,pl,_⟩:=J.list (bR.of (hl _ _ p0));calc kmk_tree (Y6 mx) (Y7 mx) (Y5 mx) (Za _ _ _ _) (Aw (q5L (U) (Aw (Ui (Aw (q2f (q6a pl) (Aw (q2X ?_ (q0V _)))))))));rw[j6];calc Ui ⟨q1X (xa mx) _,?_⟩;let J1:Inv X pins σ H {s with heap:=s.heap.push {cls:=.type "list_iterator",data:=.fields #[.ref l,.int 0 0]}}:=J.kept   λb u e=>Lm _ e;let gI:(s.heap.push {cls:=.type "list_iterator",data:=.fields #[.ref l,.int 0 0]}).get? ⇑s=Z {cls:=.type "list_iterator",data:=.fields #[.ref l,.int 0 0]}:=q0f _ U;let hS:(s.heap.push {cls:=.type "list_iterator",data:=.fields #[.ref l,.int 0 0]}).objs.size≠⇑s:=λz=>q2G _ (Nat.lt_of_lt_of_eq (q0h gI) z)
 let fI:∀H',H' ⇑s=η->bW X pins H' ⇑s:=λH' e=>J.iy (Ln _) e;let Ob:=J.bu.fresh (Ln _);let zE:=q0o (PlainL.lt pl);generalize ⇑s=I at gI hS fI Ob zE;generalize s.heap.push {cls:=.type "list_iterator",data:=.fields #[.ref l,.int 0 0]}=g1 at J1 gI hS;let fS:∀H',H' g1.objs.size=η->bW X pins H' g1.objs.size:=λH' e=>J1.iy (Ln _) e;let J2:Inv X pins σ H {s with heap:=g1.push (seqObj "list" #[] 0)}:=J1.kept   λb u e=>Lm _ e;calc Zc mx kf hh hu zE hS fI fS hl hP k8 fin ↑xs [] H _ #[] 0 _ (by simp) ((J2.iB (fI H Ob) (Lm _ gI) (λz e=>by cases e)).iB ((fS H (J1.bu.fresh (Ln _))).cons  hS.symm) (q0f _ U) vz) p0 U U (.inl ⟨U,U⟩)
end
variable[zt:ba]
/---/def so(mx:Bool)(cp:-(Option Nat))(fb:WE)(δ:bh)(ds:-D)(K:D->Prop):Prop :=
 ∃key:D->LK,NB cp fb δ ds key/\(ds=[]->K .non)/\∀d∈ds,(∀e∈ds,sk mx (key d) (key e))->K d
/---/def sq(mx:Bool)(cp:-(Option Nat))(fb:WE)(x:DV)(δ:bh)(K:D->Prop):Prop:=∃ds,x=.p (.lst ds)/\so mx cp fb δ ds K
def Zh{mx cp fb x δ K}(h:sq mx cp fb x δ K):∃ds,x=.p (.lst ds)/\so mx cp fb δ ds K:=h
/---/def G0(mx:Bool)(f:WE)(cp:-(Option Nat))(fb:WE):WE:=fun δ K=>f δ λx δ1=>sq mx cp fb x δ1 λd=>K (.p d) δ1
meta def BI(mx:Bool):L:=q2c (mK mx)
section
variable{X:Cx}{params:Arguments}{body:υ}{scope:Γ}{d7:Δ}{x:L}{Nb:-L}{cp:-(Option Nat)}{fb:WE}{T:Y}
def Zi{mx:Bool}{pins:a9}{σ:St}{H:Hp}{s:ο}{E:bz}{l:Y}{F:Hp}{ad:-Y}{δ:bh}{ds:-D}{xs:-V}{gY oZ pos j p2}{Q:VK}(L:g_ X params body scope d7 T x Nb cp fb)(hu:X.A.units+64<cLine)
  (I:Inv X pins σ H s) (S:SR F ad δ σ H) (hl:F l=Z (.lst xs)) (hx:aA F ds xs)
  (hs:so mx cp fb δ ds λd=>∀v F' H',Ext F ad δ.mu H F' ad δ.mu H'->SR F' ad δ σ H'->Is F' d v->Q v H') :
  ρ (ς X.prog X.w) X.A (evalAll ((backToKw pos (keywordEach [⟨Z "key",.Lambda params body scope d7,gY⟩,⟨Z "default",.Constant .none j p2,oZ⟩] X.env)).map (·.2))) (λkvs s₂=>ρ (ς X.prog X.w) X.A (call (.builtin (mK mx)) [.ref l] (((backToKw pos (keywordEach [⟨Z "key",.Lambda params body scope d7,gY⟩,⟨Z "default",.Constant .none j p2,oZ⟩] X.env)).filterMap (·.1)).zip kvs)) (EP X pins σ Q) E s₂) E s:=by
 calc wd λo7=>?_;let⟨key,hk,K0,K⟩:=hs;let⟨k,oN,J⟩:=L.room;let⟨cc,iL,hC⟩:=L.env.code;calc o7 ?_;show ρ _ _ (evalAll [do let v <- eval (.Lambda params body scope d7) X.env;standAt pos;pure v,do let v <- eval (.Constant .none j p2) X.env;standAt pos;pure v]) _ _ _;calc q6V (Aw ?_);let vE:=L.names;unfold zq at vE;erw[q04,q1J,q0u] at vE;let SC:=yk L.kind vE.1.1.1;calc wd λo8=>?_;let⟨cl,pJ,rV,w5⟩:=Ea (scope:=scope) (env:=X.env) λy hy e=>I.ok.has y.1 (SC.free y hy e);refine o8 <| x5m I (L.tbl.get H S.tab) L.NC pJ iL (hC.keeps I.bk) L.env.ng (I.mod.glob.keeps I.bk) (L.env.blt.keeps I.bk) λf H1 s1 c I1 t1 k1 XI hf hc=>?_
 calc Aw (q2W (Ui ?_));calc q6V (Aw (Ui ?_));calc Aw (q2W (Ui ?_));calc evalAll_nil ?_;show ρ _ _ (call (.builtin (mK mx)) [.ref l] [(q2c "key",.ref f),(q2c "default",.none)]) _ _ _;let kT:∀b o,H b=Z o->b∉ba.ad->H1 b=Z o:=λb o e t=>k1 b o e λz=>t (by rw[z];calc L.tbl.mem);let ky:=L.tbl.put H H1 S.tab t1 k1;let S1:=S.zu kT ky;let E1:=Ext.zu S kT ky;let lx:=↑hx;let r1:bA (k+2) X.A.in1:=bA.in1 (k:=k+2) oN;let gd:∀{i:Nat}{d:D},ds[i]?=Z d->ds.getD i .non=d:=λ{i d} e=>by rw[My,e];rfl
 refine Zg mx (l:=l) (xs:=xs) (d:=.none) (λi=>key (ds.getD i .non)) (P:=λkvs H'=>∃F',Ext F ad δ.mu H F' ad δ.mu H'/\SR F' ad δ σ H'/\H' f=Z (mF f "<lambda>" (X.env.qual++"<lambda>") params body scope cl ((X.mg "__name__").getD .none) (.ref c))/\H' c=Z (pY c (X.env.qual++"<lambda>"))/\↑kvs<=↑ds/\∀(i:Nat)(d:D)(kv:V),ds[i]?=Z d->kvs[i]?=Z kv->Is F' (.tup ((key d).map D.int)) kv)
  I1 r1.hd ⋯ ⟨_,E1,S1,hf,hc,q0V _,λi d kv _ e=>by simp at e⟩ (λkvs H' ⟨F',E',S',_⟩↦S'.sub _ _ (E'.same _ _ hl)) (λkvs H' ⟨F',E',S',t_,jK,hle,ua⟩ i hi=>?_) (λb9 v u kvs H' s' hv rv I' ⟨F',E',S',t_,jK,hle,ua⟩=>?_) λkvs H' s' kX ⟨F',E',S',t_,jK,hle,ua⟩ I'=>⟨λh0=>?_,λb y u hy ry best=>?_⟩
 .let hd:=D9 (show i<↑ds by symm)
  let is:=ua i _ _ hd (D9 hi);let⟨t,us,e1,e2,e3⟩:=is;calc⟨t,by rw[D9 hi,e1],?_⟩;rw[gd hd,<-ni e3];exact S'.sub _ _ e2
 .let hi:↑kvs<↑ds:=by rw[<-lx];exact(Ll.mp hv).1
  let hd:=D9 hi;let⟨XM,Gg⟩:=hk _ (q1M hi);calc Nr I' t_ jK (I'.ok.frames) r1.hd (bA.depth (r1.mono (by symm:k+1<=k+2))) L.kind L.names L.co L.gen rV w5 (λct=>L.bind cl _ _ ct u) rv (J ⟨X.A.in1,cl,f,.ref c,s',H'⟩ ((r1.mono ⋯).deeper _)) (⟨F',ad,_,_,(S'.vi).t9 (aA.at (hx.same E'.same) hd hv),Gg,?_⟩);ext y δ' ⟨ey,em⟩ w F2 cR H2 E2 S2 V2;subst ey
  let ea:cR=ad:=by
   let l2:↑cR=↑ad:=by rw[S2.cQ,em,S'.cQ]
   refine q2e λi=>?_
   by_cases hi:i<↑ad
   .rw[D9 hi];exact E2.pre i _ (D9 hi)
   .rw[q1c ⋯,q1c ⋯]
  subst ea;let⟨Df,dH⟩:=δ';subst em;refine⟨F2,E'.trans E2,SR.back S' E2 S2,E2.lM S' t_ (λ_ z=>by cases z) (λ_ z=>by cases z) (λ_ z=>by cases z) (λ_ z=>by cases z),E2.lM S' jK (λ_ z=>by cases z) (λ_ z=>by cases z) (λ_ z=>by cases z) (λ_ z=>by cases z),by rw[Lo,q0J];calc hi,λi d kv e1 e2=>?_⟩
  by_cases rL:i<↑kvs
  .rw[q0a rL] at e2
   exact Is.same E2.same (ua i d kv e1 e2)
  .let:i=↑kvs:=by
    let:=(Ll.mp e2).1;rw[Lo,q0J] at this;symm
   subst this;rw[q0i (Ln _),q1l] at e2;cases(e2)
   rw[hd] at e1;cases e1;exact V2
 .exact⟨.non,H',I',U,K0 (q1h.mp (by rw[<-lx,h0];rfl)) _ F' H' E' S' (by erw[Is])⟩
 .let hb:b<↑ds:=by rw[<-lx];exact(Ll.mp hy).1
  let hd:=D9 hb;calc⟨y,H',I',ry,K ds[b] (q1M hb) (λe he=>?_) _ F' H' E' S' (aA.at (hx.same E'.same) hd hy)⟩;let⟨j,hj,rfl⟩:=q1j.mp he;let:=best j ⋯;rw[gd hd,gd (D9 hj)] at this;calc this
variable{e:υ}{f:WE}{p1 q1 gY oZ:Δ}
def Zj{j p2}(mx:Bool)(L:g_ X params body scope d7 T x Nb cp fb)(hu:X.A.units+64<cLine)(zv:Gl X (BI mx))(hs:X.mg (BI mx)=η)(zw:bootBuiltins (BI mx)=Z (.builtin (mK mx)))(ha:JA X [e] (cK (ay f ai)))
  (he:‹starEach [e] X.env=[(ι,eval e X.env)]›):JE X (.Call (.Name (BI mx) p1) [e] [⟨Z "key",.Lambda params body scope d7,gY⟩,⟨Z "default",.Constant .none j p2,oZ⟩] q1) (tD (G0 mx f cp fb)) :=
 ⟨λpins s σ H Q I ⟨F,ad,δ,K,S,q,k⟩=>by
  refine q2a (qg I zv hs zw (callWith_kw (bJ (ha q1 pins s σ H (λvs H1=>∃(l:Y)(F1:Hp)(br:-Y)(δ1:bh)(ds:-D)(us:-V),vs=[.ref l]/\F1 l=Z (.lst us)/\aA F1 ds us/\Ext F ad δ.mu H F1 br δ1.mu H1/\SR F1 br δ1 σ H1/\so mx cp fb δ1 ds λd=>K (.p d) δ1) I ?_) λus s1 Gj=>?_) (he:=by rw[he];rfl) (hplain:=by rw[he];rfl)) (hn:=by cases mx<;>decide) (hd:=by cases mx<;>decide))
  .refine⟨F,ad,δ,λxs δ1=>match xs with
    |[x]=>sq mx cp fb x δ1 λd=>K (.p d) δ1
    |_=>False,S,q,λxs δ1 h1 vs F1 br H1 E1 S1 V1=>?_⟩
   cases xs with
   |nil=>exact h1.elim
   |cons x xs =>
    cases xs with
    |cons _ _=>exact h1.elim
    |nil =>
     let⟨v,r,rfl,W1,W2⟩:=V1;subst W2;let⟨ds,rfl,h2⟩:=Zh h1;let⟨a,us,rfl,g1,g2⟩:=W1;exact⟨a,F1,br,δ1,ds,us,U,g1,g2,E1,S1,h2⟩
  .calc wd λo9=>?_;let⟨vs,H1,I1,r1,l,F1,br,δ1,ds,ws,ev,hl,hi,E1,S1,Bq⟩:=Gj
   subst ev;let⟨u,rfl,rx⟩:=vals1 r1;calc o9 ?_;cases rx;calc Zi L hu I1 S1 hl hi ?_;let⟨key,hk,K0,hK⟩:=Bq
   calc⟨key,hk,λh0 v F' H' E' S' is=>k _ _ (K0 h0) _ _ _ _ (E1.trans E') S' is,λd hd hb v F' H' E' S' is=>k _ _ (hK d hd hb) _ _ _ _ (E1.trans E') S' is⟩⟩
end
end L2
namespace LJ
open PySem L2
variable[zt:ba]
meta def vJ:D->D
 |.tup [.int i,_]=>.int i
 |_=>.non
meta def vK(p:Int->Bool):D->Bool
 |.tup [.int i,_]=>p i
 |_=>ι
def BJ(p:Int->Bool):∀(ds:-D)(i:Nat),((j2 i ds).filter (vK p)).map vJ=((q4O i ↑ds).filter λk:Nat=>p k).map λk:Nat=>D.int k
 |[],_=>U
 |d::r,i=>by
  let ih:=BJ p r (i+1);show(((D.tup [.int i,d])::j2 (i+1) r).filter _).map _=_;rw[Uh,q7g,q1r,q1r];show(if p i=θ then _ else _:-D).map _=_
  cases q:p i with
  |true=>erw[q3e,q0C,ih];rfl
  |false=>erw[q1T,q2S,ih]
meta def eS(l:-Int)(y:Wy):Bool:=I (y.1∈l) != I (y.2.1∈l)
meta def eM(ws:-Wy)(l:-Int):-Int:=(bB ↑ws).filter λn=>eS l (aB ws n)
inductive G1 (ys:-DV) (aE:-OV) (K:RV->-OV->Prop):Prop
 |mk (y:Wy) (l:-Int) (q:ys=[.p (bK y),.p (bj l)]) (q:aE=[]) (q:K (.p (.bl (eS l y))) [])
/---/def G2:WS:=(bc (d2 (d2 (d2 (aa 0) (dC (.int 0)) bg) (aa 1) (fY ι)) (d2 (d2 (aa 0) (dC (.int 1)) bg) (aa 1) (fY ι)) jB))
def Zk:Sem 2 0 G1 G2:=by
 ext ys aE K'-⟨y,l,rfl,rfl,k⟩;unfold G2;simp![bK,bj,cV,dz];let d0:=fA l;calc⟨⋯,⋯,?_⟩;rw[iC,iC];unfold eS at k;generalize I (y.1∈l)=p at k;generalize I (y.2.1∈l)=q at k;cases p<;>cases q<;>calc cC k
inductive G3 (ys:-DV) (aE:-OV) (K:RV->-OV->Prop):Prop
 |mk (m:Int) (ws:-Wy) (l:-Int) (q:aH m ws) (q:ys=[.p (a_ m ws),.p (bj l)]) (q:aE=[]) (q:K (.p (bj (eM ws l))) [])
/---/def G4:WS:=(bc (dY (i8 (ay (d2 (aa 0) (dC (.int 1)) bg) ai)) [η,η,Z 1] (iz 2 (dB (bL 0) (dB (bL 1) hZ))) (dT (aL 2 G1 (ay (aa 1) (ay (aa 2) ai)))) (aa 0)))
def Zl:Sem 2 0 G3 G4:=by
 ext ys aE K'-⟨m,ws,l,W,rfl,rfl,k⟩;let km:=W.iE;unfold G4;simp![a_,dz];refine jC (vK λi=>eS l (aB ws i)) vJ (by rw[rm,ye];symm) trivial ?_ ?_
 .ext d hd acc L' ha h1 h2
  let⟨z,hz⟩:=q0m.mp hd;let⟨e,z1,z2⟩:=pR hz;rw[Uj] at z1;let⟨y,z3,rfl⟩:=q0e.mp z1;rw[q0D] at z2;subst z2;let ew:aB ws (z:Int)=y:=by unfold aB;rw[q0t,My,z3];rfl
  erw[vK,vJ] at h1 h2;rw[ew] at h1 h2;simp!;calc⟨y,l,U,U,?_⟩;simp!
  cases q:eS l y with
  |true=>simp!;exact⟨ha,h1 q⟩
  |false=>simp!;exact h2 q
 .let e:=BJ (λi=>eS l (aB ws i)) (ws.map bK) 0
  let e2:(eM ws l).map D.int=((q4O 0 ↑(ws.map bK)).filter λk:Nat=>eS l (aB ws k)).map λk:Nat=>D.int k:=by
   unfold eM bB;rw[q1I,q0y,ye,<-q25];rfl
  rw[<-e2] at e;rw[e];calc cC k
inductive G5 (ys:-DV) (aE:-OV) (K:RV->-OV->Prop):Prop
 |mk (m:Int) (ws:-Wy) (ns:-Int) (q:aH m ws) (q:Nums ws ns) (q:ys=[.p (a_ m ws),.p (bj ns)]) (q:aE=[]) (q:(ns=[]->K (.p .non) [])) (q:∀n∈ns,(∀e∈ns,kle (d8 ws n) (d8 ws e))->K (.p (.int n)) [])
/---/def G6:WS:=(bc (G0 ι (aa 1) [Z 0] (aL 1 Bu (ay (d2 (d2 (aa 1) (dC (.int 1)) bg) (aa 0) bg) ai))))
def Zm:Sem 2 0 G5 G6:=by
 ext ys aE K'-⟨m,ws,ns,W,hn,rfl,rfl,k0,k⟩;unfold G6;simp![G0,sq,a_,bj]
 refine⟨ns.map D.int,U,λd=>match d with
  |.int n=>d8 ws n
  |_=>[],λd hd=>?_,λh0=>?_,λd hd best=>?_⟩
 .let⟨n,h,rfl⟩:=q0j.mp hd
  let⟨n0,n1⟩:=hn n h;let⟨y,ey,hy,ea,_⟩:=nv W n0 n1;calc⟨(by ext z;cases z),?_⟩;simp![dz,ea];calc⟨y,U,U,?_⟩;simp!;unfold d8;rw[ey];rfl
 .exact cC (k0 (q52.mp h0))
 .let⟨n,h,rfl⟩:=q0j.mp hd
  exact cC (k n h λe he=>best _ (q0j.mpr ⟨e,he,U⟩))
open Classical in
meta def p9 (ws:List Wy) (ns:List Int):Int:=if h:∃n,n∈ns/\∀e∈ns,kle (d8 ws n) (d8 ws e) then x20 h else 0
def Oc{m:Int}{ws:-Wy}(W:aH m ws){ns:-Int}(hn:Nums ws ns){n:Int}(h:n∈ns)(b:∀e∈ns,kle (d8 ws n) (d8 ws e)):p9 ws ns=n:=by
 unfold p9;let ex:∃n,n∈ns/\∀e∈ns,kle (d8 ws n) (d8 ws e):=⟨n,h,b⟩;rw[dif_pos ex];let⟨h1,h2⟩:=q5B ex;calc NG W (hn _ h1) (hn _ h) (MO (h2 n h) (b _ h1))
def BK{ws:-Wy}{l:-Int}:Nums ws (eM ws l):=λn h=>wY (q0x.mp h).1
def Zn{ws:-Wy}{l:-Int}:↑(eM ws l)<=↑ws:=by
 unfold eM;let:=q0S (λn=>eS l (aB ws n)) (bB ↑ws);rw[lP] at this;calc this
meta def G7(ws:-Wy)(ls:-(-Int)):-Int:=((ls.map (eM ws)).filter λo=>I (o≠[])).map (p9 ws)
meta def ue(m:Int)(ws:-Wy)(us:-Int):-Int:=sortI (g7 (G7 ws (mJ m ws us)))
def G8(ns:-Int):∀i,i<=↑ns->(LJS.kz ns i).Nodup/\∀x,x∈LJS.kz ns i↔x∈ns.take i
 |0,_=>⟨q3u,λx=>by simp[LJS.kz]⟩
 |i+1,h=>by
  let⟨n,m⟩:=G8 ns i ⋯
  let et:ns.take (i+1)=ns.take i++[ns.getD i 0]:=by
   rw[q2w,My,D9 (show i<↑ns by symm)];rfl
  rw[et];unfold LJS.kz LJS.once;split
  .rename_i c
   calc⟨n,λx=>?_⟩;rw[m x,q0w,q0z];calc⟨.inl,λz=>z.elim id λz=>?_⟩;subst z;exact(m _).mp c
  .rename_i c
   refine⟨q1k.mpr ⟨n,by simp,λa ha b hb z=>?_⟩,λx=>?_⟩
   .subst z;rw[q0z.mp hb] at ha;exact c ha
   .rw[q0w,q0w,m x]
def Od{ws:-Wy}:∀{ns:-Int},ns≠[]->∃n,n∈ns/\∀e∈ns,kle (d8 ws n) (d8 ws e)
 |[],h=>absurd U h
 |[a],_=>⟨a,q0d,λe he=>by rw[q0z.mp he];calc kle_refl _⟩
 |a::b::r,_=>by
  let⟨n,h1,h2⟩:=Od (ws:=ws) (ns:=b::r) (by simp)
  cases q:HT.lexLt (d8 ws n) (d8 ws a) with
  |true=>exact⟨n,q0p _ h1,λe he=>(q0c.mp he).elim (λz=>by rw[z];calc vv q) (h2 e)⟩
  |false=>calc⟨a,q0d,λe he=>(q0c.mp he).elim (λz=>by rw[z];calc kle_refl _) λz=>kle_trans q (h2 e z)⟩
def Oe{ws:-Wy}{ns:-Int}(h:ns≠[]):p9 ws ns∈ns/\∀e∈ns,kle (d8 ws (p9 ws ns)) (d8 ws e):=by
 let ex:=Od (ws:=ws) h;unfold p9;rw[dif_pos ex];calc q5B ex
def Zo{ws:-Wy}{ls:-(-Int)}{n:Int}:n∈G7 ws ls↔∃l∈ls,eM ws l≠[]/\n=p9 ws (eM ws l):=by
 unfold G7;rw[q0j]
 constructor
 .ext ⟨o,ho,rfl⟩
  let⟨h1,h2⟩:=q0x.mp ho;let⟨l,hl,rfl⟩:=q0j.mp h1;exact⟨l,hl,q00 h2,U⟩
 .ext ⟨l,hl,h1,rfl⟩
  calc⟨_,q0x.mpr ⟨q0j.mpr ⟨l,hl,U⟩,q0g h1⟩,U⟩
def Of(ns:-Int)(x:Int):x∈g7 ns↔x∈ns:=by
 let:=(G8 ns _ (Ln _)).2 x;rw[q2s] at this;calc this
def iN{m:Int}{ws:-Wy}{us:-Int}{n:Int}:n∈ue m ws us↔∃l∈mJ m ws us,eM ws l≠[]/\n=p9 ws (eM ws l):=by
 unfold ue;rw[(sortI_perm _).mem_iff,Of,Zo]
end LJ
namespace L2
open PySem PySem.Spec PyProof.Rows PySem.W
def Og(kf:Nat->Int):∀k,argBest (λi j=>I (kf i<kf j)) k<=k/\∀j,j<=k->kf (argBest (λi j=>I (kf i<kf j)) k)<=kf j
 |0=>⟨Ln _,λj hj=>by
  let e:j=0:=by symm
  subst e
  calc q4P _⟩
 |k+1=>by
  let⟨h1,h2⟩:=Og kf k;show(if I (kf (k+1)<kf (argBest _ k))=θ then k+1 else argBest _ k)<=k+1/\∀j,j<=k+1->kf (if I (kf (k+1)<kf (argBest _ k))=θ then k+1 else argBest _ k)<=kf j
  by_cases c:kf (k+1)<kf (argBest (λi j=>I (kf i<kf j)) k)
  .rw[q0r (q0g c)]
   refine⟨Ln _,λj hj=>?_⟩
   by_cases e:j=k+1
   .subst e;exact q4P _
   .let:=h2 j ⋯;symm
  .rw[q0l (by rw[Ul c];decide)]
   refine⟨⋯,λj hj=>?_⟩
   by_cases e:j=k+1
   .subst e;symm
   .calc h2 j ⋯
section
variable{X:Cx}
def Zp(hc:X.calm=θ):hU X (.builtin "min") (λxs H Q=>∃(l:Y)(ns:-Int),xs=[.ref l]/\bR X.K H l (ns.map V.int)/\ns≠[]/\∀x∈ns,(∀y∈ns,x<=y)->Q (.int x) H):=by
 ext pins s σ H xs us Q I r h;let⟨l,ns,rfl,hq,ne,q⟩:=h;let⟨u,rfl,rx⟩:=vals1 r;cases rx
 let⟨aM,r',pl,_⟩:=I.list hq;let hl:=↑r';rw[ye] at hl;let hL:=pl.isList;let ll:l<⇑s:=by let⟨o,e,_⟩:=hL;exact q0h e
 let n0:=q4c.mpr ne;let sz:aM.toArray.size=↑ns:=hl.symm
 let uv:∀i v,aM.toArray[i]?=Z v->∃t,v=q1m (ns.getD i 0) t:=λi v hv=>by
  rw[q2y] at hv;let hi:i<↑ns:=by rw[hl];exact(Ll.mp hv).1
  let⟨u,e1,t,e2⟩:=r'.get (x:=V.int (ns.getD i 0))  (by rw[Uj,D9 hi,My,D9 hi];rfl);rw[hv] at e1;cases e1
  exact⟨t,e2⟩
 refine call_min_walk (q2f hL (⟨⇑s,_,_,_,_,_,λi j=>μ (ns.getD i 0<ns.getD j 0),U,q3M (by calc I.ok.hd hc) ⇑s l (q0o ll) _,⟨⟨_,q0f _ U,U,U⟩,hL.push _⟩,λb hb=>?_,by rw[sz];calc n0,CmpOf.ints_lt (λi=>ns.getD i 0) uv,λv h' tk hv kp=>?_⟩))
 .erw[q0c,q0L,q2m] at hb
  rw[q1E];rcases hb with e|e
  .rw[e];exact q1U _
  .rw[e];exact q0Z ll
 .let⟨t,rfl⟩:=uv _ v hv
  rw[sz] at hv ⊢;let⟨b1,b2⟩:=Og (λi=>ns.getD i 0) (↑ns-1);let gm:∀{i},i<↑ns->ns.getD i 0∈ns:=λ{i} h=>by rw[My,D9 h];exact q1M h
  refine⟨.int _,H,I.kept  λb o e=>kp b o (λz=>?_) (Lm _ e),⟨t,U⟩,q _ (gm ⋯) λy hy=>?_⟩
  .let:=q0h e
   rw[q0z.mp z] at this;exact q2G _ this
  .let⟨j,hj,rfl⟩:=q1j.mp hy
   let:=b2 j ⋯;rw[show ns.getD j 0=ns[j] by rw[My,D9 hj];rfl] at this;calc this
end
/---/def xb:-D->(D->Prop)->Prop
 |[.lst ds],K=>match intsOf ds with
  |some ns=>ns≠[]/\∀x∈ns,(∀y∈ns,x<=y)->K (.int x)
  |none=>False
 |_,_=>False
variable[zt:ba]{X:Cx}
def Oh(hc:X.calm=θ):eI X (.builtin "min") xb:=by
 ext pins s σ H xs us Q I r ⟨F,ds,K,sub,rd,q,md⟩;unfold xb at q;split at q
 .split at q
  .rename_i ns e
   let⟨v,rfl,a,vs,rfl,h1,h2⟩:=h8 rd;rw[tW e] at h2;rw[ni h2] at h1;exact Zp hc pins s σ H _ us Q I r ⟨a,ns,U,bR.of h1,q.1,λx hx hm=>md _ _ _ (q.2 x hx hm) (λ_ _ e=>e) U⟩
  .exact q.elim
 .calc q.elim
end L2
namespace LJ
open PySem L2
variable[zt:ba]
/---/def Indep(A:Wy->Prop):Prop:=∀a,A a->¬ bo (λv=>A v/\v≠a) a.1 a.2.1
omit [ba] in
def Indep.add {A B:Wy->Prop} {w:Wy} (h:Indep A) (k:∀v,B v↔A v\/v=w) (n:¬ bo A w.1 w.2.1):Indep B:=by
 ext a ha c;rcases(k a).mp ha with ha|rfl
 .let aw:a≠w:=λe=>n (by rw[<-e];calc .one ha)
  let c':bo (λv=>(A v/\v≠a)\/v=w) a.1 a.2.1:=c.mono λv hv=>by
   rcases(k v).mp hv.1 with z|z
   .exact .inl ⟨z,hv.2⟩
   .exact .inr z
  let m:∀{x y:Int},bo (λv=>A v/\v≠a) x y->bo A x y:=λz=>z.mono λv hv=>hv.1;rcases(bo.add λv=>x2z).mp c' with z|⟨z1,z2⟩|⟨z1,z2⟩
  .exact h a ha z
  .exact n (((m z1).symm.trans (.one ha)).trans (m z2).symm)
  .exact n (((m z2).trans (bo.one ha).symm).trans (m z1))
 .exact n (c.mono λv hv=>by
   rcases(k v).mp hv.1 with z|z
   .exact z
   .calc absurd z hv.2)
def Oi{m:Int}{ws:-Wy}(W:aH m ws){u v:Wy}(hu:u∈ws)(hv:v∈ws)(ne:u≠v):uc u v\/uc v u:=by
 by_cases c:uc u v
 .exact .inl c
 .refine .inr ?_
  let c:kle (lN v) (lN u):=by
   unfold kle
   cases q:HT.lexLt (lN u) (lN v) with
   |false=>rfl
   |true=>exact absurd q c
  calc NY c λe=>ne ?_;let⟨a1,a2,a3⟩:=u;let⟨b1,b2,b3⟩:=v;unfold lN at e;erw[q7E,and_true] at e;let⟨e1,e2,e3⟩:=e;subst e1 e2 e3;rfl
def Oj{m:Int}{ws:-Wy}(W:aH m ws):Indep (jg ws):=by
 let key:∀k,Indep λu=>jg ws u/\sj ws u<k:=by
  ext k
  induction k with
  |zero=>ext a ha;symm
  |succ k ih =>
   by_cases e:∃w,jg ws w/\sj ws w=k
   .let⟨w,tw,cw⟩:=e
    refine ih.add (w:=w) (λv=>?_) λc=>?_
    .constructor
     .ext ⟨tv,cv⟩
      by_cases z:v=w
      .exact .inr z
      .refine .inl ⟨tv,?_⟩
       rcases Oi W tv.1 tw.1 z with y|y
       .let:=GS tv.1 y;symm
       .let:=GS tw.1 y;symm
     .ext (⟨tv,cv⟩|rfl)
      .exact⟨tv,⋯⟩
      .exact⟨tw,⋯⟩
    .refine tw.2 (c.mono λv hv=>⟨hv.1.1,?_⟩)
     by_cases z:v=w
     .subst z;symm
     .rcases Oi W hv.1.1 tw.1 z with y|y
      .exact y
      .let:=GS tw.1 y;symm
   .let eq:(λu=>jg ws u/\sj ws u<k+1)=λu=>jg ws u/\sj ws u<k:=funext λu=>propext ⟨λ⟨a,b⟩↦⟨a,by
     by_cases z:sj ws u=k
     .exact absurd ⟨u,a,z⟩ e
     .omega⟩,λ⟨a,b⟩↦⟨a,⋯⟩⟩
    rw[eq];exact ih
 let eq:(λu=>jg ws u/\sj ws u<↑ws+1)=jg ws:=funext λu=>propext ⟨λh=>h.1,λh=>⟨h,by
  let:=List.countP_le_length (p:=λv=>HT.lexLt (lN v) (lN u)) (l:=ws)
  unfold sj;symm⟩⟩
 let:=key (↑ws+1);rw[eq] at this;calc this
def Ol{m:Int}{ws:-Wy}(W:aH m ws){a b:Int}(ha:0<=a/\a<(↑ws:Int))(hb:0<=b/\b<(↑ws:Int))(e:aB ws a=aB ws b):a=b:=by
 let nd:=YN W;unfold aB at e;let h1:a.toNat<↑ws:=by symm
 let h2:b.toNat<↑ws:=by symm
 rw[My,My,D9 h1,D9 h2] at e;let:=(q2r (h₀:=h1) (h₁:=h2) nd).mp e⁻¹;symm
def uf{S:Wy->Prop}{l:-Int}{a b:Int}(h:bo S a b)(ha:a∈l)(hb:b∉l):∃v,S v/\eS l v=θ:=by
 induction h with
 |rf=>exact absurd ha hb
 | @st c d h1 h2 ih =>
  by_cases c:c∈l
  .let⟨w,hw,e⟩:=h2
   calc⟨w,hw,?_⟩;unfold eS;rcases e with⟨rfl,rfl⟩|⟨rfl,rfl⟩
   .rw[q0g c,Ul hb];rfl
   .rw[q0g c,Ul hb];rfl
  .calc ih c
def Zq{l:-Int}{v:Wy}(h:eS l v=θ):(v.1∈l/\v.2.1∉l)\/(v.2.1∈l/\v.1∉l):=by
 unfold eS at h
 by_cases p:v.1∈l
 .by_cases q:v.2.1∈l
  .rw[q0g p,q0g q] at h;cases h
  .exact .inl ⟨p,q⟩
 .by_cases q:v.2.1∈l
  .exact .inr ⟨q,p⟩
  .rw[Ul p,Ul q] at h;cases h
def hJ{ws:-Wy}{l:-Int}{n:Int}:n∈eM ws l↔(0<=n/\n<(↑ws:Int))/\eS l (aB ws n)=θ:=by
 unfold eM;rw[q0x,bC]
def Zr{ws:-Wy}{l:-Int}{n:Int}(h:n∈eM ws l)(best:∀e∈eM ws l,kle (d8 ws n) (d8 ws e)):jg ws (aB ws n):=by
 let⟨⟨n0,n1⟩,hl⟩:=hJ.mp h;refine⟨BB n0 n1,λc=>?_⟩
 let:∃v,(v∈ws/\uc v (aB ws n))/\eS l v=θ:=by
  rcases Zq hl with⟨p,q⟩|⟨p,q⟩
  .exact uf c p q
  .exact uf c.symm p q
 let⟨v,⟨hv,lt⟩,lv⟩:=this;let⟨k,hk,rfl⟩:=GQ hv;let:=best k (hJ.mpr ⟨hk,lv⟩);unfold kle at this;rw[NX,NX] at this;unfold uc at lt;rw[this] at lt;cases lt
def Zs{m:Int}{ws:-Wy}(W:aH m ws){us:-Int}(hu:Nums ws us)(h:ue m ws us=[]){v:Wy}(hv:v∈ws):bo (fq ws us) v.1 v.2.1:=by
 let⟨k,hk,rfl⟩:=GQ hv;let⟨i,j,_,e1,e2,b1,b2⟩:=BC W hk.1 hk.2
 by_cases c:bo (fq ws us) (aB ws k).1 (aB ws k).2.1
 .exact c
 .let L:=(zD W hu).1
  let hl:cls m.toNat (fq ws us) (aB ws k).1∈mJ m ws us:=(L.mem _).mpr ⟨_,⋯,U⟩
  let lv:eS (cls m.toNat (fq ws us) (aB ws k).1) (aB ws k)=θ:=by
   unfold eS;rw[q0g (eR.mpr ⟨⋯,.rf⟩),Ul λz=>c (eR.mp z).2];rfl
  let ne:eM ws (cls m.toNat (fq ws us) (aB ws k).1)≠[]:=λz=>by
   let:=hJ.mpr ⟨hk,lv⟩;rw[z] at this;exact nomatch this
  let:p9 ws (eM ws (cls m.toNat (fq ws us) (aB ws k).1))∈ue m ws us:=iN.mpr ⟨_,hl,ne,U⟩;rw[h] at this;calc nomatch this
def Zt{m:Int}{ws:-Wy}(W:aH m ws){us:-Int}(hu:Nums ws us)(nd:us.Nodup)(ht:∀n∈us,jg ws (aB ws n))(h:ue m ws us=[]){os:-Int}(ho:cx ws os):sortI us=k9 m ws os:=by
 let fn:=YM (m:=m) ho;let fs:(k9 m ws os).Pairwise (· <= ·):=E_ _;calc YZ nd ((fs.and fn).imp λz=>by let a:=z.1;let b:=z.2;symm) λn=>?_;rw[GR W ho]
 constructor
 .ext hn
  exact⟨hu n hn,ht n hn⟩
 .ext ⟨hn,t⟩
  by_cases c:n∈us
  .exact c
  .refine absurd ((Zs W hu h (BB hn.1 hn.2)).mono λv hv=>?_) (Oj W _ t)
   let⟨k,hk,rfl⟩:=hv;calc⟨ht k hk,λe=>c (by rw[<-Ol W (hu k hk) hn e];calc hk)⟩
end LJ
namespace L2
open PySem PySem.Spec PyProof.Rows PySem.W
variable[zt:ba]
end L2
namespace LJ
open PySem L2
section
meta def b1(p:Prop)[Decidable p]:Nat:=if p then 1 else 0
meta def o_(ws:-Wy)(us:-Int):-Int:=us.map (λn=>(aB ws n).1)++us.map λn=>(aB ws n).2.1
end
end LJ
namespace L2
open PySem PySem.Spec PyProof.Rows
variable[zt:ba]
end L2
namespace LJ
open PySem L2
variable[zt:ba]
inductive BL (ys:-DV) (aE:-OV) (K:RV->-OV->Prop):Prop
 |mk (m:Int) (ws:-Wy) (us:-Int) (q:aH m ws) (q:Nums ws us) (q:↑us<=400) (q:ys=[.p (a_ m ws),.p (bj us)]) (q:aE=[]) (q:K (.p (bj (o_ ws us))) [])
/---/def G9:WS:=(bc (d2 (dY (bZ (aa 1)) [η,Z 0] (bL 0) dZ (d2 (d2 (d2 (aa 1) (dC (.int 1)) bg) (aa 0) bg) (dC (.int 0)) bg)) (dY (bZ (aa 1)) [η,Z 0] (bL 0) dZ (d2 (d2 (d2 (aa 1) (dC (.int 1)) bg) (aa 0) bg) (dC (.int 1)) bg)) dI))
def Om{ws:-Wy}{n:Int}(h:0<=n/\n<(↑ws:Int)):eX (ws.map bK) n=Z (bK (aB ws n)):=by
 let⟨i,rfl⟩:∃i:Nat,n=i:=⟨n.toNat,⋯⟩;let hi:i<↑ws:=by symm
 calc lB ?_;rw[Uj,D9 hi];unfold aB;rw[q0t,My,D9 hi];rfl
def Zu:Sem 2 0 BL G9:=by
 ext ys aE K'-⟨m,ws,us,W,hu,ul,rfl,rfl,k⟩;unfold G9;rw[show bj us=.lst (us.map D.int) from U];simp!
 refine L2.nr (λd=>match d with
  |.int n=>.int (aB ws n).1
  |_=>.non) (by rw[ye];symm) trivial ?_ ?_
 .ext d hd acc L ha h
  let⟨n,hn,rfl⟩:=q0j.mp hd;simp![a_,dz,Om (hu n hn),bK,cV];exact⟨ha,h⟩
 refine L2.nr (λd=>match d with
  |.int n=>.int (aB ws n).2.1
  |_=>.non) (by rw[ye];symm) trivial ?_ ?_
 .ext d hd acc L ha h
  let⟨n,hn,rfl⟩:=q0j.mp hd;simp![a_,dz,Om (hu n hn),bK];exact⟨ha,h⟩
 simp!;refine⟨⋯,?_⟩
 let e:(us.map D.int).map (λd=>match d with
  |.int n=>D.int (aB ws n).1
  |_=>.non)++(us.map D.int).map (λd=>match d with
  |.int n=>D.int (aB ws n).2.1
  |_=>.non)=(o_ ws us).map D.int:=by
  unfold o_;rw[q0y,q0y,q0s,q0y,q0y];rfl
 rw[e];calc cC k
end LJ
namespace LJS
open PySem PySem.SetTable PyProof.Rows
def Oo(ns:-Int){i:Nat}:∀{n:Nat},i<=n->↑(kz ns i)<=↑(kz ns n)
 |0,h=>by
  obtain rfl:i=0:=by symm
  exact Ln _
 |n+1,h=>by
  by_cases c:i=n+1
  .subst c;exact Ln _
  .let:=Oo ns (i:=i) (n:=n) ⋯
   show _<=↑(once (kz ns n) (ns.getD n 0));unfold once;split
   .exact this
   .rw[Lo];symm
section
variable{prog:ψ}{w:ω}{A:Β}{R:Result->ο->Prop}{I S:Y}{fp wr:-Y}{G:Array GenState->Array GenState->Prop}{n:Nat}{P:Nat->O->Prop}{St:Nat->ο->Prop}
def Oq(W:WalksS prog w A.in1 I fp wr G n P St)(out:S∉fp){led:Bool}(ns:-Int)(isInt:∀i v,P i v->∃t,v=.int (ns.getD i 0) t)(uu:↑(kz ns n)<60):
  ∀(left i:Nat)(s:ο),i+left=n->St i s->f7 s.heap S led (kz ns i)->(∀s',Moved (S::wr) G s s'->f7 s'.heap S led (kz ns n)->R (.ok (.ret .none)) s') →
   codeAny (ς prog w) A (.builtin "set.update.loop" ⟨[.ref S,.ref I],[]⟩) R s:=by
 let nK:S∉wr:=λz=>out (W.sub _ z);let more:∀b,b∈wr->b∈S::wr:=λb hb=>q0p _ hb;ext left
 induction left with
 |zero =>
  ext i s hi st se fin;obtain rfl:i=n:=by symm
  calc q09 q2M ?_;rw[q1t q2N _];show ρ _ A.in1 (pyNext (.ref I) >>= _) _ _ s;calc Aw (W.done s _ _ st λs' mv=>?_);show ρ _ A.in1 (ret q0T) _ _ s';exact Ui (fin s' (mv.mono more) (CZ se λo e=>mv.heap S o nK e))
 |succ left ih =>
  ext i s hi st se fin;let eV:i<n:=by symm
  calc q09 q2M ?_;rw[q1t q2N _];show ρ _ A.in1 (pyNext (.ref I) >>= _) _ _ s;calc Aw (W.item i s _ _ eV st λv s1 hP qe mv=>?_);let⟨t,rfl⟩:=isInt i v hP;show ρ _ A.in1 (holding [q1m (ns.getD i 0) t] (setAdd S (.int (ns.getD i 0) t)) >>= _) _ _ s1;calc Aw (q0R ?_);unfold setAdd;calc q0R (Aw ((intKind prog w).pyHash (k:=ns.getD i 0) (q3K _ _ _ _) ?_));let hlen:=Oo ns (i:=i) (n:=n) ⋯;calc add_int (s:={s1 with toks:=s1.toks+1}) (CZ se λo e=>mv.heap S o nK e) ⋯ λb h2 sb CV=>?_;let nS:∀b,b∈fp->b≠S:=λb hb z=>out (by rw[<-z];calc hb);refine Ui ⟨q1X q2N _,ih (i+1) _ ⋯ (W.frame _ s1 _ _ qe (q3L _ _) λb hb o e=>by rw[sb.2 b (nS b hb)];calc e) CV λs3 CW CY=>?_⟩
  calc fin s3 (Moved.trans W.gtrans ((mv.mono more).then_heap (q3L _ _) λb o hb e=>?_) CW) CY;rw[sb.2 b (λz=>hb (by rw[z];calc q0d))];calc e
end
section
variable{prog:ψ}{w:ω}{A:Β}{E:bz}{s:ο}
set_option maxHeartbeats 3200000 in
def Zv {l:Y} {items:Array O} {Q:bz} (ns:-Int) (hh:A.handled=η) (isL:s.heap.IsList l items\/s.heap.IsTuple l items) (isInt:∀(i:Nat)(v:O),items[i]?=Z v->∃t,v=.int (ns.getD i 0) t) (uu:↑(kz ns items.size)<60)
  (fin:∀(h':Α)(tk:Nat),f7 h' ⇑s (jx w) (kz ns items.size)->(∀b o,b<⇑s->s.heap.get? b=Z o->h'.get? b=Z o)->Q (.ref ⇑s) {s with heap:=h',toks:=tk}) :
  ρ (ς prog w) A (call (.type "set") [.ref l]) Q E s:=by
 let⟨c,tl,C0⟩:=q1u.mro;let m1:=q1u.made;let m2:=q1u.sub;let m3:=q1u.notType;let m4:=q1u.canCreate;let m5:=q62 (.ref l);calc q49 (q5n ?_);show ρ _ _ (callAny (.type "set") _) _ _ _;calc Ui ⟨q6e _ (by decide +kernel),q09 q6v ?_⟩;rw[q6f (q5w "set" [.ref l] []) U]
 repeat(any_goals (first|assumption|wp_step))
 refine q2C (RN (.ref l) (E:=E) (Q₁:=λr s1=>r=.ref ⇑s/\s1={s with heap:=s.heap.push (c5 (jx w))}) ⟨U,U⟩) λr s1 hr=>?_
 cases r with
 |error e=>exact hr
 |ok fl =>
  cases fl with
  |ret obj =>
   let⟨rfl,rfl⟩:=hr;generalize Zw:jx w=led at fin ⊢;let gS:(s.heap.push (c5 led)).get? ⇑s=Z (c5 led):=q0f _ U;let tS:q8h {s with heap:=s.heap.push (c5 led)} (.ref ⇑s) "set" := ⟨_,gS,U⟩;let m6:=q1u.init.lookup;let m7:=q1u.init.bind (.ref ⇑s)
   repeat(any_goals (first|assumption|wp_step))
   refine q2C (q5J (R:=wants (λr s2=>r=.none/\∃h' tk,s2={s with heap:=h',toks:=tk}/\f7 h' ⇑s led (kz ns items.size) ∧
     ∀b o,b<⇑s->s.heap.get? b=Z o->h'.get? b=Z o) E) q1u.init.plain q63 (q64 tS ?_)) λr2 s2 nL=>?_
   .let h3:A.in1.in1.in1.handled=η:=by simp[hh]
    let ez:(s.heap.push (c5 led)).objs.size=⇑s+1:=q1E ..;let ll:l<⇑s:=by rcases isL with⟨ol,gl,_⟩|⟨ol,gl,_⟩<;>exact q0h gl
    let nI:l≠(s.heap.push (c5 led)).objs.size:=by rw[ez];exact q0o (q0Z ll)
    let out:⇑s∉[(s.heap.push (c5 led)).objs.size,l]:=by
     erw[q0c,q0L,q2m,q6g,ez];exact⟨q0o (q1U _),q15 ll⟩
    unfold Builtin.«set.__init__» noKeywords q31;generalize Af:pyIter=PI;rcases isL with isL|isL
    .let⟨ol,gl,cl,nl,dl⟩:=isL
     let⟨c0,d0,J8,xx⟩:=ol;simp only at cl dl;subst cl;subst dl;let xy:(s.heap.push (c5 led)).get? l=Z {cls:=.type "list",dict:=d0,data:=.seq items nl,slots:=xx}:=Lm _ gl;let x1:=q7P;let x2:=q5K;let x3:(q14 "list" == q14 "dict")=ι:=by decide
     let jI:(s.heap.push (c5 led)).IsList l items:=⟨_,xy,U,nl,U⟩
     wp_walk
     subst Af;refine q2f jI (Aw (q21 ?_))
     refine Oq ((q3M h3 _ l nI items).toS) (S:=s.heap.objs.size) out (led:=led) ns (λi v hv=>isInt i v hv) uu items.size 0 _ (q0D _)
      ⟨⟨_,q0f _ U,U,U⟩,jI.push _⟩ (J9 (led:=led) (Lm _ gS)) ?fin
     ext s' mv se;let⟨h',g',d',mP,ux⟩:=s';obtain rfl:g'=s.gens:=mv.gens;obtain rfl:d'=s.drawn:=mv.drawn;obtain rfl:ux=s.os:=mv.os;show ρ _ _ _ _ _ _;calc Ui ?_;show ρ _ _ (ret q0T) _ _ _;calc Ui ⟨U,h',mP,U,se,λb o hb e=>?_⟩;calc mv.heap b o ?_ (Lm _ (Lm _ e));erw[q0c,q0L,q2m,q6g,ez];exact⟨q0o hb,q0o (q0Z hb)⟩
    .let⟨ol,gl,cl,nl,dl⟩:=isL
     let⟨c0,d0,J8,xx⟩:=ol;simp only at cl dl;subst cl;subst dl;let xy:(s.heap.push (c5 led)).get? l=Z {cls:=.type "tuple",dict:=d0,data:=.seq items nl,slots:=xx}:=Lm _ gl;let x1:=F.sub_tuple_set;let x2:=F.sub_tuple_frozenset;let x3:(q14 "tuple" == q14 "dict")=ι:=by decide
     let jI:(s.heap.push (c5 led)).IsTuple l items:=⟨_,xy,U,nl,U⟩
     wp_walk
     subst Af;refine q2R jI (Aw (q21 ?_))
     refine Oq ((Walks.tuple h3 _ l nI items).toS) (S:=s.heap.objs.size) out (led:=led) ns (λi v hv=>isInt i v hv) uu items.size 0 _ (q0D _)
      ⟨⟨_,q0f _ U,U,U⟩,jI.push _⟩ (J9 (led:=led) (Lm _ gS)) ?fin2
     ext s' mv se;let⟨h',g',d',mP,ux⟩:=s';obtain rfl:g'=s.gens:=mv.gens;obtain rfl:d'=s.drawn:=mv.drawn;obtain rfl:ux=s.os:=mv.os;show ρ _ _ _ _ _ _;calc Ui ?_;show ρ _ _ (ret q0T) _ _ _;calc Ui ⟨U,h',mP,U,se,λb o hb e=>?_⟩;calc mv.heap b o ?_ (Lm _ (Lm _ e));erw[q0c,q0L,q2m,q6g,ez];exact⟨q0o hb,q0o (q0Z hb)⟩
   .cases r2 with
    |error e=>exact nL
    |ok C1 =>
     cases C1 with
     |ret r =>
      let⟨rfl,h',mP,rfl,se,kp⟩:=nL
      repeat(any_goals (first|assumption|wp_step))
      exact fin _ _ se kp
     |next=>exact nL
     |brk=>exact nL
     |cont=>exact nL
  |next=>exact hr
  |brk=>exact hr
  |cont=>calc hr
end
end LJS
namespace L2
open PySem PySem.Spec PyProof.Rows
variable[zt:ba]{X:Cx}{fa:WA}
/---/def aN:-D->(D->Prop)->Prop
 |[.lst ds],K=>match intsOf ds with
  |some ns=>↑(g7 ns)<60/\K (.lst ((sortI (g7 ns)).map D.int))
  |none=>False
 |[.tup ds],K=>match intsOf ds with
  |some ns=>↑(g7 ns)<60/\K (.lst ((sortI (g7 ns)).map D.int))
  |none=>False
 |_,_=>False
def Zx(hc:X.calm=θ):hU X (.type "set") (λxs H Q=>∃(l:Y)(ns:-Int),xs=[.ref l]/\(bR X.K H l (ns.map V.int)\/cA X.K H l (ns.map V.int))/\↑(g7 ns)<60/\∀p,H p=η->Q (.ref p) (upd H p (wQ (LJS.jx X.w) p (g7 ns)))):=by
 ext pins s σ H xs us Q I r h;let⟨l,ns,rfl,hq,uu,q⟩:=h;let⟨u,rfl,rx⟩:=vals1 r;cases rx
 let⟨aM,r',pl⟩:∃aM:-O,Vals (ns.map V.int) aM/\(s.heap.IsList l aM.toArray\/s.heap.IsTuple l aM.toArray):=by
  rcases hq with hq|hq
  .let⟨aM,r',pl,_⟩:=I.list hq
   exact⟨aM,r',.inl pl.isList⟩
  .let⟨aM,r',pl,_⟩:=I.tuple hq
   exact⟨aM,r',.inr pl⟩
 let hl:=↑r';rw[ye] at hl;let e:aM.toArray.size=↑ns:=by rw[Uk];symm
 refine LJS.Zv ns (I.ok.hd hc) pl (λi v hv=>?_) (by rw[e];calc uu) λh' tk se kp=>?_
 .rw[q2y] at hv
  let hi:=(Ll.mp hv).1;let⟨x,hx,rv⟩:=yU r' (j:=i) (by rw[Uk];calc hi);rw[show aM.toArray[i]'(by rw[Uk];calc hi)=v by simpa using(Ll.mp hv).2] at rv;rw[Uj] at hx;let⟨n,hn,rfl⟩:=q0e.mp hx;let⟨t,rfl⟩:=rv;rw[My,hn];exact⟨t,U⟩
 .let Zy:LJS.f7 h' ⇑s (LJS.jx X.w) (g7 ns):=by rw[e] at se;exact se
  calc⟨.ref ⇑s,upd H ⇑s (wQ (LJS.jx X.w) ⇑s (g7 ns)),I.laid (t':=tk) (λb o e=>kp b o (q0h e) e) (Ln _) (Wt Zy),U,q _ (I.bu.fresh (Ln _))⟩
def G_{a:υ}{p1 p2 q1 q2:Δ}(hc:X.calm=θ)(y9:Gl X "sorted")(hl:X.mg "sorted" = η)(y_:bootBuiltins "sorted" = Z (.builtin "sorted"))(rB:Gl X "set")(hr:X.mg "set" = η)(my:bootBuiltins "set" = Z (.type "set"))(ha:JA X [a] (cK fa))
  (he:‹starEach [a] X.env=[(ι,eval a X.env)]›) (Fb:‹starEach [.Call (.Name "set" p2) [a] [] q2] X.env=[(ι,eval (.Call (.Name "set" p2) [a] [] q2) X.env)]›):JE X (.Call (.Name "sorted" p1) [.Call (.Name "set" p2) [a] [] q2] [] q1) (tD (dN fa aN)) :=
 (v_ (Wu hc) y9 hl y_ (kM (tL (Zx hc) rB hr my ha (he:=he)) bX) (he:=Fb)).weak fun σ H Q ⟨F,ad,δ,K,S,q,k⟩=>⟨F,ad,δ,_,S,q,λxs δ1 h1 vs F1 br H1 E1 S1 V1=>by
  let⟨ds,h2,pL⟩:=yB S1 V1 h1;unfold aN at h2;split at h2
  .split at h2
   .rename_i es ns e
    let⟨v,rfl,a,vs,rfl,g1,g2⟩:=h8 pL;rw[tW e] at g2;rw[ni g2] at g1;calc⟨a,ns,U,.inl (bR.of g1),h2.1,λp hp=>⟨p,g7 ns,U,cb,⋯,λr cM pm pw hr=>?_⟩⟩;let s1:bf H1 (upd H1 p (wQ (LJS.jx X.w) p (g7 ns))):=cU hp;let S2:=S1.al s1;let E2:=Ext.al S1 s1;calc k _ _ h2.2 _ _ _ _ ((E1.trans E2).trans (Ext.al S2 (cU hr))) (S2.al (cU hr)) ?_;rw[<-vq pm pw];exact nk S2.sub hr pT
   .exact h2.elim
  .split at h2
   .rename_i es ns e
    let⟨v,rfl,a,vs,rfl,g1,g2⟩:=h8 pL;rw[tW e] at g2;rw[ni g2] at g1;calc⟨a,ns,U,.inr (cA.of (S1.sub _ _ g1)),h2.1,λp hp=>⟨p,g7 ns,U,cb,⋯,λr cM pm pw hr=>?_⟩⟩;let s1:bf H1 (upd H1 p (wQ (LJS.jx X.w) p (g7 ns))):=cU hp;let S2:=S1.al s1;let E2:=Ext.al S1 s1;calc k _ _ h2.2 _ _ _ _ ((E1.trans E2).trans (Ext.al S2 (cU hr))) (S2.al (cU hr)) ?_;rw[<-vq pm pw];exact nk S2.sub hr pT
   .exact h2.elim
  .calc h2.elim⟩
end L2
namespace LJ
open PySem L2
variable[zt:ba]
abbrev Up(us:-Int):Prop:=us.Pairwise (· < ·)
meta def tupI(ns:-Int):D:=.tup (ns.map D.int)
meta def oD:Option Int->D
 |none=>.non
 |some n=>.int n
meta def gB(ns:-Int):-Int:=sortI (g7 ns)
def Zz(ns:-Int):(g7 ns).Nodup:=(G8 ns ↑ns (Ln _)).1
def bt{ns:-Int}{x:Int}:x∈gB ns↔x∈ns:=(sortI_perm _).mem_iff.trans (Of ns x)
def zJ{ns:-Int}(nd:ns.Nodup):Up (sortI ns):=((E_ _).and ((sortI_perm ns).nodup_iff.mpr nd)).imp λz=>by let a:=z.1;let b:=z.2;symm
def ug(ns:-Int):Up (gB ns):=zJ (Zz ns)
def Ha{ns:-Int}(nd:ns.Nodup):sortI ns=gB ns:=nA (zJ nd) (ug ns) λx=>(sortI_perm _).mem_iff.trans bt.symm
def Up.nd{us:-Int}(h:Up us):us.Nodup:=h.imp λz=>by symm
def zK{us:-Int}{n:Nat}(h:Up us)(r:∀x∈us,0<=x/\x<n):↑us<=n:=by
 let e:us=(bB n).filter λx=>I (x∈us):=nA h ((w9 n).filter _) λx=>by
  rw[q0x,bC,q0u];exact⟨λhx=>⟨r x hx,hx⟩,λhx=>hx.2⟩
 rw[e];calc q0N (q0S _ _) ?_;rw[lP];calc Ln _
def Ot{ns:-Int}{n:Nat}(r:∀x∈ns,0<=x/\x<n):↑(gB ns)<=n:=zK (ug ns) λx hx=>r x (bt.mp hx)
def BM{ns:-Int}{n:Nat}(r:∀x∈ns,0<=x/\x<n)(h:n<=30):↑(g7 ns)<60:=by
 let:=Ot r;unfold gB at this;rw[MG] at this;symm
abbrev gj:=Option (Option Int×Int)
structure Nt where
 p:-Int
 k:-Int
 s:-Int
 q:-gj
meta def gq(p k s:-Int):D:=.tup [tupI p,tupI k,tupI s]
meta def a6(m:Int)(ws:-Wy)(p:-Int)(h:Int):-Int:=cls m.toNat (fq ws p) h
meta def h9(ws:-Wy)(l:-Int):Option Int:=if eM ws l=[] then η else Z (p9 ws (eM ws l))
meta def fB(ws:-Wy)(p k:-Int):-Int:=(bB ↑ws).filter λn=>I (n∉p++k)
meta def pb(ws:-Wy)(us l:-Int):-Int:=(o_ ws us).filter λh=>I (h∈l)
meta def sv(ws:-Wy)(l:-Int):-Int:=(bB ↑ws).filter λn=>I ((aB ws n).1∈l)&&I ((aB ws n).2.1∈l)
meta def k_(ws:-Wy)(l p:-Int):-Int:=(sv ws l).filter λn=>I (n∉p)
meta def vL(m:Int)(ws:-Wy)(p k:-Int)(h:Int):-Int:=gB (k++k_ ws (a6 m ws p h) p)
meta def zL(m:Int)(ws:-Wy)(p k:-Int)(h:Int):Int:=2*((↑(a6 m ws p h):Int)-1)+2*(↑(pb ws (fB ws p k) (a6 m ws p h)):Int)
meta def Hb(m:Int)(ws:-Wy)(p:-Int)(w:Int):Int:=min (↑(a6 m ws p (aB ws w).1):Int) (↑(a6 m ws p (aB ws w).2.1):Int)
meta def mL(m:Int)(ws:-Wy)(N:Nt)(fo:Option Int)(h:Int):Option Int×Int:=match fo with
 |none=>if h∈N.s then(η,0) else(η,(↑(a6 m ws N.p h):Int)-1)
 |some w=>if w∈N.p then(η,0) else(Z w,1+Hb m ws N.p w)
meta def dF(m:Int)(ws:-Wy)(N:Nt)(fo:Option Int)(h:Int):Nt:=match fo with
 |none=>if h∈N.s then N else⟨N.p,N.k,gB (N.s++a6 m ws N.p h),N.q⟩
 |some w=>if w∈N.p then N else⟨gB (N.p++[w]),N.k,N.s,N.q⟩
inductive eT where
 |wake (h:Int)|fin (i:Nat)
meta def gC:eT->D
 |.wake h=>.tup [.str "wake",.int h]
 |.fin i=>.tup [.str "end",.int i]
meta def dU(t:Option Int×Int):D:=.tup [oD t.1,.int t.2]
meta def Nt.step(m:Int)(ws:-Wy)(N:Nt):eT->Nt
 |.wake h=>if h∈N.s then⟨N.p,N.k,N.s,N.q++[η]⟩ else⟨N.p,vL m ws N.p N.k h,N.s,N.q++[Z (h9 ws (a6 m ws N.p h),h)]⟩
 |.fin i=>match N.q[i]? with
  |some (some (fo,h))=>dF m ws ⟨N.p,N.k,N.s,N.q.set i η⟩ fo h
  |_=>N
meta def Nt.tell(m:Int)(ws:-Wy)(N:Nt):eT->Option Int×Int
 |.wake h=>if h∈N.s then(η,0) else(η,zL m ws N.p N.k h)
 |.fin i=>match N.q[i]? with
  |some (some (fo,h))=>mL m ws N fo h
  |_=>(η,0)
/---/def fD(m:Int)(N:Nt):eT->Prop
 |.wake h=>0<=h/\h<m
 |.fin i=>∃fo h,N.q[i]?=Z (Z (fo,h))
meta def runN(m:Int)(ws:-Wy):Nt->-eT->Nt
 |N,[]=>N
 |N,e::r=>runN m ws (N.step m ws e) r
meta def ft(m:Int)(ws:-Wy):Nt->-eT->-(Option Int×Int)
 |_,[]=>[]
 |N,e::r=>N.tell m ws e::ft m ws (N.step m ws e) r
meta def jh(m:Int)(ws:-Wy):Nt->-eT->Prop
 |_,[]=>True
 |N,e::r=>fD m N e/\jh m ws (N.step m ws e) r
def vM{m:Int}{ws:-Wy}:∀{N:Nt}{a:-eT}{e:eT},runN m ws N (a++[e])=(runN m ws N a).step m ws e
 |N,[],e=>U
 |N,x::a,e=>vM (N:=N.step m ws x) (a:=a)
def zM{m:Int}{ws:-Wy}:∀{N:Nt}{a:-eT}{e:eT},ft m ws N (a++[e])=ft m ws N a++[(runN m ws N a).tell m ws e]
 |N,[],e=>U
 |N,x::a,e=>by
  show _::ft m ws (N.step m ws x) (a++[e])=_;rw[zM (N:=N.step m ws x) (a:=a)];rfl
def Hc{m:Int}{ws:-Wy}:∀{N:Nt}{a:-eT}{e:eT},jh m ws N a->fD m (runN m ws N a) e->jh m ws N (a++[e])
 |N,[],e,_,h=>⟨h,trivial⟩
 |N,x::a,e,⟨h1,h2⟩,h=>⟨h1,Hc (N:=N.step m ws x) (a:=a) h2 h⟩
def xc{m:Int}{ws:-Wy}:∀{N:Nt}{a:-eT},↑(ft m ws N a)=↑a
 |N,[]=>U
 |N,x::a=>by show↑(ft m ws _ a)+1=_;rw[xc];rfl
structure dh(m:Int)(ws:-Wy)(N:Nt):Prop where
 pu:Up N.p
 pn:Nums ws N.p
 ku:Up N.k
 kn:Nums ws N.k
 su:Up N.s
 sn:∀x∈N.s,0<=x/\x<m
 ip:∀n∈N.k,bo (fq ws N.p) (aB ws n).1 (aB ws n).2.1
 sc:∀n,0<=n/\n<(↑ws:Int)->((aB ws n).1∈N.s↔(aB ws n).2.1∈N.s)
 q:∀(i:Nat)(fo:Option Int)(h:Int),N.q[i]?=Z (Z (fo,h))->(0<=h/\h<m)/\(∀w,fo=Z w->0<=w/\w<(↑ws:Int))/\(fo=η->eM ws (a6 m ws N.p h)=[])
meta def bq:Nt:=⟨[],[],[],[]⟩
def pd(m:Int)(ws:-Wy):dh m ws bq:=⟨.nil,(λ_ h=>nomatch h),.nil,(λ_ h=>nomatch h),.nil,(λ_ h=>nomatch h),(λ_ h=>nomatch h),λ_ _=>⟨(λh=>nomatch h),(λh=>nomatch h)⟩,λi fo h e=>by simp[bq] at e⟩
section
variable{m:Int}{ws:-Wy}{N:Nt}
def Hd{p:-Int}{n:Int}(h:n∈p):bo (fq ws p) (aB ws n).1 (aB ws n).2.1:=.one ⟨n,h,U⟩
def fE(W:aH m ws){p:-Int}{h x:Int}:x∈a6 m ws p h↔(0<=x/\x<m)/\bo (fq ws p) h x:=by
 let:=W.m1;unfold a6;rw[eR];calc and_congr_left' ⟨λz=>by symm,λz=>by symm⟩
def BN(W:aH m ws){n:Int}(hn:0<=n/\n<(↑ws:Int)):(0<=(aB ws n).1/\(aB ws n).1<m)/\(0<=(aB ws n).2.1/\(aB ws n).2.1<m):=by
 let⟨i,k,_,e1,e2,h1,h2⟩:=BC W hn.1 hn.2;symm
def He(W:aH m ws){p:-Int}{h n:Int}(hn:0<=n/\n<(↑ws:Int))(c:bo (fq ws p) (aB ws n).1 (aB ws n).2.1):(aB ws n).1∈a6 m ws p h↔(aB ws n).2.1∈a6 m ws p h:=by
 let⟨r1,r2⟩:=BN W hn;rw[fE W,fE W];calc⟨λz=>⟨r2,z.2.trans c⟩,λz=>⟨r1,z.2.trans c.symm⟩⟩
def Hf{l:-Int}{y:Wy}(h:y.1∈l↔y.2.1∈l):eS l y=ι:=by
 unfold eS
 by_cases c:y.1∈l
 .rw[q0g c,q0g (h.mp c)];rfl
 .rw[Ul c,Ul λz=>c (h.mpr z)];rfl
def Ou{l:-Int}{y:Wy}(h:eS l y=ι):y.1∈l↔y.2.1∈l:=by
 unfold eS at h
 by_cases c:y.1∈l<;>by_cases d:y.2.1∈l<;>simp[c,d] at h ⊢
def eU{l:-Int}{n:Int}:n∈eM ws l↔(0<=n/\n<(↑ws:Int))/\eS l (aB ws n)=θ:=by
 unfold eM;rw[q0x,bC]
def BO{l:-Int}(h:eM ws l=[]){n:Int}(hn:0<=n/\n<(↑ws:Int)):(aB ws n).1∈l↔(aB ws n).2.1∈l:=by
 refine Ou ?_
 cases q:eS l (aB ws n) with
 |false=>rfl
 |true=>let:=eU.mpr ⟨hn,q⟩;rw[h] at this;calc nomatch this
def ZA(ws:-Wy)(l:-Int):Up (eM ws l):=(w9 _).filter _
def uh{p:-Int}(hp:Nums ws p){l:-Int}(hc:∀n,0<=n/\n<(↑ws:Int)->((aB ws n).1∈l↔(aB ws n).2.1∈l)){a b:Int}(c:bo (fq ws p) a b)(ha:a∈l):b∈l:=by
 induction c with
 |rf=>exact ha
 |st _ ZC ih =>
  let⟨w,⟨k,hk,rfl⟩,hw⟩:=ZC;let:=hc k (hp k hk);rcases hw with⟨e1,e2⟩|⟨e1,e2⟩
  .rw[<-e2];rw[<-e1] at ih;exact this.mp ih
  .rw[<-e1];rw[<-e2] at ih;calc this.mpr ih
def ui(m:Int)(ws:-Wy)(p:-Int)(h:Int):Up (a6 m ws p h):=BE _ _ _
def vN(W:aH m ws){p:-Int}{h:Int}:↑(a6 m ws p h)<=12:=by
 let:=W.fW;calc q0N (zK (n:=m.toNat) (ui m ws p h) λx hx=>by let:=((fE W).mp hx).1;symm) ⋯
def BP(W:aH m ws){p:-Int}{h:Int}(hh:0<=h/\h<m):h∈a6 m ws p h:=(fE W).mpr ⟨hh,.rf⟩
def zN{p p':-Int}(h:∀x∈p,x∈p'){a b:Int}(c:bo (fq ws p) a b):bo (fq ws p') a b:=c.mono λv ⟨k,hk,e⟩↦⟨k,h k hk,e⟩
def Hg(W:aH m ws){p p':-Int}(ZD:Nums ws p')(h:∀x∈p,x∈p'){a:Int}(ha:0<=a/\a<m)(e:eM ws (a6 m ws p a)=[]):a6 m ws p' a=a6 m ws p a:=by
 refine nA (ui ..) (ui ..) λx=>⟨λhx=>?_,λhx=>?_⟩
 .exact uh ZD (λn hn=>BO e hn) ((fE W).mp hx).2 (BP W ha)
 .let⟨h1,h2⟩:=(fE W).mp hx
  calc(fE W).mpr ⟨h1,zN h h2⟩
def eN{l p:-Int}{n:Int}:n∈k_ ws l p↔((0<=n/\n<(↑ws:Int))/\(aB ws n).1∈l/\(aB ws n).2.1∈l)/\n∉p:=by
 unfold k_ sv;rw[q0x,q0x,bC,q0u,q04,q0u,q0u]
def ZE(W:aH m ws){l:-Int}{w:Int}(h:h9 ws l=Z w):0<=w/\w<(↑ws:Int):=by
 unfold h9 at h;split at h
 .cases h
 .rename_i ne
  cases h
  calc BK _ (Oe ne).1
def dh.step(W:aH m ws)(O:dh m ws N){e:eT}(he:fD m N e):dh m ws (N.step m ws e):=by
 cases e with
 |wake h =>
  unfold Nt.step;dsimp only;split
  .refine⟨O.pu,O.pn,O.ku,O.kn,O.su,O.sn,O.ip,O.sc,λi fo h' e=>?_⟩
   let e:(N.q++[η])[i]?=Z (Z (fo,h')):=e
   by_cases c:i<↑N.q
   .rw[q0a c] at e;exact O.q i fo h' e
   .rw[q0i ⋯] at e
    cases z:i-↑N.q with
    |zero=>rw[z] at e;cases e
    |succ j=>rw[z] at e;simp at e
  .refine⟨O.pu,O.pn,ug _,λn hn=>?_,O.su,O.sn,λn hn=>?_,O.sc,λi fo h' e=>?_⟩
   .rcases q0w.mp (bt.mp hn) with z|z
    .exact O.kn n z
    .exact (eN.mp z).1.1
   .rcases q0w.mp (bt.mp hn) with z|z
    .exact O.ip n z
    .let⟨⟨_,z1,z2⟩,_⟩:=eN.mp z
     exact((fE W).mp z1).2.symm.trans ((fE W).mp z2).2
   .let e:(N.q++[Z (h9 ws (a6 m ws N.p h),h)])[i]?=Z (Z (fo,h')):=e
    by_cases c:i<↑N.q
    .rw[q0a c] at e;exact O.q i fo h' e
    .rw[q0i ⋯] at e
     cases z:i-↑N.q with
     |zero =>
      rw[z] at e;let e:Z (h9 ws (a6 m ws N.p h),h)=Z (fo,h'):=by simpa using e
      cases e
      calc⟨he,λw hw=>ZE W hw,λz=>?_⟩;unfold h9 at z;split at z
      .assumption
      .cases z
     |succ j=>rw[z] at e;simp at e
 |fin i =>
  let⟨fo,h,hq⟩:=he;let⟨hh,hw,hn⟩:=O.q i fo h hq
  let qs:∀j la h',(N.q.set i η)[j]?=Z (Z (la,h'))->N.q[j]?=Z (Z (la,h')):=λj la h' e=>by
   by_cases c:i=j
   .subst c
    rw[q07 (Ll.mp hq).1] at e;cases e
   .rwa [q08 c] at e
  unfold Nt.step;dsimp only;rw[hq];dsimp only;unfold dF
  cases fo with
  |none =>
   dsimp only;split
   .exact⟨O.pu,O.pn,O.ku,O.kn,O.su,O.sn,O.ip,O.sc,λj la h' e=>O.q j la h' (qs j la h' e)⟩
   .refine⟨O.pu,O.pn,O.ku,O.kn,ug _,λx hx=>?_,O.ip,λn hr=>?_,λj la h' e=>O.q j la h' (qs j la h' e)⟩
    .rcases q0w.mp (bt.mp hx) with z|z
     .exact O.sn x z
     .exact ((fE W).mp z).1
    .rw[bt,bt,q0w,q0w]
     exact or_congr (O.sc n hr) (BO (hn U) hr)
  |some w =>
   dsimp only;split
   .exact⟨O.pu,O.pn,O.ku,O.kn,O.su,O.sn,O.ip,O.sc,λj la h' e=>O.q j la h' (qs j la h' e)⟩
   .let mo:∀x∈N.p,x∈gB (N.p++[w]):=λx hx=>bt.mpr (q0U _ hx)
    let pn:Nums ws (gB (N.p++[w])):=λx hx=>by
     rcases q0w.mp (bt.mp hx) with z|z
     .exact O.pn x z
     .rw[q0z.mp z];exact hw w U
    calc⟨ug _,pn,O.ku,O.kn,O.su,O.sn,λn s_=>zN mo (O.ip n s_),O.sc,λj la h' e=>?_⟩;let⟨a1,a2,a3⟩:=O.q j la h' (qs j la h' e);calc⟨a1,a2,λz=>?_⟩;show eM ws (a6 m ws (gB (N.p++[w])) h')=[];rw[Hg W pn mo a1 (a3 z)];calc a3 z
def dh.run(W:aH m ws):∀{N:Nt}{es:-eT},dh m ws N->jh m ws N es->dh m ws (runN m ws N es)
 |_,[],O,_=>O
 |N,e::r,O,⟨h1,h2⟩=>dh.run W (N:=N.step m ws e) (es:=r) (dh.step W O h1) h2
def dh.pl(W:aH m ws)(O:dh m ws N):↑N.p<=30:=q0N (zK O.pu O.pn) W.iE
def dh.kl(W:aH m ws)(O:dh m ws N):↑N.k<=30:=q0N (zK O.ku O.kn) W.iE
def dh.sl(W:aH m ws)(O:dh m ws N):↑N.s<=12:=by
 let:=W.fW;calc q0N (zK (n:=m.toNat) O.su λx hx=>by let:=O.sn x hx;symm) ⋯
end
end LJ
namespace L2
open PySem PySem.Spec PyProof.Rows
section
variable[zt:ba]
inductive RK where
 |p (d:D)|w (a:Y)|n (ds:-D)|u (t:Bool) (fs:-FV)
abbrev GK:=-DV->-OV->(RK->-OV->-OV->Prop)->Prop
/---/def vO(F' H H':Hp)(a5:-Y)(dH:-(Option OV))(v:V):RK->Prop
 |.p d=>Is F' d v
 |.w a=>v=.ref a
 |.u t fs=>∃b us,v=.ref b/\F' b=Z (qQ t us)/\fQ F' fs us
 |.n ds=>∃b us,v=.ref b/\H b=η/\H' b=Z (.lst us)/\F' b=η/\aA F' ds us/\¬ Lv a5 dH b
structure Hh(F:Hp)(ad:-Y)(aE:-OV)(H:Hp)(r:RK)(ows news:-OV)(v:V)(F':Hp)(a5:-Y)(H':Hp):Prop where
 ext:Ext F ad (aE.map Z) H F' a5 ((ows++news).map Z) H'
 sr:SR F' a5 ⟨[],(ows++news).map Z⟩ [] H'
 len:↑ows=↑aE
 res:vO F' H H' a5 ((ows++news).map Z) v r
inductive mM (G:GK) (n:Nat) (vs:-V) (H:Hp) (Q:VK) (q:XK):Prop
 |mk (hl:↑vs=n) (F:Hp) (ad:-Y) (ys:-DV) (aE:-OV) (K:RK->-OV->-OV->Prop) (S:SR F ad ⟨ys.map Z,aE.map Z⟩ (vs.map Z) H) (g:G ys aE K) (k:∀r ows news,K r ows news->∀v F' a5 H',Hh F ad aE H r ows news v F' a5 H'->Q v H')
/---/def vP(n:Nat)(K:RK->-OV->-OV->Prop)(x:DV)(δ:bh):Prop:=∃ows news gs,δ.mu=(ows++news).map Z++gs/\↑ows=n/\match x with
 |.p d=>K (.p d) ows news
 |.w a=>K (.w a) ows news
 |.u t fs=>K (.u t fs) ows news
 |.o k=>↑(ows++news)<=k/\match δ.mu[k]? with
  |some (some (.lst ds))=>K (.n ds) ows news
  |_=>False
 |.t _ _=>False
meta def ae(n:Nat)(K:RK->-OV->-OV->Prop):KS where
 nx:=vP n K (.p .non)
 rt:=vP n K
section
variable{F F' H H':Hp}{ad a5:-Y}{σ σ':St}{δ:bh}{mu dH:-(Option OV)}
def xf{α:Type}{l:-α}{n k a}(e:(l.take n)[k]?=Z a):k<n/\l[k]?=Z a:=by
 let hk:k<n:=by
  let:=(Ll.mp e).1;rw[q0K] at this;symm
 rw[q0W hk] at e;calc⟨hk,e⟩
def SR.cut m (S:SR F ad δ σ H):SR F (ad.take m) ⟨[],δ.mu.take m⟩ [] H:=by
 refine⟨S.sub,λa x=>S.off a x.take,?_,λk l a w w' e1 e2 e3 e4=>S.inj k l a w w' (xf e1).2 (xf e2).2 (xf e3).2 (xf e4).2,λk ov e=>?_,λi x e=>by simp at e,U,S.tab,S.nt⟩
 .rw[q0K,q0K,S.cQ]
 .let⟨e1,e2⟩:=xf e
  let⟨a,o,e3,h⟩:=S.mu k ov e2;calc⟨a,o,by rw[q0W e1];calc e3,h⟩
def Ext.cut{m}(e:Ext F ad mu H F' a5 dH H')(hm:↑ad<=m):Ext F ad mu H F' (a5.take m) (dH.take m) H' :=
 ⟨e.same,e.new,e.keep,λk a h=>by rw[q0W (q0v (Ll.mp h).1 hm)];calc e.pre k a h,λa x=>e.cN a x.take,e.iZ⟩
def Ov{aE x v}{K:RK->-OV->-OV->Prop}{Q:VK}{sl τ}(S0:SR F ad ⟨sl,aE.map Z⟩ τ H)(E:Ext F ad (aE.map Z) H F' a5 δ.mu H')(S:SR F' a5 δ σ' H')(V:eY F' a5 x v)
  (h:vP ↑aE K x δ) (k:∀r ows news,K r ows news->∀v F' a5 H',Hh F ad aE H r ows news v F' a5 H'->Q v H'):Q v H':=by
 let⟨ows,news,gs,em,hl,h⟩:=h;let al:=by let:=S0.cQ;rwa [ye] at this
 let tk:δ.mu.take ↑(ows++news)=(ows++news).map Z:=by rw[em,List.take_left' (by rw[ye])]
 let E2:=E.cut (m:=↑(ows++news)) (by rw[al,Lo];symm);let S2:=S.cut ↑(ows++news);rw[tk] at E2 S2
 cases x with
 |p d=>exact k _ _ _ h _ _ _ _ ⟨E2,S2,hl,V⟩
 |w a=>exact k _ _ _ h _ _ _ _ ⟨E2,S2,hl,V⟩
 |u t fs=>exact k _ _ _ h _ _ _ _ ⟨E2,S2,hl,V⟩
 |t _ _=>exact h.elim
 |o i =>
  let⟨hi,h⟩:=h;split at h
  .rename_i ds ei
   let⟨a,e1,rfl⟩:=V;let⟨a',o,e2,e3,vs,rfl,h4⟩:=S.mu i _ ei;rw[e1] at e2;cases e2;refine k _ _ _ h _ _ _ _ ⟨E2,S2,hl,a,vs,U,?_,e3,S.off a ⟨i,_,e1,ei⟩,h4,λ⟨j,ov,z1,z2⟩=>?_⟩
   .rcases E.cN a ⟨i,_,e1,ei⟩ with⟨j,ov,z,_⟩|z
    .let hj:j<↑ows:=by rw[hl,<-al];exact(Ll.mp z).1
     let mj:δ.mu[j]?=Z (Z ows[j]):=by
      rw[em,q0a (by rw[ye,Lo];symm),Uj,q0a hj,D9 hj];rfl
     let:=S.inj i j a _ _ e1 (E.pre j a z) ei mj;rw[Lo] at hi;symm
    .exact z
   .have ⟨hj,z1⟩:=xf z1
    let mj:δ.mu[j]?=Z (Z ov):=by
     rw[em,q0a (by rw[ye];calc hj)];exact z2
    let:=S.inj i j a _ _ e1 z1 ei mj;symm
  .calc h.elim
end
def hW.Hi{P w K mg base x qual st f fd N ps k G}(F:hW K x qual st f fd)(S:pF N ps (cW st))
  (fN:∀bF A outer s H E,bA k (A.deeper (envOfC qual (cW st) ⇑s f bF)) →
   ∃B:WS,eQ (gE f_ P w K mg base N qual (cW st) f bF A outer s H E).mS (gG st) (eJ B)/\∀ys aE K',↑ys=↑ps->G ys aE K'->B (ae ↑aE K') ⟨ys.map Z++q0q (↑N-↑ps) η,aE.map Z⟩) :
  cB P w K mg base f_ (k+1) f fd ps (mM G ↑ps) :=
 F.yi S (λvs H Q E h=>h.1) λbF A outer s H vs Q E hr h=>by
  let⟨hl,Fz,ad,ys,aE,K',S0,g,kk⟩:=h;let⟨B,jb,hb⟩:=fN bF A outer s H E hr
  let hy:↑ys=↑ps:=by
   let:=S0.len;rw[ye] at this;rw[<-hl,this,ye]
  refine⟨_,jb,Fz,ad,⟨ys.map Z++q0q (↑N-↑ps) η,aE.map Z⟩,ae ↑aE K',by rw[<-hl];calc S0.start,hb ys aE K' hy g,⟨fun δ' h F' a5 σ' H' E' S'=>?_,fun δ' h=>h.elim,fun δ' h=>h.elim,λy δ' h v F' a5 σ' H' E' S' V=>?_,trivial⟩⟩
  .exact Ov  S0 E' S' (x:=.p .non)  U h kk
  .calc Ov  S0 E' S' V h kk
/---/def zO(mu:-(Option OV)):-(Nat×OV)->Prop
 |[]=>True
 |(k,ov)::r=>mu[k]?=Z (Z ov)/\zO mu r
def Ox{mu}:∀{es},zO mu es->∀ko∈es,mu[ko.1]?=Z (Z ko.2)
 |(k,ov)::r,h,ko,hk=>by
  rcases q0c.mp hk with rfl|hk
  .exact h.1
  .calc Ox h.2 ko hk
section
variable{F F' H H':Hp}{ad a5:-Y}{δ:bh}{σ σ':St}
def ZF{xs:-DV}{vs:-V}{r:-DV×-(Nat×OV)}{es:-(Nat×OV)}(S:SR F ad δ σ H)(V:dm F ad xs vs)(hp:passes δ.mu xs 0=Z r)(he:zO δ.mu es)(nd:lK (r.2++es)=θ):
  ∃as:-Y,↑as=↑(r.2++es)/\SR F as ⟨r.1.map Z,((r.2++es).map (·.2)).map Z⟩ (vs.map Z) H/\∀res ows news v F' a5 H',Hh F as ((r.2++es).map (·.2)) H res ows news v F' a5 H' →
   Ext F ad δ.mu H F' (ad++a5.drop ↑(r.2++es)) (dy δ.mu (r.2++es) ows++news.map Z) H'/\SR F' (ad++a5.drop ↑(r.2++es)) ⟨δ.sl,dy δ.mu (r.2++es) ows++news.map Z⟩ σ H'/\vO F' H H' (ad++a5.drop ↑(r.2++es)) (dy δ.mu (r.2++es) ows++news.map Z) v res:=by
 calc wd λsx=>?_;let⟨ZG,BQ,b0,c⟩:=wF S.mu hp V;let⟨_,c1,c2⟩:=c [] U;let⟨Hj,Oy⟩:∃Hj:-Y,Hj=es.map λko=>(ad[ko.1]?).getD 0:=⟨_,U⟩;let⟨as,has⟩:∃as,as=ZG++Hj:=⟨_,U⟩;let⟨b_,vQ⟩:∃b_,b_=r.2++es:=⟨_,U⟩;calc sx ?_;rw[<-vQ] at nd ⊢
 let b:∀(i:Nat)(ko:Nat×OV),b_[i]?=Z ko->δ.mu[ko.1]?=Z (Z ko.2)/\∃a o,as[i]?=Z a/\ad[ko.1]?=Z a/\H a=Z o/\gz F a ko.2 o:=λi ko e=>by
  rw[vQ] at e
  by_cases hi:i<↑r.2
  .rw[q0a hi] at e
   let⟨z1,a,o,z2,z3⟩:=b0 i ko e;exact⟨z1,a,o,by rw[has,q0a (by rw[BQ];calc hi)];calc z2,z3⟩
  .let hi:↑r.2<=i:=by symm
   rw[q0i hi] at e;let m:=Ox he ko (q0I e);let⟨a,o,z1,z2⟩:=S.mu _ _ m;calc⟨m,a,o,?_,z1,z2⟩;rw[has,q0i (by rw[BQ];calc hi),BQ,Oy,Uj,e];show Z ((ad[ko.1]?).getD 0)=Z a;rw[z1];rfl
 let al:↑as=↑b_:=by rw[has,vQ,Lo,Lo,BQ,Oy,ye]
 let lL:∀(i:Nat)(a:Y),as[i]?=Z a->Lv ad δ.mu a/\∃ko,b_[i]?=Z ko/\ad[ko.1]?=Z a/\δ.mu[ko.1]?=Z (Z ko.2):=λi a e=>by
  let hi:i<↑b_:=by rw[<-al];exact(Ll.mp e).1
  let⟨m1,a',o,e1,e2,_,_⟩:=b i _ (D9 hi);rw[e] at e1;cases e1;exact⟨⟨_,_,e2,m1⟩,_,D9 hi,e2,m1⟩
 let ZH:∀(i:Nat)(ov:OV),((b_.map (·.2)).map Z)[i]?=Z (Z ov)->∃ko,b_[i]?=Z ko/\ko.2=ov:=λi ov e=>by
  let e:=yJ e;rw[Uj] at e;let⟨ko,e1,e2⟩:=q0e.mp e;exact⟨ko,e1,e2⟩
 refine⟨as,al,⟨S.sub,λa ⟨i,ov,e1,e2⟩↦S.off a (lL i a e1).1,by rw[al];rw[ye,ye],λi j a ov ow e1 e2 _ _=>?_,λi ov e=>?_,λi y e=>?_,?_,S.tab,S.nt⟩,λres ows news v F' a5 H' P=>?_⟩
 .let⟨_,ko,k1,k2,k3⟩:=lL i a e1
  let⟨_,kp,p1,p2,p3⟩:=lL j a e2;let:ko.1=kp.1:=S.inj _ _ a _ _ k2 p2 k3 p3;exact EH nd i j ko.1 ko.2 kp.2 k1 (by rw[this];calc p1)
 .let⟨ko,e1,rfl⟩:=ZH i ov e
  let⟨_,a,o,e2,_,e4,e5⟩:=b i ko e1;exact⟨a,o,e2,e4,e5⟩
 .let⟨v,e1,e2⟩:=c2 i y (yJ e)
  calc⟨v,yK e1,?_⟩;rw[q33] at e2;exact e2.pre λk a h _=>by rw[has,q0a (Ll.mp h).1];exact h
 .show ↑(vs.map Z)=↑(r.1.map Z)
  rw[ye,ye,c1]
 .let X:=P.ext
  let T:=P.sr;let ol:↑ows=↑b_:=by rw[P.len,ye]
  let cQ:↑a5=↑b_+↑news:=by
   let:=T.cQ;rw[this];show↑((ows++news).map Z)=_;rw[ye,Lo,ol]
  let yO:∀a,Lv as ((b_.map (·.2)).map Z) a->Lv ad δ.mu a:=λa ⟨i,_,e,_⟩↦(lL i a e).1
  let inb:∀(i:Nat)(a:Y),as[i]?=Z a->Lv as ((b_.map (·.2)).map Z) a:=λi a e=>by
   let⟨_,ko,k1,_⟩:=lL i a e;exact⟨i,ko.2,e,yK (by rw[Uj,k1];rfl)⟩
  let pre:∀(i:Nat)(a:Y),as[i]?=Z a->a5[i]?=Z a:=X.pre;let mo:∀(i:Nat)(ow:OV),ows[i]?=Z ow->((ows++news).map Z)[i]?=Z (Z ow):=λi ow e=>yK (by rw[q0a (Ll.mp e).1];calc e);let mn:∀(j:Nat)(w:OV),news[j]?=Z w->((ows++news).map Z)[↑b_+j]?=Z (Z w):=λj w e=>yK (by rw[q0i ⋯,ol,q47];calc e);let sy:↑(dy δ.mu b_ ows)=↑ad:=by rw[EI,S.cQ]
  let ip:∀(l:Nat)(ow:OV),(dy δ.mu b_ ows++news.map Z)[l]?=Z (Z ow)->(∃(i:Nat)(ko:Nat×OV),l<↑ad/\b_[i]?=Z ko/\ko.1=l/\ows[i]?=Z ow)\/(l<↑ad/\(∀ko∈b_,ko.1≠l)/\δ.mu[l]?=Z (Z ow))\/(↑ad<=l/\news[l-↑ad]?=Z ow):=λl ow e=>by
   by_cases hl:l<↑ad
   .rw[q0a (by rw[sy];calc hl)] at e
    by_cases z:∃ko∈b_,ko.1=l
    .let⟨ko,hk,rfl⟩:=z
     let⟨i,hi⟩:=q0m.mp hk;let tV:i<↑ows:=by rw[ol];exact(Ll.mp hi).1
     let:=EJ (mu:=δ.mu) nd hi (D9 tV) (Ll.mp (b i ko hi).1).1;rw[e] at this;cases this
     exact .inl ⟨i,ko,hl,hi,U,D9 tV⟩
    .let z':∀ko∈b_,ko.1≠l:=λko hk q=>z ⟨ko,hk,q⟩
     rw[yN _ _ _ _ z'] at e;exact .inr (.inl ⟨hl,z',e⟩)
   .rw[q0i (by rw[sy];symm),sy] at e
    exact .inr (.inr ⟨⋯,yJ e⟩)
  let gn:∀(l:Nat)(a:Y),↑ad<=l->(ad++a5.drop ↑b_)[l]?=Z a->a5[↑b_+(l-↑ad)]?=Z a:=λl a hl e=>by
   rw[q0i hl,q6q] at e;exact e
  let go:∀(l:Nat)(a:Y),l<↑ad->(ad++a5.drop ↑b_)[l]?=Z a->ad[l]?=Z a:=λl a hl e=>by
   rw[q0a hl] at e;exact e
  let q_:∀(l:Nat)(ow:OV)(a:Y),(ad++a5.drop ↑b_)[l]?=Z a->(dy δ.mu b_ ows++news.map Z)[l]?=Z (Z ow)->(Lv ad δ.mu a/\l<↑ad/\ad[l]?=Z a/\∃w,δ.mu[l]?=Z (Z w))\/(↑ad<=l/\a5[↑b_+(l-↑ad)]?=Z a/\((ows++news).map Z)[↑b_+(l-↑ad)]?=Z (Z ow)):=λl ow a e1 e2=>by
   rcases ip l ow e2 with⟨i,ko,hl,hi,rfl,_⟩|⟨hl,_,q⟩|⟨hl,q⟩
   .exact .inl ⟨⟨_,_,go _ _ hl e1,(b i ko hi).1⟩,hl,go _ _ hl e1,_,(b i ko hi).1⟩
   .exact .inl ⟨⟨_,_,go _ _ hl e1,q⟩,hl,go _ _ hl e1,_,q⟩
   .exact .inr ⟨hl,gn l a hl e1,mn _ _ q⟩
  let alive:∀a,Lv ad δ.mu a->∃o,H a=Z o/\a∉ba.ad:=λa ⟨k,ov,e1,e2⟩=>by
   let⟨a',o,e3,e4,h⟩:=S.mu k ov e2;rw[e1] at e3;cases e3;calc⟨o,e4,λt=>?_⟩;let⟨ps,q⟩:=ba.tb S.tab t;rw[e4] at q;exact h.kind ps (q0P q)
  let vm:∀a,Lv ad δ.mu a->F' a=η:=λa l=>by
   cases q:F' a with
   |none=>rfl
   |some u =>
    rcases X.new a u q with y|y|⟨i,ov,y,_⟩
    .rw[S.off a l] at y;cases y
    .let⟨o,z,_⟩:=alive a l
     rw[y] at z;cases z
    .let⟨_,ko,k1,_⟩:=lL i a y
     let hi:i<↑ows:=by rw[ol];exact(Ll.mp k1).1
     rw[T.off a ⟨i,ows[i],pre i a y,mo i _ (D9 hi)⟩] at q;cases q
  let Oz:∀j a w,a5[↑b_+j]?=Z a->((ows++news).map Z)[↑b_+j]?=Z (Z w)->¬ Lv ad δ.mu a:=λj a w e1 e2 l=>by
   rcases X.cN a ⟨_,w,e1,e2⟩ with⟨i,ov,y,_⟩|y
   .let hi:i<↑ows:=by rw[ol,<-al];exact(Ll.mp y).1
    let:=T.inj _ _ a _ _ e1 (pre i a y) e2 (mo i _ (D9 hi));symm
   .let⟨o,z,_⟩:=alive a l
    rw[y] at z;cases z
  let ex:Ext F ad δ.mu H F' (ad++a5.drop ↑b_) (dy δ.mu b_ ows++news.map Z) H':=by
   refine⟨X.same,λa o e=>?_,λa o e n t=>X.keep a o e (λz=>n (yO a z)) t,λk a e=>by rw[q0a (Ll.mp e).1];calc e,λa ⟨l,ow,e1,e2⟩=>?_,X.iZ⟩
   .rcases X.new a o e with z|z|z
    .exact .inl z
    .exact .inr (.inl z)
    .exact .inr (.inr (yO a z))
   .rcases q_ l ow a e1 e2 with⟨z,_⟩|⟨_,z1,z2⟩
    .exact .inl z
    .rcases X.cN a ⟨_,_,z1,z2⟩ with z|z
     .exact .inl (yO a z)
     .exact .inr z
  let sr:SR F' (ad++a5.drop ↑b_) ⟨δ.sl,dy δ.mu b_ ows++news.map Z⟩ σ H':=by
   refine⟨T.sub,λa ⟨l,ow,e1,e2⟩=>?_,?_,λk l a ov ow e1 e2 e3 e4=>?_,λl ow e=>?_,λi y e=>?_,S.len,T.tab,T.nt⟩
   .rcases q_ l ow a e1 e2 with⟨z,_⟩|⟨_,z1,z2⟩
    .exact vm a z
    .exact T.off a ⟨_,_,z1,z2⟩
   .rw[Lo,Lo,sy,q2q,cQ,ye,q47]
   .rcases q_ k ov a e1 e3 with⟨z,_,y1,w1,y2⟩|⟨ki,z1,z2⟩
    .rcases q_ l ow a e2 e4 with⟨_,_,y3,w2,y4⟩|⟨_,z1,z2⟩
     .exact S.inj k l a _ _ y1 y3 y2 y4
     .exact (Oz _ _ _ z1 z2 z).elim
    .rcases q_ l ow a e2 e4 with⟨z,_⟩|⟨kX,z3,z4⟩
     .exact (Oz _ _ _ z1 z2 z).elim
     .let:=T.inj _ _ a _ _ z1 z3 z2 z4
      symm
   .rcases ip l ow e with⟨i,ko,hl,hi,rfl,ho⟩|⟨hl,z,q⟩|⟨hl,q⟩
    .calc wd λlb=>?_;let⟨_,a,o,e1,e2,_,_⟩:=b i ko hi
     let⟨a',o',e3,e4,h5⟩:=T.mu i ow (mo i ow ho);calc lb ?_;rw[pre i a e1] at e3;cases e3;exact⟨a,o',by rw[q0a hl];calc e2,e4,h5⟩
    .let⟨a,o,e1,e2,h⟩:=S.mu l ow q
     calc⟨a,o,by rw[q0a hl];calc e1,X.keep a o e2 (λ⟨i,_,y,_⟩=>?_) (alive a ⟨l,ow,e1,q⟩).choose_spec.2,h.same X.same⟩;let⟨_,ko,k1,k2,k3⟩:=lL i a y;exact z ko (q0m.mpr ⟨i,k1⟩) (S.inj _ _ a _ _ k2 e1 k3 q)
    .let⟨a,o,e1,e2,h⟩:=T.mu _ _ (mn _ _ q)
     exact⟨a,o,by rw[q0i hl,q6q];calc e1,e2,h⟩
   .let⟨v,e1,h⟩:=S.sl i y e
    exact⟨v,e1,h.ext ex⟩
  calc⟨ex,sr,?_⟩;let i7:=P.res
  cases res with
  |p d=>exact i7
  |w a=>exact i7
  |u t fs=>exact i7
  |n ds =>
   let⟨c,us,rfl,n1,n2,n3,n4,n5⟩:=i7;calc⟨c,us,U,n1,n2,n3,n4,?_⟩;ext ⟨l,ow,e1,e2⟩;rcases q_ l ow c e1 e2 with⟨z,_⟩|⟨_,z1,z2⟩
   .let⟨o,y,_⟩:=alive c z
    rw[n1] at y;cases y
   .calc n5 ⟨_,_,z1,z2⟩
def ZI{xs vs}{r:-DV×-(Nat×OV)}{es G n Q E}{K:RK->-OV->-OV->Prop}(S:SR F ad δ σ H)(V:dm F ad xs vs)(hn:↑vs=n)(hp:passes δ.mu xs 0=Z r)(he:zO δ.mu es)(nd:lK (r.2++es)=θ)(g:G r.1 ((r.2++es).map (·.2)) K)
  (fin:∀res ows news v F' a5 H',K res ows news->Ext F ad δ.mu H F' a5 (dy δ.mu (r.2++es) ows++news.map Z) H'->SR F' a5 ⟨δ.sl,dy δ.mu (r.2++es) ows++news.map Z⟩ σ H'->vO F' H H' a5 (dy δ.mu (r.2++es) ows++news.map Z) v res->Q v H'):mM G n vs H Q E:=by
 let⟨as,_,S',l⟩:=ZF S V hp he nd;calc⟨hn,F,as,r.1,(r.2++es).map (·.2),K,S',g,λres ows news hk v F' a5 H' P=>let⟨a,b,c⟩:=l res ows news v F' a5 H' P;fin res ows news v F' _ H' hk a b c⟩
end
/---/def ah(δ:bh)(b_:-(Nat×OV))(K:DV->bh->Prop)(r:RK)(ows news:-OV):Prop:=match r with
 |.p d=>K (.p d) ⟨δ.sl,dy δ.mu b_ ows++news.map Z⟩
 |.w a=>K (.w a) ⟨δ.sl,dy δ.mu b_ ows++news.map Z⟩
 |.u t fs=>K (.u t fs) ⟨δ.sl,dy δ.mu b_ ows++news.map Z⟩
 |.n ds=>K (.p (.lst ds)) ⟨δ.sl,dy δ.mu b_ ows++news.map Z⟩
/---/def aK(δ:bh)(b_:-(Nat×OV))(K:DV->bh->Prop)(r:RK)(ows news:-OV):Prop:=match r with
 |.n ds=>K (.o ↑(dy δ.mu b_ ows++news.map Z)) ⟨δ.sl,dy δ.mu b_ ows++news.map Z++[Z (.lst ds)]⟩
 |_=>False
/---/def xg(o:Bool)(n:Nat)(G:GK)(xs:-DV)(δ:bh)(K:DV->bh->Prop):Prop:=∃es,zO δ.mu es/\match passes δ.mu xs 0 with
 |some r=>(lK (r.2++es)=θ/\↑r.1=n)/\G r.1 ((r.2++es).map (·.2)) (if o then aK δ (r.2++es) K else ah δ (r.2++es) K)
 |none=>False
section
variable{F F1 H H1:Hp}{ad br:-Y}{δ δ1:bh}{σ:St}{K:DV->bh->Prop}{Q:VK}{xs:-DV}{vs:-V}{n:Nat}{G:GK}{E:XK}{o:Bool}
def zP(kk:∀x δ',K x δ'->∀v F' a5 H',Ext F ad δ.mu H F' a5 δ'.mu H'->SR F' a5 δ' σ H'->eY F' a5 x v->Q v H')(h1:xg o n G xs δ1 K)(E1:Ext F ad δ.mu H F1 br δ1.mu H1)(S1:SR F1 br δ1 σ H1)(V1:dm F1 br xs vs):mM G n vs H1 Q E:=by
 let⟨es,he,h1⟩:=h1;split at h1
 .rename_i r hp
  let⟨⟨nd,hn⟩,h1⟩:=h1;refine ZI S1 V1 (by rw[↑V1,<-wG hp,hn]) hp he nd h1 λres ows news v F2 cR H2 hk E2 S2 d4=>?_
  cases o with
  |false =>
   cases res with
   |p d=>exact kk _ _ hk _ _ _ _ (E1.trans E2) S2 d4
   |w a=>exact kk _ _ hk _ _ _ _ (E1.trans E2) S2 d4
   |u t fs=>exact kk _ _ hk _ _ _ _ (E1.trans E2) S2 d4
   |n ds =>
    let⟨a,us,rfl,n1,n2,n3,n4,n5⟩:=d4;exact kk _ _ hk _ _ _ _ (E1.trans (E2.adopt  n1 n3)) (S2.adopt n3 n2 n5) ⟨a,us,U,cb,n4.same (cU n3)⟩
  |true =>
   cases res with
   |p d=>exact hk.elim
   |w a=>exact hk.elim
   |u t fs=>exact hk.elim
   |n ds =>
    let⟨a,us,rfl,n1,n2,n3,n4,n5⟩:=d4;calc kk _ _ hk _ _ _ _ (E1.trans (E2.dO  n1 S2.cQ)) (S2.dO n3 n2 n5 ⟨us,U,n4⟩) ⟨a,?_,U⟩;let:=S2.cQ;rw[<-this,q0i (Ln _),q1l];rfl
 .calc h1.elim
end
/---/def aG(o:Bool)(n:Nat)(G:GK)(fa:WA):WE:=fun δ K=>fa δ λxs δ1=>xg o n G xs δ1 K
/---/def aF(o:Bool)(C:Y)(m:L)(n:Nat)(G:GK)(fo:WE)(fa:WA):WE:=fun δ K=>fo δ λx δ1=>(∃(a:Y)(k:Nat)(fs:-(L×FV)),x=.w a/\δ1.mu[k]?=Z (Z (.ins a C fs))/\fs.lookup m=η)/\fa δ1 λxs δ2=>xg o n G (x::xs) δ2 K
/---/def aJ(C:Y)(n:Nat)(G:GK)(fa:WA):WE:=fun δ K=>fa δ λxs δ1=>∀a,xg ι n G (.w a::xs) ⟨δ1.sl,δ1.mu++[Z (.ins a C [])]⟩ λx δ2=>x=.p .non/\K (.w a) δ2
def dW.look{α}{R:α->V->Prop}{x:L}:∀{fs ws},dW R fs ws->(fs.lookup x=η/\ws.lookup x=η)\/∃f v,fs.lookup x=Z f/\ws.lookup x=Z v/\R f v
 |[],ws,h=>by subst h;exact .inl ⟨U,U⟩
 |(y,g)::r,ws,⟨v,t,e,h1,h2⟩=>by
  subst e;rw[q0E,q0E]
  cases q:x==y with
  |true=>exact .inr ⟨_,_,U,U,h1⟩
  |false=>calc dW.look h2
def lE.v{F ad v}:∀{f},lE F f v->eY F ad f.v v
 |.p _,h=>h
 |.w _,h=>h
meta def sA(f:L)(v:FV):-(L×FV)->-(L×FV)
 |[]=>[(f,v)]
 |(g,x)::r=>if g=f then(g,v)::r else(g,x)::sA f v r
def pK.put{F x g v}(hg:lE F g v):∀{fs ws},pK F fs ws->pK F (sA x g fs) (eE x v ws)
 |[],ws,h=>by subst h;exact⟨v,[],U,hg,U⟩
 |(y,f)::r,ws,⟨u,t,e,h1,h2⟩=>by
  subst e;unfold sA eE;split
  .exact⟨v,t,U,hg,h2⟩
  .calc⟨u,_,U,h1,pK.put hg h2⟩
/---/def af(C:Y)(x:L)(f:WE):WE:=fun δ K=>f δ λy δ1=>∃(a:Y)(k:Nat)(fs:-(L×FV))(v:FV),(y=.w a/\δ1.mu[k]?=Z (Z (.ins a C fs))/\fs.lookup x=Z v)/\K v.v δ1
meta def Hk:OV->Option Y
 |.al a _=>Z a
 |.ac a _=>Z a
 |.av a _=>Z a
 |_=>η
/---/def ag(f:WE):WE:=fun δ K=>f δ λy δ1=>∃(a:Y)(k:Nat)(ov:OV),(y=.w a/\δ1.mu[k]?=Z (Z ov)/\Hk ov=Z a)/\K (.o k) δ1
/---/def toF(x:DV)(δ:bh)(K:FV->bh->Prop):Prop:=match x with
 |.p d=>K (.p d) δ
 |.w a=>K (.w a) δ
 |.o k=>match δ.mu[k]? with
  |some (some (.lst ds))=>∀a,K (.w a) ⟨δ.sl,δ.mu.set k (Z (.al a ds))⟩
  |some (some (.dct kvs))=>∀a,K (.w a) ⟨δ.sl,δ.mu.set k (Z (.ac a kvs))⟩
  |_=>False
 |.u _ _=>False
 |.t _ _=>False
/---/def aI(C:Y)(x:L)(fv fo:WE):WS:=λK δ=>fv δ λz δ1=>fo δ1 λy δ2=>toF z δ2 λg δ3=>∃(a:Y)(k:Nat)(fs:-(L×FV)),(y=.w a/\δ3.mu[k]?=Z (Z (.ins a C fs))/\fs.length<1000)/\K.nx ⟨δ3.sl,δ3.mu.set k (Z (.ins a C (sA x g fs)))⟩
section
variable{F H:Hp}{ad:-Y}{δ:bh}{σ:St}
def OA{H a o}(h:H a=Z o):upd H a o=H:=by
 funext b
 by_cases c:b=a
 .subst c;rw[cb,h]
 .rw[bD c]
def BR{x v K}(S:SR F ad δ σ H)(V:eY F ad x v)(h:toF x δ K):∃f δ',K f δ'/\Ext F ad δ.mu H F ad δ'.mu H/\SR F ad δ' σ H/\lE F f v:=by
 cases x with
 |p d=>exact⟨_,_,h,.refl,S,V⟩
 |w a=>exact⟨_,_,h,.refl,S,V⟩
 |u _ _=>exact h.elim
 |t _ _=>exact h.elim
 |o k =>
  let⟨a,e1,rfl⟩:=V;unfold toF at h;dsimp only at h;split at h
  .rename_i ds e
   let⟨a',o,e2,e3,vs,rfl,h4⟩:=S.mu k _ e;rw[e1] at e2;cases e2;let oi:gz F a (.al a ds) (.lst vs):=⟨U,vs,U,h4⟩;let E:=Ext.put (ov:=.al a ds) (o:=.lst vs) S e e1;let T:=S.put e e1 oi;rw[OA e3] at E T;exact⟨_,_,h a,E,T,U⟩
  .rename_i ds e
   let⟨a',o,e2,e3,vs,rfl,h4⟩:=S.mu k _ e;rw[e1] at e2;cases e2;let oi:gz F a (.ac a ds) (.dK vs):=⟨U,vs,U,h4⟩;let E:=Ext.put (ov:=.ac a ds) (o:=.dK vs) S e e1;let T:=S.put e e1 oi;rw[OA e3] at E T;exact⟨_,_,h a,E,T,U⟩
  .calc h.elim
def BS{k:Nat}{a C fs}(S:SR F ad δ σ H)(h:δ.mu[k]?=Z (Z (.ins a C fs))):∃dx ws,ad[k]?=Z a/\H a=Z (.ins C dx ws)/\pK F fs ws:=by
 calc wd λsC=>?_;let⟨a',o,e1,e2,rfl,dx,ws,rfl,h4⟩:=S.mu k _ h;calc sC <| ⟨dx,ws,e1,e2,h4⟩
end
section
variable{X:Cx}{a b o v:υ}{f fo fv:WE}{fa:WA}{C:Y}{x m:L}{pos pos' apos p:Δ}{G:GK}{n k:Nat}{g:Y}{fd:FuncData}{ps:-L}{e:υ}{es:-υ}
def lQ(c:jO X.K C)(hx:dj X.K C x)(he:JE X a (tD f))(hb:‹attributeBase a x X.env (eval a X.env)=eval a X.env›):JE X (.Attribute a x pos) (tD (af C x f)) :=
 (Tu he hb).weak fun σ H Q ⟨F,ad,δ,K,S,q,k⟩=>⟨F,ad,δ,_,S,q,λy δ1 h1 u F1 br H1 E1 S1 V1=>by
  calc wd λsD=>?_;let⟨a,i,fs,w,⟨rfl,hi,hl⟩,h2⟩:=h1;let⟨dx,ws,e1,e2,e3⟩:=BS S1 hi;calc sD ?_;rcases e3.look  with⟨z,_⟩|⟨f,w',z1,z2,z3⟩
  .rw[z] at hl;cases hl
  .rw[z1] at hl;cases hl
   calc⟨a,C,dx,ws,w',V1,e2,c,hx,z2,k _ _ h2 _ _ _ _ E1 S1 z3.v⟩⟩
def mN(he:JE X a (tD f)):JE X a (tD (ag f)) :=
 he.weak fun σ H Q ⟨F,ad,δ,K,S,q,k⟩↦⟨F,ad,δ,_,S,q,λy δ1 h1 u F1 br H1 E1 S1 V1=>by
  let⟨a,i,ov,⟨rfl,hi,ht⟩,h2⟩:=h1;let⟨a',o,e1,e2,e3⟩:=S1.mu i ov hi
  let:=by
   cases ov with
   |al b ds=>cases ht;exact e3.1.symm
   |ac b ds=>cases ht;exact e3.1.symm
   |av b ds=>cases ht;exact e3.1.symm
   |lst _=>cases ht
   |dct _=>cases ht
   |dtt _=>cases ht
   |ins _ _ _=>cases ht
  subst this
  calc k _ _ h2 _ _ _ _ E1 S1 ⟨a',e1,V1⟩⟩
def vR[lH](c:jO X.K C)(hx:dj X.K C x)(ho:JE X o (tD fo))(hv:JE X v (tD fv))(hs:‹swapsWith v (Z (.Attribute o x pos')) pos.line X.env=pure ι›):JS X (.Assign [.Attribute o x pos'] v pos) (eJ (aI C x fv fo)) :=
 (Tv ho hv hs).weak λD σ H ⟨F,ad,δ,K,S,q,k⟩=>⟨F,ad,δ,_,S,q,λz δ1 h1 u F1 br H1 E1 S1 V1=>⟨F1,br,δ1,_,S1,h1,λy δ2 h2 w F2 cR H2 E2 S2 V2=>by
  calc wd λsE=>?_;let⟨g,δ3,h3,E3,S3,ig⟩:=BR S2 (V1.ext E2) h2;let⟨a,i,fs,⟨rfl,hi,hl⟩,h4⟩:=h3;let⟨dx,ws,e1,e2,e3⟩:=BS S3 hi
  calc sE <| ⟨a,C,dx,ws,V2,e2,c,hx,by rw[↑e3];calc hl,k.nx _ h4 _ _ _ _ (((E1.trans E2).trans E3).trans (Ext.put S3 hi e1)) (S3.put hi e1 ⟨U,dx,_,U,pK.put ig e3⟩)⟩⟩⟩
def ZJ o (Fn:cB X.prog X.w X.K X.mg X.base f_ k g fd ps (mM G n)) (hr:bA k X.A) (hg:Gl X x) (hm:X.mg x=Z (.ref g)) (hk:q1q X.K (.ref g)=θ) (hb:Binds X.K fd ps [])
  (ha:JA X (e::es) (cK fa)) (eF: ~~~(cm x)) (he:‹di X e es›) (eu:‹dM X pos es›) :
  JE X (.Call (.Name x p) (e::es) [] pos) (tD (aG o n G fa)):=(x5 Fn hr hg hm hk hb .nil qF ha eF he eu).weak fun σ H Q ⟨F,ad,δ,K,S,q,kk⟩↦⟨F,ad,δ,_,S,q,λxs δ1 h1 vs F1 br H1 E1 S1 V1=>by
   rw[qE];calc zP kk h1 E1 S1 V1⟩
def ZK{r E}:∀σ H Q,tD (aF r C m n G fo fa) σ H Q->DJ C m (mM G n) [] E (tD fo) (cK fa) σ H Q:=fun σ H Q ⟨F,ad,δ,K,S,q,kk⟩=>⟨F,ad,δ,_,S,q,λy δ1 h1 u F1 br H1 E1 S1 V1=>by
  calc wd λsF=>?_;let⟨⟨a,i,fs,rfl,hi,hl⟩,h2⟩:=h1;let⟨dx,ws,e1,e2,e3⟩:=BS S1 hi;calc sF ?_;rcases e3.look  with⟨_,z⟩|⟨f,w',z1,z2,z3⟩
  .refine⟨a,dx,ws,V1,e2,z,F1,br,δ1,_,S1,h2,λxs δ2 h3 vs F2 cR H2 E2 S2 V2=>?_⟩
   rw[qE];exact zP kk h3 (E1.trans E2) S2 ⟨_,_,U,V1.ext E2,V2⟩
  .rw[z1] at hl;cases hl⟩
def ZL {pl} r (c:jO X.K C) (hm:Meth X.K C m g) (Fn:cB X.prog X.w X.K X.mg X.base f_ k g fd ps (mM G n)) (hr:bA k X.A) (hb:Binds X.K fd ps []) (ho:JE X o (tD fo)) (ha:JA X (e :: es) (cK fa))
  (kC:‹di X e es›) (eu:‹dM X pos es›)
  (ht:‹eval (.Call (.Attribute o m apos) (e :: es) [] pos) X.env=(do
   let ov <- eval o X.env
   standAt apos.atName
   let (f,first) <- holding [ov] (getMethod ov m pl)
   callWith pos f first (backTo pos (starEach (e :: es) X.env)) (backToKw pos (keywordEach [] X.env)))›) :
  JE X (.Call (.Attribute o m apos) (e :: es) [] pos) (tD (aF r C m n G fo fa)):=(TF ho c hm Fn hr hb .nil qF ha kC eu ht).weak ZK
def ZM {pl:Sem Bool} (r:Bool) (c:jO X.K C) (hm:Meth X.K C m g) (Fn:cB X.prog X.w X.K X.mg X.base f_ k g fd ps (mM G n)) (hr:bA k X.A) (hb:Binds X.K fd ps []) (ho:JE X o (tD fo))
  (ht:‹eval (.Call (.Attribute o m apos) [] [] pos) X.env=(do
   let ov <- eval o X.env
   standAt apos.atName
   let (f,first) <- holding [ov] (getMethod ov m pl)
   callWith pos f first (backTo pos (starEach [] X.env)) (backToKw pos (keywordEach [] X.env)))›) :
  JE X (.Call (.Attribute o m apos) [] [] pos) (tD (aF r C m n G fo ai)):=(TH ho c hm Fn hr hb .nil qF ht).weak fun σ H Q ⟨F,ad,δ,K,S,q,kk⟩=>⟨F,ad,δ,_,S,q,λy δ1 h1 u F1 br H1 E1 S1 V1=>by
  calc wd λsG => ?_;let⟨⟨a,i,fs,rfl,hi,hl⟩,h2⟩:=h1;let⟨dx,ws,e1,e2,e3⟩:=BS S1 hi;calc sG ?_;rcases e3.look  with⟨_,z⟩ | ⟨f,w',z1,z2,z3⟩
  .exact⟨a,dx,ws,V1,e2,z,zP (xs:=[.w a])  kk (h2) E1 S1 ⟨_,_,U,V1,U⟩⟩
  .rw[z1] at hl;cases hl⟩
def ZN{F H F1 H1:Hp}{ad br:-Y}{δ δ1:bh}{σ:St}{K:DV->bh->Prop}{Q:VK}{E:XK}{xs:-DV}{vs:-V}(kk:∀x δ',K x δ'->∀v F' a5 H',Ext F ad δ.mu H F' a5 δ'.mu H'->SR F' a5 δ' σ H'->eY F' a5 x v->Q v H')
  (h1:∀a,xg ι n G (.w a::xs) ⟨δ1.sl,δ1.mu++[Z (.ins a C [])]⟩ λx δ2=>x=.p .non/\K (.w a) δ2) (E1:Ext F ad δ.mu H F1 br δ1.mu H1) (S1:SR F1 br δ1 σ H1) (V1:dm F1 br xs vs) {x dx:Y} (nx:H1 x=η) (BU:H1 dx=η) (ne:dx≠x) :
  mM G n (.ref x::vs) (upd (upd H1 dx (.own x)) x (.ins C dx [])) (λv H2=>v=.non/\Q (.ref x) H2) E:=by
 let S2:=S1.al (cU (o:=.own x) BU);let E2:=Ext.al S1 (cU (o:=.own x) BU);let OB:upd H1 dx (.own x) x=η:=by rw[bD λz=>ne z.symm];exact nx
 let E3:=Ext.own (o:=.ins C dx []) (ov:=.ins x C []) S2 OB;calc zP  (λy δ' h v F' a5 H' X T V=>?_) (h1 x) ((E1.trans E2).trans E3) (S2.own OB ⟨U,dx,[],U,U⟩) ⟨_,_,U,U,(V1.ext E2).ext E3⟩;let⟨rfl,h⟩:=h;calc⟨V,kk _ _ h _ _ _ _ X T U⟩
def ZO(M:Mk X.K C g)(Fn:cB X.prog X.w X.K X.mg X.base f_ k g fd ps (mM G n))(hr:bA (k+1) X.A)(hg:Gl X x)(hm:X.mg x=Z (.ref C))(hb:Binds X.K fd ps [])
  (ha:JA X (e::es) (cK fa)) (eF: ~~~(cm x)) (he:‹di X e es›) (eu:‹dM X pos es›) :
  JE X (.Call (.Name x p) (e::es) [] pos) (tD (aJ C n G fa)):=(TK M Fn hr hg hm hb .nil qF ha eF he eu).weak fun σ H Q ⟨F,ad,δ,K,S,q,kk⟩↦⟨F,ad,δ,_,S,q,λxs δ1 h1 vs F1 br H1 E1 S1 V1 x dx nx BU ne=>by
   rw[qE];calc ZN kk h1 E1 S1 V1 nx BU ne⟩
end
end
section
section
variable{X:Cx}{pins b9:a9}{σ:St}{H:Hp}{s:ο}{E:bz}
def Inv.zQ(I:Inv X pins σ H s):Inv {X with pn:=X.pn++pins,xe:=E} [] σ H s :=
 ⟨⟨I.ok.mod,I.ok.kind,I.ok.glob,I.ok.blt,I.ok.above,I.ok.inj,I.ok.has,I.ok.nP,I.ok.hd,I.ok.frames,I.ok.v3,I.ok.Ai,I.ok.bs,I.ok.nQ,I.ok.jJ,I.ok.lV,I.ok.fu,I.ok.pD⟩,I.os,I.bare,I.base,I.loc,I.cell,I.free,I.c9,λp hp=>I.pin p hp⁻¹,I.bu,I.len⟩
def Inv.lR(I:Inv {X with pn:=X.pn++pins,xe:=E} b9 σ H s):Inv X pins σ H s :=
 ⟨⟨I.ok.mod,I.ok.kind,I.ok.glob,I.ok.blt,I.ok.above,I.ok.inj,I.ok.has,I.ok.nP,I.ok.hd,I.ok.frames,I.ok.v3,I.ok.Ai,I.ok.bs,I.ok.nQ,I.ok.jJ,I.ok.lV,I.ok.fu,I.ok.pD⟩,I.os,I.bare,I.base,I.loc,I.cell,I.free,I.c9,λp hp=>I.pin p (q0U _ hp),I.bu,I.len⟩
end
variable[zt:ba]
section
variable{X:Cx}{body:-χ}{h0:ExceptHandler}{hs:-ExceptHandler}{pos:Δ}
def ZP{t}(hb:∀pn,eQ {X with pn:=pn,xe:=λ_ _=>False} body t):JS X (.Try body (h0::hs) [] [] pos) t:=by
 refine⟨λpins s σ H D I h=>wpAny_Try_except (q1C (hb (X.pn++pins) [] s σ H D I.zQ h) (λf s1 hq=>?_) (λe s1 z=>z.elim))⟩
 cases f with
 |next =>
  let⟨σ',H',I',q⟩:=hq;exact q32 ⟨σ',H',I'.lR,q⟩
 |brk=>let⟨σ',H',I',q⟩:=hq;exact⟨σ',H',I'.lR,q⟩
 |cont=>let⟨σ',H',I',q⟩:=hq;exact⟨σ',H',I'.lR,q⟩
 |ret u=>let⟨v,σ',H',I',r,q⟩:=hq;calc⟨v,σ',H',I'.lR,r,q⟩
def ZQ[lH]{G}(hb:∀pn,eQ {X with pn:=pn,xe:=λ_ _=>False} body (eJ G)):JS X (.Try body (h0::hs) [] [] pos) (eJ G):=ZP hb
end
meta def mO{α:Type}(kvs:-(Key×α))(k:Key):-(Key×α):=kvs.filter λkv=>I (kv.1≠k)
omit [ba] in
def dW.drop {α:Type} {R:α->V->Prop} (k:Key):∀{gP:-(Key×α)}{ws:-(Key×V)},dW R gP ws->dW R (mO gP k) (u5 ws k)
 |[],_,h=>by let h:_=[]:=h;subst h;rfl
 |kd::r,_,⟨v,t,e,h1,h2⟩=>by
  subst e;unfold mO u5;rw[q1r,q1r];split
  .exact⟨v,_,U,h1,h2.drop k⟩
  .calc h2.drop k
/---/def aS(fo fi:WE):WE:=fun δ K=>fo δ λx δ1=>ak x δ1 λ_ _ _=>fi δ1 λy δ2=>aq y λi=>ak x δ2 λk B kvs=>match cE kvs (.inl i) with
 |some d=>K (.p d) ⟨δ2.sl,δ2.mu.set k (Z (B (mO kvs (.inl i))))⟩
 |none=>False
/---/def aj(x:L)(f:WE):WE:=fun δ K=>f δ λy δ1=>∃(a:Y)(k:Nat)(kvs:-(Key×FV))(v:FV),(y=.w a/\δ1.mu[k]?=Z (Z (.av a kvs))/\cE kvs (.inr x)=Z v)/\K v.v δ1
/---/def aP(x:L)(fv fo:WE):WS:=λK δ=>fv δ λz δ1=>fo δ1 λy δ2=>toF z δ2 λg δ3=>∃(a:Y)(k:Nat)(kvs:-(Key×FV)),(y=.w a/\δ3.mu[k]?=Z (Z (.av a kvs))/\↑kvs<1000)/\K.nx ⟨δ3.sl,δ3.mu.set k (Z (.av a (putD kvs (.inr x) g)))⟩
/---/def aR:-(L×WE)->bh->(-(Key×FV)->bh->Prop)->Prop
 |[],δ,K=>K [] δ
 |(x,f)::r,δ,K=>f δ λy δ1=>toF y δ1 λg δ2=>aR r δ2 λkvs δ3=>K ((.inr x,g)::kvs) δ3
/---/def aU(es:-(L×WE)):WE:=fun δ K=>aR es ⟨δ.sl,δ.mu++[Z (.dct [])]⟩ λkvs δ1=>(δ1.mu[↑δ.mu]?=Z (Z (.dct []))/\↑kvs<=15)/\∀a,K (.w a) ⟨δ1.sl,δ1.mu.set ↑δ.mu (Z (.av a (kvs.foldl (λacc kv=>putD acc kv.1 kv.2) [])))⟩
section
variable{F H:Hp}{ad:-Y}{δ:bh}{σ:St}
def OD{k:Nat}{a kvs}(S:SR F ad δ σ H)(h:δ.mu[k]?=Z (Z (.av a kvs))):∃ws,ad[k]?=Z a/\H a=Z (.dK ws)/\pK F kvs ws:=by
 calc wd λsH=>?_;let⟨a',o,e1,e2,rfl,ws,rfl,h4⟩:=S.mu k _ h;calc sH <| ⟨ws,e1,e2,h4⟩
variable{X:Cx}{o i e v:υ}{fo fi fv f:WE}{pos apos:Δ}{x:L}
def ZR(ho:JE X o (tD fo))(hi:JE X i (tD fi))(m:M1 X o "pop" apos i pos:=by calc⟨U,U,U,U⟩):JE X (.Call (.Attribute o "pop" apos) [i] [] pos) (tD (aS fo fi)) :=
 (U7 ho hi m).weak fun σ H Q ⟨F,ad,δ,K,S,q,k⟩=>⟨F,ad,δ,_,S,q,λx δ1 h1 v F1 br H1 E1 S1 V1=>by
  calc wd λsI=>?_;let⟨k0,B,kvs,a,ws,rfl,h2,rfl,e1,e2,i1,m1,tY⟩:=zy S1 V1 h1;calc sI <| ⟨a,U,.inl ⟨ws,.inl e2⟩,F1,br,δ1,_,S1,h2,λy δ2 h3 u F2 cR H2 E2 S2 V2=>?_⟩;calc wd λsJ=>?_;let⟨i,rfl,h4⟩:=Gx V2 h3;let⟨k1,B',ZS,b,ZT,ek,h5,eb,f1,f2,j1,n1,ZU⟩:=zy S2 (V1.ext E2) h4;calc sJ ?_;cases eb
  rcases j1.val (.inl i) with⟨z1,z2⟩|⟨d,v,z1,z2,z3⟩
  .rw[z1] at h5;exact h5.elim
  .rw[z1] at h5
   calc⟨ZT,.inl i,v,f2,U,z2,k _ _ h5 _ _ _ _ ((E1.trans E2).trans (Ext.put S2 n1 f1)) (S2.put n1 f1 (ZU   (j1.drop (.inl i)))) z3⟩⟩
def kq{jj p2}(hu:X.A.units+64<cLine)(ho:JE X o (tD fo))(hs:u7 (.Constant (.str x) jj p2):=by ext _ _;rfl):JE X (.Subscript o (.Constant (.str x) jj p2) pos) (tD (aj x fo)) :=
 (UY ⋯ ho Aj hs).weak fun σ H Q ⟨F,ad,δ,K,S,q,k⟩↦⟨F,ad,δ,_,S,q,λy δ1 h1 v F1 br H1 E1 S1 V1=>by
  let⟨a,i,kvs,w,⟨rfl,hi,hl⟩,h2⟩:=h1;let⟨ws,e1,e2,e3⟩:=OD S1 hi;rcases e3.val (.inr x) with⟨z,_⟩|⟨f,w',z1,z2,z3⟩
  .rw[z] at hl;cases hl
  .rw[z1] at hl;cases hl
   calc⟨a,w',V1,by rw[<-z2];calc gH.k (k:=q5T x) e2,k _ _ h2 _ _ _ _ E1 S1 z3.v⟩⟩
def Hl[lH]{jj p2 pos'}(hu:X.A.units+64<cLine)(ho:JE X o (tD fo))(hv:JE X v (tD fv))(hs:‹swapsWith v (Z (.Subscript o (.Constant (.str x) jj p2) pos')) pos.line X.env=pure ι›):JS X (.Assign [.Subscript o (.Constant (.str x) jj p2) pos'] v pos) (eJ (aP x fv fo)) :=
 (LN ⋯ ho Aj hv hs).weak λD σ H ⟨F,ad,δ,K,S,q,k⟩=>⟨F,ad,δ,_,S,q,λz δ1 h1 u F1 br H1 E1 S1 V1=>⟨F1,br,δ1,_,S1,h1,λy δ2 h2 w F2 cR H2 E2 S2 V2=>by
  calc wd λsL=>?_;let⟨g,δ3,h3,E3,S3,ig⟩:=BR S2 (V1.ext E2) h2;let⟨a,i,kvs,⟨rfl,hi,hl⟩,h4⟩:=h3;let⟨ws,e1,e2,e3⟩:=OD S3 hi
  calc sL <| ⟨a,_,V2,l6.k (k:=q5T x) e2 (mW (by rw[↑e3];calc q1e hl)),k.nx _ h4 _ _ _ _ (((E1.trans E2).trans E3).trans (Ext.put S3 hi e1)) (S3.put hi e1 ⟨U,_,U,dW.put e3 ig⟩)⟩⟩⟩
structure BV(X:Cx)(pos:Δ)(keys:-(Option υ))(values:-υ)(es:-(L×WE)):Prop where
 jU:∃jU,yy X pos keys values jU/\∀σ H (Q:-(V×V)->Hp->Prop) F ad δ K,SR F ad δ σ H->aR es δ K →
  (∀kvs δ',K kvs δ'->∀ws F' a5 H',Ext F ad δ.mu H F' a5 δ'.mu H'->SR F' a5 δ' σ H'->pK F' kvs ws->Q (ws.map λkv=>(kV kv.1,kv.2)) H')->AG jU σ H Q
def ZV{pos}:BV X pos [] [] []:=⟨[],U1,fun σ H Q F ad δ K S q k=>k _ _ q [] _ _ _ .refl S U⟩
def BW{jj p2 ks vs es}(hv:JE X v (tD f))(hr:BV X pos ks vs es):BV X pos (Z (.Constant (.str x) jj p2)::ks) (v::vs) ((x,f)::es):=by
 let⟨jU,h1,h2⟩:=hr.jU;calc⟨_,U2 Aj hv h1,fun σ H Q F ad δ K S q k=>⟨F,ad,δ,_,S,q,λy δ1 g1 u F1 br H1 E1 S1 V1=>?_⟩⟩;let⟨g,δ2,g2,E2,S2,ig⟩:=BR S1 V1 g1;exact h2 σ H1 _ _ _ δ2 _ S2 g2 λkvs δ3 g3 ws F3 vj H3 E3 S3 i3=>k _ _ g3 ((.inr x,u)::ws) _ _ _ ((E1.trans E2).trans E3) S3 ⟨u,ws,U,lE.same E3.same _ _ ig,i3⟩
omit [ba] in
def dW.merge {α:Type} {R:α->V->Prop}:∀{more:-(Key×α)}{rs:-(Key×V)}{kvs:-(Key×α)}{ws:-(Key×V)},dW R more rs->dW R kvs ws->dW R (more.foldl (λacc kv=>putD acc kv.1 kv.2) kvs) (wo ws rs)
 |[],_,_,_,h,q=>by let h:_=[]:=h;subst h;exact q
 |kd::r,_,kvs,ws,⟨v,t,e,h1,h2⟩,q=>by
  subst e;let:=dW.merge (more:=r) (rs:=t) (kvs:=putD kvs kd.1 kd.2) (ws:=putK ws kd.1 v) h2 (dW.put q h1);calc this
def ZW{keys values es}(h:BV X pos keys values es)(jH:‹keys.all (·.isSome)=θ›)(hl:‹↑keys=↑values›)(h0:keys≠[]:=by simp)(Er:↑keys<=15:=by simp):JE X (.Dict keys values pos) (tD (aU es)):=by
 let⟨jU,h1,h2⟩:=h.jU;calc(U4 h1 jH hl h0 Er).weak fun σ H Q ⟨F,ad,δ,K,S,q,k⟩ p hp=>?_;let oi:gz F p (.dct []) (.dK []):=⟨[],U,U⟩;let lp:(ad++[p])[↑δ.mu]?=Z p:=by rw[<-S.cQ,q0i (Ln _),q1l];rfl
 calc h2 σ _ _ F (ad++[p]) _ _ (S.own hp oi) q ?_;ext kvs δ1 ⟨⟨g1,g2⟩,g3⟩ ws F1 br H1 E1 S1 i1;let a1:=E1.pre _ _ lp;calc wd λsM=>?_;let⟨p',o,e1,e2,us,rfl,e4⟩:=S1.mu _ _ g1;calc sM ?_;rw[a1] at e1;cases e1;subst e4;calc⟨e2,ws,U,by rw[↑i1];calc g2,k _ _ (g3 p) _ _ _ _ (((Ext.own S hp).trans E1).trans (Ext.put S1 g1 a1)) (S1.put g1 a1 ⟨U,_,U,i1.merge (U)⟩) U⟩
end
end
end L2
namespace LJ
open PySem L2
variable[zt:ba]
meta def p_(x:Option Int×Int):D:=.tup [.int x.2,oD x.1]
meta def cF:Nat->-gj->-(Key×D)
 |_,[]=>[]
 |i,none::r=>cF (i+1) r
 |i,some x::r=>(.inl (i:Int),p_ x)::cF (i+1) r
def Hm:∀{i:Nat}{q:-gj},cF i (q++[η])=cF i q
 |i,[]=>U
 |i,none::r=>Hm (i:=i+1) (q:=r)
 |i,some x::r=>congrArg (_ :: ·) (Hm (i:=i+1) (q:=r))
def Hn{x:Option Int×Int}:∀{i:Nat}{q:-gj},cF i (q++[Z x])=cF i q++[(.inl ((i+↑q:Nat):Int),p_ x)]
 |i,[]=>U
 |i,none::r=>by
  let:=Hn (x:=x) (i:=i+1) (q:=r);rw[show i+1+↑r=i+↑(η::r:-gj) by rw[Uh];symm] at this;exact this
 |i,some y::r=>by
  let:=Hn (x:=x) (i:=i+1) (q:=r);rw[show i+1+↑r=i+↑(Z y::r:-gj) by rw[Uh];symm] at this;calc congrArg (_ :: ·) this
def zR:∀{i:Nat}{q:-gj}{kv:Key×D},kv∈cF i q->∃j:Nat,kv.1=.inl (j:Int)/\i<=j/\j<i+↑q
 |i,[],kv,h=>nomatch h
 |i,none::r,kv,h=>by
  let⟨j,e,h1,h2⟩:=zR (i:=i+1) (q:=r) h;exact⟨j,e,⋯,by rw[Uh];symm⟩
 |i,some x::r,kv,h=>by
  rcases q0c.mp h with rfl|h
  .exact⟨i,U,Ln _,by rw[Uh];symm⟩
  .let⟨j,e,h1,h2⟩:=zR (i:=i+1) (q:=r) h
   calc⟨j,e,⋯,by rw[Uh];symm⟩
def ZX{q:-gj}{x:Option Int×Int}:putD (cF 0 q) (.inl (↑q:Int)) (p_ x)=cF 0 (q++[Z x]):=by
 unfold putD;rw[q0l ?_,Hn,q0D];ext h;let⟨kv,h1,h2⟩:=q3P.mp h;let⟨j,e,_,h3⟩:=zR h1;rw[e] at h2;let:=q22 (q00 h2);symm
def Ho:∀{i:Nat}{q:-gj},↑(cF i q)<=↑q
 |i,[]=>Ln _
 |i,none::r=>q6X (Ho (i:=i+1) (q:=r))
 |i,some x::r=>q3O (Ho (i:=i+1) (q:=r))
def Hq{x:Option Int×Int}:∀{i j:Nat}{q:-gj},q[j]?=Z (Z x)->cE (cF i q) (.inl ((i+j:Nat):Int))=Z (p_ x)
 |i,j,[],h=>by simp at h
 |i,0,none::r,h=>by simp at h
 |i,0,some y::r,h=>by
  cases(show Z y=Z x by simpa using h)
  unfold cE cF;rw[q3C (by calc q0g U)];rfl
 |i,j+1,none::r,h=>by
  let:=Hq (x:=x) (i:=i+1) (j:=j) (q:=r) h⁻¹;rw[show i+1+j=i+(j+1) by symm] at this;exact this
 |i,j+1,some y::r,h=>by
  let:=Hq (x:=x) (i:=i+1) (j:=j) (q:=r) h⁻¹;rw[show i+1+j=i+(j+1) by symm] at this;unfold cE cF;rw[q3D]
  .exact this
  .ext z
   let:=q22 (q00 z);symm
def OE{kvs:-(Key×D)}{k:Key}(h:∀kv∈kvs,kv.1≠k):mO kvs k=kvs:=by
 unfold mO;calc q4b.mpr λkv hk=>q0g (h kv hk)
def Hr:∀{i j:Nat}{q:-gj},mO (cF i q) (.inl ((i+j:Nat):Int))=cF i (q.set j η)
 |i,j,[]=>U
 |i,0,none::r=>by
  show mO (cF (i+1) r) _=cF (i+1) r;calc OE λkv hk e=>?_;let⟨l,e1,h1,_⟩:=zR hk;rw[e1] at e;let:=q22 e;symm
 |i,0,some y::r=>by
  show mO ((.inl (i:Int),p_ y)::cF (i+1) r) _=cF (i+1) r
  let e:mO (cF (i+1) r) (.inl ((i+0:Nat):Int))=cF (i+1) r:=OE λkv hk e=>by
   let⟨l,e1,h1,_⟩:=zR hk;rw[e1] at e;let:=q22 e;symm
  unfold mO at e ⊢;rw[q2j,e];ext z;exact q00 z U
 |i,j+1,none::r=>by
  let:=Hr (i:=i+1) (j:=j) (q:=r);rw[show i+1+j=i+(j+1) by symm] at this;exact this
 |i,j+1,some y::r=>by
  let:=Hr (i:=i+1) (j:=j) (q:=r);rw[show i+1+j=i+(j+1) by symm] at this;show mO ((.inl (i:Int),p_ y)::cF (i+1) r) _=(.inl (i:Int),p_ y)::cF (i+1) (r.set j η);unfold mO at this ⊢;rw[q2i,this];calc q0g λz=>?_;let:=q22 z;symm
meta def pe(ws:-Wy)(g:-Int)(one:Int):-Int:=(bB ↑ws).filter λn=>(I (one=(aB ws n).1)||I (one=(aB ws n).2.1))&&I (n∉g)
meta def j7(ws:-Wy)(g l:-Int):-Int:=l.flatMap (pe ws g)
def gr{ws:-Wy}{g l:-Int}{n:Int}:n∈j7 ws g l↔((0<=n/\n<(↑ws:Int))/\n∉g)/\((aB ws n).1∈l\/(aB ws n).2.1∈l):=by
 unfold j7 pe;rw[q7a]
 constructor
 .ext ⟨one,h1,h2⟩
  rw[q0x,bC,q04,q34,q0u,q0u,q0u] at h2;let⟨h2,h3,h4⟩:=h2;calc⟨⟨h2,h4⟩,?_⟩;rcases h3 with rfl|rfl
  .exact .inl h1
  .exact .inr h1
 .ext ⟨⟨h1,h2⟩,h3⟩
  rcases h3 with h|h
  .refine⟨_,h,?_⟩
   rw[q0x,bC,q04,q34,q0u,q0u,q0u];exact⟨h1,.inl U,h2⟩
  .refine⟨_,h,?_⟩
   rw[q0x,bC,q04,q34,q0u,q0u,q0u];calc⟨h1,.inr U,h2⟩
section
variable{m:Int}{ws:-Wy}{N:Nt}{h:Int}
def ZY(W:aH m ws)(O:dh m ws N):(gB (j7 ws (N.p++N.k) (a6 m ws N.p h))).filter (λn=>eS (a6 m ws N.p h) (aB ws n))=eM ws (a6 m ws N.p h):=by
 calc nA ((ug _).filter _) (ZA _ _) λn=>?_;rw[q0x,bt,gr,eU]
 constructor
 .ext ⟨⟨⟨h1,_⟩,_⟩,h2⟩;exact⟨h1,h2⟩
 .ext ⟨h1,h2⟩
  let no:∀z:(aB ws n).1∈a6 m ws N.p h↔(aB ws n).2.1∈a6 m ws N.p h,False:=λz=>by rw[Hf z] at h2;cases h2
  refine⟨⟨⟨h1,λz=>?_⟩,?_⟩,h2⟩
  .rcases q0w.mp z with z|z
   .exact no (He W h1 (Hd z))
   .exact no (He W h1 (O.ip n z))
  .by_cases c:(aB ws n).1∈a6 m ws N.p h
   .exact .inl c
   .by_cases d:(aB ws n).2.1∈a6 m ws N.p h
    .exact .inr d
    .calc (no ⟨λz=>absurd z c,λz=>absurd z d⟩).elim
def ZZ(W:aH m ws)(O:dh m ws N){os:-Int}(pm:os.Perm (eM ws (a6 m ws N.p h))):sortI (N.k++(gB (j7 ws (N.p++N.k) (a6 m ws N.p h))).filter λn=>I (n∉os))=vL m ws N.p N.k h:=by
 let mf:∀n,n∈(gB (j7 ws (N.p++N.k) (a6 m ws N.p h))).filter (λn=>I (n∉os))↔((0<=n/\n<(↑ws:Int))/\n∉N.p++N.k)/\((aB ws n).1∈a6 m ws N.p h/\(aB ws n).2.1∈a6 m ws N.p h):=λn=>by
  rw[q0x,bt,gr,q0u,pm.mem_iff,eU]
  constructor
  .ext ⟨⟨h1,h2⟩,h3⟩
   refine⟨h1,?_⟩
   let:eS (a6 m ws N.p h) (aB ws n)=ι:=by
    cases q:eS (a6 m ws N.p h) (aB ws n) with
    |false=>rfl
    |true=>exact absurd ⟨h1.1,q⟩ h3
   let z:=Ou this;rcases h2 with h2|h2
   .exact⟨h2,z.mp h2⟩
   .exact⟨z.mpr h2,h2⟩
  .ext ⟨h1,h2,h3⟩
   exact⟨⟨h1,.inl h2⟩,λz=>by rw[Hf ⟨λ_=>h3,λ_=>h2⟩] at z;cases z.2⟩
 let nd:(N.k++(gB (j7 ws (N.p++N.k) (a6 m ws N.p h))).filter λn=>I (n∉os)).Nodup:=by
  calc q1k.mpr ⟨O.ku.nd,Up.nd ((ug _).filter _),λa ha b hb e=>?_⟩;subst e;exact((mf a).mp hb).1.2 (q0n _ ha)
 unfold vL;calc nA (zJ nd) (ug _) λn=>?_;rw[(sortI_perm _).mem_iff,bt,q0w,q0w,mf n,eN]
 constructor
 .ext (z|⟨⟨h1,h2⟩,h3,h4⟩)
  .exact .inl z
  .exact .inr ⟨⟨h1,h3,h4⟩,λz=>h2 (q0U _ z)⟩
 .ext (z|⟨⟨h1,h3,h4⟩,h2⟩)
  .exact .inl z
  .by_cases c:n∈N.k
   .exact .inl c
   .calc .inr ⟨⟨h1,λz=>(q0w.mp z).elim h2 c⟩,h3,h4⟩
def Z0(W:aH m ws){l os:-Int}(p:os.Perm (eM ws l))(up:(os.map (d8 ws)).Pairwise kle):os.head?=h9 ws l:=by
 unfold h9
 cases os with
 |nil=>rw[List.nil_perm.mp p,q0r U];rfl
 |cons a r =>
  let ne:eM ws l≠[]:=λz=>by rw[z] at p;exact absurd p.length_eq (by simp)
  rw[q0l ne];rw[q0C,q05] at up;let:=Oc W BK (p.mem_iff.mp q0d) λe he=>(q0c.mp (p.mem_iff.mpr he)).elim (λz=>by rw[z];calc kle_refl _) λz=>up.1 _ (q2n z);rw[this];rfl
def Hs{α:Type}(p q:α->Bool):∀l:-α,↑(l.filter λx=>p x||q x)+↑(l.filter λx=>p x&&q x)=↑(l.filter p)+↑(l.filter q)
 |[]=>U
 |a::r=>by
  let ih:=Hs p q r;rw[q1r,q1r,q1r,q1r];cases hp:p a<;>cases hq:q a<;>simp<;>symm
def Ht{α:Type}(p:α->Bool)(l:-α)(h:∀x∈l,p x=ι):↑(l.filter p)=0:=by
 rw[q1h,q2o];calcλx hx z=>by rw[h x hx] at z;cases z
def Hu(f:Int->Int)(us:-Int):∀{l:-Int},l.Nodup->(l.map λa=>↑(us.filter λn=>I (a=f n))).sum=↑(us.filter λn=>I (f n∈l))
 |[],_=>by
  rw[q19,List.sum_nil];exact(Ht _ _ λx _=>by simp).symm
 |a::r,nd=>by
  let⟨h1,h2⟩:=q2k.mp nd;rw[q0C,q8R,Hu f us h2];let:=Hs (λn=>I (a=f n)) (λn=>I (f n∈r)) us
  rw[Ht (λn=>I (a=f n)&&I (f n∈r)) us (λx _=>by
   by_cases c:a=f x
   .rw[q0g c,Ul (by rw[<-c];calc h1)];rfl
   .rw[Ul c];rfl)] at this
  rw[q9F] at this;rw[<-this];congr 2;funext n;rw[<-Bool.decide_or];congr 1;rw[q0c,@eq_comm _ a (f n)]
def Z1(W:aH m ws)(p k l:-Int)(nd:l.Nodup):↑(j7 ws (p++k) l)=↑(pb ws (fB ws p k) l):=by
 let e1:∀a,↑(pe ws (p++k) a)=↑((fB ws p k).filter λn=>I (a=(aB ws n).1))+↑((fB ws p k).filter λn=>I (a=(aB ws n).2.1)):=λa=>by
  let:=Hs (λn=>I (a=(aB ws n).1)) (λn=>I (a=(aB ws n).2.1)) (fB ws p k);rw[Ht (λn=>I (a=(aB ws n).1)&&I (a=(aB ws n).2.1)) _ (λx hx=>?_)] at this
  .rw[<-this,q9F]
   unfold pe fB;rw[List.filter_filter]
  .let hx:=wY (q0x.mp hx).1
   let⟨y,ey,_,_,i,j,e1,e2,_,_,lt⟩:=nv W hx.1 hx.2;let ew:aB ws x=y:=ey;rw[ew,e1,e2]
   by_cases c:a=i
   .rw[q0g c,Ul ⋯];rfl
   .rw[Ul c];rfl
 unfold j7 pb o_;rw[List.length_flatMap,q2x,Lo,q1I,q1I,ye,ye];let c1:=Hu (λn=>(aB ws n).1) (fB ws p k) nd;let c2:=Hu (λn=>(aB ws n).2.1) (fB ws p k) nd
 let sp:∀l:-Int,(l.map λa=>↑(pe ws (p++k) a)).sum=(l.map λa=>↑((fB ws p k).filter λn=>I (a=(aB ws n).1))).sum+(l.map λa=>↑((fB ws p k).filter λn=>I (a=(aB ws n).2.1))).sum:=λl=>by
  induction l with
  |nil=>rfl
  |cons a r ih =>
   erw[q0C,q8R];rw[ih,e1 a];symm
 rw[sp l,c1,c2];rfl
def Z2(W:aH m ws)(O:dh m ws N)(hs:h∉N.s):(N.s++a6 m ws N.p h).Nodup:=by
 calc q1k.mpr ⟨O.su.nd,(ui ..).nd,λa ha b hb e=>?_⟩;subst e;calc hs (uh O.pn O.sc ((fE W).mp hb).2.symm ha)
def OF{p:-Int}(u:Up p){w:Int}(hw:w∉p):(p++[w]).Nodup:=q1k.mpr ⟨u.nd,by simp,λa ha b hb e=>by
 rw[q0z] at hb
 subst e;subst hb;calc hw ha⟩
end
end LJ
namespace L2
open PySem PySem.Spec PyProof.Rows
variable[zt:ba]
/---/def aV(x:DV)(δ:bh)(K:FV->bh->Prop):Prop:=match x with
 |.w a=>K (.w a) δ
 |y=>pM y δ λd δ1=>K (.p d) δ1
/---/def au:-DV->bh->(-FV->bh->Prop)->Prop
 |[],δ,K=>K [] δ
 |x::xs,δ,K=>aV x δ λf δ1=>au xs δ1 λfs δ2=>K (f::fs) δ2
/---/def aW(t:Bool)(fa:WA):WE:=fun δ K=>fa δ λxs δ1=>au xs δ1 λfs δ2=>fs.length<=1000/\K (.u t fs) δ2
/---/def vS(f g:WE):WE:=fun δ K=>f δ λx δ1=>g δ1 λy δ2=>∃t fs i v,(x=.u t fs/\y=.p (.int i)/\eX fs i=Z v)/\K v.v δ2
abbrev BX:=-FV->bh->(bh->Prop)->Prop
/---/def aX:BX:=λfs δ K=>match fs with
 |[]=>K δ
 |_=>False
/---/def aY(g:WG)(g':BX):BX:=λfs δ K=>match fs with
 |f::r=>g f.v δ fun δ1=>g' r δ1 K
 |[]=>False
/---/def aZ(n:Nat)(g:BX):WG:=λx δ K=>match x with
 |.u true fs=>fs.length=n/\g fs δ K
 |_=>False
section
variable{F H:Hp}{ad:-Y}{δ:bh}{σ:St}
omit [ba] in
def fQ.length {F:Hp}:∀{fs:-FV}{us:-V},fQ F fs us->↑us=fs.length
 |[],_,h=>by let h:_=[]:=h;rw[h];rfl
 |_::_,_,⟨v,t,e,_,h2⟩=>by rw[e,Uh,Uh,fQ.length h2]
omit [ba] in
def fQ.get {F:Hp}:∀{fs:-FV}{us:-V}{j:Nat}{f:FV},fQ F fs us->fs[j]?=Z f->∃v,us[j]?=Z v/\lE F f v
 |[],_,j,f,_,e=>by simp at e
 |g::r,_,0,f,⟨v,t,e,h1,h2⟩,q=>by subst e;cases(show Z g=Z f by simpa using q);exact⟨v,U,h1⟩
 |g::r,_,j+1,f,⟨v,t,e,h1,h2⟩,q=>by subst e;simpa using fQ.get h2 (show r[j]?=Z f by simpa using q)
variable{X:Cx}{a b e:υ}{es:-υ}{f g:WE}{fa:WA}{pos:Δ}
end
end L2
namespace LJ
open PySem L2 PySem.Spec PySem.W PyProof.Rows
structure Ev where
 P:ψ
 w:ω
 K:q0b
 mg:L->Option O
 base:Α
section
variable[zt:ba]
structure Fx(V:Ev)(k:Nat)(x:L)(ps:-L)(n:Nat)(G:GD):Prop where
 ex:∃f fd,Fn V.P V.w V.K V.mg V.base k x ps (pQ G n) f fd
/---/def Dx(V:Ev)(x:L)(st:χ):Prop:=∃f fd,V.mg x=Z (.ref f)/\hW V.K x x st f fd
/---/def zS(V:Ev)(x:L)(st:χ)(T:Y)(pos:Δ)(q:L):Prop:=∃f fd,(V.mg x=Z (.ref f)/\hW V.K x x st f fd)/\jf V.mg V.base fd T pos q
/---/def Ct(V:Ev)(x:L)(i:Int):Prop:=∃u,V.mg x=Z u/\RelV (.int i) u
section
variable{X:Cx}{x:L}{ps:-L}{G:GD}{e:υ}{es:-υ}{fa:WA}{p pos:Δ}{j k n:Nat}
def cj(F:Fx ⟨X.prog,X.w,X.K,X.mg,X.base⟩ j x ps n G)(hr:bA k X.A)(ha:JA X (e::es) (cK fa))(hj:‹q5U j k=θ›)(hg:‹Gl X x›)(eF: ~~~(cm x))(he:‹di X e es›)(eu:‹dM X pos es›):
  JE X (.Call (.Name x p) (e::es) [] pos) (tD (aL n G fa)):=let⟨_,_,F⟩:=F.ex;VD F.ok (hr.mono (q1O hj)) hg F.wt F.kp F.bd ha eF he eu
def Z3(F:Fx ⟨X.prog,X.w,X.K,X.mg,X.base⟩ j x ps n G)(hr:bA k X.A)(ha:JA X (e::es) (cK fa))(hj:‹q5U j k=θ›)(hg:‹Gl X x›)(eF: ~~~(cm x))(he:‹di X e es›)(eu:‹dM X pos es›):
  JE X (.Call (.Name x p) (e::es) [] pos) (tD (yM n G fa)):=let⟨_,_,F⟩:=F.ex;VE F.ok (hr.mono (q1O hj)) hg F.wt F.kp F.bd ha eF he eu
def Z4{i}(C:Ct ⟨X.prog,X.w,X.K,X.mg,X.base⟩ x i)(hg:‹Gl X x›)(hd: ~~~(cm x)):JE X (.Name x pos) (tD (dC (.int i))):=let⟨_,a,b⟩:=C;Vp hg a b hd
end
def _root_.L2.jf.env{mg:π->Option O}{base:Α}{fd:FuncData}{T:Y}{lp:Δ}{q:π}{bF:O}(L:jf mg base fd T lp q)(h:fd.code=bF):∃cc,bF=.ref cc/\CodeHd base cc T:=let⟨cc,e1,e2⟩:=L.code;⟨cc,h.symm.trans e1,e2⟩
meta def Z5:NameKind->Bool
 |.local=>θ
 |.cell=>θ
 |_=>ι
meta def Z6:NameKind->Bool
 |.free=>ι
 |_=>θ
meta def Z7:ScopeKind->Bool
 |.function=>θ
 |_=>ι
meta def vT(N P:-L)(sc:Γ):Bool:=Z7 sc.kind && !sc.isCoroutine && !sc.isGenerator&&I N.Nodup&&I (N.take ↑P=P)&&(P.all λx=>match sc.names.lookup x with
 |some k=>Z5 k
 |none=>ι)&&sc.names.all λy=>Z6 y.2
def gu{N P sc}(h:vT N P sc=θ):pF N P sc:=by
 unfold vT at h;erw[q04,q3A,q0u,q1J] at h;let⟨⟨⟨⟨⟨⟨h1,h2⟩,h3⟩,h4⟩,h5⟩,h6⟩,h7⟩:=h;refine⟨?_,h2,h3,h4,h5,λx hx=>?_,λy hy z=>?_⟩
 .cases q:sc.kind<;>rw[q] at h1<;>first|rfl|cases h1
 .let:=h6 x hx
  split at this
  .rename_i k e
   rw[e];cases k<;>first|exact .inl U|exact .inr U|cases this
  .cases this
 .let:=h7 y hy
  rw[z] at this;cases this
/---/def ji(x:L)(st:χ)(ps:-L):Prop:=∀(kV doc pm:O)(an:Option Y)(bF ct:O)(us:-O),↑us=↑ps->bindArgs (q1f x x (jR st) (gG st) (cW st) .none kV doc pm an bF ct) ⟨us,[]⟩=pure (ps.zip us)
section
def Hv{us:-O}(h:↑us=1):∃a,us=[a]:=q5l.mp h
def Hw{us:-O}(h:↑us=2):∃a b,us=[a,b]:=by
 cases us with
 |nil=>cases h
 |cons a r=>let⟨b,rfl⟩:=Hv (q2d h);calc⟨a,b,U⟩
def OG{us:-O}(h:↑us=3):∃a b c,us=[a,b,c]:=by
 cases us with
 |nil=>cases h
 |cons a r=>let⟨b,c,rfl⟩:=Hw (q2d h);calc⟨a,b,c,U⟩
def OH{us:-O}(h:↑us=4):∃a b c d,us=[a,b,c,d]:=by
 cases us with
 |nil=>cases h
 |cons a r=>let⟨b,c,d,rfl⟩:=OG (q2d h);calc⟨a,b,c,d,U⟩
def Z8{us:-O}(h:↑us=5):∃a b c d e,us=[a,b,c,d,e]:=by
 cases us with
 |nil=>cases h
 |cons a r=>let⟨b,c,d,e,rfl⟩:=OH (q2d h);calc⟨a,b,c,d,e,U⟩
def qa{x st ps}(h:‹∀kV doc pm an bF ct a,bindArgs (q1f x x (jR st) (gG st) (cW st) .none kV doc pm an bF ct) ⟨[a],[]⟩=pure (ps.zip [a])›)(hl:‹↑ps=1›):ji x st ps:=λkV doc pm an bF ct us hu=>by
 let⟨a,rfl⟩:=Hv (hu.trans hl);calc h kV doc pm an bF ct a
def iO{x st ps}(h:‹∀kV doc pm an bF ct a b,bindArgs (q1f x x (jR st) (gG st) (cW st) .none kV doc pm an bF ct) ⟨[a,b],[]⟩=pure (ps.zip [a,b])›)(hl:‹↑ps=2›):ji x st ps:=λkV doc pm an bF ct us hu=>by
 let⟨a,b,rfl⟩:=Hw (hu.trans hl);calc h kV doc pm an bF ct a b
def jE{x st ps}(h:‹∀kV doc pm an bF ct a b c,bindArgs (q1f x x (jR st) (gG st) (cW st) .none kV doc pm an bF ct) ⟨[a,b,c],[]⟩=pure (ps.zip [a,b,c])›)(hl:‹↑ps=3›):ji x st ps:=λkV doc pm an bF ct us hu=>by
 let⟨a,b,c,rfl⟩:=OG (hu.trans hl);calc h kV doc pm an bF ct a b c
def OI{x st ps}(h:‹∀kV doc pm an bF ct a b c d,bindArgs (q1f x x (jR st) (gG st) (cW st) .none kV doc pm an bF ct) ⟨[a,b,c,d],[]⟩=pure (ps.zip [a,b,c,d])›)(hl:‹↑ps=4›):ji x st ps:=λkV doc pm an bF ct us hu=>by
 let⟨a,b,c,d,rfl⟩:=OH (hu.trans hl);calc h kV doc pm an bF ct a b c d
def Z9{x st ps}(h:‹∀kV doc pm an bF ct a b c d e,bindArgs (q1f x x (jR st) (gG st) (cW st) .none kV doc pm an bF ct) ⟨[a,b,c,d,e],[]⟩=pure (ps.zip [a,b,c,d,e])›)(hl:‹↑ps=5›):ji x st ps:=λkV doc pm an bF ct us hu=>by
 let⟨a,b,c,d,e,rfl⟩:=Z8 (hu.trans hl);calc h kV doc pm an bF ct a b c d e
variable{V:Ev}{x:L}{st:χ}{N ps:-L}{k:Nat}{G:GD}
def eB(D:Dx V x st)(bd:ji x st ps)(h:∀{bF A outer s H E f},bA k (A.deeper (envOfC x (cW st) ⇑s f bF))->N.Nodup->(A.deeper (envOfC x (cW st) ⇑s f bF)).units+64<cLine →
   ∃B:WS,eQ (gE f_ V.P V.w V.K V.mg V.base N x (cW st) f bF A outer s H E).mS (gG st) (eJ B)/\∀ys aE K',↑ys=↑ps->G ys aE K'->B (qZ ↑aE K') ⟨ys.map Z++q0q (↑N-↑ps) η,aE.map Z⟩)(sc:autoParam (vT N ps (cW st)=θ) qz3._auto_1):Fx V (k+1) x ps ↑ps G :=
 let⟨f,fd,a,F⟩:=D
 ⟨f,fd,F.Vy (gu sc) λbF A outer s H E hr=>h hr (gu sc).nd hr.units,a,F.kp,F.binds bd⟩
def OJ{T lp q}(D:zS V x st T lp q)(bd:ji x st ps)(h:∀{bF A outer s H E f fd},jf V.mg V.base fd T lp q->fd.code=bF->bA k (A.deeper (envOfC x (cW st) ⇑s f bF))->N.Nodup->(A.deeper (envOfC x (cW st) ⇑s f bF)).units+64<cLine →
   ∃B:WS,eQ (gE f_ V.P V.w V.K V.mg V.base N x (cW st) f bF A outer s H E).mS (gG st) (eJ B)/\∀ys aE K',↑ys=↑ps->G ys aE K'->B (qZ ↑aE K') ⟨ys.map Z++q0q (↑N-↑ps) η,aE.map Z⟩)(sc:autoParam (vT N ps (cW st)=θ) qz3._auto_1):Fx V (k+1) x ps ↑ps G :=
 let⟨f,fd,⟨a,F⟩,LD⟩:=D
 ⟨f,fd,F.Gh (gu sc) λbF A outer s H E hc hr=>h LD hc hr (gu sc).nd hr.units,a,F.kp,F.binds bd⟩
end
end
section
variable{K:q0b}{h:Α}{mg:L->Option O}
/---/def Dk(K:q0b)(x:L)(st:χ):Prop:=∃f fd,q1S K mainGlobals x=Z (Z (.ref f))/\hW K x x st f fd
inductive jk (K:q0b):-(L×χ)->Prop
 |nil:jk K []
 |cons {x st r}:Dk K x st->jk K r->jk K ((x,st)::r)
def Hx{x st r f od an sl oc kV dc pm cd ct}(a:q1S K mainGlobals x=Z (Z (.ref f)))(l:K.lookup f=Z ⟨oc,od,.func (q1f x x (jR st) (gG st) (cW st) .none kV dc pm an cd ct),sl⟩)(q:q23 K cd x=θ)(k:q1q K (.ref f)=θ)(h:jk K r):jk K ((x,st)::r) :=
 .cons ⟨f,_,a,Ax l q k⟩ h
def jk.at{ds}(h:jk K ds)(i:Nat){x st}(e:ds[i]?=Z (x,st)):Dk K x st:=by
 induction h generalizing i with
 |nil=>cases e
 |cons d _ ih=>cases i with
  |zero=>cases e;exact d
  |succ i=>calc ih i e
/---/def BY(K:q0b)(x:L)(st:χ)(T:Y):Prop:=∃f fd,(q1S K mainGlobals x=Z (Z (.ref f))/\hW K x x st f fd)/\∃cc,fd.code=.ref cc/\q7j K cc T=θ
inductive gv (K:q0b):-(L×χ×Y)->Prop
 |nil:gv K []
 |cons {x st T r}:BY K x st T->gv K r->gv K ((x,st,T)::r)
def zT{x st T}{r:-(L×χ×Y)}{f cc od an sl oc kV dc pm ct}(a:q1S K mainGlobals x=Z (Z (.ref f)))(l:K.lookup f=Z ⟨oc,od,.func (q1f x x (jR st) (gG st) (cW st) .none kV dc pm an (.ref cc) ct),sl⟩)(q:q23 K (.ref cc) x=θ)(k:q1q K (.ref f)=θ)(c:q7j K cc T=θ)(h:gv K r):gv K ((x,st,T)::r) :=
 .cons ⟨f,_,⟨a,Ax l q k⟩,cc,U,c⟩ h
def gv.at{ds:-(L×χ×Y)}(h:gv K ds)(i:Nat){x st T}(e:ds[i]?=Z (x,st,T)):BY K x st T:=by
 induction h generalizing i with
 |nil=>cases e
 |cons d _ ih=>cases i with
  |zero=>cases e;exact d
  |succ i=>calc ih i e
def gv.code{ds:-(L×χ×Y)}(h:gv K ds){hp}(X:K.In hp):∀T∈ds.map (·.2.2),∃cc,q8c hp cc T:=by
 induction h with
 |nil=>ext T hT;exact nomatch hT
 |cons d _ ih =>
  ext T hT;rcases q0c.mp hT with rfl|hT
  .let⟨_,_,_,cc,_,e⟩:=d
   exact⟨cc,q53 X e⟩
  .calc ih T hT
def Z_{x r}(a:q1S K mainGlobals x=Z η)(h:∀y∈r,q1S K mainGlobals y=Z η):∀y∈x::r,q1S K mainGlobals y=Z η:=λy hy=>by
 rcases q0c.mp hy with rfl|hy
 .exact a
 .calc h y hy
def z3G{ls:-vD}(nd:(ls.map (·.T)).Nodup):∀{a b},a∈ls->b∈ls->a.T=b.T->a=b:=by
 induction ls with
 |nil=>ext a b ha;exact nomatch ha
 |cons c r ih =>
  ext a b ha hb e;rw[q0C,q2k] at nd;rcases q0c.mp ha with rfl|ha'<;>rcases q0c.mp hb with rfl|hb'
  .rfl
  .exact absurd (q0j.mpr ⟨b,hb',e.symm⟩) nd.1
  .exact absurd (q0j.mpr ⟨a,ha',e⟩) nd.1
  .calc ih nd.2 ha' hb' e
def Dk.v{P w base x st}(d:Dk K x st)(X:K.In h)(G:h.Ns mainGlobals mg):Dx ⟨P,w,K,mg,base⟩ x st :=
 let⟨f,fd,a,F⟩:=d
 ⟨f,fd,q3d X G a,F⟩
def BY.v{P w base x st ls C T lp q}(d:BY K x st T)(X:K.In h)(G:h.Ns mainGlobals mg)(KB:K.In base)(hB:∀t∈ls,base.BuiltinsAt mg t.T)(nd:(ls.map (·.T)).Nodup)(ng:∀t∈ls,mainGlobals≠t.T)(hl:⟨T,lp,q⟩∈ls):@zS (je ls C) ⟨P,w,K,mg,base⟩ x st T lp q :=
 let⟨f,fd,⟨a,F⟩,cc,e1,e2⟩:=d
 letI:=je ls C
 ⟨f,fd,⟨q3d X G a,F⟩,⟨cc,e1,q53 KB e2⟩,ng _ hl,hB _ hl,XF hl λa ha b hb e=>z3G nd ha hb e⟩
/---/def Ck(K:q0b)(x:L)(i:Int):Prop:=∃u,q1S K mainGlobals x=Z (Z u)/\RelV (.int i) u
def Ck.v{P w base x i}(d:Ck K x i)(X:K.In h)(G:h.Ns mainGlobals mg):Ct ⟨P,w,K,mg,base⟩ x i :=
 let⟨u,a,r⟩:=d
 ⟨u,q3d X G a,r⟩
meta def Hy:-L:=["len", "range", "list", "tuple", "set", "sorted", "min", "max", "sum", "all", "any", "enumerate", "zip", "isinstance", "int", "bool", "str", "repr"]
def z69(X:K.In h)(G:h.Ns mainGlobals mg)(N:∀x∈Hy,q1S K mainGlobals x=Z η):BT mg :=
 have n:∀i x,Hy[i]?=Z x->mg x=η:=λi x e=>PySem.W.mg_none_of X G (N x (q0I e))
 ⟨n 0 _ U,n 1 _ U,n 2 _ U,n 3 _ U,n 4 _ U,n 5 _ U,n 6 _ U,n 7 _ U,n 8 _ U,n 9 _ U,n 10 _ U,n 11 _ U,n 12 _ U,n 13 _ U,n 14 _ U,n 15 _ U,n 16 _ U,n 17 _ U⟩
end
section
variable[zt:ba]
structure Kx(K:q0b)(C:Y)(fs:-L):Prop where
 c:jO K C
 n:∀f∈fs,dj K C f
def Kx.at{K C fs}(h:Kx K C fs) f (e:‹fs.contains f=θ›):dj K C f:=h.n f (q5u.mp e)
structure Fk(V:Ev)(C:Y)(k:Nat)(m:L)(ps:-L)(n:Nat)(G:GK):Prop where
 ex:∃f fd,Meth V.K C m f/\cB V.P V.w V.K V.mg V.base f_ k f fd ps (mM G n)/\Binds V.K fd ps []
structure Fq(V:Ev)(k:Nat)(x:L)(ps:-L)(n:Nat)(G:GK):Prop where
 ex:∃f fd,Fn V.P V.w V.K V.mg V.base k x ps (mM G n) f fd
structure Fc(V:Ev)(C:Y)(k:Nat)(x:L)(ps:-L)(n:Nat)(G:GK):Prop where
 ex:∃f fd,V.mg x=Z (.ref C)/\Mk V.K C f/\cB V.P V.w V.K V.mg V.base f_ k f fd ps (mM G n)/\Binds V.K fd ps []
/---/def Dm(V:Ev)(C:Y)(m q:L)(st:χ):Prop:=∃f fd,Meth V.K C m f/\hW V.K m q st f fd
/---/def Dc(V:Ev)(C:Y)(x q:L)(st:χ):Prop:=∃f fd,(V.mg x=Z (.ref C)/\Mk V.K C f)/\hW V.K "__init__" q st f fd
section
variable{X:Cx}{C:Y}{x m:L}{ps:-L}{G:GK}{e o:υ}{es:-υ}{fa:WA}{fo:WE}{p pos apos:Δ}{j k n:Nat}
def gJ r (F:Fq ⟨X.prog,X.w,X.K,X.mg,X.base⟩ j x ps n G) (hr:bA k X.A) (ha:JA X (e::es) (cK fa)) (hj:‹q5U j k=θ›) (hg:‹Gl X x›) (eF: ~~~(cm x)) (he:‹di X e es›) (eu:‹dM X pos es›) :
  JE X (.Call (.Name x p) (e::es) [] pos) (tD (aG r n G fa)):=let⟨_,_,F⟩:=F.ex;ZJ r F.ok (hr.mono (q1O hj)) hg F.wt F.kp F.bd ha eF he eu
def vU(F:Fc ⟨X.prog,X.w,X.K,X.mg,X.base⟩ C j x ps n G)(hr:bA k X.A)(ha:JA X (e::es) (cK fa))(hj:‹q5U (j+1) k=θ›)(hg:‹Gl X x›)(eF: ~~~(cm x))(he:‹di X e es›)(eu:‹dM X pos es›):
  JE X (.Call (.Name x p) (e::es) [] pos) (tD (aJ C n G fa)):=let⟨_,_,a,M,F,B⟩:=F.ex;ZO M F (hr.mono (q1O hj)) hg a B ha eF he eu
def lg {pl} r (c:jO X.K C) (F:Fk ⟨X.prog,X.w,X.K,X.mg,X.base⟩ C j m ps n G) (hr:bA k X.A) (ho:JE X o (tD fo)) (ha:JA X (e :: es) (cK fa)) (hj:‹q5U j k=θ›)
  (kC:‹di X e es›) (eu:‹dM X pos es›)
  (ht:‹eval (.Call (.Attribute o m apos) (e :: es) [] pos) X.env=(do
   let ov <- eval o X.env
   standAt apos.atName
   let (f,first) <- holding [ov] (getMethod ov m pl)
   callWith pos f first (backTo pos (starEach (e :: es) X.env)) (backToKw pos (keywordEach [] X.env)))›) :
  JE X (.Call (.Attribute o m apos) (e :: es) [] pos) (tD (aF r C m n G fo fa)):=let ⟨_,_,M,F,B⟩:=F.ex; ZL r c M F (hr.mono (q1O hj)) B ho ha kC eu ht
def sN {pl} r (c:jO X.K C) (F:Fk ⟨X.prog,X.w,X.K,X.mg,X.base⟩ C j m ps n G) (hr:bA k X.A) (ho:JE X o (tD fo)) (hj:‹q5U j k=θ›)
  (ht:‹eval (.Call (.Attribute o m apos) [] [] pos) X.env=(do
   let ov <- eval o X.env
   standAt apos.atName
   let (f,first) <- holding [ov] (getMethod ov m pl)
   callWith pos f first (backTo pos (starEach [] X.env)) (backToKw pos (keywordEach [] X.env)))›) :
  JE X (.Call (.Attribute o m apos) [] [] pos) (tD (aF r C m n G fo ai)):=let ⟨_,_,M,F,B⟩:=F.ex; ZM r c M F (hr.mono (q1O hj)) B ho ht
end
/---/def sP(x q:L)(st:χ)(ps:-L):Prop:=∀(kV doc pm:O)(an:Option Y)(bF ct:O)(us:-O),↑us=↑ps->bindArgs (q1f x q (jR st) (gG st) (cW st) .none kV doc pm an bF ct) ⟨us,[]⟩=pure (ps.zip us)
def OK{x q st ps}(h:‹∀kV doc pm an bF ct a,bindArgs (q1f x q (jR st) (gG st) (cW st) .none kV doc pm an bF ct) ⟨[a],[]⟩=pure (ps.zip [a])›)(hl:‹↑ps=1›):sP x q st ps:=λkV doc pm an bF ct us hu=>by
 let⟨a,rfl⟩:=Hv (hu.trans hl);calc h kV doc pm an bF ct a
def Hz{x q st ps}(h:‹∀kV doc pm an bF ct a b,bindArgs (q1f x q (jR st) (gG st) (cW st) .none kV doc pm an bF ct) ⟨[a,b],[]⟩=pure (ps.zip [a,b])›)(hl:‹↑ps=2›):sP x q st ps:=λkV doc pm an bF ct us hu=>by
 let⟨a,b,rfl⟩:=Hw (hu.trans hl);calc h kV doc pm an bF ct a b
section
variable{V:Ev}{C:Y}{x m q:L}{st:χ}{N ps:-L}{k:Nat}{G:GK}
abbrev HA(V:Ev)(N ps:-L)(q:L)(st:χ)(k:Nat)(G:GK):Prop:=∀{bF:O}{A:Β}{outer:-Env}{s:ο}{H:Hp}{E:XK}{f:Y},bA k (A.deeper (envOfC q (cW st) ⇑s f bF))->N.Nodup->(A.deeper (envOfC q (cW st) ⇑s f bF)).units+64<cLine →
   ∃B:WS,eQ (gE f_ V.P V.w V.K V.mg V.base N q (cW st) f bF A outer s H E).mS (gG st) (eJ B)/\∀ys aE K',↑ys=↑ps->G ys aE K'->B (ae ↑aE K') ⟨ys.map Z++q0q (↑N-↑ps) η,aE.map Z⟩
def BZ(D:Dm V C m q st)(bd:sP m q st ps)(h:HA V N ps q st k G)(sc:autoParam (vT N ps (cW st)=θ) qz3._auto_1):Fk V C (k+1) m ps ↑ps G :=
 let⟨f,fd,a,F⟩:=D
 ⟨f,fd,a,F.Hi (gu sc) λbF A outer s H E hr=>h hr (gu sc).nd hr.units,F.binds bd⟩
def okC(D:Dc V C x q st)(bd:sP "__init__" q st ps)(h:HA V N ps q st k G)(sc:autoParam (vT N ps (cW st)=θ) qz3._auto_1):Fc V C (k+1) x ps ↑ps G :=
 let⟨f,fd,a,F⟩:=D
 ⟨f,fd,a.1,a.2,F.Hi (gu sc) λbF A outer s H E hr=>h hr (gu sc).nd hr.units,F.binds bd⟩
def nB(D:Dx V x st)(bd:ji x st ps)(h:HA V N ps x st k G)(sc:autoParam (vT N ps (cW st)=θ) qz3._auto_1):Fq V (k+1) x ps ↑ps G :=
 let⟨f,fd,a,F⟩:=D
 ⟨f,fd,F.Hi (gu sc) λbF A outer s H E hr=>h hr (gu sc).nd hr.units,a,F.kp,F.binds bd⟩
end
end
inductive jm (K:q0b) (C:Y):-(L×L×χ)->Prop
 |nil:jm K C []
 |cons {m q st r}:(∃f fd,Meth K C m f/\hW K m q st f fd)->jm K C r->jm K C ((m,q,st)::r)
def allM{K C m q st}{r:-(L×L×χ)}{f od an sl oc kV dc pm cd ct}(a:q1P K (.ref C) m=Z (Z (.ref f)))(i:q5b K (.ref f)=θ)(l:K.lookup f=Z ⟨oc,od,.func (q1f m q (jR st) (gG st) (cW st) .none kV dc pm an cd ct),sl⟩)(c:q23 K cd q=θ)(k:q1q K (.ref f)=θ)(h:jm K C r):jm K C ((m,q,st)::r) :=
 .cons ⟨f,_,⟨a,i,k⟩,Ax l c k⟩ h
def jm.at{K C}{ds:-(L×L×χ)}(h:jm K C ds)(i:Nat){m q st}(e:ds[i]?=Z (m,q,st)):∃f fd,Meth K C m f/\hW K m q st f fd:=by
 induction h generalizing i with
 |nil=>cases e
 |cons d _ ih=>cases i with
  |zero=>cases e;exact d
  |succ i=>calc ih i e
end LJ
namespace L2
open PySem PySem.Spec PyProof.Rows
variable[zt:ba]
def z0u{X:Cx}{x:L}{p pos:Δ}{G:GK}{k:Nat}{g:Y}{fd:FuncData}{ps:-L}(o:Bool)(Fn:cB X.prog X.w X.K X.mg X.base f_ k g fd ps (mM G 0))(hr:bA k X.A)(hg:Gl X x)(hm:X.mg x=Z (.ref g))(hk:q1q X.K (.ref g)=θ)(hb:Binds X.K fd ps [])
  (eF: ~~~(cm x)) :
  JE X (.Call (.Name x p) [] [] pos) (tD (aG o 0 G ai)):=(TC Fn hr hg hm hk hb .nil qF eF).weak fun σ H Q ⟨F,ad,δ,K,S,q,kk⟩↦zP (xs:=[]) (vs:=[]) kk (show xg o 0 G [] δ K from q) .refl S U
end L2
namespace LJ
open PySem L2 PySem.Spec PySem.W PyProof.Rows
variable[zt:ba]
def z61{X:Cx}{x:L}{ps:-L}{G:GK}{p pos:Δ}{j k:Nat}(r:Bool)(F:Fq ⟨X.prog,X.w,X.K,X.mg,X.base⟩ j x ps 0 G)(hr:bA k X.A)(hj:‹q5U j k=θ›)(hg:‹Gl X x›)(eF: ~~~(cm x)):
  JE X (.Call (.Name x p) [] [] pos) (tD (aG r 0 G ai)):=let⟨_,_,F⟩:=F.ex;z0u r F.ok (hr.mono (q1O hj)) hg F.wt F.kp F.bd eF
def bd0{x:L}{st:χ}{ps:-L}(h:‹∀(kV doc pm:O) (an:Option Y) (bF ct:O),bindArgs (q1f x x (jR st) (gG st) (cW st) .none kV doc pm an bF ct) ⟨[],[]⟩=pure (ps.zip [])›)(hl:‹↑ps=0›):ji x st ps:=λkV doc pm an bF ct us hu=>by
 obtain rfl:=q1h.mp (hu.trans hl);calc h kV doc pm an bF ct
end LJ
local macro_rules|`(tactic|rfl')=>`(tactic|simp![0])
open Lean in
local macro_rules
 |`(tactic|simp![$ls,*] $[$l:location]?)=>do
  let a:=ls.getElems
  let some n:=a[0]?.bind λx=>x.raw[2].isNatLit?|Macro.throwUnsupported
  let t←((("af ag aI toF aF aG aJ ah aK FV.v ae qE uW aj aP aU aR aO aS aQ ar aq ak aN aW aV au aZ aY aX uX uY".splitOn " ").take (if n==0 then 32 else 13)).toArray).mapM λs=>`(Parser.Tactic.simpLemma|$(mkIdent s.toName):ident)
  let b:Syntax.TSepArray [`Lean.Parser.Tactic.simpStar,`Lean.Parser.Tactic.simpErase,`Lean.Parser.Tactic.simpLemma] ",":=⟨(Syntax.SepArray.ofElems (sep:=",") (t.map (·.raw)++(a.extract 1 a.size).map (·.raw))).elemsAndSeps⟩
  `(tactic|simp![$b,*] $[$l]?)
namespace LJ
open PySem L2
variable[zt:ba]
inductive HB (ys:-DV) (aE:-OV) (K:RV->-OV->Prop):Prop
 |mk (m:Int) (ws:-Wy) (ns:-Int) (q:aH m ws) (q:Nums ws ns) (q:ys=[.p (a_ m ws),.p (tupI ns)]) (q:aE=[]) (q:K (.p (bj (iA m ws ns))) [])
/---/def HC:WS:=(aD (a8 2 (wM (ay (d2 (aa 0) (dC (.int 0)) bg) ai))) (aD (eZ (bZ (aa 1)) (bL 3) (aD (a8 4 (d2 (d2 (aa 0) (dC (.int 1)) bg) (aa 3) bg)) (a8 2 (aL 3 wX (ay (aa 2) (ay (d2 (aa 4) (dC (.int 0)) bg) (ay (d2 (aa 4) (dC (.int 1)) bg) ai))))))) (bc (aa 2))))
def q8t:Sem 2 3 HB HC:=by
 ext ys aE K'-⟨m,ws,ns,W,hn,rfl,rfl,k⟩;let m1:=W.m1;let fW:=W.fW;let il:↑(bB m.toNat)=m.toNat:=by unfold bB;simp
 let rg:dE 0 m.toNat=(bB m.toNat).map D.int:=pU m.toNat;unfold HC tupI;calc bp λN hN=>?_;simp![cV,a_];calc⟨⟨⋯,⋯⟩,?_⟩;subst hN;rw[rg];calc bp λN hN=>oE λg' b' K2 hg hb' hK=>?_;simp!;subst hg hb' hK;refine mz (λi δ=>δ=⟨[Z (.p (.tup [.int m,.tup (ws.map bK)])),Z (.p (.tup (ns.map D.int))),Z (.p (.lst ((fZ ws (bB m.toNat) (ns.take i)).map D.int))),η,η],[]⟩) U ?_ ?_
 .ext j d δ L hj rfl hL
  rw[Uj] at hj;let⟨n,mD,rfl⟩:=q0e.mp hj;let⟨n0,n1⟩:=hn n (q0I mD);let⟨y,ey,hy,ea,i,k,e1,e2,h1,h2,_⟩:=nv W n0 n1;calc⟨trivial,?_⟩;erw[bL,q1a,q1b];calc bp λN2 ja=>?_;simp![dz,ea];subst ja;simp![cV,dz,bK];let hlen:↑(fZ ws (bB m.toNat) (ns.take j))=m.toNat:=by rw[zi,il]
  refine⟨fZ ws (bB m.toNat) (ns.take j),i,k,by rw[e1,e2];rfl,U,⋯,⋯,⋯,?_⟩
  let ej:g9 (fZ ws (bB m.toNat) (ns.take j)) i k=fZ ws (bB m.toNat) (ns.take (j+1)):=by
   let:ns.take (j+1)=ns.take j++[n]:=by rw[q2w,mD];rfl
   rw[this];unfold fZ;rw[q2Z];show _=g9 _ (cD ws n).1 (cD ws n).2
   let:cD ws n=(i,k):=by
    unfold cD;rw[ey,e1,e2,q0t,q0t]
   rw[this]
  rw[ej];exact hL _ U
 .ext δ rfl
  rw[ye,q1i (Ln _)];calc⟨trivial,?_⟩;show N _;subst hN;simp!;calc cC k
inductive zU (ys:-DV) (aE:-OV) (K:RV->-OV->Prop):Prop
 |mk (m:Int) (ws:-Wy) (us:-Int) (h:Int) (q:aH m ws) (q:Nums ws us) (q:(0<=h/\h<m)) (q:ys=[.p (a_ m ws),.p (tupI us),.p (.int h)]) (q:aE=[]) (q:K (.p (bj (a6 m ws us h))) [])
/---/def HD:WS:=(aD (a8 3 (aL 2 HB (ay (aa 0) (ay (aa 1) ai)))) (bc (dY (i8 (ay (aa 3) ai)) [η,η,Z 3,Z 2] (iz 2 (dB (bL 0) (dB (bL 1) hZ))) (dT (d2 (aa 1) (d2 (aa 2) (aa 3) bg) oEq)) (aa 0))))
open Classical in
def x2P:Sem 3 1 zU HD:=by
 rintro ys aE K'-⟨m,ws,us,h,W,hu,hh,rfl,rfl,k⟩;have fW:=W.fW;obtain⟨i,rfl⟩:=q2P hh.1;have hi:i<m.toNat:=by symm
 unfold HD;refine bp λN hN=>?_;simp!;refine⟨m,ws,us,W,hu,rfl,rfl,?_⟩;have mo:=GU W hu;generalize iA m ws us=fs at mo;have a1:=rS (ns:=fs) (i:=i) (by rw[mo.1];exact hi);rw[show bj fs=.lst (fs.map D.int) from rfl];simp!;subst hN;simp!;refine L2.jC (vK λx=>decide (bo (fq ws us) i x)) vJ (by rw[rm,ye,mo.1];symm) trivial ?_ ?_
 .intro d hd acc L' ha h1 h2
  obtain⟨z,hz⟩:=q0m.mp hd;obtain⟨e,z1,z2⟩:=pR hz;rw[Uj] at z1;obtain⟨y,z3,rfl⟩:=q0e.mp z1;rw[q0D] at z2;subst z2;have zl:z<m.toNat:=by rw[<-mo.1];exact(Ll.mp z3).1
  have ez:fs.getD z 0=y:=by rw[My,z3];rfl
  simp only[vK,vJ] at h1 h2;simp![a1];rw[vH]
  by_cases c:bo (fq ws us) i z
  .rw[q0g (show y=fs.getD i 0 by rw[<-ez];exact((mo.2 i z hi zl).mpr c).symm)]
   simp!;exact⟨ha,h1 (q0g c)⟩
  .rw[Ul (show ¬ y=fs.getD i 0 fromλe=>c ((mo.2 i z hi zl).mp (by rw[<-e,ez])))]
   simp!;exact h2 (Ul c)
 .have e:=BJ (λx=>decide (bo (fq ws us) i x)) (fs.map D.int) 0
  have e2:(cls m.toNat (fq ws us) i).map D.int=((q4O 0 (fs.map D.int).length).filter λk:Nat=>decide (bo (fq ws us) i k)).map λk:Nat=>D.int k:=by
   unfold cls bB;rw[q1I,q0y,ye,<-q25,mo.1];rfl
  rw[<-e2] at e;rw[e];exact cC k
meta def HE(t:Bool)(ns:-Int):D:=if t=θ then tupI ns else bj ns
inductive zV (ys:-DV) (aE:-OV) (K:RV->-OV->Prop):Prop
 |mk (t:Bool) (ns:-Int) (q:↑(g7 ns)<60) (q:ys=[.p (HE t ns)]) (q:aE=[]) (q:K (.p (tupI (gB ns))) [])
/---/def HF:WS:=(bc (dN (ay (dN (ay (aa 0) ai) aN) ai) y6))
def x6y:Sem 1 0 zV HF:=by
 ext ys aE K'-⟨t,ns,h,rfl,rfl,k⟩;unfold HF;let e:↑(sortI (g7 ns))<60:=by rw[MG];exact h
 cases t
 all_goals
  simp![0,HE,tupI,bj,nh];calc⟨h,?_⟩;calc cC k
inductive HG (ys:-DV) (aE:-OV) (K:RV->-OV->Prop):Prop
 |mk (m:Int) (ws:-Wy) (p k s l:-Int) (q:aH m ws) (q:↑p<=30) (q:k.length<=30) (q:↑l<=12) (q:ys=[.p (a_ m ws),.p (gq p k s),.p (bj l)]) (q:aE=[]) (q:K (.p (.int (2*((↑l:Int)-1)+2*(↑(pb ws (fB ws p k) l):Int)))) [])
/---/def HH:WS:=(aD (a8 3 (d2 (d2 (aa 1) (dC (.int 0)) bg) (d2 (aa 1) (dC (.int 1)) bg) dI)) (aD (a8 4 (dY (m9 (ay (dN (ay (d2 (aa 0) (dC (.int 1)) bg) ai) cq) ai)) [η,Z 3] (bL 0) (dT (d2 (aa 0) (aa 1) (fY θ))) (aa 0))) (aD (a8 5 (dY (bZ (aL 2 BL (ay (aa 0) (ay (aa 4) ai)))) [η,Z 2] (bL 0) (dT (d2 (aa 0) (aa 1) (fY ι))) (aa 0))) (bc (d2 (d2 (dC (.int 2)) (d2 (dN (ay (aa 2) ai) cq) (dC (.int 1)) (oI λi j=>.int (i-j))) fy) (d2 (dC (.int 2)) (dN (ay (aa 5) ai) cq) fy) dI)))))
def z1d(ws:-Wy)(p k:-Int):Nums ws (fB ws p k):=λn h=>wY (q0x.mp h).1
def z3f(ws:-Wy)(p k:-Int):↑(fB ws p k)<=↑ws:=by
 let:=q0S (λn=>I (n∉p++k)) (bB ↑ws);rw[lP] at this;calc this
def z12(ws:-Wy)(us:-Int):↑(o_ ws us)=↑us+↑us:=by unfold o_;rw[Lo,ye,ye]
meta def sQ(p:Int->Bool):D->Bool
 |.int n=>p n
 |_=>ι
def B3(p:Int->Bool)(us:-Int):((us.map D.int).filter (sQ p)).map (λd=>d)=(us.filter p).map D.int:=by
 rw[q6Y,q1I];rfl
def q3B:Sem 3 3 HG HH:=by
 ext ys aE K'-⟨m,ws,p,k,s,l,W,hp,hk,hl,rfl,rfl,kk⟩;let km:=W.iE;let d0:cG ((p++k).map D.int)=0:=fA _;let d1:=fA l;unfold HH;calc bp λN hN=>?_;simp![gq,tupI,cV,dz];calc⟨⋯,?_⟩;rw[<-q0s];subst hN;calc bp λN hN=>?_;simp![a_,dz];calc⟨⋯,?_⟩;rw[q0t,pU];refine L2.jC (sQ λn=>I (n∉p++k)) (λd=>d) (by rw[ye,lP];symm) trivial ?_ ?_
 .ext d hd acc L ha h1 h2
  let⟨n,hn,rfl⟩:=q0j.mp hd;erw[sQ] at h1 h2;simp!;calc⟨⋯,?_⟩;rw[iC]
  by_cases c:n∈p++k
  .rw[q0g c];simp!;exact h2 (Ul (q2Y c))
  .rw[Ul c];simp!;exact⟨ha,h1 (q0g c)⟩
 rw[B3];let un:=z1d ws p k;let ul:=z3f ws p k;rw[show(bB ↑ws).filter (λn=>I (n∉p++k))=fB ws p k from U];unfold pb at kk;generalize fB ws p k=us at un ul kk ⊢;subst hN;calc bp λN hN=>?_;simp!;calc⟨m,ws,us,W,un,⋯,U,U,?_⟩;rw[show bj (o_ ws us)=.lst ((o_ ws us).map D.int) from U];simp![bj];let el:=z12 ws us;refine L2.jC (sQ λn=>I (n∈l)) (λd=>d) (by rw[ye];symm) trivial ?_ ?_
 .ext d hd acc L ha h1 h2
  let⟨n,hn,rfl⟩:=q0j.mp hd;erw[sQ] at h1 h2;simp![d1];rw[iC]
  by_cases c:n∈l
  .rw[q0g c];simp!;exact⟨ha,h1 (q0g c)⟩
  .rw[Ul c];simp!;exact h2 (Ul c)
 rw[B3];subst hN;simp!;let fl:=q0S (λn=>I (n∈l)) (o_ ws us);calc⟨by unfold lX;symm,by unfold lX;symm,cC kk⟩
inductive HI (ys:-DV) (aE:-OV) (K:RV->-OV->Prop):Prop
 |mk (m:Int) (ws:-Wy) (l:-Int) (q:aH m ws) (q:ys=[.p (a_ m ws),.p (bj l)]) (q:aE=[]) (q:K (.p (bj (sv ws l))) [])
/---/def HJ:WS:=(bc (dY (i8 (ay (d2 (aa 0) (dC (.int 1)) bg) ai)) [η,η,Z 1] (iz 2 (dB (bL 0) (dB (bL 1) hZ))) (gb (dT (d2 (d2 (aa 1) (dC (.int 0)) bg) (aa 2) (fY ι))) (dT (d2 (d2 (aa 1) (dC (.int 1)) bg) (aa 2) (fY ι)))) (aa 0)))
def q7h:Sem 2 0 HI HJ:=by
 ext ys aE K'-⟨m,ws,l,W,rfl,rfl,k⟩;let km:=W.iE;let d0:=fA l;unfold HJ;simp![a_,dz];refine L2.jC (vK λi=>I ((aB ws i).1∈l)&&I ((aB ws i).2.1∈l)) vJ (by rw[rm,ye];symm) trivial ?_ ?_
 .ext d hd acc L' ha h1 h2
  let⟨z,hz⟩:=q0m.mp hd;let⟨e,z1,z2⟩:=pR hz;rw[Uj] at z1;let⟨y,z3,rfl⟩:=q0e.mp z1;rw[q0D] at z2;subst z2;let ew:aB ws (z:Int)=y:=by unfold aB;rw[q0t,My,z3];rfl
  erw[vK,vJ] at h1 h2;rw[ew] at h1 h2;simp![bj,bK,cV,dz];calc⟨⋯,?_⟩;rw[iC]
  by_cases c:y.1∈l
  .rw[q0g c] at h1 h2 ⊢
   simp!;calc⟨⋯,?_⟩;rw[iC]
   by_cases c2:y.2.1∈l
   .rw[q0g c2] at h1 h2 ⊢;simp!;exact⟨ha,h1 U⟩
   .rw[Ul c2] at h1 h2 ⊢;simp!;exact h2 U
  .rw[Ul c] at h1 h2 ⊢
   simp!;exact h2 U
 .let e:=BJ (λi=>I ((aB ws i).1∈l)&&I ((aB ws i).2.1∈l)) (ws.map bK) 0
  let e2:(sv ws l).map D.int=((q4O 0 ↑(ws.map bK)).filter λk:Nat=>I ((aB ws (k:Int)).1∈l)&&I ((aB ws (k:Int)).2.1∈l)).map λk:Nat=>D.int k:=by
   unfold sv bB;rw[q1I,q0y,ye,<-q25];rfl
  rw[<-e2] at e;rw[e];calc cC k
inductive HK (ys:-DV) (aE:-OV) (K:RV->-OV->Prop):Prop
 |mk (m:Int) (ws:-Wy) (N:Nt) (h:Int) (q:aH m ws) (q:dh m ws N) (q:(0<=h/\h<m)) (q:ys=[.p (a_ m ws),.p (gq N.p N.k N.s),.p (.int h)]) (q:aE=[]) (q:K (.p (.tup [oD (h9 ws (a6 m ws N.p h)),.int (zL m ws N.p N.k h),gq N.p (vL m ws N.p N.k h) N.s])) [])
/---/def HL:WS:=(aD (a8 3 (aL 3 zU (ay (aa 0) (ay (d2 (aa 1) (dC (.int 0)) bg) (ay (aa 2) ai))))) (aD (a8 4 (aL 2 G5 (ay (aa 0) (ay (aL 2 G3 (ay (aa 0) (ay (aa 3) ai))) ai)))) (aD (a8 5 (dY (bZ (aL 2 HI (ay (aa 0) (ay (aa 3) ai)))) [η,Z 1] (bL 0) (dT (d2 (aa 0) (d2 (aa 1) (dC (.int 0)) bg) (fY θ))) (aa 0))) (aD (a8 6 (bQ (ay (d2 (aa 1) (dC (.int 0)) bg) (ay (aL 1 zV (ay (d2 (dN (ay (d2 (aa 1) (dC (.int 1)) bg) ai) oC) (aa 5) dI) ai)) (ay (d2 (aa 1) (dC (.int 2)) bg) ai))))) (bc (bQ (ay (aa 4) (ay (aL 3 HG (ay (aa 0) (ay (aa 1) (ay (aa 3) ai)))) (ay (aa 6) ai)))))))))
def x8m:Sem 3 4 HK HL:=by
 ext ys aE K'-⟨m,ws,N,h,W,O,hh,rfl,rfl,k⟩;let km:=W.iE;let pl:=O.pl W;let kl:=O.kl W;let ll:=vN W (p:=N.p) (h:=h);let d0:=fA N.p
 let wl:↑(sv ws (a6 m ws N.p h))<=↑ws:=by
  let:=q0S (λn=>I ((aB ws n).1∈a6 m ws N.p h)&&I ((aB ws n).2.1∈a6 m ws N.p h)) (bB ↑ws);rw[lP] at this;exact this
 let nl:↑(k_ ws (a6 m ws N.p h) N.p)<=↑ws:=q0N (q0S _ _) wl
 let kr:∀x∈N.k++k_ ws (a6 m ws N.p h) N.p,0<=x/\x<(↑ws:Int):=λx hx=>by
  rcases q0w.mp hx with z|z
  .exact O.kn x z
  .exact (eN.mp z).1.1
 unfold HL;calc bp λM hM=>?_;simp![gq,cV];calc⟨m,ws,N.p,h,W,O.pn,hh,U,U,?_⟩;simp!;subst hM;calc bp λM hM=>?_;simp!;calc⟨m,ws,a6 m ws N.p h,W,U,U,?_⟩;simp!
 let go:∀d,d=oD (h9 ws (a6 m ws N.p h))->M ⟨[Z (.p (a_ m ws)),Z (.p (.tup [tupI N.p,tupI N.k,tupI N.s])),Z (.p (.int h)),Z (.p (bj (a6 m ws N.p h))),Z (.p d),η,η],[]⟩:=by
  ext d rfl;subst hM;calc bp λM hM=>?_;simp!;calc⟨m,ws,a6 m ws N.p h,W,U,U,?_⟩;rw[show bj (sv ws (a6 m ws N.p h))=.lst ((sv ws (a6 m ws N.p h)).map D.int) from U];simp!;refine L2.jC (sQ λn=>I (n∉N.p)) (λd=>d) (by rw[ye];symm) trivial ?_ ?_
  .ext d hd acc L ha h1 h2
   let⟨n,hn,rfl⟩:=q0j.mp hd;erw[sQ] at h1 h2;simp![cV,tupI,d0];rw[iC]
   by_cases c:n∈N.p
   .rw[q0g c];simp!;exact h2 (Ul (q2Y c))
   .rw[Ul c];simp!;exact⟨ha,h1 (q0g c)⟩
  rw[B3,show(sv ws (a6 m ws N.p h)).filter (λn=>I (n∉N.p))=k_ ws (a6 m ws N.p h) N.p from U];subst hM;calc bp λM hM=>?_;simp![cV,dz,at2,tupI];calc⟨⋯,?_⟩;rw[<-q0s];calc⟨ι,N.k++k_ ws (a6 m ws N.p h) N.p,BM kr km,U,U,?_⟩;simp!;subst hM;simp!;calc⟨m,ws,N.p,N.k,N.s,a6 m ws N.p h,W,pl,kl,ll,U,U,?_⟩;simp!;exact cC k
 refine⟨m,ws,eM ws (a6 m ws N.p h),W,BK,U,U,λe=>?_,λn hn b=>?_⟩
 .refine go _ ?_
  unfold h9;rw[q0r e];rfl
 .refine go _ ?_
  unfold h9;rw[q0l (List.ne_nil_of_mem hn),Oc W BK hn b];rfl
inductive HM (ys:-DV) (aE:-OV) (K:RV->-OV->Prop):Prop
 |mk (m:Int) (ws:-Wy) (N:Nt) (w:Int) (q:aH m ws) (q:dh m ws N) (q:(0<=w/\w<(↑ws:Int))) (q:ys=[.p (a_ m ws),.p (gq N.p N.k N.s),.p (.int w)]) (q:aE=[]) (q:K (.p (.tup [.int w,.int (1+Hb m ws N.p w),gq (gB (N.p++[w])) N.k N.s])) [])
/---/def HN:WS:=(aD (a8 3 (dY (bZ (aL 2 BL (ay (aa 0) (ay (dq (ay (aa 2) ai)) ai)))) [η,Z 0,Z 1] (bL 0) dZ (dN (ay (aL 3 zU (ay (aa 1) (ay (d2 (aa 2) (dC (.int 0)) bg) (ay (aa 0) ai)))) ai) cq))) (bc (bQ (ay (aa 2) (ay (d2 (dC (.int 1)) (dN (ay (aa 3) ai) xb) dI) (ay (bQ (ay (aL 1 zV (ay (d2 (d2 (aa 1) (dC (.int 0)) bg) (bQ (ay (aa 2) ai)) dI) ai)) (ay (d2 (aa 1) (dC (.int 1)) bg) (ay (d2 (aa 1) (dC (.int 2)) bg) ai)))) ai))))))
def OL{a b x:Int}(h:x∈[a,b])(b1:∀y∈[a,b],x<=y):x=min a b:=by
 let h1:=b1 a (by simp);let h2:=b1 b (by simp);erw[q0c,q0L,q2m] at h;symm
def q7i:Sem 3 1 HM HN:=by
 ext ys aE K'-⟨m,ws,N,w,W,O,hw,rfl,rfl,k⟩;let km:=W.iE;let pl:=O.pl W;let⟨r1,r2⟩:=BN W hw
 let kr:∀x∈N.p++[w],0<=x/\x<(↑ws:Int):=λx hx=>by
  rcases q0w.mp hx with z|z
  .exact O.pn x z
  .rw[q0z.mp z];exact hw
 unfold HN;calc bp λM hM=>?_;simp!;calc⟨m,ws,[w],W,λn hn=>by rw[q0z.mp hn];calc hw,by show 1<=400;decide,U,U,?_⟩;rw[show bj (o_ ws [w])=.lst [.int (aB ws w).1,.int (aB ws w).2.1] from U];simp!
 refine L2.nr (λd=>match d with|.int x=>.int (↑(a6 m ws N.p x):Int)|_=>.non) (by show 2<=1000;decide) trivial ?_ ?_
 .ext d hd acc L ha h
  let⟨x,rx,rfl⟩:∃x:Int,(0<=x/\x<m)/\d=.int x:=by
   erw[q0c,q0L,q2m] at hd;rcases hd with rfl|rfl
   .exact⟨_,r1,U⟩
   .exact⟨_,r2,U⟩
  simp![gq,cV];calc⟨m,ws,N.p,x,W,O.pn,rx,U,U,?_⟩;simp![bj];exact⟨ha,h⟩
 simp!;subst hM;unfold bc bQ;calc wU λK2 HP=>?_;simp!;subst HP;dsimp only;calc wU λK2 HP=>?_;simp![xb,intsOf];calc⟨by simp,λx hx b=>?_⟩;let ex:=OL hx b;subst HP;simp![gq,cV,dz,at2,tupI];refine⟨⋯,θ,N.p++[w],BM kr km,?_,U,?_⟩
 .unfold HE tupI
  rw[q0s];rfl
 simp!;calc cC ?_;rw[ex];calc k
inductive HQ (ys:-DV) (aE:-OV) (K:RV->-OV->Prop):Prop
 |mk (m:Int) (ws:-Wy) (N:Nt) (h:Int) (q:aH m ws) (q:dh m ws N) (q:(0<=h/\h<m)) (q:ys=[.p (a_ m ws),.p (gq N.p N.k N.s),.p (.int h)]) (q:aE=[]) (q:K (.p (.tup [.non,.int ((↑(a6 m ws N.p h):Int)-1),gq N.p N.k (gB (N.s++a6 m ws N.p h))])) [])
/---/def HR:WS:=(aD (a8 3 (aL 3 zU (ay (aa 0) (ay (d2 (aa 1) (dC (.int 0)) bg) (ay (aa 2) ai))))) (bc (bQ (ay (dC .non) (ay (d2 (dN (ay (aa 3) ai) cq) (dC (.int 1)) (oI λi j=>.int (i-j))) (ay (bQ (ay (d2 (aa 1) (dC (.int 0)) bg) (ay (d2 (aa 1) (dC (.int 1)) bg) (ay (aL 1 zV (ay (d2 (dN (ay (d2 (aa 1) (dC (.int 2)) bg) ai) oC) (aa 3) dI) ai)) ai)))) ai))))))
def q8r:Sem 3 1 HQ HR:=by
 ext ys aE K'-⟨m,ws,N,h,W,O,hh,rfl,rfl,k⟩;let fW:=W.fW;let sl:=O.sl W;let ll:=vN W (p:=N.p) (h:=h)
 let kr:∀x∈N.s++a6 m ws N.p h,0<=x/\x<((m.toNat:Nat):Int):=λx hx=>by
  rcases q0w.mp hx with z|z
  .let:=O.sn x z;symm
  .let:=((fE W).mp z).1;symm
 unfold HR;calc bp λM hM=>?_;simp![gq,cV];calc⟨m,ws,N.p,h,W,O.pn,hh,U,U,?_⟩;rw[show bj (a6 m ws N.p h)=.lst ((a6 m ws N.p h).map D.int) from U];simp!;subst hM;simp![cV,dz,at2,tupI];calc⟨⋯,?_⟩;rw[<-q0s];calc⟨ι,N.s++a6 m ws N.p h,BM kr ⋯,U,U,?_⟩;simp!;calc cC k
inductive HS (ys:-DV) (aE:-OV) (K:RV->-OV->Prop):Prop
 |mk (m:Int) (ws:-Wy) (N:Nt) (fo:Option Int) (h:Int) (q:aH m ws) (q:dh m ws N) (q:(0<=h/\h<m)) (q:(∀w,fo=Z w->0<=w/\w<(↑ws:Int))) (q:ys=[.p (a_ m ws),.p (gq N.p N.k N.s),.p (.int h),.p (oD fo)]) (q:aE=[]) (q:K (.p (.tup [oD (mL m ws N fo h).1,.int (mL m ws N fo h).2,gq (dF m ws N fo h).p (dF m ws N fo h).k (dF m ws N fo h).s])) [])
/---/def HU:WS:=(aD (bP (gb (dT (d2 (aa 3) (dC .non) mB)) (dT (d2 (aa 2) (d2 (aa 1) (dC (.int 2)) bg) (fY θ)))) (bc (aL 3 HQ (ay (aa 0) (ay (aa 1) (ay (aa 2) ai))))) dX) (aD (bP (gb (dT (d2 (aa 3) (dC .non) wR)) (dT (d2 (aa 3) (d2 (aa 1) (dC (.int 0)) bg) (fY θ)))) (bc (aL 3 HM (ay (aa 0) (ay (aa 1) (ay (aa 3) ai))))) dX) (bc (bQ (ay (dC .non) (ay (dC (.int 0)) (ay (aa 1) ai)))))))
def x8n:Sem 4 0 HS HU:=by
 ext ys aE K'-⟨m,ws,N,fo,h,W,O,hh,hw,rfl,rfl,k⟩;let d0:=fA N.s;let d1:=fA N.p;unfold HU;unfold mL dF at k;calc bp λM hM=>?_;refine gN λA B hA hB=>?_
 cases fo with
 |none =>
  simp![oD,i9,gq,at2,tupI,d0];rw[iC];dsimp only at k
  by_cases c:h∈N.s
  .rw[q0g c]
   rw[q0r c,q0r c] at k;simp!;subst hB;show M _;subst hM;simp![i9,yX];exact cC k
  .rw[Ul c]
   rw[q0l c,q0l c] at k;simp!;subst hA;simp!;calc⟨m,ws,N,h,W,O,hh,U,U,?_⟩;simp!;exact cC k
 |some w =>
  simp![oD,i9];dsimp only at k;subst hB;show M _;subst hM;calc bp λM hM=>?_;calc gN λA2 B2 hA2 hB2=>?_;simp![yX,gq,cV,tupI,d1];rw[iC]
  by_cases c:w∈N.p
  .rw[q0g c]
   rw[q0r c,q0r c] at k;simp!;subst hB2;show M _;subst hM;simp!;exact cC k
  .rw[Ul c]
   rw[q0l c,q0l c] at k;simp!;subst hA2;simp!;calc⟨m,ws,N,w,W,O,hw w U,U,U,?_⟩;simp!;calc cC k
meta def nO(C a b:Y)(m:Int)(ws:-Wy)(N:Nt):OV:=.ins a C [("town",.p (a_ m ws)),("latest",.p (gq N.p N.k N.s)),("begun",.p (.int (↑N.q:Int))),("going",.w b)]
meta def gO(b:Y)(N:Nt):OV:=.ac b (cF 0 N.q)
inductive zW (C:Y) (ys:-DV) (aE:-OV) (K:RK->-OV->-OV->Prop):Prop
 |mk (a:Y) (m:Int) (ws:-Wy) (q:aH m ws) (q:ys=[.w a,.p (a_ m ws)]) (q:aE=[.ins a C []]) (q:∀b,K (.p .non) [nO C a b m ws bq] [gO b bq])
/---/def HV(c_Night:Y):WS:=(aD (iI (aL 1 zx (ay (aa 1) ai))) (aD (aI c_Night "town" (aa 1) (aa 0)) (aD (aI c_Night "latest" (dC (.tup [(.tup []),(.tup []),(.tup [])])) (aa 0)) (aD (aI c_Night "begun" (dC (.int 0)) (aa 0)) (aI c_Night "going" aO (aa 0))))))
def q8z(C:Y):∀ys aE K',↑ys=2->zW C ys aE K'->HV C (ae ↑aE K') ⟨ys.map Z++q0q 0 η,aE.map Z⟩:=by
 ext ys aE K'-⟨a,m,ws,W,rfl,rfl,k⟩;unfold HV;calc bp λN hN=>?_;simp![1];calc⟨m,ws,W,U,U,?_⟩;simp![1];subst hN;calc bp λN hN=>?_;simp![1];calc⟨a,0,_,⟨U,U,by decide⟩,?_⟩;subst hN;calc bp λN hN=>?_;simp![1];calc⟨a,0,_,⟨U,U,by show 1<1000;decide⟩,?_⟩;subst hN;calc bp λN hN=>?_;simp![1];refine⟨a,0,_,⟨U,U,by show 2<1000;decide⟩,?_⟩
 subst hN;rfl';ext b;calc⟨a,0,_,⟨U,U,by show 3<1000;decide⟩,?_⟩;calc⟨_,[gO b bq],[],U,U,k b⟩
inductive xh (C:Y) (ys:-DV) (aE:-OV) (K:RK->-OV->-OV->Prop):Prop
 |mk (a b:Y) (m:Int) (ws:-Wy) (N:Nt) (h:Int) (z:aH m ws) (z:dh m ws N) (z:(0<=h/\h<m)) (z:↑N.q<900) (z:ys=[.w a,.p (.int h)]) (z:aE=[nO C a b m ws N,gO b N]) (z:K (.p (dU (N.tell m ws (.wake h)))) [nO C a b m ws (N.step m ws (.wake h)),gO b (N.step m ws (.wake h))] [])
/---/def HW(c_Night:Y):WS:=(aD (bP (fR (dT (aL 3 t5 (ay (aa 1) (ay (dC (.int 0)) (ay (d2 (d2 (af c_Night "town" (aa 0)) (dC (.int 0)) bg) (dC (.int 1)) (oI λi j=>.int (i-j))) ai)))))) tT dX) (aD (a8 2 (af c_Night "begun" (aa 0))) (aD (aI c_Night "begun" (d2 (aa 2) (dC (.int 1)) dI) (aa 0)) (aD (bP (dT (d2 (aa 1) (d2 (af c_Night "latest" (aa 0)) (dC (.int 2)) bg) (fY ι))) (bc (bQ (ay (dC .non) (ay (dC (.int 0)) ai)))) dX) (aD (a8 3 (aL 3 HK (ay (af c_Night "town" (aa 0)) (ay (af c_Night "latest" (aa 0)) (ay (aa 1) ai))))) (aD (aQ (bQ (ay (aa 1) (ay (d2 (aa 3) (dC (.int 0)) bg) ai))) (ag (af c_Night "going" (aa 0))) (aa 2)) (aD (aI c_Night "latest" (d2 (aa 3) (dC (.int 2)) bg) (aa 0)) (bc (bQ (ay (dC .non) (ay (d2 (aa 3) (dC (.int 1)) bg) ai)))))))))))
def q8y(C:Y):∀ys aE K',↑ys=2->xh C ys aE K'->HW C (ae ↑aE K') ⟨ys.map Z++q0q 2 η,aE.map Z⟩:=by
 ext ys aE K'-⟨a,b,m,ws,N,h,W,O,hh,ql,rfl,rfl,k⟩;let d0:=fA N.s;let gl:=Ho (i:=0) (q:=N.q);unfold HW;calc bp λM hM=>?_;simp![1];calc⟨a,0,_,.p (a_ m ws),⟨U,U,U⟩,?_⟩;simp![1,a_,cV];calc⟨.int h,0,m-1,U,U,?_⟩;simp![1];rw[zh hh.1 ⋯];simp![1];subst hM;calc bp λM hM=>?_;simp![1];refine⟨a,0,_,.p (.int (↑N.q:Int)),⟨U,U,U⟩,?_⟩
 subst hM;calc bp λM hM=>?_;simp![1];calc⟨a,0,_,⟨U,U,by show 4<1000;decide⟩,?_⟩;subst hM;calc bp λM hM=>?_;calc gN λA B hA hB=>?_;simp![1];calc⟨a,0,_,.p (gq N.p N.k N.s),⟨U,U,U⟩,?_⟩;simp![1,gq,at2,tupI,d0];rw[iC];unfold Nt.tell Nt.step at k;dsimp only at k
 by_cases c:h∈N.s
 .rw[q0g c]
  rw[q0r c,q0r c] at k;simp![1];subst hA;simp![1];calc⟨[_,_],[],[],U,U,?_⟩;unfold nO gO at k;dsimp only at k;rw[Hm,Lo] at k;exact k
 .rw[Ul c]
  rw[q0l c,q0l c] at k;simp![1];subst hB;show M _;subst hM;calc bp λM hM=>?_;simp![1];calc⟨a,0,_,.p (a_ m ws),⟨U,U,U⟩,a,0,_,.p (gq N.p N.k N.s),⟨U,U,U⟩,?_⟩;simp![1];calc⟨m,ws,N,h,W,O,hh,U,U,?_⟩;simp![1];subst hM;calc bp λM hM=>?_;simp![0,cV];refine⟨a,0,_,.w b,⟨U,U,U⟩,b,1,gO b N,⟨U,U,U⟩,?_⟩
  simp![0,gO];calc⟨⋯,?_⟩;rw[show D.tup [.int h,oD (h9 ws (a6 m ws N.p h))]=p_ (h9 ws (a6 m ws N.p h),h) from U,ZX];subst hM;calc bp λM hM=>?_;simp![1,at2];calc⟨a,0,_,⟨U,U,by show 4<1000;decide⟩,?_⟩;subst hM;simp![1,dz];calc⟨[_,_],[],[],U,U,?_⟩;unfold nO gO at k;dsimp only at k;rw[Lo] at k;calc k
inductive zX (C:Y) (ys:-DV) (aE:-OV) (K:RK->-OV->-OV->Prop):Prop
 |mk (a b:Y) (m:Int) (ws:-Wy) (N:Nt) (i:Nat) (q:aH m ws) (q:dh m ws N) (q:fD m N (.fin i)) (q:ys=[.w a,.p (.int (i:Int))]) (q:aE=[nO C a b m ws N,gO b N]) (q:K (.p (dU (N.tell m ws (.fin i)))) [nO C a b m ws (N.step m ws (.fin i)),gO b (N.step m ws (.fin i))] [])
/---/def HX(c_Night:Y):WS:=(aD (bP (kR (fR (dT (aL 1 Bi (ay (aa 1) ai)))) (dT (ar θ (aa 1) (ag (af c_Night "going" (aa 0)))))) tT dX) (aD (a8 2 (aS (ag (af c_Night "going" (aa 0))) (aa 1))) (aD (a8 3 (aL 4 HS (ay (af c_Night "town" (aa 0)) (ay (af c_Night "latest" (aa 0)) (ay (d2 (aa 2) (dC (.int 0)) bg) (ay (d2 (aa 2) (dC (.int 1)) bg) ai)))))) (aD (aI c_Night "latest" (d2 (aa 3) (dC (.int 2)) bg) (aa 0)) (bc (bQ (ay (d2 (aa 3) (dC (.int 0)) bg) (ay (d2 (aa 3) (dC (.int 1)) bg) ai))))))))
def HY{m:Int}{ws:-Wy}{N:Nt}{q:-gj}(fo:Option Int)(h:Int):dF m ws ⟨N.p,N.k,N.s,q⟩ fo h=⟨(dF m ws N fo h).p,(dF m ws N fo h).k,(dF m ws N fo h).s,q⟩:=by
 cases fo<;>unfold dF<;>dsimp only<;>split<;>rfl
def q90(C:Y):∀ys aE K',↑ys=2->zX C ys aE K'->HX C (ae ↑aE K') ⟨ys.map Z++q0q 2 η,aE.map Z⟩:=by
 ext ys aE K'-⟨a,b,m,ws,N,i,W,O,⟨fo,h,hq⟩,rfl,rfl,k⟩;let⟨hh,hw,hn⟩:=O.q i fo h hq;let ev:cE (cF 0 N.q) (.inl (i:Int))=Z (p_ (fo,h)):=by let:=Hq (i:=0) hq;rwa [q0D] at this
 let ed:mO (cF 0 N.q) (.inl (i:Int))=cF 0 (N.q.set i η):=by let:=Hr (i:=0) (j:=i) (q:=N.q);rwa [q0D] at this
 unfold Nt.tell Nt.step at k;dsimp only at k;rw[hq] at k;dsimp only at k;rw[HY] at k;unfold HX;calc bp λM hM=>?_;calc gN λA B hA hB=>?_;rfl';calc⟨.int i,U,U,?_⟩;simp![0,FH];calc⟨a,0,_,.w b,⟨U,U,U⟩,b,1,gO b N,⟨U,U,U⟩,?_⟩;simp![0,gO,ev,q6o,q3v];subst hB;show M _
 subst hM;calc bp λM hM=>?_;rfl';calc⟨a,0,_,.w b,⟨U,U,U⟩,b,1,gO b N,⟨U,U,U⟩,?_⟩;simp![0,gO,ev,ed];subst hM;calc bp λM hM=>?_;simp![1];calc⟨a,0,_,.p (a_ m ws),⟨U,U,U⟩,a,0,_,.p (gq N.p N.k N.s),⟨U,U,U⟩,?_⟩;simp![1,p_,cV,dz];refine⟨m,ws,N,fo,h,W,O,hh,hw,U,U,?_⟩
 simp![1];subst hM;calc bp λM hM=>?_;simp![1,at2];calc⟨a,0,_,⟨U,U,by show 4<1000;decide⟩,?_⟩;subst hM;simp![1,cV,dz];calc⟨[_,_],[],[],U,U,?_⟩;unfold nO gO at k;dsimp only at k;rw[q1H] at k;calc k
section
variable{m:Int}{ws:-Wy}
def HZ:∀{N:Nt}{es:-eT}{i:Nat}{e:eT},jh m ws N es->es[i]?=Z e->fD m (runN m ws N (es.take i)) e/\jh m ws N (es.take i)
 |_,[],_,_,_,h=>by simp at h
 |N,x::r,0,e,h,q=>by cases(show Z x=Z e by simpa using q);exact⟨h.1,trivial⟩
 |N,x::r,i+1,e,h,q=>by
  let:=HZ (N:=N.step m ws x) (es:=r) (i:=i) (e:=e) h.2 q⁻¹;calc⟨this.1,h.1,this.2⟩
def z5a(N:Nt)(e:eT):(N.step m ws e).q.length<=↑N.q+1:=by
 cases e with
 |wake h =>
  unfold Nt.step;dsimp only;split
  .show ↑(N.q++[η])<=_;rw[Lo];exact Ln _
  .show ↑(N.q++[Z _])<=_;rw[Lo];exact Ln _
 |fin i =>
  unfold Nt.step;dsimp only;split
  .rename_i fo h _
   rw[HY (N:=N) fo h];show↑(N.q.set i η)<=_;rw[q1H];symm
  .omega
def vV:∀{N:Nt}{es:-eT},(runN m ws N es).q.length<=↑N.q+↑es
 |_,[]=>Ln _
 |N,x::r=>by
  let:=vV (N:=N.step m ws x) (es:=r);let:=z5a (m:=m) (ws:=ws) N x;show(runN m ws (N.step m ws x) r).q.length<=_;rw[Uh];symm
def H_{α:Type}{l:-α}{i:Nat}{a:α}(h:l[i]?=Z a):l.take (i+1)=l.take i++[a]:=by
 rw[List.take_add_one,h];rfl
end
inductive Ia (C:Y) (ys:-DV) (aE:-OV) (K:RK->-OV->-OV->Prop):Prop
 |mk (a b:Y) (m:Int) (ws:-Wy) (N:Nt) (e:eT) (z:aH m ws) (z:dh m ws N) (z:fD m N e) (z:↑N.q<900) (z:ys=[.w a,.p (gC e)]) (z:aE=[nO C a b m ws N,gO b N]) (z:K (.p (dU (N.tell m ws e))) [nO C a b m ws (N.step m ws e),gO b (N.step m ws e)] [])
/---/def Ib(c_Night:Y):WS:=(aD (bP (gb (dT (aL 2 wV (ay (aa 1) (ay (dC (.int 2)) ai)))) (dT (d2 (d2 (aa 1) (dC (.int 0)) bg) (dC (.str "wake")) oEq))) (bc (aF ι c_Night "wake" 2 (xh c_Night) (aa 0) (ay (d2 (aa 1) (dC (.int 1)) bg) ai))) dX) (aD (bP (gb (dT (aL 2 wV (ay (aa 1) (ay (dC (.int 2)) ai)))) (dT (d2 (d2 (aa 1) (dC (.int 0)) bg) (dC (.str "end")) oEq))) (bc (aF ι c_Night "end" 2 (zX c_Night) (aa 0) (ay (d2 (aa 1) (dC (.int 1)) bg) ai))) dX) tT))
def x2N(C:Y):∀ys aE K',↑ys=2->Ia C ys aE K'->Ib C (ae ↑aE K') ⟨ys.map Z++q0q 0 η,aE.map Z⟩:=by
 ext ys aE K'-⟨a,b,m,ws,N,e,W,O,he,ql,rfl,rfl,k⟩;let ww:dEq (.str "wake") (.str "wake")=θ:=U;let ew:dEq (.str "end") (.str "wake")=ι:=U;let ee:dEq (.str "end") (.str "end")=θ:=U;unfold Ib;refine bp λM hM=>gN λA B hA hB=>?_
 cases e with
 |wake h =>
  simp![1,gC];calc⟨.tup [.str "wake",.int h],2,U,U,?_⟩;simp![1,zg,cV,ww,q5t,q4B];subst hA;simp![1];calc⟨⟨a,0,_,U,U,U⟩,?_⟩;simp![1,dz];calc⟨[(0,nO C a b m ws N),(1,gO b N)],⟨U,U,trivial⟩,?_⟩;simp![1];calc⟨a,b,m,ws,N,h,W,O,he,ql,U,U,?_⟩;simp![1];exact⟨[_,_],[],[],U,U,k⟩
 |fin i =>
  simp![1,gC];calc⟨.tup [.str "end",.int i],2,U,U,?_⟩;simp![1,zg,cV,ew,q5t,q4B];subst hB;simp![1];subst hM;calc bp λM hM=>gN λA B hA hB=>?_;simp![1];calc⟨.tup [.str "end",.int i],2,U,U,?_⟩;simp![1,zg,cV,ee,q5t,q4B];subst hA;simp![1];calc⟨⟨a,0,_,U,U,U⟩,?_⟩;simp![1,dz]
  calc⟨[(0,nO C a b m ws N),(1,gO b N)],⟨U,U,trivial⟩,?_⟩;simp![1];calc⟨a,b,m,ws,N,i,W,O,he,U,U,?_⟩;simp![1];calc⟨[_,_],[],[],U,U,k⟩
inductive B4 (C:Y) (ys:-DV) (aE:-OV) (K:RK->-OV->-OV->Prop):Prop
 |mk (a b:Y) (m:Int) (ws:-Wy) (es:-eT) (q:aH m ws) (q:jh m ws bq es) (q:↑es<900) (q:ys=[.w a,.p (.lst (es.map gC))]) (q:aE=[nO C a b m ws bq,gO b bq]) (q:K (.n ((ft m ws bq es).map dU)) [nO C a b m ws (runN m ws bq es),gO b (runN m ws bq es)] [])
/---/def Ic(c_Night:Y):WS:=(aD (a8 2 (pN ai)) (aD (eZ (i8 (ay (aa 1) ai)) (iz 2 (dB (bL 3) (dB (bL 4) hZ))) (iI (gh (aa 2) (ay (aG ι 2 (Ia c_Night) (ay (aa 0) (ay (aa 4) ai))) ai)))) (bc (aa 2))))
def x1a(C:Y):∀ys aE K',↑ys=2->B4 C ys aE K'->Ic C (ae ↑aE K') ⟨ys.map Z++q0q 3 η,aE.map Z⟩:=by
 ext ys aE K'-⟨a,b,m,ws,es,W,ok,B5,rfl,rfl,k⟩;unfold Ic;calc bp λM hM=>?_;simp![1];subst hM;calc bp λM hM=>oE λg' b' K2 hg hb' hK=>?_;simp![1];subst hg hb' hK;refine mz (λi δ=>δ=⟨[Z (.w a),Z (.p (.lst (es.map gC))),Z (.o 2),η,η],[Z (nO C a b m ws (runN m ws bq (es.take i))),Z (gO b (runN m ws bq (es.take i))),Z (.lst ((ft m ws bq (es.take i)).map dU))]⟩) U ?_ ?_
 .ext i d δ L hi rfl hL
  let⟨e',h1,h2⟩:=pR hi;rw[q0D] at h2;subst h2;rw[Uj] at h1;let⟨e,he,rfl⟩:=q0e.mp h1;let il:i<↑es:=(Ll.mp he).1;let⟨o1,o2⟩:=HZ ok he;let ql:=vV (m:=m) (ws:=ws) (N:=bq) (es:=es.take i);let tl:=xc (m:=m) (ws:=ws) (N:=bq) (a:=es.take i);rw[q0K,q7I (q1e il)] at ql tl;let ql:(runN m ws bq (es.take i)).q.length<=i:=by let:=ql;erw[bq,q1p,q0D] at this;exact this
  let ON:=dh.run W (pd m ws) o2;let hN:∀δ',δ'=_->L δ':=hL;rw[H_ he,vM,zM] at hN;generalize runN m ws bq (es.take i)=N at ON o1 ql hN ⊢;calc⟨trivial,?_⟩;erw[iz,dB,hZ,bL,Uh,q1p,q1a,q1b,q0D,q8M,true_and];simp![1,g6];calc⟨[(0,nO C a b m ws N),(1,gO b N)],⟨U,U,trivial⟩,?_⟩;simp![1];calc⟨a,b,m,ws,N,e,W,ON,o1,⋯,U,U,?_⟩;simp![1,dy];calc⟨by rw[tl];symm,?_⟩;calc hN _ ?_;rw[q0s];rfl
 .ext δ rfl
  calc⟨trivial,?_⟩;show M _;subst hM;simp![1];calc⟨[_,_],[],[Z (.lst _)],U,U,Ln _,?_⟩;rw[rm,ye,q2s];calc k
inductive Ie (C:Y) (ys:-DV) (aE:-OV) (K:RK->-OV->-OV->Prop):Prop
 |mk (m:Int) (ws:-Wy) (es:-eT) (q:aH m ws) (q:jh m ws bq es) (q:↑es<900) (q:ys=[.p (a_ m ws),.p (.lst (es.map gC))]) (q:aE=[]) (q:K (.n ((ft m ws bq es).map dU)) [] [])
/---/def Ig(c_Night:Y):WS:=(bc (aG θ 2 (B4 c_Night) (ay (aJ c_Night 2 (zW c_Night) (ay (aa 0) ai)) (ay (aa 1) ai))))
def q8s(C:Y):∀ys aE K',↑ys=2->Ie C ys aE K'->Ig C (ae ↑aE K') ⟨ys.map Z++q0q 0 η,aE.map Z⟩:=by
 ext ys aE K'-⟨m,ws,es,W,ok,B5,rfl,rfl,k⟩;unfold Ig;simp![1];ext a;calc⟨[(0,.ins a C [])],⟨U,trivial⟩,?_⟩;simp![1];calc⟨a,m,ws,W,U,U,λb=>?_⟩;simp![1,dy];calc⟨[(0,nO C a b m ws bq),(1,gO b bq)],⟨U,U,trivial⟩,?_⟩;simp![1];calc⟨a,b,m,ws,es,W,ok,B5,U,U,?_⟩;simp![1,dy];calc⟨[],[],[Z _,Z _,Z (.lst _)],U,U,q0V _,k⟩
end LJ
namespace PySem
open Sem (wp)
end PySem
namespace L2
open PySem PySem.Spec PyProof.Rows
end L2
namespace LJ
open PySem L2
variable[zt:ba]
inductive Ih (ys:-DV) (aE:-OV) (K:RV->-OV->Prop):Prop
 |mk (m:Int) (ws:-Wy) (l:-Int) (n:Int) (q:aH m ws) (q:(0<=n/\n<(↑ws:Int))) (q:ys=[.p (a_ m ws),.p (bj l),.p (.int n)]) (q:aE=[]) (q:K (.p (.bl (eS l (aB ws n)))) [])
/---/def Ii:WS:=(aD (i5 (j4 (d2 (d2 (aa 0) (dC (.int 1)) bg) (aa 2) bg) j3 (tX (dC (.int 2)))) (iz 2 (dB (bL 3) (dB (bL 4) hZ)))) (bc (d2 (d2 (aa 3) (aa 1) (fY ι)) (d2 (aa 4) (aa 1) (fY ι)) jB)))
def q5c:Sem 3 2 Ih Ii:=by
 ext ys aE K'-⟨m,ws,l,n,W,⟨n0,n1⟩,rfl,rfl,k⟩;let⟨y,ey,hy,ea,_⟩:=nv W n0 n1;let ew:aB ws n=y:=ey;rw[ew] at k;unfold Ii;calc bp λN hN=>?_;let c2:cutD [D.int y.1,D.int y.2.1,D.int y.2.2] η (Z 2)=[D.int y.1,D.int y.2.1]:=U;simp![a_,dz,ea,bK,c2];subst hN;simp![bj];let d0:=fA l;calc⟨⋯,⋯,?_⟩;rw[iC,iC];unfold eS at k;generalize I (y.1∈l)=p at k;generalize I (y.2.1∈l)=q at k;cases p<;>cases q<;>calc cC k
meta def zY:D->D
 |.tup [_,n]=>n
 |_=>.non
inductive zZ (ys:-DV) (aE:-OV) (K:RV->-OV->Prop):Prop
 |mk (m:Int) (ws:-Wy) (us:-Int) (h:Int) (q:aH m ws) (q:Nums ws us) (q:(0<=h/\h<m)) (q:ys=[.p (a_ m ws),.p (bj us),.p (.int h)]) (q:aE=[]) (q:K (.p (bj (a6 m ws us h))) [])
/---/def Ij:WS:=(aD (a8 3 (aL 2 FT (ay (aa 0) (ay (aa 1) ai)))) (bc (dY (m9 (ay (d2 (aa 0) (dC (.int 0)) bg) ai)) [η,Z 3,Z 2] (bL 0) (dT (d2 (d2 (aa 1) (aa 0) bg) (d2 (aa 1) (aa 2) bg) oEq)) (aa 0))))
open Classical in
def q6J:Sem 3 1 zZ Ij:=by
 rintro ys aE K'-⟨m,ws,us,h,W,hu,hh,rfl,rfl,k⟩;obtain⟨i,rfl⟩:=q2P hh.1;have hi:i<m.toNat:=by symm
 have fW:=W.fW;have mo:=GU W hu;have a1:=rS (ns:=iA m ws us) (i:=i) (by rw[mo.1];exact hi);unfold a6 at k;unfold Ij;refine bp λN hN=>?_;simp!;refine⟨m,ws,us,W,hu,.inl ⟨rfl,rfl,?_⟩⟩;generalize iA m ws us=fs at mo a1;rw[show bj fs=.lst (fs.map D.int) from rfl];simp!;subst hN;simp![a_,cV];refine⟨⋯,?_⟩
 refine L2.jC (λd=>match d with
  |.int x=>decide (bo (fq ws us) i x)
  |_=>false) id (by rw[m_];symm) trivial ?_ ?_
 .intro d hd acc L' ha h1 h2
  obtain⟨z,hz⟩:=q0m.mp hd;obtain⟨zl,rfl⟩:=oy hz;rw[q5h] at h1 h2 ⊢;have a2:=rS (ns:=fs) (i:=z) (by rw[mo.1];exact zl);dsimp only at h1 h2;simp![a1,a2];rw[vH]
  by_cases q:bo (fq ws us) i z
  .rw[q0g ((mo.2 z i zl hi).mpr q.symm)]
   simp!;exact⟨ha,h1 (q0g q)⟩
  .rw[Ul λy=>q ((mo.2 z i zl hi).mp y).symm]
   simp!;exact h2 (Ul q)
 have e:((dE 0 m.toNat).filter λd=>match d with
  |.int x=>decide (bo (fq ws us) i x)
  |_=>false).map id=(cls m.toNat (fq ws us) i).map D.int:=by
  unfold cls;rw[q3W,pU,q1I];rfl
 rw[e];exact cC k
inductive Ik (ys:-DV) (aE:-OV) (K:RV->-OV->Prop):Prop
 |mk (m:Int) (ws:-Wy) (l us:-Int) (q:aH m ws) (q:Nums ws us) (q:↑us<=30) (q:ys=[.p (a_ m ws),.p (bj l),.p (bj us)]) (q:aE=[]) (q:∀os:-Int,os.Perm (us.filter λn=>eS l (aB ws n))->(os.map (d8 ws)).Pairwise kle->K (.p (bj os)) [])
/---/def Il:WS:=(aD (a8 3 (dY (bZ (aa 2)) [η,Z 0,Z 1] (bL 0) (dT (aL 3 Ih (ay (aa 1) (ay (aa 2) (ay (aa 0) ai))))) (bQ (ay (aL 2 Gv (ay (aa 1) (ay (aa 0) ai))) (ay (aa 0) ai))))) (bc (dY (bZ (dN (ay (aa 3) ai) Bs)) [η,η] (iz 2 (dB (bL 0) (dB (bL 1) hZ))) dZ (aa 1))))
def q8v:Sem 3 1 Ik Il:=by
 ext ys aE K'-⟨m,ws,l,us,W,hu,Im,rfl,rfl,k⟩;let ol:↑(us.filter λn=>eS l (aB ws n))<=30:=q0N (q0S _ _) Im;unfold Il;calc bp λN hN=>?_;rw[show bj us=.lst (us.map D.int) from U];simp!
 refine jC (λd=>match d with
  |.int n=>eS l (aB ws n)
  |_=>ι) (λd=>match d with
  |.int n=>mH ws n
  |_=>.non) (by rw[ye];symm) trivial ?_ ?_
 .ext d hd acc L ha h1 h2
  let⟨n,hn,rfl⟩:=q0j.mp hd;let nn:=hu n hn;dsimp only at h1 h2;simp!;calc⟨m,ws,l,n,W,nn,U,U,?_⟩;simp!
  cases q:eS l (aB ws n) with
  |false=>simp!;exact h2 q
  |true =>
   simp!;calc⟨m,ws,n,W,nn,U,U,?_⟩;simp!;exact⟨ha,h1 q⟩
 let e:((us.map D.int).filter λd=>match d with
  |.int n=>eS l (aB ws n)
  |_=>ι).map (λd=>match d with
  |.int n=>mH ws n
  |_=>.non)=(us.filter λn=>eS l (aB ws n)).map (mH ws):=by
  rw[q1I,q0y];rfl
 rw[e];generalize us.filter (λn=>eS l (aB ws n))=ls at ol k;subst hN;simp![Bs]
 refine⟨⋯,λd=>match d with
  |.tup [.tup ks,.int n]=>(match intsOf ks with
   |some l=>l++[n]
   |none=>[])
  |_=>[],.inr ⟨3,λd hd=>?_⟩,λout pm pw=>?_⟩
 .let⟨n,_,rfl⟩:=q0j.mp hd
  refine⟨d8 ws n,n,U,U,?_⟩
  show(match intsOf ((d8 ws n).map D.int) with
   |some l=>l++[n]
   |none=>[])=_
  rw[nh]
 .let⟨ns,rfl,pn⟩:∃ns:-Int,out=ns.map (mH ws)/\ns.Perm ls:=by
   refine⟨out.map λd=>match d with
    |.tup [_,.int n]=>n
    |_=>0,?_,?_⟩
   .rw[q0y]
    calc(q3W out).symm.trans (q02 λd hd=>?_);let⟨n,_,rfl⟩:=q0j.mp (pm.mem_iff.mp hd);rfl
   .let:=pm.map λd=>match d with
     |.tup [_,.int n]=>n
     |_=>0
    rw[q0y] at this;exact this.trans (q7F ((q02 λn _=>U).trans (q3W _)))
  let nl:↑ns<=30:=by rw[pn.length_eq];exact ol
  let up:(ns.map (d8 ws)).Pairwise kle:=by
   rw[q0y] at pw;rw[q1s] at pw ⊢;refine pw.imp λ{a b} h=>?_
   let h:kle ((match intsOf ((d8 ws a).map D.int) with
    |some l=>l++[a]
    |none=>[])) ((match intsOf ((d8 ws b).map D.int) with
    |some l=>l++[b]
    |none=>[])):=h
   rw[nh,nh] at h;exact Yh U h
  refine L2.nr zY (by rw[ye];symm) trivial ?_ ?_
  .ext d hd acc L ha h
   let⟨n,_,rfl⟩:=q0j.mp hd;simp![mH];exact⟨ha,h⟩
  .let e:(ns.map (mH ws)).map zY=ns.map D.int:=by rw[q0y];rfl
   rw[e];calc cC (k ns pn up)
meta def fF:gj->D
 |none=>.non
 |some x=>.tup [oD x.1,.int x.2]
meta def lO(a b:Y)(N:Nt):OV:=.av a [(.inr "put",.p (bj N.p)),(.inr "known",.p (bj N.k)),(.inr "sure",.p (bj N.s)),(.inr "searches",.w b)]
meta def sO(b:Y)(N:Nt):OV:=.al b (N.q.map fF)
/---/def Io(C:Y):GK:=λys aE K=>ys=[]/\aE=[]/\∀a b,K (.w a) [] [lO a b bq,sO b bq]
/---/def Ip(c_Night:Y):WS:=(bc (aU [("put",(dq ai)),("known",(dq ai)),("sure",(dq ai)),("searches",(pN ai))]))
def q8w(C:Y):∀ys aE K',↑ys=0->Io C ys aE K'->Ip C (ae ↑aE K') ⟨ys.map Z++q0q 0 η,aE.map Z⟩:=by
 ext ys aE K'-⟨rfl,rfl,k⟩;unfold Ip;rfl';ext b a;calc⟨[],[lO a b bq,sO b bq],[],U,U,k a b⟩
meta def bN:Nat->-gj->-Int
 |_,[]=>[]
 |i,none::r=>bN (i+1) r
 |i,some _::r=>(i:Int)::bN (i+1) r
def z5:∀{i:Nat}{q:-gj}{x:Int},x∈bN i q->∃j fo h,x=((i+j:Nat):Int)/\q[j]?=Z (Z (fo,h))
 |i,[],x,h=>nomatch h
 |i,none::r,x,h=>by
  let⟨j,fo,h',e,g⟩:=z5 (i:=i+1) (q:=r) h;exact⟨j+1,fo,h',by rw[e];congr 1;symm,by simpa using g⟩
 |i,some y::r,x,h=>by
  rcases q0c.mp h with rfl|h
  .exact⟨0,y.1,y.2,U,U⟩
  .let⟨j,fo,h',e,g⟩:=z5 (i:=i+1) (q:=r) h
   calc⟨j+1,fo,h',by rw[e];congr 1;symm,by simpa using g⟩
def B6:∀{i:Nat}{q:-gj},↑(bN i q)<=↑q
 |i,[]=>Ln _
 |i,none::r=>q6X (B6 (i:=i+1) (q:=r))
 |i,some x::r=>q3O (B6 (i:=i+1) (q:=r))
meta def pf:D->Bool
 |.tup [_,.non]=>ι
 |_=>θ
meta def gw:D->D
 |.tup [x,_]=>x
 |_=>.non
def Iq:∀{i:Nat}{q:-gj},(((j2 i (q.map fF)).filter pf).map gw)=(bN i q).map D.int
 |i,[]=>U
 |i,none::r=>by
  show((D.tup [.int i,.non]::j2 (i+1) (r.map fF)).filter pf).map gw=_;rw[q2j (by simp[pf])];exact Iq (i:=i+1) (q:=r)
 |i,some y::r=>by
  show((D.tup [.int i,.tup [oD y.1,.int y.2]]::j2 (i+1) (r.map fF)).filter pf).map gw=_;rw[q2i (by rfl),q0C,Iq (i:=i+1) (q:=r)];rfl
inductive Ir (C:Y) (ys:-DV) (aE:-OV) (K:RK->-OV->-OV->Prop):Prop
 |mk (a b:Y) (N:Nt) (z:↑N.q<900) (z:ys=[.w a]) (z:aE=[lO a b N,sO b N]) (z:K (.p (bj (bN 0 N.q))) [lO a b N,sO b N] [])
/---/def Iu(c_Night:Y):WS:=(bc (dY (i8 (ay (ag (aj "searches" (aa 0))) ai)) [η,η] (iz 2 (dB (bL 0) (dB (bL 1) hZ))) (dT (d2 (aa 1) (dC .non) wR)) (aa 0)))
def q8u(C:Y):∀ys aE K',↑ys=1->Ir C ys aE K'->Iu C (ae ↑aE K') ⟨ys.map Z++q0q 0 η,aE.map Z⟩:=by
 ext ys aE K'-⟨a,b,N,ql,rfl,rfl,k⟩;unfold Iu;rfl';calc⟨a,0,_,.w b,⟨U,U,U⟩,b,1,sO b N,⟨U,U,U⟩,?_⟩;simp![0,sO];refine L2.jC pf gw ?_ ?_ ?_ ?_
 .rw[rm,ye];symm
 .trivial
 .ext d hd acc L ha h1 h2
  let⟨i,hi⟩:=q0m.mp hd;let⟨e,g1,rfl⟩:=pR hi;rw[Uj] at g1;let⟨s,hs,rfl⟩:=q0e.mp g1;rw[q0D] at h1 h2 ⊢;rfl'
  cases s with
  |none=>simp![0,fF];exact h2 U
  |some y=>simp![0,fF];exact⟨ha,h1 U⟩
 .rw[Iq]
  calc⟨[_,_],[],[],U,U,k⟩
def Iv{a b:Y}{N:Nt}:∃kvs,lO a b N=.av a kvs/\cE kvs (.inr "put")=Z (.p (bj N.p))/\cE kvs (.inr "known")=Z (.p (bj N.k))/\cE kvs (.inr "sure")=Z (.p (bj N.s))/\cE kvs (.inr "searches")=Z (.w b)/\↑kvs=4
 /\ (∀d,putD kvs (.inr "put") d=[(.inr "put",d),(.inr "known",.p (bj N.k)),(.inr "sure",.p (bj N.s)),(.inr "searches",.w b)])
 /\ (∀d,putD kvs (.inr "known") d=[(.inr "put",.p (bj N.p)),(.inr "known",d),(.inr "sure",.p (bj N.s)),(.inr "searches",.w b)])
 /\ (∀d,putD kvs (.inr "sure") d=[(.inr "put",.p (bj N.p)),(.inr "known",.p (bj N.k)),(.inr "sure",d),(.inr "searches",.w b)]) :=
 ⟨_,U,U,U,U,U,U,λ_=>U,λ_=>U,λ_=>U⟩
def z4F(l:-Int):((l.map D.int).any λe=>dEq e .non)=ι:=by
 rw[q9z];calc q2D.mpr λx _=>by simp[dEq]
meta def z6(one:Int)(g:-Int):D->Bool
 |.tup [.int n,.tup [.int i,.int j,_]]=>(I (one=i)||I (one=j))&&I (n∉g)
 |_=>ι
def z4E(ws:-Wy)(one:Int)(g:-Int):((j2 0 (ws.map bK)).filter (z6 one g)).map gw=(pe ws g one).map D.int:=by
 let gen:∀(pre:-Wy)(ys:-Wy),ws=pre++ys->((j2 pre.length (ys.map bK)).filter (z6 one g)).map gw=(((q4O pre.length ↑ys).map λ(i:Nat)=>(i:Int)).filter λn=>(I (one=(aB ws n).1)||I (one=(aB ws n).2.1))&&I (n∉g)).map D.int:=by
  ext pre ys
  induction ys generalizing pre with
  |nil=>ext _;rfl
  |cons y r ih =>
   ext e;let h:=ih (pre++[y]) (by rw[q12];calc e);rw[Lo,q0J] at h
   let ey:aB ws (pre.length:Int)=y:=by
    unfold aB;rw[q0t,e,My,q0i (Ln _),q1l];rfl
   show((D.tup [.int (pre.length:Nat),bK y]::j2 (pre.length+1) (r.map bK)).filter (z6 one g)).map gw=_;rw[Uh,q7g,q0C,q1r,q1r,ey];show(if((I (one=y.1)||I (one=y.2.1))&&I ((pre.length:Int)∉g))=θ then _ else _:-D).map gw=_;split
   .rw[q0C,q0C,h];rfl
   .exact h
 let:=gen [] ws U;rw[q1p] at this;rw[this];unfold pe bB;rw[q25]
def OM(ws:-Wy)(g l:-Int):↑(j7 ws g l)<=↑l*↑ws:=by
 unfold j7
 induction l with
 |nil=>simp
 |cons x r ih =>
  rw[q6Z,Lo,Uh,q9j]
  let:↑(pe ws g x)<=↑ws:=by
   unfold pe;calc q0N (q0S _ _) ?_;rw[lP];exact Ln _
  symm
inductive Iw (C:Y) (ys:-DV) (aE:-OV) (K:RK->-OV->-OV->Prop):Prop
 |mk (a b:Y) (m:Int) (ws:-Wy) (N:Nt) (h:Int) (z:aH m ws) (z:dh m ws N) (z:(0<=h/\h<m)) (z:↑N.q<900) (z:ys=[.p (a_ m ws),.w a,.p (.int h)]) (z:aE=[lO a b N,sO b N]) (z:K (.p (dU (N.tell m ws (.wake h)))) [lO a b (N.step m ws (.wake h)),sO b (N.step m ws (.wake h))] [])
/---/def Iy(c_Night:Y):WS:=(aD (bP (dT (d2 (aa 2) (aj "sure" (aa 1)) (fY ι))) (aD (iI (gh (ag (aj "searches" (aa 1))) (ay (dC .non) ai))) (bc (bQ (ay (dC .non) (ay (dC (.int 0)) ai))))) dX) (aD (a8 3 (aL 3 zZ (ay (aa 0) (ay (aj "put" (aa 1)) (ay (aa 2) ai))))) (aD (a8 4 (d2 (aj "put" (aa 1)) (aj "known" (aa 1)) dI)) (aD (a8 5 (pN ai)) (aD (eZ (bZ (aa 3)) (bL 6) (iI (rF (aa 5) (ay (dY (i8 (ay (d2 (aa 0) (dC (.int 1)) bg) ai)) [η,η,Z 6,Z 4] (iz 2 (dB (bL 0) (dB (bL 1) hZ))) (gb (dT (d2 (aa 2) (j4 (aa 1) j3 (tX (dC (.int 2)))) (fY ι))) (dT (d2 (aa 0) (aa 3) (fY θ)))) (aa 0)) ai)))) (aD (a8 7 (aL 3 Ik (ay (aa 0) (ay (aa 3) (ay (dN (ay (aa 5) ai) aN) ai))))) (aD (aP "known" (dN (ay (d2 (aj "known" (aa 1)) (dY (bZ (dN (ay (aa 5) ai) aN)) [η,Z 7] (bL 0) (dT (d2 (aa 0) (aa 1) (fY θ))) (aa 0)) dI) ai) mq) (aa 1)) (aD (iI (gh (ag (aj "searches" (aa 1))) (ay (bQ (ay (vd (dT (d2 (aa 7) (dq ai) jB)) (d2 (aa 7) (dC (.int 0)) bg) (dC .non)) (ay (aa 2) ai))) ai))) (bc (bQ (ay (dC .non) (ay (d2 (d2 (dC (.int 2)) (d2 (dN (ay (aa 3) ai) cq) (dC (.int 1)) (oI λi j=>.int (i-j))) fy) (d2 (dC (.int 2)) (dN (ay (aa 5) ai) cq) fy) dI) ai))))))))))))
def q9W(C:Y):∀ys aE K',↑ys=3->Iw C ys aE K'->Iy C (ae ↑aE K') ⟨ys.map Z++q0q 5 η,aE.map Z⟩:=by
 ext ys aE K'-⟨a,b,m,ws,N,h,W,O,hh,ql,rfl,rfl,k⟩;let km:=W.iE;let d0:=fA N.s;let pl:=O.pl W;let kl:=O.kl W;let ll:=vN W (p:=N.p) (h:=h);unfold Iy;calc bp λM hM=>?_;calc gN λA B hA hB=>?_;rfl';calc⟨a,0,_,.p (bj N.s),⟨U,U,U⟩,?_⟩;simp![0,bj];calc⟨⋯,?_⟩;rw[iC];unfold Nt.tell Nt.step at k;dsimp only at k
 by_cases c:h∈N.s
 .rw[q0g c]
  rw[q0r c,q0r c] at k;rfl';subst hA;calc bp λM2 jn=>?_;rfl';calc⟨a,0,_,.w b,⟨U,U,U⟩,b,1,sO b N,⟨U,U,U⟩,?_⟩;simp![0,sO];calc⟨⋯,?_⟩;subst jn;rfl';refine⟨[_,_],[],[],U,U,?_⟩
  unfold lO sO at k;dsimp only at k;rw[q0s] at k;exact k
 .rw[Ul c]
  rw[q0l c,q0l c] at k;rfl';subst hB;show M _;subst hM;calc bp λM hM=>?_;rfl';calc⟨a,0,_,.p (bj N.p),⟨U,U,U⟩,?_⟩;rfl';calc⟨m,ws,N.p,h,W,O.pn,hh,U,U,?_⟩;rfl'
  subst hM;let⟨l,hl⟩:∃l,l=a6 m ws N.p h:=⟨_,U⟩;rw[<-hl] at ll;rw[<-hl];calc bp λM hM=>?_;rfl';calc⟨a,0,_,.p (bj N.p),⟨U,U,U⟩,a,0,_,.p (bj N.k),⟨U,U,U⟩,?_⟩;simp![0,bj,ye];calc⟨⋯,?_⟩;rw[<-q0s];subst hM;calc bp λM hM=>?_;rfl';subst hM;let⟨g,hg⟩:∃g,g=N.p++N.k:=⟨_,U⟩
  rw[<-hg];let dg:=fA g;let al:=OM ws g l;let al2:↑l*↑ws<=12*30:=q8d ll km;calc bp λM hM=>oE λg' b' K2 hg' hb' hK=>?_;rfl';subst hg' hb' hK;refine mz (λi δ=>δ=⟨[Z (.p (a_ m ws)),Z (.w a),Z (.p (.int h)),Z (.p (.lst (l.map D.int))),Z (.p (.lst (g.map D.int))),Z (.o 2),η,η],[Z (lO a b N),Z (sO b N),Z (.lst ((j7 ws g (l.take i)).map D.int))]⟩) U ?_ ?_
  .ext i d δ L hi rfl hL
   rw[Uj] at hi;let⟨one,ho,rfl⟩:=q0e.mp hi;calc⟨trivial,?_⟩;let al3:=OM ws g (l.take i);let il:i<↑l:=(Ll.mp ho).1;let al4:↑(l.take i)*↑ws<=12*30:=q8d (by rw[q0K];symm) km
   let al5:↑(pe ws g one)<=↑ws:=by
    unfold pe;calc q0N (q0S _ _) ?_;rw[lP];exact Ln _
   erw[bL,q1a,q1b];simp![0,a_,dz];refine L2.jC (z6 one g) gw (by rw[rm,ye];symm) trivial ?_ ?_
   .ext d hd acc L' ha h1 h2
    let⟨j,hj⟩:=q0m.mp hd;let⟨e,g1,rfl⟩:=pR hj;rw[Uj] at g1;let⟨y,hy,rfl⟩:=q0e.mp g1;let c2:cutD [D.int y.1,D.int y.2.1,D.int y.2.2] η (Z 2)=[D.int y.1,D.int y.2.1]:=U;erw[z6,bK,q0D] at h1 h2;simp![0,bK,c2]
    let e1:(dEq (.int y.1) (.int one)||dEq (.int y.2.1) (.int one))=(I (one=y.1)||I (one=y.2.1)):=by
     rw[vH,vH,decide_eq_decide.mpr (@eq_comm _ y.1 one),decide_eq_decide.mpr (@eq_comm _ y.2.1 one)]
    rw[e1]
    cases q:(I (one=y.1)||I (one=y.2.1)) with
    |false =>
     rw[q] at h2;rfl';exact h2 U
    |true =>
     rw[q] at h1 h2;rfl';calc⟨⋯,?_⟩;rw[iC]
     by_cases cg:(j:Int)∈g
     .rw[q0g cg]
      rfl';exact h2 (by rw[q8S];calc Ul (q2Y cg))
     .rw[Ul cg]
      rfl';exact⟨ha,h1 (by rw[q8S];calc q0g cg)⟩
   .rw[z4E]
    rfl';calc⟨⋯,?_⟩;calc hL _ ?_;rw[H_ ho];unfold j7;rw[List.flatMap_append,q0s,q6Z,List.flatMap_nil,qE];rfl
  .ext δ rfl
   calc⟨trivial,?_⟩;show M _;rw[ye,q2s];let am:∀x∈j7 ws g l,0<=x/\x<(↑ws:Int):=λx hx=>(gr.mp hx).1.1;let OO:=BM am km;let rl:↑(gB (j7 ws g l))<=↑ws:=Ot am;let rn:Nums ws (gB (j7 ws g l)):=λx hx=>am x (bt.mp hx);let ec:=Z1 W N.p N.k l (by rw[hl];calc(ui ..).nd);let eo:=ZY (h:=h) W O;let ek:=@ZZ _ _ _ _ h W O;let ef:=@Z0 _ m ws W l;rw[<-hl] at eo ek;rw[<-hg] at eo ek ec;let hw:K' (.p (dU (η,zL m ws N.p N.k h))) [lO a b ⟨N.p,vL m ws N.p N.k h,N.s,N.q++[Z (h9 ws l,h)]⟩,sO b ⟨N.p,vL m ws N.p N.k h,N.s,N.q++[Z (h9 ws l,h)]⟩] []:=by rw[hl];exact k
   let hc:zL m ws N.p N.k h=2*((↑l:Int)-1)+2*(↑(j7 ws g l):Int):=by
    unfold zL;rw[ec,<-hl]
   rw[hc] at hw;generalize j7 ws g l=as at *;subst hM;calc bp λM hM=>?_;rfl';rw[nh];dsimp only;calc⟨OO,?_⟩;calc⟨m,ws,l,gB as,W,rn,⋯,U,U,λos pm up=>?_⟩;rw[eo] at pm;let ol:=(Zn (ws:=ws) (l:=l));let pml:=pm.length_eq;let dos:=fA os;rfl';subst hM;calc bp λM hM=>?_;rfl'
   calc⟨a,0,_,.p (bj N.k),⟨U,U,U⟩,?_⟩;rfl';rw[nh];dsimp only;calc⟨OO,?_⟩;refine L2.jC (sQ λn=>I (n∉os)) (λd=>d) (by rw[ye];calc q0N rl ⋯) trivial ?_ ?_
   .ext d hd acc L ha h1 h2
    let⟨n,hn,rfl⟩:=q0j.mp hd;erw[sQ] at h1 h2;simp![0,bj];calc⟨⋯,?_⟩;rw[iC]
    by_cases c:n∈os
    .rw[q0g c];rfl';exact h2 (Ul (q2Y c))
    .rw[Ul c];rfl';exact⟨ha,h1 (q0g c)⟩
   rw[B3];let fl:=q0S (λn=>I (n∉os)) (gB as);let wq:=ek pm
   change sortI (N.k++(sortI (g7 as)).filter _)=_ at wq
   change ↑((sortI (g7 as)).filter _)<=↑(sortI (g7 as)) at fl
   change ↑(sortI (g7 as))<=_ at rl
   simp![0,bj];calc⟨⋯,?_⟩;rw[<-q0s];unfold mq;dsimp only;rw[nh];dsimp only;calc⟨by rw[Lo];symm,?_⟩;rw[wq];let⟨kvs,e1,e2,e3,e4,e5,e6,p1,p2,p3⟩:=Iv (a:=a) (b:=b) (N:=N);calc⟨a,0,kvs,⟨U,by rw[e1];rfl,⋯⟩,?_⟩;rw[p2];subst hM;calc bp λM hM=>?_;let ef:=ef pm up
   let go:∀fd,fd=oD (h9 ws l)->M ⟨[Z (.p (.tup [.int m,.tup (ws.map bK)])),Z (.w a),Z (.p (.int h)),Z (.p (.lst (l.map D.int))),Z (.p (.lst (g.map D.int))),Z (.o 2),η,Z (.p (.lst (os.map D.int)))],[Z (.av a [(.inr "put",.p (bj N.p)),(.inr "known",.p (bj (vL m ws N.p N.k h))),(.inr "sure",.p (bj N.s)),(.inr "searches",.w b)]),Z (.al b (N.q.map fF++[.tup [fd,.int h]])),Z (.lst (as.map D.int))]⟩:=by
    ext fd rfl;subst hM;rfl';calc⟨.inl ⟨by decide,by decide⟩,.inl ⟨by decide,by decide⟩,?_⟩;calc⟨[_,_],[],[Z _],U,U,?_⟩;unfold lO sO at hw;dsimp only at hw;rw[q0s] at hw;exact hw
   cases os with
   |nil =>
    simp![0,a_];calc⟨a,0,_,.w b,⟨U,U,U⟩,b,1,sO b N,⟨U,U,U⟩,?_⟩;simp![0,sO,dEq,cI];calc⟨⋯,?_⟩;exact go _ (by rw[<-ef];rfl)
   |cons x r =>
    let B7:dEq (.lst ((x::r).map D.int)) (.lst [])=ι:=by simp[dEq,cI]
    let a0:eX ((x::r).map D.int) 0=Z (.int x):=cV;let OP:=fA (x::r);generalize(x::r).map D.int=xr at B7 a0 OP go ⊢;simp![0,a_];calc⟨a,0,_,.w b,⟨U,U,U⟩,b,1,sO b N,⟨U,U,U⟩,?_⟩;simp![0,sO,B7,a0];calc⟨⋯,?_⟩;calc⟨⋯,?_⟩;calc go _ (by rw[<-ef];rfl)
inductive Iz (C:Y) (ys:-DV) (aE:-OV) (K:RK->-OV->-OV->Prop):Prop
 |mk (a b:Y) (m:Int) (ws:-Wy) (N:Nt) (i:Nat) (q:aH m ws) (q:dh m ws N) (q:fD m N (.fin i)) (q:ys=[.p (a_ m ws),.w a,.p (.int (i:Int))]) (q:aE=[lO a b N,sO b N]) (q:K (.p (dU (N.tell m ws (.fin i)))) [lO a b (N.step m ws (.fin i)),sO b (N.step m ws (.fin i))] [])
/---/def IA(c_Night:Y):WS:=(aD (i5 (d2 (ag (aj "searches" (aa 1))) (aa 2) bg) (iz 2 (dB (bL 3) (dB (bL 4) hZ)))) (aD (tZ (dC .non) (ag (aj "searches" (aa 1))) (aa 2)) (aD (bP (kR (gb (dT (d2 (aa 3) (dC .non) mB)) (dT (d2 (aa 4) (aj "sure" (aa 1)) (fY ι)))) (dT (d2 (aa 3) (aj "put" (aa 1)) (fY ι)))) (bc (bQ (ay (dC .non) (ay (dC (.int 0)) ai)))) dX) (aD (bP (dT (d2 (aa 3) (dC .non) mB)) (aD (a8 5 (aL 3 zZ (ay (aa 0) (ay (aj "put" (aa 1)) (ay (aa 4) ai))))) (aD (aP "sure" (dN (ay (d2 (aj "sure" (aa 1)) (aa 5) dI) ai) mq) (aa 1)) (bc (bQ (ay (dC .non) (ay (d2 (dN (ay (aa 5) ai) cq) (dC (.int 1)) (oI λi j=>.int (i-j))) ai)))))) dX) (aD (a8 6 (dY (bZ (j4 (d2 (d2 (aa 0) (dC (.int 1)) bg) (aa 3) bg) j3 (tX (dC (.int 2))))) [η,Z 0,Z 1] (bL 0) dZ (dN (ay (aL 3 zZ (ay (aa 1) (ay (aj "put" (aa 2)) (ay (aa 0) ai)))) ai) cq))) (aD (aP "put" (dN (ay (d2 (aj "put" (aa 1)) (dq (ay (aa 3) ai)) dI) ai) mq) (aa 1)) (bc (bQ (ay (aa 3) (ay (d2 (dC (.int 1)) (dN (ay (aa 6) ai) xb) dI) ai))))))))))
def z46{q:-gj}{i:Nat}{s:gj}(h:q[i]?=Z s):eX (q.map fF) (i:Int)=Z (fF s):=lB (by rw[Uj,h];rfl)
def z45{q:-gj}{i:Nat}{s:gj}(h:q[i]?=Z s):jA ↑q (i:Int)=Z i:=by
 let:=(Ll.mp h).1;unfold jA;rw[q0r ⋯,q0r ⋯,q0t]
def x1d(C:Y):∀ys aE K',↑ys=3->Iz C ys aE K'->IA C (ae ↑aE K') ⟨ys.map Z++q0q 4 η,aE.map Z⟩:=by
 ext ys aE K'-⟨a,b,m,ws,N,i,W,O,⟨fo,h,hq⟩,rfl,rfl,k⟩;let⟨hh,hw,hn⟩:=O.q i fo h hq;let ds:=fA N.s;let dp:=fA N.p;let km:=W.iE;let pl:=O.pl W;let sl:=O.sl W;let ll:=vN W (p:=N.p) (h:=h);unfold Nt.tell Nt.step at k;dsimp only at k;rw[hq] at k;dsimp only at k;rw[HY] at k;unfold IA;calc bp λM hM=>?_;rfl';calc⟨a,0,_,.w b,⟨U,U,U⟩,b,1,sO b N,⟨U,U,U⟩,?_⟩;simp![0,sO,z46 hq,fF]
 subst hM;calc bp λM hM=>?_;rfl';calc⟨a,0,_,.w b,⟨U,U,U⟩,b,1,.al b (N.q.map fF),⟨U,U,U⟩,?_⟩;simp![0,z45 hq]
 let es:(N.q.map fF).set i .non=(N.q.set i η).map fF:=by
  show(N.q.map fF).set i (fF η)=_;exact q9G.symm
 rw[es];unfold mL dF at k;subst hM;refine bp λM hM=>gN λA B hA hB=>?_
 cases fo with
 |none =>
  dsimp only at k;simp![0,oD];calc⟨a,0,_,.p (bj N.s),⟨U,U,U⟩,?_⟩;simp![0,bj];calc⟨⋯,?_⟩;rw[iC]
  by_cases c:h∈N.s
  .rw[q0g c]
   rw[q0r c,q0r c] at k;rfl';subst hA;rfl';exact⟨[_,_],[],[],U,U,k⟩
  .rw[Ul c]
   rw[q0l c,q0l c] at k;rfl';calc⟨a,0,_,.p (bj N.p),⟨U,U,U⟩,?_⟩;simp![0,bj];calc⟨⋯,?_⟩;rw[z4F];rfl';subst hB;show M _;subst hM;calc bp λM hM=>gN λA B hA hB=>?_;rfl'
   subst hA;calc bp λM2 jn=>?_;rfl';calc⟨a,0,_,.p (bj N.p),⟨U,U,U⟩,?_⟩;rfl';calc⟨m,ws,N.p,h,W,O.pn,hh,U,U,?_⟩;rfl';subst jn;let⟨kvs,e1,e2,e3,e4,e5,e6,p1,p2,p3⟩:=Iv (a:=a) (b:=b) (N:=N);let er:sortI (N.s++a6 m ws N.p h)=gB (N.s++a6 m ws N.p h):=Ha (Z2 W O c)
   calc bp λM2 jn=>?_;rfl';calc⟨a,0,_,.p (bj N.s),⟨U,U,U⟩,?_⟩;simp![0,bj];calc⟨⋯,?_⟩;rw[<-q0s];unfold mq;dsimp only;rw[nh];dsimp only;calc⟨by rw[Lo];symm,?_⟩;rw[er];calc⟨a,0,kvs,⟨U,by rw[e1];rfl,⋯⟩,?_⟩;rw[p3];subst jn;simp![0,ye];exact⟨[_,_],[],[],U,U,k⟩
 |some w =>
  let hw:=hw w U;dsimp only at k;simp![0,oD];calc⟨a,0,_,.p (bj N.p),⟨U,U,U⟩,?_⟩;simp![0,bj];calc⟨⋯,?_⟩;rw[iC]
  by_cases c:w∈N.p
  .rw[q0g c]
   rw[q0r c,q0r c] at k;rfl';subst hA;rfl';exact⟨[_,_],[],[],U,U,k⟩
  .rw[Ul c]
   rw[q0l c,q0l c] at k;rfl';subst hB;show M _;subst hM;calc bp λM hM=>gN λA B hA hB=>?_;rfl';subst hB;show M _;subst hM;let⟨r1,r2⟩:=BN W hw;let⟨y,ey,hy,ea,_⟩:=nv W hw.1 hw.2;let ew:aB ws w=y:=ey;let c2:cutD [D.int y.1,D.int y.2.1,D.int y.2.2] η (Z 2)=[D.int y.1,D.int y.2.1]:=U;let l1:=vN W (p:=N.p) (h:=y.1);let l2:=vN W (p:=N.p) (h:=y.2.1);rw[ew] at r1 r2
   calc bp λM hM=>?_;simp![0,a_,dz,ea,bK,c2]
   refine L2.nr (λd=>match d with|.int x=>.int (↑(a6 m ws N.p x):Int)|_=>.non) (by show 2<=1000;decide) trivial ?_ ?_
   .ext d hd acc L ha hL
    let⟨x,rx,rfl⟩:∃x:Int,(0<=x/\x<m)/\d=.int x:=by
     erw[q0c,q0L,q2m] at hd;rcases hd with rfl|rfl
     .exact⟨_,r1,U⟩
     .exact⟨_,r2,U⟩
    rfl';calc⟨a,0,_,.p (bj N.p),⟨U,U,U⟩,?_⟩;rfl';calc⟨m,ws,N.p,x,W,O.pn,rx,U,U,?_⟩;simp![0,bj];exact⟨ha,hL⟩
   rfl';subst hM;let⟨kvs,e1,e2,e3,e4,e5,e6,p1,p2,p3⟩:=Iv (a:=a) (b:=b) (N:=N);let er:sortI (N.p++[w])=gB (N.p++[w]):=Ha (OF O.pu c);calc bp λM hM=>?_;rfl';calc⟨a,0,_,.p (bj N.p),⟨U,U,U⟩,?_⟩;simp![0,bj];calc⟨⋯,?_⟩;unfold mq;dsimp only;rw[show N.p.map D.int++[D.int w]=(N.p++[w]).map D.int by rw[q0s];rfl,nh]
   dsimp only;calc⟨by rw[Lo];simp;symm,?_⟩;rw[er];calc⟨a,0,kvs,⟨U,by rw[e1];rfl,⋯⟩,?_⟩;rw[p1];subst hM;simp![0,xb,intsOf];calc⟨by simp,λx hx bx=>?_⟩;let ex:=OL hx bx;calc⟨[_,_],[],[],U,U,?_⟩;unfold Hb at k;rw[ew,<-ex] at k;calc k
def OQ{a b c k:Int}(h:0<=k/\k<3):∃p,eX [D.int a,D.int b,D.int c] k=Z (.int p)/\(p=a\/p=b\/p=c):=by
 let⟨t,rfl⟩:=q2P h.1;let ht:t<3:=by symm
 match t,ht with
 |0,_=>exact⟨a,lB U,.inl U⟩
 |1,_=>exact⟨b,lB U,.inr (.inl U)⟩
 |2,_=>calc⟨c,lB U,.inr (.inr U)⟩
def IB{us:-Int}{k:Int}(h0:0<=k)(h1:k<↑us):∃x,x∈us/\eX (us.map D.int) k=Z (.int x):=by
 let⟨t,rfl⟩:=q2P h0;let ht:t<↑us:=by symm
 calc⟨us[t],q1M ht,lB (by rw[Uj,D9 ht];rfl)⟩
inductive IC (C:Y) (ys:-DV) (aE:-OV) (K:RK->-OV->-OV->Prop):Prop
 |mk (n:Int) (a b:Y) (m:Int) (ws:-Wy) (N:Nt) (lT:Int) (o:OV) (z:aH m ws) (z:↑N.q<900) (z:ys=[.o 0,.p (a_ m ws),.w a,.p (.int lT)]) (z:aE=[o,lO a b N,sO b N]) (z:bH n o) (z:n+10<2 ^ 30) (z:∀e o',fD m N e->bH (n+4) o'->K (.p (gC e)) [o',lO a b N,sO b N] [])
/---/def ID(c_Night:Y):WS:=(aD (a8 4 (aL 2 g8 (ay (aa 0) (ay (dC (.int 6)) ai)))) (aD (a8 5 (aL 2 g8 (ay (aa 0) (ay (d2 (aa 1) (dC (.int 0)) bg) ai)))) (aD (a8 6 (aG ι 1 (Ir c_Night) (ay (aa 2) ai))) (aD (bP (kR (dT (d2 (aa 6) (dq ai) oEq)) (dT (d2 (aa 4) (aa 3) oLt))) (bc (bQ (ay (dC (.str "wake")) (ay (aa 5) ai)))) dX) (bc (bQ (ay (dC (.str "end")) (ay (d2 (aa 6) (d2 (dq (ay (dC (.int 0)) (ay (d2 (dN (ay (aa 6) ai) cq) (dC (.int 1)) (oI λi j=>.int (i-j))) (ay (aL 2 g8 (ay (aa 0) (ay (dN (ay (aa 6) ai) cq) ai))) ai)))) (aL 2 g8 (ay (aa 0) (ay (dC (.int 3)) ai))) bg) bg) ai))))))))
def q8x(C:Y):∀ys aE K',↑ys=4->IC C ys aE K'->ID C (ae ↑aE K') ⟨ys.map Z++q0q 3 η,aE.map Z⟩:=by
 ext ys aE K'-⟨n,a,b,m,ws,N,lT,o,W,ql,rfl,rfl,P,hn,k⟩;let m1:=W.m1;let fW:=W.fW;unfold ID;calc bp λM hM=>?_;rfl';calc⟨n,6,o,U,U,P,⋯,⋯,by decide,λkind o1 k0 k1 P1=>?_⟩;rfl';subst hM;calc bp λM hM=>?_;simp![0,a_,cV];refine⟨n+1,m,o1,U,U,P1,⋯,⋯,⋯,λuj o2 h0 h1 P2=>?_⟩
 rfl';subst hM;calc bp λM hM=>?_;rfl';calc⟨[(1,lO a b N),(2,sO b N)],⟨U,U,trivial⟩,?_⟩;rfl';calc⟨a,b,N,ql,U,U,?_⟩;rfl';subst hM;refine bp λM hM=>gN λA B hA hB=>?_
 let wake:A ⟨[Z (.o 0),Z (.p (.tup [.int m,.tup (ws.map bK)])),Z (.w a),Z (.p (.int lT)),Z (.p (.int kind)),Z (.p (.int uj)),Z (.p (bj (bN 0 N.q)))],[Z o2,Z (lO a b N),Z (sO b N)]⟩:=by
  subst hA;rfl';exact⟨[_,_,_],[],[],U,U,k (.wake uj) o2 ⟨h0,h1⟩ (P2.mono ⋯)⟩
 cases qu:bN 0 N.q with
 |nil =>
  rw[qu] at wake;simp![0,bj,q19,dEq,cI];exact wake
 |cons x r =>
  let B7:dEq (.lst ((x::r).map D.int)) (.lst [])=ι:=by simp[dEq,cI]
  let OP:=fA (x::r);rw[qu] at wake;let mem:=λz (hz:z∈x::r)=>z5 (i:=0) (q:=N.q) (x:=z) (by rw[qu];calc hz);let pos:0<↑(x::r):=by simp
  let len:↑(x::r)<=↑N.q:=by rw[<-qu];exact B6
  generalize x::r=us at *;simp![0,bj,B7];refine⟨⋯,?_⟩
  by_cases c:kind<lT
  .rw[q0g c]
   rfl';exact wake
  .rw[Ul c]
   rfl';subst hB;show M _;subst hM;simp![0,ye];calc⟨n+1+1,↑us,o2,U,U,P2,⋯,⋯,⋯,λz o3 z0 z1 P3=>?_⟩;rfl';calc⟨n+1+1+1,3,o3,U,U,P3,⋯,⋯,by decide,λy o4 y0 y1 P4=>?_⟩;rfl'
   let⟨p,ep,hp⟩:=OQ (a:=0) (b:=(↑us:Int)-1) (c:=z) ⟨y0,y1⟩;rw[ep];dsimp only;let⟨w,hw,ew⟩:=IB (us:=us) (k:=p) ⋯ ⋯;rw[ew];rfl';let⟨j,fo,h,e1,e2⟩:=mem w hw;rw[q0D] at e1;subst e1;calc⟨[_,_,_],[],[],U,U,k (.fin j) o4 ⟨fo,h,e2⟩ (P4.mono ⋯)⟩
inductive IE (C:Y) (ys:-DV) (aE:-OV) (K:RK->-OV->-OV->Prop):Prop
 |mk (a b:Y) (m:Int) (ws:-Wy) (N:Nt) (e:eT) (z:aH m ws) (z:dh m ws N) (z:fD m N e) (z:↑N.q<900) (z:ys=[.p (a_ m ws),.w a,.p (gC e)]) (z:aE=[lO a b N,sO b N]) (z:K (.p (dU (N.tell m ws e))) [lO a b (N.step m ws e),sO b (N.step m ws e)] [])
/---/def IF(c_Night:Y):WS:=(aD (bP (dT (d2 (d2 (aa 2) (dC (.int 0)) bg) (dC (.str "wake")) oEq)) (bc (aG ι 3 (Iw c_Night) (ay (aa 0) (ay (aa 1) (ay (d2 (aa 2) (dC (.int 1)) bg) ai))))) dX) (bc (aG ι 3 (Iz c_Night) (ay (aa 0) (ay (aa 1) (ay (d2 (aa 2) (dC (.int 1)) bg) ai))))))
def q7l(C:Y):∀ys aE K',↑ys=3->IE C ys aE K'->IF C (ae ↑aE K') ⟨ys.map Z++q0q 0 η,aE.map Z⟩:=by
 ext ys aE K'-⟨a,b,m,ws,N,e,W,O,he,ql,rfl,rfl,k⟩;let ww:dEq (.str "wake") (.str "wake")=θ:=U;let ew:dEq (.str "end") (.str "wake")=ι:=U;unfold IF;refine bp λM hM=>gN λA B hA hB=>?_
 cases e with
 |wake h =>
  simp![0,gC,cV,ww];subst hA;simp![0,dz];calc⟨[(0,lO a b N),(1,sO b N)],⟨U,U,trivial⟩,?_⟩;rfl';calc⟨a,b,m,ws,N,h,W,O,he,ql,U,U,?_⟩;rfl';exact⟨[_,_],[],[],U,U,k⟩
 |fin i =>
  simp![0,gC,cV,ew];subst hB;show M _;subst hM;simp![0,dz];calc⟨[(0,lO a b N),(1,sO b N)],⟨U,U,trivial⟩,?_⟩;rfl';calc⟨a,b,m,ws,N,i,W,O,he,U,U,?_⟩;rfl';calc⟨[_,_],[],[],U,U,k⟩
end LJ
namespace L2
open PySem PySem.Spec PyProof.Rows
section
variable{prog:ψ}{w:ω}{A:Β}{d:Y}
def OR:∀{vs:-(Key×O)}{us:-O}{ks:-Int},↑us=↑vs->vs.map (·.1)=ks.map q2g->(∀(j:Nat)(v:O),us[j]?=Z v->∃k x,vs[j]?=Z (k,x)/\(gU prog w).is k v=θ)->IntsAre us ks
 |[],[],[],_,_,_=>.nil
 |_::_,[],_,h,_,_=>nomatch h
 |[],_::_,_,h,_,_=>nomatch h
 |[],[],_::_,_,h,_=>nomatch h
 |_::_,_::_,[],_,h,_=>nomatch h
 |kv::vs,u::us,n::ks,h1,h2,h3=>by
  let⟨k,x,e1,e2⟩:=h3 0 u U;cases(show Z kv=Z (k,x) from e1)
  let h2:k::vs.map (·.1)=q2g n::ks.map q2g:=h2;let⟨e3,e4⟩:=q4W h2;subst e3
  let⟨t,rfl⟩:∃t,u=.int n t:=by
   exact q4H (k:=n) (v:=u) e2
  calc .cons n t (OR (q2d h1) e4 λj v e=>h3 (j+1) v e)
def gathered{R:-O->ο->Prop}{s:ο}{vs:-(Key×O)}{ep:Nat}{ks:-Int}(no:A.handled=η)(lo:(d==sysModules)=ι)(da:s.heap.DictAt (gU prog w) d vs ep)(hk:vs.map (·.1)=ks.map q2g)(hn:↑ks<64)
  (h:∀(h':Α)(tk:Nat)(us:-O),(∀b o,s.heap.get? b=Z o->h'.get? b=Z o)->⇑s<=h'.objs.size->IntsAre us ks->R us {s with heap:=h',toks:=tk}) :
  ρ (ς prog w) A (collect (.ref d)) R E s:=by
 let vl:↑vs=↑ks:=by let:=congrArg x0t hk;rwa [ye,ye] at this
 let K:=PySem.W.kdl_dict (knd:=gU prog w) (kvs:=vs) (ep:=ep) lo;let below:=K.there _ da;unfold collect;calc Aw (q21 (q09 entry_proto_collect' ?_));rw[q1t PySem.F.plain_proto_collect _];calc Aw (q16 ?_);calc Ui ⟨q1X q4J _,q09 entry_list_iadd' ?_⟩;rw[q1t q4J _];let hS:(s.heap.push {cls:=.type "list",data:=.seq ([]:-O).toArray}).get? ⇑s=Z {cls:=.type "list",data:=.seq #[]}:=q0f _ U
 let ext:=PySem.W.kdl_extend (A:=A) (s:={s with heap:=s.heap.push {cls:=.type "list",data:=.seq ([]:-O).toArray}})
  (R:=λq s'=>∃(h':Α)(tk:Nat)(us:Array O)(c:Nat),q=.ok (.ret (.ref ⇑s))/\s'={s with heap:=h',toks:=tk} ∧
   (∀b o,s.heap.get? b=Z o->h'.get? b=Z o)/\h'.get? ⇑s=Z {cls:=.type "list",dict:=none,data:=.seq us c,slots := #[]}/\IntsAre us.toList ks)
  K no (K.keep _ _ da λb _ o e=>Lm _ e) ⇑s (q15 below.1) (q15 below.2) (.ref ⇑s) 0 hS
  (λh' tk us c kp jz it=>⟨h',tk,us,c,U,U,λb o e=>kp b o (q0o (q0h e)) (Lm _ e),jz,OR (by rw[q0k];calc it.1) hk λj v e=>it.2 j v (by rw[<-q0G];calc e)⟩) (PySem.W.kdl_size ⋯)
 refine q1C ext (λfin s' x=>?_) λe s' x=>?_
 .cases fin with
  |done f =>
   let⟨h',tk,us,c,e,rfl,kp,jz,hi⟩:=x;cases e
   calc Aw (q4t jz ?_);exact Ui (h h' tk us.toList kp (q1e (q0h jz)) hi)
  |again c₁ =>
   calc⟨x.1,q2C x.2 λq s₂ y=>?_⟩;let⟨h',tk,us,c,rfl,rfl,kp,jz,hi⟩:=y;calc Aw (q4t jz ?_);exact Ui (h h' tk us.toList kp (q1e (q0h jz)) hi)
 .let⟨_,_,_,_,e',_⟩:=x
  cases e'
def OS:∀{us:-O}{ks:-Int},IntsAre us ks->↑us=↑ks
 |_,_,.nil=>U
 |_,_,.cons _ _ r=>congrArg Nat.succ (OS r)
def x2J{s:ο}{Q:bz}{vs:-(Key×O)}{ep:Nat}{ks:-Int}(no:A.handled=η)(lo:(d==sysModules)=ι)(da:s.heap.DictAt (gU prog w) d vs ep)(hk:vs.map (·.1)=ks.map q2g)(hn:↑ks<64)
  (h:∀(h':Α)(tk:Nat)(r:Y)(out:Array O)(cM:-Int)(e:Nat),(∀b ob,s.heap.get? b=Z ob->h'.get? b=Z ob)->⇑s<=r->h'.get? r=Z (seqObj "list" out e)->IntsAre out.toList cM->cM.Perm ks->cM.Pairwise (· <= ·)->Q (.ref r) {s with heap:=h',toks:=tk}) :
  ρ (ς prog w) A (call (.builtin "sorted") [.ref d]) Q E s:=by
 calc q29 q5Q q5j q5k (q6S _) ?_;unfold Builtin.«sorted»;calc Aw (m:=checkCount "sorted" 1 1 _) (Ui ?_);calc Aw (gathered (A:=A.in1) (by simp[no]) lo da hk hn λh1 ky us qO le hI=>?_);let hL:=OS hI;calc Aw (q2X ?_);let kB:(h1.push (seqObj "list" us.toArray 0)).get? h1.objs.size=Z (seqObj "list" us.toArray 0):=q0f _ U;calc Aw (q0R (q1y (s:={s with heap:=h1.push (seqObj "list" us.toArray 0),toks:=ky}) q4z ⟨_,kB,U⟩ q37 (list_sort_tree kB hI ⋯ λout cM a1 a2 a3=>⟨_,U,?_⟩) (q5R _)));let⟨e,he⟩:=sortedHeap_at (out:=out) kB;refine Ui ⟨_,U,h _ _ _ out cM e (λb ob eb=>?_) le he a1 a2 a3⟩
 let hb:b<h1.objs.size:=q0h (qO b ob eb);show(sortedHeap (h1.push (seqObj "list" us.toArray 0)) h1.objs.size us out).get? b=Z ob;rw[sortedHeap_old (q0o hb) (by rw[size_push'];calc q0Z hb)];calc Lm _ (qO b ob eb)
end
section
variable{X:Cx}
def OT:∀{kvs:-(Key×V)}{vs:-(Key×O)},KV kvs vs->vs.map (·.1)=kvs.map (·.1)
 |[],_,.nil=>U
 |_::_,_,.cons r rs=>by rw[q0C,q0C,OT rs,r.1]
def x2c(hc:X.calm=θ):hU X (.builtin "sorted") (λxs H Q=>∃(d:Y)(kvs:-(Key×V))(ks:-Int),xs=[.ref d]/\H d=Z (.dK kvs)/\kvs.map (·.1)=ks.map q2g/\↑ks<64/\∀(r:Y)(cM:-Int),cM.Perm ks->cM.Pairwise (· <= ·)->H r=η->Q (.ref r) (upd H r (.lst (cM.map V.int)))):=by
 ext pins s σ H xs us Q I r h;let⟨d,kvs,ks,rfl,hd,hk,hn,q⟩:=h;let⟨u,rfl,rx⟩:=vals1 r;cases rx
 calc wd λsR=>?_;let⟨z,lo,vs,rel,dd⟩:=u6 I.bu hd;let⟨o,es,ep,ho,rest⟩:=dd;let da:s.heap.DictAt (gU X.prog X.w) d vs ep:=⟨o,es,ho,rest⟩;calc sR <| x2J (I.ok.hd hc) lo da (by rw[OT rel,hk]) hn λh' tk r out cM e kp le he hI pm pw=>?_;calc⟨.ref r,_,I.laid (t':=tk) (o:=.lst (cM.map V.int)) kp le ?_,U,q _ cM pm pw (I.bu.fresh le)⟩;calc⟨q1e (mW (by rw[ye,pm.length_eq];symm)),out.toList,e,AL hI,?_⟩;simpa[seqObj] using he
variable[zt:ba]{fa:WA}
/---/def IG(fa:WA):WE:=fun δ K=>fa δ λxs δ1=>match xs with
 |[x]=>ak x δ1 λ_ _ kvs=>∃ks:-Int,(kvs.map (·.1)=ks.map q2g/\↑ks<64)/\K (.p (.lst ((sortI ks).map D.int))) δ1
 |_=>False
def OU{α:Type}{R:α->V->Prop}:∀{gP:-(Key×α)}{ws:-(Key×V)},dW R gP ws->ws.map (·.1)=gP.map (·.1)
 |[],_,h=>by let h:_=[]:=h;subst h;rfl
 |kd::r,_,⟨v,t,e,h1,h2⟩=>by subst e;rw[q0C,q0C,OU h2]
def z17{a:υ}{p pos:Δ}(hc:X.calm=θ)(hg:Gl X "sorted")(hm:X.mg "sorted" = η)(hb:bootBuiltins "sorted" = Z (.builtin "sorted"))(ha:JA X [a] (cK fa))(he:‹starEach [a] X.env=[(ι,eval a X.env)]›):JE X (.Call (.Name "sorted" p) [a] [] pos) (tD (IG fa)) :=
 (v_ (x2c hc) hg hm hb ha (he:=he)).weak fun σ H Q ⟨F,ad,δ,K,S,q,k⟩=>⟨F,ad,δ,_,S,q,λxs δ1 h1 vs F1 br H1 E1 S1 V1=>by
  match xs,h1,V1 with
  |[x],h1,⟨v,r,e,V2,V3⟩ =>
   let V3:r=[]:=V3;subst V3 e;let⟨k0,B,kvs,a,ws,rfl,⟨ks,⟨h2,h3⟩,h4⟩,rfl,e1,e2,i1,m1,_⟩:=zy S1 V2 h1;calc⟨a,ws,ks,U,e2,by rw[OU i1,h2],h3,λr cM pm pw hr=>?_⟩;calc k _ _ h4 _ _ _ _ (E1.trans (Ext.al S1 (cU hr))) (S1.al (cU hr)) ?_;rw[<-vq pm pw]
   calc nk S1.sub hr pT⟩
end
end L2
namespace LJ
open PySem L2
variable[zt:ba]
def IH:∀{i:Nat}{q:-gj},(cF i q).map (·.1)=(bN i q).map q2g
 |i,[]=>U
 |i,none::r=>IH (i:=i+1) (q:=r)
 |i,some x::r=>congrArg (_ :: ·) (IH (i:=i+1) (q:=r))
def II:∀{i:Nat}{q:-gj},Up (bN i q)/\∀x∈bN i q,(i:Int)<=x
 |i,[]=>⟨.nil,λ_ h=>nomatch h⟩
 |i,none::r=>by
  let⟨h1,h2⟩:=II (i:=i+1) (q:=r);exact⟨h1,λx hx=>by let:=h2 x hx;symm⟩
 |i,some y::r=>by
  let⟨h1,h2⟩:=II (i:=i+1) (q:=r);calc⟨q05.mpr ⟨λx hx=>by let:=h2 x hx;symm,h1⟩,λx hx=>?_⟩;rcases q0c.mp hx with rfl|hx
  .exact q4P _
  .let:=h2 x hx;symm
def OW{us:-Int}(h:Up us):sortI us=us:=nA (zJ h.nd) h λx=>(sortI_perm _).mem_iff
inductive z7 (C:Y) (ys:-DV) (aE:-OV) (K:RK->-OV->-OV->Prop):Prop
 |mk (a b:Y) (m:Int) (ws:-Wy) (N:Nt) (z:↑(bN 0 N.q)<64) (z:ys=[.w a]) (z:aE=[nO C a b m ws N,gO b N]) (z:K (.p (bj (bN 0 N.q))) [nO C a b m ws N,gO b N] [])
/---/def IJ(c_Night:Y):WS:=(bc (IG (ay (ag (af c_Night "going" (aa 0))) ai)))
def q7m(C:Y):∀ys aE K',↑ys=1->z7 C ys aE K'->IJ C (ae ↑aE K') ⟨ys.map Z++q0q 0 η,aE.map Z⟩:=by
 ext ys aE K'-⟨a,b,m,ws,N,ul,rfl,rfl,k⟩;unfold IJ;simp![0,IG];calc⟨a,0,_,.w b,⟨U,U,U⟩,b,1,gO b N,⟨U,U,U⟩,?_⟩;simp![0,gO];calc⟨bN 0 N.q,⟨IH,ul⟩,?_⟩;rw[OW II.1];calc⟨[_,_],[],[],U,U,k⟩
meta def nD(N:Nt):D:=.tup [bj N.p,bj N.k,bj N.s]
inductive um (C:Y) (ys:-DV) (aE:-OV) (K:RK->-OV->-OV->Prop):Prop
 |mk (a b:Y) (m:Int) (ws:-Wy) (N:Nt) (q:ys=[.w a]) (q:aE=[nO C a b m ws N]) (q:K (.p (nD N)) [nO C a b m ws N] [])
/---/def IK(c_Night:Y):WS:=(bc (bQ (ay (dN (ay (d2 (af c_Night "latest" (aa 0)) (dC (.int 0)) bg) ai) oC) (ay (dN (ay (d2 (af c_Night "latest" (aa 0)) (dC (.int 1)) bg) ai) oC) (ay (dN (ay (d2 (af c_Night "latest" (aa 0)) (dC (.int 2)) bg) ai) oC) ai)))))
def q7n(C:Y):∀ys aE K',↑ys=1->um C ys aE K'->IK C (ae ↑aE K') ⟨ys.map Z++q0q 0 η,aE.map Z⟩:=by
 ext ys aE K'-⟨a,b,m,ws,N,rfl,rfl,k⟩;unfold IK;rfl';calc⟨a,0,_,.p (gq N.p N.k N.s),⟨U,U,U⟩,?_⟩;simp![0,gq,tupI,cV];calc⟨a,0,_,.p (gq N.p N.k N.s),⟨U,U,U⟩,?_⟩;simp![0,gq,tupI,dz];calc⟨a,0,_,.p (gq N.p N.k N.s),⟨U,U,U⟩,?_⟩;simp![0,gq,tupI,at2]
 calc⟨[_],[],[],U,U,k⟩
inductive IL (C:Y) (ys:-DV) (aE:-OV) (K:RK->-OV->-OV->Prop):Prop
 |mk (m:Int) (ws:-Wy) (es:-eT) (q:aH m ws) (q:jh m ws bq es) (q:↑es<900) (q:ys=[.p (a_ m ws),.p (.lst (es.map gC))]) (q:aE=[]) (q:K (.p (nD (runN m ws bq es))) [] [])
/---/def IM(c_Night:Y):WS:=(aD (a8 2 (aJ c_Night 2 (zW c_Night) (ay (aa 0) ai))) (aD (iI (aG ι 2 (B4 c_Night) (ay (aa 2) (ay (aa 1) ai)))) (bc (aF ι c_Night "stand" 1 (um c_Night) (aa 2) ai))))
def q6I(C:Y):∀ys aE K',↑ys=2->IL C ys aE K'->IM C (ae ↑aE K') ⟨ys.map Z++q0q 1 η,aE.map Z⟩:=by
 ext ys aE K'-⟨m,ws,es,W,ok,B5,rfl,rfl,k⟩;unfold IM;calc bp λM hM=>?_;rfl';ext a;calc⟨[(0,.ins a C [])],⟨U,trivial⟩,?_⟩;rfl';calc⟨a,m,ws,W,U,U,λb=>?_⟩;rfl';subst hM;calc bp λM hM=>?_;rfl'
 calc⟨[(0,nO C a b m ws bq),(1,gO b bq)],⟨U,U,trivial⟩,?_⟩;rfl';calc⟨a,b,m,ws,es,W,ok,B5,U,U,?_⟩;rfl';subst hM;rfl';calc⟨⟨a,0,_,U,U,U⟩,[(0,nO C a b m ws (runN m ws bq es))],⟨U,trivial⟩,?_⟩;rfl'
 calc⟨a,b,m,ws,runN m ws bq es,U,U,?_⟩;rfl';calc⟨[],[],[Z _,Z _],U,U,k⟩
section
variable{m:Int}{ws:-Wy}{N:Nt}
def OX(W:aH m ws){p:-Int}{a b:Int}(h:b∈a6 m ws p a):a6 m ws p b=a6 m ws p a:=by
 calc nA (ui ..) (ui ..) λx=>?_;rw[fE W,fE W];let c:=((fE W).mp h).2;calc and_congr_right λ_=>⟨λz=>c.trans z,λz=>c.symm.trans z⟩
/---/def nE(m:Int)(ws:-Wy)(N:Nt):Prop:=∀h∈N.s,eM ws (a6 m ws N.p h)=[]
def nE.step(W:aH m ws)(O:dh m ws N)(S:nE m ws N){e:eT}(he:fD m N e):nE m ws (N.step m ws e):=by
 let O':=dh.step W O he
 cases e with
 |wake h =>
  unfold Nt.step at O' ⊢;dsimp only at O' ⊢;split<;>exact S
 |fin i =>
  let⟨fo,h,hq⟩:=he;let⟨hh,hw,hn⟩:=O.q i fo h hq;unfold Nt.step at O' ⊢;dsimp only at O' ⊢;rw[hq] at O' ⊢;dsimp only at O' ⊢;unfold dF at O' ⊢
  cases fo with
  |none =>
   dsimp only at O' ⊢;split
   .exact S
   .ext x hx
    rcases q0w.mp (bt.mp hx) with z|z
    .exact S x z
    .show eM ws (a6 m ws N.p x)=[]
     rw[OX W z];exact hn U
  |some w =>
   dsimp only at O' ⊢;split
   .exact S
   .rename_i c
    rw[q0l c] at O';ext x hx;let e:=S x hx;show eM ws (a6 m ws (gB (N.p++[w])) x)=[];rw[Hg W O'.pn (λy hy=>bt.mpr (q0U _ hy)) (O.sn x hx) e];calc e
def nE.run(W:aH m ws):∀{N:Nt}{es:-eT},dh m ws N->nE m ws N->jh m ws N es->nE m ws (runN m ws N es)
 |_,[],_,S,_=>S
 |N,e::r,O,S,⟨h1,h2⟩=>nE.run W (N:=N.step m ws e) (es:=r) (dh.step W O h1) (nE.step W O S h1) h2
def IP(m:Int)(ws:-Wy):nE m ws bq:=λ_ h=>nomatch h
structure TW(ws:-Wy)(N:Nt):Prop where
 p:∀n∈N.p,jg ws (aB ws n)
 k:∀n∈N.k,¬ jg ws (aB ws n)
 q:∀(i:Nat)(w h:Int),N.q[i]?=Z (Z (Z w,h))->jg ws (aB ws w)
def tw0(ws:-Wy):TW ws bq:=⟨(λ_ h=>nomatch h),(λ_ h=>nomatch h),λi w h e=>by simp[bq] at e⟩
def OY(W:aH m ws){p:-Int}(hp:Nums ws p)(ht:∀n∈p,jg ws (aB ws n)){n:Int}(hn:0<=n/\n<(↑ws:Int))(np:n∉p)(c:bo (fq ws p) (aB ws n).1 (aB ws n).2.1):¬ jg ws (aB ws n):=λt =>
 Oj W _ t (c.mono λv ⟨k,hk,e⟩↦by
  subst e
  calc⟨ht k hk,λz=>np (by rw[<-Ol W (hp k hk) hn z];calc hk)⟩)
def OZ(W:aH m ws){l:-Int}{w:Int}(h:h9 ws l=Z w):jg ws (aB ws w)/\w∈eM ws l:=by
 unfold h9 at h;split at h
 .cases h
 .rename_i ne
  cases h
  let⟨h1,h2⟩:=Oe ne;calc⟨Zr h1 h2,h1⟩
def TW.step(W:aH m ws)(O:dh m ws N)(T:TW ws N){e:eT}(he:fD m N e):TW ws (N.step m ws e):=by
 cases e with
 |wake h =>
  let qs:∀(x:gj),(∀w h',x=Z (Z w,h')->jg ws (aB ws w))->∀(i:Nat)(w h':Int),(N.q++[x])[i]?=Z (Z (Z w,h'))->jg ws (aB ws w):=λx hx i w h' e=>by
   by_cases c:i<↑N.q
   .rw[q0a c] at e;exact T.q i w h' e
   .rw[q0i ⋯] at e
    cases z:i-↑N.q with
    |zero=>rw[z] at e;exact hx w h' e⁻¹
    |succ j=>rw[z] at e;simp at e
  unfold Nt.step;dsimp only;split
  .exact⟨T.p,T.k,qs η λw h' e=>nomatch e⟩
  .refine⟨T.p,λn hn=>?_,qs _ λw h' e=>?_⟩
   .rcases q0w.mp (bt.mp hn) with z|z
    .exact T.k n z
    .let⟨⟨z0,z1,z2⟩,z3⟩:=eN.mp z
     exact OY W O.pn T.p z0 z3 (((fE W).mp z1).2.symm.trans ((fE W).mp z2).2)
   .exact (OZ W (Prod.mk.inj (q0P e)).1).1
 |fin i =>
  let⟨fo,h,hq⟩:=he
  let qs:∀(j:Nat)(w h':Int),(N.q.set i η)[j]?=Z (Z (Z w,h'))->jg ws (aB ws w):=λj w h' e=>by
   by_cases c:i=j
   .subst c
    rw[q07 (Ll.mp hq).1] at e;cases e
   .rw[q08 c] at e;exact T.q j w h' e
  unfold Nt.step;dsimp only;rw[hq];dsimp only;unfold dF
  cases fo with
  |none =>
   dsimp only;split<;>exact⟨T.p,T.k,qs⟩
  |some w =>
   dsimp only;split
   .exact⟨T.p,T.k,qs⟩
   .refine⟨λn hn=>?_,T.k,qs⟩
    rcases q0w.mp (bt.mp hn) with z|z
    .exact T.p n z
    .rw[q0z.mp z];calc T.q i w h hq
def TW.run(W:aH m ws):∀{N:Nt}{es:-eT},dh m ws N->TW ws N->jh m ws N es->TW ws (runN m ws N es)
 |_,[],_,T,_=>T
 |N,e::r,O,T,⟨h1,h2⟩=>TW.run W (N:=N.step m ws e) (es:=r) (dh.step W O h1) (TW.step W O T h1) h2
structure dG(m:Int)(ws:-Wy)(N:Nt):Prop where
 ok:dh m ws N
 wh:nE m ws N
 tw:TW ws N
def xi(m:Int)(ws:-Wy):dG m ws bq:=⟨pd m ws,IP m ws,tw0 ws⟩
def dG.step(W:aH m ws)(I:dG m ws N){e:eT}(he:fD m N e):dG m ws (N.step m ws e):=⟨dh.step W I.ok he,nE.step W I.ok I.wh he,TW.step W I.ok I.tw he⟩
def dG.run(W:aH m ws){es:-eT}(I:dG m ws N)(ok:jh m ws N es):dG m ws (runN m ws N es):=⟨dh.run W I.ok ok,nE.run W I.ok I.wh ok,TW.run W I.ok I.tw ok⟩
def O0(W:aH m ws):∀{es:-eT}{N:Nt},dh m ws N->jh m ws N es->(N.p++(ft m ws N es).filterMap (·.1)).Perm (runN m ws N es).p
 |[],N,_,_=>by rw[show ft m ws N []=[] from U,List.filterMap_nil,qE];exact .refl _
 |e::r,N,O,⟨h1,h2⟩=>by
  let ih:=O0 W (es:=r) (dh.step W O h1) h2
  let one:((N.step m ws e).p).Perm (N.p++(match(N.tell m ws e).1 with|some w=>[w]|none=>[])):=by
   cases e with
   |wake h =>
    unfold Nt.step Nt.tell;dsimp only;split<;>rw[qE]
   |fin i =>
    let⟨fo,h,hq⟩:=h1;unfold Nt.step Nt.tell;dsimp only;rw[hq];dsimp only;unfold dF mL
    cases fo with
    |none =>
     dsimp only;split<;>rw[qE]
    |some w =>
     dsimp only;split
     .rw[qE]
     .rename_i c
      show(gB (N.p++[w])).Perm (N.p++[w]);rw[<-Ha (OF O.pu c)];exact sortI_perm _
  show(N.p++((N.tell m ws e::ft m ws (N.step m ws e) r).filterMap (·.1))).Perm (runN m ws (N.step m ws e) r).p;calc q7J ?_ ih;calc q7J ?_ (one.symm.append_right _);rw[q12];refine q3G _ ?_
  cases q:(N.tell m ws e).1 with
  |none=>rw[q4X q];exact .refl _
  |some w=>rw[List.filterMap_cons_some q];calc .refl _
meta def gD(m:Int)(ws:-Wy)(N:Nt):-Int:=(bB m.toNat).filter λx=>I (x∉N.s)&&I (∀y∈a6 m ws N.p x,x<=y)
def cy{x:Int}:x∈gD m ws N↔(0<=x/\x<(m.toNat:Int))/\x∉N.s/\∀y∈a6 m ws N.p x,x<=y:=by
 unfold gD;rw[q0x,bC,q04,q0u,q0u]
def B8:Up (gD m ws N):=(w9 _).filter _
def z3s{A B:-Int}(hA:Up A)(hs:∀x∈A,x∈B):↑A<=↑B:=(q3Q hA.nd λx hx=>hs x hx)
def IQ{A B:-Int}(hA:Up A)(hs:∀x∈A,x∈B){y:Int}(h1:y∈B)(h2:y∉A):↑A<↑B:=by
 let:↑(y::A)<=↑B:=q3Q (q2k.mpr ⟨h2,hA.nd⟩) λx hx=>by
  rcases q0c.mp hx with rfl|h
  .exact h1
  .exact hs x h
 rw[Uh] at this;symm
def B9(W:aH m ws){h:Int}(hh:0<=h/\h<m):∃x,x∈a6 m ws N.p h/\∀y∈a6 m ws N.p x,x<=y:=by
 let hs:=BP W (p:=N.p) hh
 cases q:a6 m ws N.p h with
 |nil=>rw[q] at hs;exact nomatch hs
 |cons x r =>
  let hx:x∈a6 m ws N.p h:=by rw[q];exact q0d
  calc⟨x,q0d,λy hy=>?_⟩;rw[OX W hx,q] at hy;let up:=ui m ws N.p h;rw[q] at up;rcases q0c.mp hy with rfl|hy
  .exact q4P _
  .calc q9y ((q05.mp up).1 y hy)
def O1(W:aH m ws){N':Nt}(hp:∀x∈N.p,x∈N'.p)(hs:∀x∈N.s,x∈N'.s):∀x∈gD m ws N',x∈gD m ws N:=λx hx=>by
 let⟨h1,h2,h3⟩:=cy.mp hx;calc cy.mpr ⟨h1,λz=>h2 (hs x z),λy hy=>h3 y ?_⟩;let⟨a,b⟩:=(fE W).mp hy;calc(fE W).mpr ⟨a,zN hp b⟩
/---/def O3(N:Nt)(i:Nat):Prop:=∃fo h,N.q[i]?=Z (Z (fo,h))/\(∀w,fo=Z w->w∉N.p)/\(fo=η->h∉N.s)
def O4(N:Nt)(i:Nat):(∀x∈N.p,x∈(N.step m ws (.fin i)).p)/\∀x∈N.s,x∈(N.step m ws (.fin i)).s:=by
 unfold Nt.step;dsimp only;split
 .unfold dF
  split
  .split
   .exact⟨λ_ h=>h,λ_ h=>h⟩
   .exact⟨λ_ h=>h,λx h=>bt.mpr (q0U _ h)⟩
  .split
   .exact⟨λ_ h=>h,λ_ h=>h⟩
   .exact⟨λx h=>bt.mpr (q0U _ h),λ_ h=>h⟩
 .calc⟨λ_ h=>h,λ_ h=>h⟩
def O5(W:aH m ws)(I:dG m ws N){i:Nat}(E:O3 N i):↑(gD m ws (N.step m ws (.fin i)))<↑(gD m ws N):=by
 let⟨fo,h,hq,ep,es⟩:=E;let⟨hh,hw,hn⟩:=I.ok.q i fo h hq;let he:fD m N (.fin i):=⟨fo,h,hq⟩;let I':=dG.step W I he;let⟨mp,ms⟩:=O4 (m:=m) (ws:=ws) N i;let sub:=O1 W mp ms
 let uo:N.step m ws (.fin i)=dF m ws ⟨N.p,N.k,N.s,N.q.set i η⟩ fo h:=by
  unfold Nt.step;dsimp only;rw[hq]
 cases fo with
 |none =>
  let⟨x,hx,CL⟩:=B9 (N:=N) W hh;let hr:=(fE W).mp hx;let xs:x∉N.s:=λz=>es U (uh I.ok.pn I.ok.sc hr.2.symm z);calc IQ B8 sub (y:=x) (cy.mpr ⟨⋯,xs,CL⟩) λz=>(cy.mp z).2.1 ?_;rw[uo];unfold dF;dsimp only;rw[q0l (es U)];exact bt.mpr (q0n _ hx)
 |some w =>
  let B_:=hw w U;let np:=ep w U;let tw:=I.tw.q i w h hq;let⟨r1,r2⟩:=BN W B_;let nc:¬ bo (fq ws N.p) (aB ws w).1 (aB ws w).2.1:=λc=>OY W I.ok.pn I.tw.p B_ np c tw;let⟨a,ha,ha2⟩:=B9 (N:=N) W r1;let⟨b,hb,hb2⟩:=B9 (N:=N) W r2;let vy:=(fE W).mp ha;let my:=(fE W).mp hb;let ne:a≠b:=λz=>nc (vy.2.trans (by rw[z];calc my.2.symm))
  let s1:∀x,x∈a6 m ws N.p (aB ws w).1->x∉N.s:=λx hx z=>by
   let h1:=uh I.ok.pn I.ok.sc ((fE W).mp hx).2.symm z;let o:=BO (I.wh _ h1) B_;exact nc ((fE W).mp (o.mp (BP W r1))).2
  let s2:∀x,x∈a6 m ws N.p (aB ws w).2.1->x∉N.s:=λx hx z=>by
   let h1:=uh I.ok.pn I.ok.sc ((fE W).mp hx).2.symm z;let o:=BO (I.wh _ h1) B_;exact nc ((fE W).mp (o.mpr (BP W r2))).2.symm
  let wp:w∈(N.step m ws (.fin i)).p:=by
   rw[uo];unfold dF;dsimp only;rw[q0l np];exact bt.mpr (q0n _ (q0z.mpr U))
  let nP:bo (fq ws (N.step m ws (.fin i)).p) a b:=((zN mp vy.2).symm.trans (Hd wp)).trans (zN mp my.2);let ra:a∈gD m ws N:=cy.mpr ⟨⋯,s1 a ha,ha2⟩;let rb:b∈gD m ws N:=cy.mpr ⟨⋯,s2 b hb,hb2⟩
  by_cases c:a<b
  .refine IQ B8 sub rb λz=>?_
   let:=(cy.mp z).2.2 a ((fE W).mpr ⟨vy.1,nP.symm⟩);symm
  .refine IQ B8 sub ra λz=>?_
   let:=(cy.mp z).2.2 b ((fE W).mpr ⟨my.1,nP⟩);symm
def z5S(W:aH m ws)(N:Nt)(i:Nat):↑(gD m ws (N.step m ws (.fin i)))<=↑(gD m ws N):=by
 let⟨mp,ms⟩:=O4 (m:=m) (ws:=ws) N i;calc z3s B8 (O1 W mp ms)
def x8t(N:Nt)(h:Int):gD m ws (N.step m ws (.wake h))=gD m ws N:=by
 unfold gD Nt.step;dsimp only;split<;>rfl
def z1k(W:aH m ws):(↑(gD m ws N):Int)<=m:=by
 let:=q0S (λx=>I (x∉N.s)&&I (∀y∈a6 m ws N.p x,x<=y)) (bB m.toNat);rw[lP] at this;let:=W.m1;unfold gD;symm
def x8u(W:aH m ws)(O:dh m ws N)(h:↑(gD m ws N)=0):N.s=bB m.toNat:=by
 calc nA O.su (w9 _) λx=>?_;rw[bC]
 constructor
 .ext hx
  let:=O.sn x hx;let:=W.m1;symm
 .ext hx
  let hx:0<=x/\x<m:=by let:=W.m1;symm
  calc wd λc=>?_;let⟨y,hy,hy2⟩:=B9 (N:=N) W hx;let hr:=(fE W).mp hy;let:y∈gD m ws N:=cy.mpr ⟨⋯,λz=>c (uh O.pn O.sc hr.2.symm z),hy2⟩;rw[q1h.mp h] at this;calc nomatch this
end
end LJ
namespace L2
open PySem PySem.Spec PyProof.Rows
variable[zt:ba]
/---/def ph:-DV->bh->(-FV->bh->Prop)->Prop
 |[],δ,K=>K [] δ
 |x::xs,δ,K=>toF x δ λf δ1=>ph xs δ1 λfs δ2=>K (f::fs) δ2
/---/def IS(t:Bool)(fa:WA):WE:=fun δ K=>fa δ λxs δ1=>ph xs δ1 λfs δ2=>fs.length<=1000/\K (.u t fs) δ2
section
variable{F H:Hp}{ad:-Y}{δ:bh}{σ:St}
def O6:∀{xs vs δ}{K:-FV->bh->Prop},SR F ad δ σ H->dm F ad xs vs->ph xs δ K->∃fs δ',K fs δ'/\Ext F ad δ.mu H F ad δ'.mu H/\SR F ad δ' σ H/\fQ F fs vs
 |[],_,δ,K,S,V,h=>⟨[],δ,h,.refl,S,V⟩
 |x::xs,_,δ,K,S,⟨v,r,e,V1,V2⟩,h=>by
  subst e;let⟨f,δ1,h1,E1,S1,i1⟩:=BR S V1 h;let⟨fs,δ2,h2,E2,S2,i2⟩:=O6 S1 V2 h1;calc⟨f::fs,δ2,h2,E1.trans E2,S2,v,r,U,i1,i2⟩
variable{X:Cx}{a b e i o:υ}{es:-υ}{body:-χ}{f g:WE}{fa:WA}{w:WI}{wg:WG}{bs:WS}{pos:Δ}
def z3q{F1 H1 br δ1 t}{K:DV->bh->Prop}{Q:VK}{xs vs}(k:∀x δ',K x δ'->∀v F' a5 H',Ext F ad δ.mu H F' a5 δ'.mu H'->SR F' a5 δ' σ H'->eY F' a5 x v->Q v H')(h1:ph xs δ1 λfs δ2=>fs.length<=1000/\K (.u t fs) δ2)(E1:Ext F ad δ.mu H F1 br δ1.mu H1)(S1:SR F1 br δ1 σ H1)(V1:dm F1 br xs vs):↑vs<=sizeLine/\∀p,H1 p=η->Q (.ref p) (upd H1 p (qQ t vs)):=by
 let⟨fs,δ2,⟨hl,h2⟩,E2,S2,i2⟩:=O6 S1 V1 h1;calc⟨mY (by rw[↑i2];calc hl),λp hp=>?_⟩;let sm:bf H1 (upd H1 p (qQ t vs)):=cU hp;calc k _ _ h2 _ _ _ _ ((E1.trans E2).trans (Ext.al S2 sm)) (S2.al sm) ?_;rw[Nw.upd S2.sub hp];calc⟨p,vs,U,cb,i2.same λb o e=>by rw[bD (eg (S2.sub b o e) hp)];calc e⟩
def z4l{x1}(ha:JA X es (cK fa)):JE X (.Tuple es x1 pos) (tD (IS θ fa)):=(KJ ha).weak fun σ H Q ⟨F,ad,δ,K,S,q,k⟩ ↦
 ⟨F,ad,δ,_,S,q,λxs δ1 h1 vs F1 br H1 E1 S1 V1=>z3q  k h1 E1 S1 V1⟩
def z52(ha:JE X a (tD f))(hi:JE X i (tD g))(hs:DT i:=by ext _ _;rfl):JE X (.Subscript a i pos) (tD (vS f g)):=(DW T8 ha hi hs).weak fun σ H Q ⟨F,ad,δ,K,S,q,k⟩ ↦
 ⟨F,ad,δ,_,S,q,λx δ1 h1 v F1 br H1 E1 S1 V1=>⟨F1,br,δ1,_,S1,h1,λy δ2 h2 u F2 cR H2 E2 S2 V2=>by
  let⟨t,fs,j,w,⟨rfl,rfl,hw⟩,h3⟩:=h2;let⟨b,us,rfl,e1,e2⟩:=V1;subst V2;let e1:=S2.sub _ _ (E2.same _ _ e1);let e2:=e2.same E2.same
  let⟨n,hn1,xX⟩:∃n,jA fs.length j=Z n/\fs[n]?=Z w:=by
   unfold eX at hw
   cases z:jA fs.length j with
   |none=>rw[z] at hw;cases hw
   |some n=>rw[z] at hw;exact⟨n,U,hw⟩
  let⟨v,hv,iv⟩:=e2.get xX;let O7:eX us j=Z v:=by unfold eX;rw[↑e2,hn1];exact hv
  let fin:=k _ _ h3 _ _ _ _ (E1.trans E2) S2 iv.v
  cases t with
  |true=>exact .inr (.inl ⟨b,us,j,v,U,U,cA.of e1,O7,fin⟩)
  |false=>calc .inl ⟨b,us,j,v,U,U,bR.of e1,O7,fin⟩⟩⟩
end
end L2
namespace LJ
open PySem L2 PySem.Spec PySem.W PyProof.Rows
variable[zt:ba]
end LJ
namespace LJ
open PySem L2
variable[zt:ba]
meta def pv(us:-Int):D->Bool
 |.int n=>I (n∈us)
 |_=>ι
meta def px(us:-Int):D->Bool
 |.int n=>I (n∉us)
 |_=>ι
def O8(us l:-Int):((l.map D.int).filter (pv us)).map (λd=>d)=(l.filter λn=>I (n∈us)).map D.int:=by
 rw[q6Y,q1I];rfl
def O9(us l:-Int):((l.map D.int).filter (px us)).map (λd=>d)=(l.filter λn=>I (n∉us)).map D.int:=by
 rw[q6Y,q1I];rfl
def x9d{m:Int}{ws:-Wy}{N:Nt}(W:aH m ws)(I:dG m ws N){l:-Int}(hl:l∈mJ m ws N.p):l.filter (λn=>μ (n∈N.s))=[]\/(l.filter (λn=>μ (n∈N.s))=l/\l∈mJ m ws (bB ↑ws)):=by
 let⟨h,hr,rfl⟩:=((zD W I.ok.pn).1.mem l).mp hl;let hh:0<=h/\h<m:=by let:=W.m1;symm
 let all:Nums ws (bB ↑ws):=λx hx=>wY hx
 cases q:(cls m.toNat (fq ws N.p) h).filter (λn=>μ (n∈N.s)) with
 |nil=>exact .inl U
 |cons a r =>
  let ha:a∈(cls m.toNat (fq ws N.p) h).filter (λn=>μ (n∈N.s)):=by rw[q];exact q0d
  let⟨a1,a2⟩:=q0x.mp ha;let a2:=q00 a2;let al:a∈a6 m ws N.p h:=a1;let ca:=((fE W).mp al).2;let hs:h∈N.s:=uh I.ok.pn I.ok.sc ca.symm a2
  right
  rw[<-q];refine⟨q4b.mpr λx hx=>q0g ?_,?_⟩
  .let xl:x∈a6 m ws N.p h:=hx
   exact uh I.ok.pn I.ok.sc ((fE W).mp xl).2 hs
  .refine ((zD W all).1.mem _).mpr ⟨h,hr,?_⟩
   calc(Hg W all (λx hx=>bC.mpr (I.ok.pn x hx)) hh (I.wh h hs)).symm
def IT{l:-Int}(h:l≠[]):dEq (.lst (l.map D.int)) (.lst [])=ι:=by
 cases l with
 |nil=>exact absurd U h
 |cons a r=>simp[dEq,cI]
def z0q(L:-(-Int)):cG (L.map bj)<=2:=by
 induction L with
 |nil=>exact q0V _
 |cons l r ih =>
  erw[q0C,cG];calc Nat.max_le.mpr ⟨by let:=fA l;erw[bj,dep];symm,ih⟩
def z2r{L:-(-Int)}{l:-Int}(h:l∈L):((L.map bj).any λe=>dEq e (bj l))=θ:=q3P.mpr ⟨bj l,q0j.mpr ⟨l,h,U⟩,kY _⟩
inductive Ca (ys:-DV) (aE:-OV) (K:RV->-OV->Prop):Prop
 |mk (m:Int) (ws:-Wy) (N:Nt) (os:-Int) (q:aH m ws) (q:dG m ws N) (q:cx ws os) (q:ys=[.p (a_ m ws),.p (bj (k9 m ws os)),.p (nD N)]) (q:aE=[]) (q:K (.p (.bl θ)) [])
/---/def IU:WS:=(aD (i5 (aa 2) (iz 3 (dB (bL 3) (dB (bL 4) (dB (bL 5) hZ))))) (aD (bP (kR (dT (d2 (dY (bZ (aa 3)) [η,Z 1] (bL 0) (dT (d2 (aa 0) (aa 1) (fY θ))) (aa 0)) (dq ai) jB)) (dT (d2 (dY (bZ (aa 4)) [η,Z 1] (bL 0) (dT (d2 (aa 0) (aa 1) (fY ι))) (aa 0)) (dq ai) jB))) (bc (dC (.bl ι))) dX) (aD (a8 6 (aL 2 Gz (ay (aa 0) (ay (wM (ay (dN (ay (d2 (aa 0) (dC (.int 1)) bg) ai) cq) ai)) ai)))) (aD (eZ (bZ (aL 2 Gz (ay (aa 0) (ay (dN (ay (aa 3) ai) oC) ai)))) (bL 7) (aD (a8 8 (dY (bZ (aa 7)) [η,Z 5] (bL 0) (dT (d2 (aa 0) (aa 1) (fY ι))) (aa 0))) (bP (gb (dT (d2 (aa 8) (dq ai) jB)) (kR (dT (d2 (aa 8) (aa 7) jB)) (dT (d2 (aa 7) (aa 6) (fY θ))))) (bc (dC (.bl ι))) dX))) (bc (dC (.bl θ)))))))
def q4m:Sem 3 6 Ca IU:=by
 ext ys aE K'-⟨m,ws,N,os,W,I,ho,rfl,rfl,k⟩;let km:=W.iE;let pl:=I.ok.pl W;let kl:=I.ok.kl W;let fP:∀x∈N.p,x∈k9 m ws os:=λx hx=>(GR W ho).mpr ⟨I.ok.pn x hx,I.tw.p x hx⟩;let fK:∀x∈N.k,x∉k9 m ws os:=λx hx z=>I.tw.k x hx ((GR W ho).mp z).2;let sS:=λl hl=>x9d W I (l:=l) hl;let all:Nums ws (bB ↑ws):=λx hx=>wY hx;let⟨fo,O_⟩:∃fo,fo=k9 m ws os:=⟨_,U⟩;rw[<-O_] at fP fK;rw[<-O_];let df:=fA fo;let dsu:=fA N.s;unfold IU nD;calc bp λM hM=>?_;simp!;subst hM;calc bp λM hM=>gN λA B hA hB=>?_;rw[show bj N.p=.lst (N.p.map D.int) from U,show bj N.k=.lst (N.k.map D.int) from U]
 simp!;refine L2.jC (px fo) (λd=>d) (by rw[ye];symm) trivial ?_ ?_
 .ext d hd acc L ha h1 h2
  let⟨n,hn,rfl⟩:=q0j.mp hd;erw[px] at h1 h2;simp![bj];calc⟨⋯,?_⟩;rw[iC,q0g (fP n hn)];simp!;exact h2 (Ul (q2Y (fP n hn)))
 rw[O9,show N.p.filter (λn=>μ (n∉fo))=[] from q2o.mpr λn hn=>by simp[fP n hn],q19];simp![dEq,cI];refine L2.jC (pv fo) (λd=>d) (by rw[ye];symm) trivial ?_ ?_
 .ext d hd acc L ha h1 h2
  let⟨n,hn,rfl⟩:=q0j.mp hd;erw[pv] at h1 h2;simp![bj];calc⟨⋯,?_⟩;rw[iC,Ul (fK n hn)];simp!;exact h2 (Ul (fK n hn))
 rw[O8,show N.k.filter (λn=>μ (n∈fo))=[] from q2o.mpr λn hn=>by simp[fK n hn],q19];simp![dEq,cI];subst hB;simp!;subst hM;calc bp λM hM=>?_;simp![a_,dz];calc⟨⟨⋯,⋯⟩,?_⟩;rw[q0t,pU];calc⟨m,ws,bB ↑ws,W,all,(Up.nd (w9 _)),by rw[lP];symm,U,U,?_⟩;simp!;subst hM;calc bp λM hM=>oE λg' b' K2 hg hb' hK=>?_;simp!;calc⟨m,ws,N.p,W,I.ok.pn,I.ok.pu.nd,⋯,U,U,?_⟩;let⟨ev,Pa⟩:∃ev,ev=mJ m ws (bB ↑ws):=⟨_,U⟩;let e1:Bj (x2_ (λx=>x.snd) (fg (iA m ws (bB ↑ws)) m.toNat))=.lst (ev.map bj):=by rw[Pa];rfl
 rw[e1];let sS:∀l∈mJ m ws N.p,l.filter (λn=>μ (n∈N.s))=[]\/(l.filter (λn=>μ (n∈N.s))=l/\l∈ev):=by rw[Pa];exact sS
 let ll:∀l∈mJ m ws N.p,↑l<=1000:=λl hl=>by
  let⟨h,hr,rfl⟩:=((zD W I.ok.pn).1.mem l).mp hl;let:=vN W (p:=N.p) (h:=h);unfold a6 at this;symm
 let e2:Bj (x2_ (λx=>x.snd) (fg (iA m ws N.p) m.toNat))=.lst ((mJ m ws N.p).map bj):=U;rw[e2];generalize mJ m ws N.p=Ls at sS ll;let dv:=z0q ev;simp!;subst hg hb' hK;refine mz (λi δ=>δ=⟨[Z (.p (.tup [.int m,.tup (ws.map bK)])),Z (.p (bj fo)),Z (.p (.tup [.lst (N.p.map D.int),.lst (N.k.map D.int),bj N.s])),Z (.p (.lst (N.p.map D.int))),Z (.p (.lst (N.k.map D.int))),Z (.p (bj N.s)),Z (.p (.lst (ev.map bj))),η,η],[]⟩) U ?_ ?_
 .ext i d δ L hi rfl hL
  rw[Uj] at hi;let⟨l,hl,rfl⟩:=q0e.mp hi;let hl:=q0I hl;let l1:=ll l hl;let dl:=fA l;calc⟨trivial,?_⟩;erw[bL,q1a,q1b];calc bp λM2 jn=>?_;rw[show bj l=.lst (l.map D.int) from U];simp!;refine L2.jC (pv N.s) (λd=>d) (by rw[ye];symm) trivial ?_ ?_
  .ext d hd acc L' ha h1 h2
   let⟨n,hn,rfl⟩:=q0j.mp hd;erw[pv] at h1 h2;simp![bj];calc⟨⋯,?_⟩;rw[iC]
   by_cases c:n∈N.s
   .rw[q0g c];simp!;exact⟨ha,h1 (q0g c)⟩
   .rw[Ul c];simp!;exact h2 (Ul c)
  rw[O8];subst jn;calc gN λA B hA hB=>?_;rcases sS l hl with e|⟨e,hm⟩
  .rw[e,q19]
   simp![dEq,cI];subst hB;simp!;exact hL _ U
  .rw[e]
   by_cases ne:l=[]
   .subst ne
    simp![q19,dEq,cI];subst hB;simp!;exact hL _ U
   .let e3:=IT ne
    let e4:=kY (.lst (l.map D.int));let e5:((ev.map bj).any λe=>dEq e (.lst (l.map D.int)))=θ:=z2r hm;generalize l.map D.int=lD at e3 e4 e5 dl ⊢;simp![e3,e4,e5];calc⟨⋯,⋯,⋯,?_⟩;subst hB;simp!;exact hL _ U
 .ext δ rfl
  calc⟨trivial,?_⟩;show M _;subst hM;simp!;calc cC k
inductive IV (C:Y) (ys:-DV) (aE:-OV) (K:RK->-OV->-OV->Prop):Prop
 |mk (n m many:Int) (ws:-Wy) (o:OV) (q:aH m ws) (q:0<=many) (q:many<=60) (q:ys=[.o 0,.p (a_ m ws),.p (.int many)]) (q:aE=[o]) (q:bH n o) (q:n+500<2 ^ 30) (q:∀es o' a b e t,jh m ws bq es->↑es=many.toNat->bH (n+400) o'->K (.u θ [.w e,.w t,.w a]) [o'] [lO a b (runN m ws bq es),sO b (runN m ws bq es),.al e (es.map gC),.al t ((ft m ws bq es).map dU)])
/---/def IW(c_Night:Y):WS:=(aD (a8 3 (d2 (dC (.int 1)) (aL 2 g8 (ay (aa 0) (ay (dC (.int 5)) ai))) dI)) (aD (a8 4 (aG ι 0 (Io c_Night) ai)) (aD (a8 5 (pN ai)) (aD (a8 6 (pN ai)) (aD (eZ (m9 (ay (aa 2) ai)) (bL 7) (aD (a8 8 (aG ι 4 (IC c_Night) (ay (aa 0) (ay (aa 1) (ay (aa 4) (ay (aa 3) ai)))))) (aD (iI (gh (aa 5) (ay (aa 8) ai))) (iI (gh (aa 6) (ay (aG ι 3 (IE c_Night) (ay (aa 1) (ay (aa 4) (ay (aa 8) ai)))) ai)))))) (bc (IS θ (ay (aa 5) (ay (aa 6) (ay (aa 4) ai))))))))))
def q6K(C:Y):∀ys aE K',↑ys=3->IV C ys aE K'->IW C (ae ↑aE K') ⟨ys.map Z++q0q 6 η,aE.map Z⟩:=by
 ext ys aE K'-⟨n,m,many,ws,o,W,h0,h60,rfl,rfl,P,hn,k⟩;unfold IW;calc bp λM hM=>?_;rfl';calc⟨n,5,o,U,U,P,⋯,⋯,by decide,λz o1 z0 z1 P1=>?_⟩;rfl';subst hM;calc bp λM hM=>?_;rfl';calc⟨[],trivial,?_⟩;rfl'
 calc⟨U,U,λa b=>?_⟩;rfl';subst hM;calc bp λM hM=>?_;rfl';subst hM;calc bp λM hM=>?_;rfl';subst hM;calc bp λM hM=>oE λg' b' K2 hg hb' hK=>?_;rfl'
 calc⟨⋯,?_⟩;subst hg hb' hK;refine mz (λi δ=>∃es o,jh m ws bq es/\↑es=i/\bH (n+1+5*i) o/\δ=⟨[Z (.o 0),Z (.p (a_ m ws)),Z (.p (.int many)),Z (.p (.int (1+z))),Z (.w a),Z (.o 3),Z (.o 4),η,η],[Z o,Z (lO a b (runN m ws bq es)),Z (sO b (runN m ws bq es)),Z (.lst (es.map gC)),Z (.lst ((ft m ws bq es).map dU))]⟩) ⟨[],o1,trivial,U,P1.mono ⋯,U⟩ ?_ ?_
 .ext i d δ L hi ⟨es,o2,ok,el,P2,rfl⟩ hL
  let⟨il,rfl⟩:=oy hi;let ql:=vV (m:=m) (ws:=ws) (N:=bq) (es:=es);let ql:(runN m ws bq es).q.length<=i:=by let z:bq.q.length=0:=U;symm
  let ON:=dh.run W (pd m ws) ok;let tl:=xc (m:=m) (ws:=ws) (N:=bq) (a:=es);let hN:∀e o,fD m (runN m ws bq es) e->bH (n+1+5*(i+1:Nat)) o->L ⟨[Z (.o 0),Z (.p (a_ m ws)),Z (.p (.int many)),Z (.p (.int (1+z))),Z (.w a),Z (.o 3),Z (.o 4),η,η],[Z o,Z (lO a b ((runN m ws bq es).step m ws e)),Z (sO b ((runN m ws bq es).step m ws e)),Z (.lst (es.map gC++[gC e])),Z (.lst ((ft m ws bq es).map dU++[dU ((runN m ws bq es).tell m ws e)]))]⟩:=λe o he Po=>hL _ ⟨es++[e],o,Hc ok he,by rw[Lo,el];rfl,Po,by rw[vM,zM,q0s,q0s];rfl⟩;let z8:↑((ft m ws bq es).map dU)=i:=by rw[ye,tl,el]
  generalize runN m ws bq es=N at ON ql hN ⊢;generalize(ft m ws bq es).map dU=ts at hN z8 ⊢;calc⟨trivial,?_⟩;erw[bL,q1a,q1b];calc bp λM2 jn=>?_;rfl';calc⟨[(1,lO a b N),(2,sO b N)],⟨U,U,trivial⟩,?_⟩;rfl';calc⟨n+1+5*i,a,b,m,ws,N,1+z,o2,W,⋯,U,U,P2,⋯,λe o3 he P3=>?_⟩;rfl'
  subst jn;calc bp λM2 jn=>?_;rfl';calc⟨⋯,?_⟩;subst jn;rfl';calc⟨[(1,lO a b N),(2,sO b N)],⟨U,U,trivial⟩,?_⟩;rfl';calc⟨a,b,m,ws,N,e,W,ON,he,⋯,U,U,?_⟩;rfl'
  exact⟨⋯,hN e o3 he (P3.mono ⋯)⟩
 .ext δ ⟨es,o2,ok,el,P2,rfl⟩
  calc⟨trivial,?_⟩;show M _;rw[m_] at el P2;subst hM;simp![0,IS,ph,toF];ext e t;calc⟨[_],[_,_,_,_],[],U,U,k es o2 a b e t ok el (P2.mono ⋯)⟩
def Pb{l:-D}{x:D}:eX (l++[x]) (-1)=Z x:=by
 unfold eX jA;rw[q0l (by decide),q0r (by rw[Lo];simp;symm)];let:((-1:Int)+(↑(l++[x]):Nat)).toNat=↑l:=by rw[Lo];simp;symm
 rw[this];calc List.getElem?_concat_length
def Cb:∀{i j:Nat}{q:-gj}{x:Option Int×Int},q[j]?=Z (Z x)->↑(bN i (q.set j η))+1=↑(bN i q)
 |i,j,[],_,e=>by simp at e
 |i,0,none::r,_,e=>by simp at e
 |i,0,some y::r,_,e=>U
 |i,j+1,none::r,x,e=>Cb (i:=i+1) (j:=j) (q:=r) (x:=x) e⁻¹
 |i,j+1,some y::r,x,e=>by
  let:=Cb (i:=i+1) (j:=j) (q:=r) (x:=x) e⁻¹;show↑(bN (i+1) (r.set j η))+1+1=↑(bN (i+1) r)+1;symm
def Pc:∀{i:Nat}{q:-gj}{x:Option Int×Int},bN i q=[]->bN i (q++[Z x])=[((i+↑q:Nat):Int)]
 |i,[],_,_=>U
 |i,none::r,x,h=>by
  let:=Pc (i:=i+1) (q:=r) (x:=x) h;rw[show i+1+↑r=i+↑(η::r:-gj) by rw[Uh];symm] at this;exact this
 |i,some y::r,x,h=>nomatch h
def Pd{m:Int}{ws:-Wy}{N:Nt}{i:Nat}{x:Option Int×Int}(h:N.q[i]?=Z (Z x)):(N.step m ws (.fin i)).q=N.q.set i η:=by
 let⟨fo,h'⟩:=x;unfold Nt.step;dsimp only;rw[h];cases fo<;>unfold dF<;>dsimp only<;>split<;>rfl
inductive jo (m:Int) (ws:-Wy) (N:Nt) (b:Nat):Prop
 |idle (h:bN 0 N.q=[]) (l:2*↑(gD m ws N)<=b)
 |busy (h:bN 0 N.q≠[]) (l:↑(bN 0 N.q)+2*↑(gD m ws N)<=b)
 |fresh (i:Nat) (h:bN 0 N.q=[(i:Int)]) (e:O3 N i) (l:2*↑(gD m ws N)<=b+1)
def jo.fin{m:Int}{ws:-Wy}{N:Nt}{b j:Nat}(W:aH m ws)(I:dG m ws N)(B:jo m ws N (b+1))(hj:(j:Int)∈bN 0 N.q):jo m ws (N.step m ws (.fin j)) b:=by
 let⟨k,fo,h,e1,e2⟩:=z5 hj;rw[q0D] at e1;cases(q3S e1)
 let ul:=Cb (i:=0) e2;let el:=z5S W N j;let eq:=Pd (m:=m) (ws:=ws) e2;rw[<-eq] at ul
 let go:↑(bN 0 (N.step m ws (.fin j)).q)+2*↑(gD m ws (N.step m ws (.fin j)))<=b->jo m ws (N.step m ws (.fin j)) b:=λz=>by
  by_cases c:bN 0 (N.step m ws (.fin j)).q=[]
  .exact .idle c ⋯
  .exact .busy c z
 cases B with
 |idle h l=>rw[h] at hj;exact nomatch hj
 |busy h l=>exact go ⋯
 |fresh i h e l =>
  rw[h] at hj ul;cases(q3S (q0z.mp hj))
  let:=O5 W I e;rw[q0J] at ul;calc go ⋯
def jo.wake{m:Int}{ws:-Wy}{N:Nt}{b:Nat}{h:Int}(W:aH m ws)(I:dG m ws N)(B:jo m ws N (b+1))(hu:bN 0 N.q=[])(hh:0<=h/\h<m)(hs:h∉N.s):jo m ws (N.step m ws (.wake h)) b/\bN 0 (N.step m ws (.wake h)).q=[(↑N.q:Int)]:=by
 let er:=x8t (m:=m) (ws:=ws) N h
 let eq:(N.step m ws (.wake h)).q=N.q++[Z (h9 ws (a6 m ws N.p h),h)]:=by
  unfold Nt.step;dsimp only;rw[q0l hs]
 let ep:(N.step m ws (.wake h)).p=N.p/\(N.step m ws (.wake h)).s=N.s:=by
  unfold Nt.step;dsimp only;rw[q0l hs];exact⟨U,U⟩
 let u:=Pc (i:=0) (q:=N.q) (x:=(h9 ws (a6 m ws N.p h),h)) hu;rw[q0D,<-eq] at u;refine⟨?_,u⟩
 cases B with
 |busy h l=>exact absurd hu h
 |fresh i h e l=>rw[hu] at h;exact nomatch h
 |idle h' l =>
  refine .fresh ↑N.q u ⟨h9 ws (a6 m ws N.p h),h,?_,λw e z=>?_,λ_=>by rw[ep.2];calc hs⟩ (by rw[er];symm)
  .rw[eq,q0i (Ln _),q1l];rfl
  .rw[ep.1] at z
   let⟨_,o⟩:=OZ W e;let⟨o1,o2⟩:=eU.mp o;rw[Hf (He W o1 (Hd z))] at o2;cases o2
def jo.none{m:Int}{ws:-Wy}{N:Nt}{b:Nat}(B:jo m ws N (b+1))(hu:bN 0 N.q=[])(h0:↑(gD m ws N)=0):jo m ws N b:=.idle hu ⋯
def jo.last{m:Int}{ws:-Wy}{N:Nt}(W:aH m ws)(I:dG m ws N)(B:jo m ws N 0):bN 0 N.q=[]/\↑(gD m ws N)=0:=by
 cases B with
 |idle h l=>exact⟨h,⋯⟩
 |busy h l=>exact absurd (q1h.mp ⋯) h
 |fresh i h e l=>let:=O5 W I e;symm
def z1j{m:Int}{ws:-Wy}{N:Nt}(h:∀x∈bB m.toNat,x∈N.s):↑(gD m ws N)=0:=by
 rw[q1h];unfold gD;calc q2o.mpr λx hx=>?_;rw[Ul (q2Y (h x hx))];calc q1F
inductive IX (C:Y) (ys:-DV) (aE:-OV) (K:RK->-OV->-OV->Prop):Prop
 |mk (n m:Int) (a b e:Y) (ws:-Wy) (es:-eT) (o:OV) (z:aH m ws) (z:jh m ws bq es) (z:↑es<=30) (z:ys=[.o 0,.p (a_ m ws),.w a,.o 1,.o 2]) (z:aE=[o,.al e (es.map gC),.lst ((ft m ws bq es).map dU),nO C a b m ws (runN m ws bq es),gO b (runN m ws bq es)]) (z:bH n o) (z:n+1000<2 ^ 30) (z:∀cH o',jh m ws bq cH->↑cH<=200->(runN m ws bq cH).s=bB m.toNat->bN 0 (runN m ws bq cH).q=[]->bH (n+500) o'->K (.p (.bl θ)) [o',.al e (cH.map gC),.lst ((ft m ws bq cH).map dU),nO C a b m ws (runN m ws bq cH),gO b (runN m ws bq cH)] [])
/---/def IY(c_Night:Y):WS:=(aD (eZ (m9 (ay (d2 (dN (ay (aF ι c_Night "under" 1 (z7 c_Night) (aa 2) ai) ai) cq) (d2 (dC (.int 3)) (d2 (aa 1) (dC (.int 0)) bg) fy) dI) ai)) (bL 5) (aD (a8 6 (aF ι c_Night "under" 1 (z7 c_Night) (aa 2) ai)) (aD (a8 7 (dY (m9 (ay (d2 (aa 1) (dC (.int 0)) bg) ai)) [η,Z 2] (bL 0) (dT (d2 (aa 0) (d2 (aF ι c_Night "stand" 1 (um c_Night) (aa 1) ai) (dC (.int 2)) bg) (fY θ))) (aa 0))) (bP (dT (d2 (aa 6) (dq ai) jB)) (aD (iI (gh (aa 3) (ay (bQ (ay (dC (.str "end")) (ay (d2 (aa 6) (aL 2 g8 (ay (aa 0) (ay (dN (ay (aa 6) ai) cq) ai))) bg) ai))) ai))) (iI (gh (aa 4) (ay (aF ι c_Night "end" 2 (zX c_Night) (aa 2) (ay (d2 (d2 (aa 3) (d1 (dC (.int 1)) oB) bg) (dC (.int 1)) bg) ai)) ai)))) (bP (dT (d2 (aa 7) (dq ai) jB)) (aD (iI (gh (aa 3) (ay (bQ (ay (dC (.str "wake")) (ay (d2 (aa 7) (aL 2 g8 (ay (aa 0) (ay (dN (ay (aa 7) ai) cq) ai))) bg) ai))) ai))) (iI (gh (aa 4) (ay (aF ι c_Night "wake" 2 (xh c_Night) (aa 2) (ay (d2 (d2 (aa 3) (d1 (dC (.int 1)) oB) bg) (dC (.int 1)) bg) ai)) ai)))) dX))))) (bc (qU (d2 (dN (ay (d2 (aF ι c_Night "stand" 1 (um c_Night) (aa 2) ai) (dC (.int 2)) bg) ai) cq) (d2 (aa 1) (dC (.int 0)) bg) oEq) (d2 (aF ι c_Night "under" 1 (z7 c_Night) (aa 2) ai) (dq ai) oEq))))
def q9Y(C:Y):∀ys aE K',↑ys=5->IX C ys aE K'->IY C (ae ↑aE K') ⟨ys.map Z++q0q 3 η,aE.map Z⟩:=by
 ext ys aE K'-⟨n,m,a,b,e,ws,es,o,W,ok,el,rfl,rfl,P,hn,k⟩;let m1:=W.m1;let fW:=W.fW;let rg:dE 0 m.toNat=(bB m.toNat).map D.int:=pU m.toNat;let q0:=vV (m:=m) (ws:=ws) (N:=bq) (es:=es);let z0:bq.q.length=0:=U;let Im:↑(bN 0 (runN m ws bq es).q)<=30:=q0N B6 ⋯;let I0:dG m ws (runN m ws bq es):=(xi m ws).run W ok;unfold IY;calc bp λM hM=>oE λg' b' K2 hg hb' hK=>?_;rfl';refine⟨⟨a,3,_,U,U,U⟩,[(3,nO C a b m ws (runN m ws bq es)),(4,gO b (runN m ws bq es))],⟨U,U,trivial⟩,?_⟩
 rfl';calc⟨a,b,m,ws,runN m ws bq es,⋯,U,U,?_⟩;simp![0,bj,a_,cV,ye];let IZ:∃sT:Nat,(↑(bN 0 (runN m ws bq es).q):Int)+3*m=(sT:Int)/\sT<=66:=⟨((↑(bN 0 (runN m ws bq es).q):Int)+3*m).toNat,⋯,⋯⟩;let⟨sT,ht,t66⟩:=IZ
 let B0:jo m ws (runN m ws bq es) sT:=by
  let:=z1k (N:=runN m ws bq es) W
  by_cases c:bN 0 (runN m ws bq es).q=[]
  .exact .idle c ⋯
  .exact .busy c ⋯
 calc⟨.inl ⟨by decide,by decide⟩,⟨⋯,⋯⟩,?_⟩;rw[ht,q0t];subst hg hb' hK;refine mz (λi δ=>∃o cH,jh m ws bq cH/\↑cH<=↑es+i/\bH (n+i) o/\jo m ws (runN m ws bq cH) (sT-i)/\↑(bN 0 (runN m ws bq cH).q)<=30/\δ=⟨[Z (.o 0),Z (.p (.tup [.int m,.tup (ws.map bK)])),Z (.w a),Z (.o 1),Z (.o 2),η,η,η],[Z o,Z (.al e (cH.map gC)),Z (.lst ((ft m ws bq cH).map dU)),Z (nO C a b m ws (runN m ws bq cH)),Z (gO b (runN m ws bq cH))]⟩) ⟨o,es,ok,⋯,P.mono ⋯,B0,Im,U⟩ ?_ ?_
 .ext i d δ L hi ⟨o1,cH,xj,Pe,P1,B1,u1,rfl⟩ hL
  let⟨il,rfl⟩:=oy hi;let I1:dG m ws (runN m ws bq cH):=(xi m ws).run W xj;let ql:=vV (m:=m) (ws:=ws) (N:=bq) (es:=cH);let tl:=xc (m:=m) (ws:=ws) (N:=bq) (a:=cH);rw[show sT-i=(sT-(i+1))+1 by symm] at B1;let hN:∀ev o,fD m (runN m ws bq cH) ev->bH (n+(i+1:Nat)) o->jo m ws ((runN m ws bq cH).step m ws ev) (sT-(i+1))->↑(bN 0 ((runN m ws bq cH).step m ws ev).q)<=30->L ⟨[Z (.o 0),Z (.p (.tup [.int m,.tup (ws.map bK)])),Z (.w a),Z (.o 1),Z (.o 2),η,η,η],[Z o,Z (.al e (cH.map gC++[gC ev])),Z (.lst ((ft m ws bq cH).map dU++[dU ((runN m ws bq cH).tell m ws ev)])),Z (nO C a b m ws ((runN m ws bq cH).step m ws ev)),Z (gO b ((runN m ws bq cH).step m ws ev))]⟩:=λev o he Po hB hu=>hL _ ⟨o,cH++[ev],Hc xj he,by rw[Lo,q0J];symm,Po,by rw[vM];calc hB,by rw[vM];calc hu,by rw[vM,zM,q0s,q0s];rfl⟩
  let h0:∀o,bH (n+(i+1:Nat)) o->jo m ws (runN m ws bq cH) (sT-(i+1))->L ⟨[Z (.o 0),Z (.p (.tup [.int m,.tup (ws.map bK)])),Z (.w a),Z (.o 1),Z (.o 2),η,η,η],[Z o,Z (.al e (cH.map gC)),Z (.lst ((ft m ws bq cH).map dU)),Z (nO C a b m ws (runN m ws bq cH)),Z (gO b (runN m ws bq cH))]⟩:=λo Po hB=>hL _ ⟨o,cH,xj,⋯,Po,hB,u1,U⟩;let z8:↑((ft m ws bq cH).map dU)=↑cH:=by rw[ye,tl]
  let hes:↑(cH.map gC)=↑cH:=ye ..;generalize runN m ws bq cH=N at I1 ql B1 u1 hN h0 ⊢;generalize(ft m ws bq cH).map dU=ts at z8 hN h0 ⊢;generalize cH.map gC=evs at hes hN h0 ⊢;let ds:=fA N.s;let sl:=I1.ok.sl W;calc⟨trivial,?_⟩;erw[bL,q1a,q1b];calc bp λM2 jn=>?_;rfl';calc⟨⟨a,3,_,U,U,U⟩,[(3,nO C a b m ws N),(4,gO b N)],⟨U,U,trivial⟩,?_⟩;rfl';refine⟨a,b,m,ws,N,⋯,U,U,?_⟩
  rfl';subst jn;calc bp λM2 jn=>?_;simp![0,cV];calc⟨⋯,?_⟩;rw[rg];refine L2.jC (px N.s) (λd=>d) (by rw[ye,lP];symm) trivial ?_ ?_
  .ext d hd acc L' ha h1 h2
   let⟨x,hx,rfl⟩:=q0j.mp hd;erw[px] at h1 h2;rfl';calc⟨⟨a,3,_,U,U,U⟩,[(3,nO C a b m ws N)],⟨U,trivial⟩,?_⟩;rfl';calc⟨a,b,m,ws,N,U,U,?_⟩;simp![0,nD,at2,bj];calc⟨⋯,?_⟩;rw[iC]
   by_cases c:x∈N.s
   .rw[q0g c];rfl';exact h2 (Ul (q2Y c))
   .rw[Ul c];rfl';exact⟨ha,h1 (q0g c)⟩
  rw[O9];let⟨lf,I_⟩:∃lf,lf=(bB m.toNat).filter λx=>I (x∉N.s):=⟨_,U⟩;rw[<-I_];let Pf:∀x,x∈lf↔(0<=x/\x<m)/\x∉N.s:=λx=>by rw[I_,q0x,bC,q0u];exact and_congr_left' ⟨λz=>by symm,λz=>by symm⟩
  let lfl:↑lf<=12:=by
   let:=q0S (λx=>I (x∉N.s)) (bB m.toNat);rw[lP,<-I_] at this;symm
  subst jn;calc gN λA B hA hB=>?_;let du:=fA (bN 0 N.q)
  by_cases cu:bN 0 N.q=[]
  .rw[cu]
   simp![0,bj,q19,dEq,cI];subst hB;calc gN λA B hA hB=>?_;let dl:=fA lf
   by_cases cl:lf=[]
   .rw[cl]
    simp![0,q19,dEq,cI];subst hB;rfl'
    exact h0 o1 (P1.mono ⋯) (B1.none cu (z1j λx hx=>wd λc=>by
     let:x∈lf:=(Pf x).mpr ⟨by let:=bC.mp hx;symm,c⟩
     rw[cl] at this;calc nomatch this))
   .let e3:=IT cl
    let lp:0<↑lf:=q4c.mpr cl;simp![0,e3];calc⟨⋯,?_⟩;subst hA;calc bp λM2 jn=>?_;simp![0,ye];calc⟨n+i,↑lf,o1,U,U,P1,⋯,⋯,⋯,λr o2 r0 r1 P2=>?_⟩;let⟨x,hx,ex⟩:=IB (us:=lf) r0 ⋯;let⟨xr,xs⟩:=(Pf x).mp hx;simp![0,ex];refine⟨⋯,?_⟩
    subst jn;rfl';rw[Pb];simp![0,dz];calc⟨⟨a,3,_,U,U,U⟩,[(3,nO C a b m ws N),(4,gO b N)],⟨U,U,trivial⟩,?_⟩;rfl';calc⟨a,b,m,ws,N,x,W,I1.ok,xr,⋯,U,U,?_⟩;rfl'
    let⟨b1,b2⟩:=jo.wake W I1 B1 cu xr xs;exact⟨⋯,hN (.wake x) o2 xr (P2.mono ⋯) b1 (by rw[b2];calc q3O (q0V _))⟩
  .let e3:=IT cu
   let up:0<↑(bN 0 N.q):=q4c.mpr cu;simp![0,bj,e3];calc⟨⋯,?_⟩;subst hA;calc bp λM2 jn=>?_;simp![0,ye];calc⟨n+i,↑(bN 0 N.q),o1,U,U,P1,⋯,⋯,⋯,λr o2 r0 r1 P2=>?_⟩;let⟨x,hx,ex⟩:=IB (us:=bN 0 N.q) r0 ⋯;let⟨j,fo,h,e1,e2⟩:=z5 hx;rw[q0D] at e1;subst e1;simp![0,ex]
   calc⟨⋯,?_⟩;subst jn;rfl';rw[Pb];simp![0,dz];calc⟨⟨a,3,_,U,U,U⟩,[(3,nO C a b m ws N),(4,gO b N)],⟨U,U,trivial⟩,?_⟩;rfl';calc⟨a,b,m,ws,N,j,W,I1.ok,⟨fo,h,e2⟩,U,U,?_⟩;rfl'
   let us:=Cb (i:=0) e2;rw[<-Pd (m:=m) (ws:=ws) e2] at us;exact⟨⋯,hN (.fin j) o2 ⟨fo,h,e2⟩ (P2.mono ⋯) (jo.fin W I1 B1 hx) ⋯⟩
 .ext δ ⟨o1,cH,xj,Pe,P1,B1,u1,rfl⟩
  calc⟨trivial,?_⟩;show M _;rw[m_] at Pe P1 B1;rw[q1l] at B1;let I1:dG m ws (runN m ws bq cH):=(xi m ws).run W xj;let⟨h1,h2⟩:=jo.last W I1 B1;let hs:=x8u W I1.ok h2;let k:=k cH o1 xj ⋯ hs h1 (P1.mono ⋯);generalize runN m ws bq cH=N at h1 hs k ⊢;subst hM;rfl';calc⟨⟨a,3,_,U,U,U⟩,[(3,nO C a b m ws N)],⟨U,trivial⟩,?_⟩;rfl';refine⟨a,b,m,ws,N,U,U,?_⟩
  simp![0,nD,at2,bj,hs,ye,lP,cV];rw[vH,q0g ⋯];rfl';calc⟨⟨a,3,_,U,U,U⟩,[(3,nO C a b m ws N),(4,gO b N)],⟨U,U,trivial⟩,?_⟩;rfl';calc⟨a,b,m,ws,N,by rw[h1];decide,U,U,?_⟩;rw[h1];simp![0,bj,q19,dEq,cI]
  calc⟨[_,_,_,_,_],[],[],U,U,k⟩
meta abbrev KL:KS:=⟨λ_=>False,λx _=>x=.p (.bl θ),λ_=>False,λ_=>False⟩
meta def z9:D->Bool
 |.tup [.non,_]=>ι
 |_=>θ
def z4X(ts:-(Option Int×Int)):(((ts.map dU).filter z9).map gw)=(ts.filterMap (·.1)).map D.int:=by
 induction ts with
 |nil=>rfl
 |cons t r ih =>
  let⟨o,c⟩:=t
  cases o with
  |none =>
   show((D.tup [.non,.int c]::r.map dU).filter z9).map gw=_;rw[q2j (by simp[z9]),q4X U];exact ih
  |some w =>
   show((D.tup [.int w,.int c]::r.map dU).filter z9).map gw=_;rw[q2i (by rfl),q0C,ih,show(((Z w,c)::r:-(Option Int×Int)).filterMap (·.1))=w::r.filterMap (·.1) from U];rfl
def z0p(ts:-(Option Int×Int)):dep (.lst (ts.map dU))<=3:=by
 let:∀ts:-(Option Int×Int),cG (ts.map dU)<=1:=λts=>by
  induction ts with
  |nil=>simp[cG]
  |cons n r ih =>
   let⟨o,c⟩:=n;cases o<;>simp[cG,dep,dU,oD]<;>symm
 let:=this ts;erw[dep];symm
def z0W{m:Int}{ws:-Wy}{N:Nt}(W:aH m ws)(I:dG m ws N)(hs:N.s=bB m.toNat):ue m ws N.p=[]:=by
 cases q:ue m ws N.p with
 |nil=>rfl
 |cons x r =>
  let:x∈ue m ws N.p:=by rw[q];exact q0d
  let⟨l,hl,ne,_⟩:=iN.mp this;let⟨h,hr,rfl⟩:=((zD W I.ok.pn).1.mem l).mp hl;calc absurd (I.wh h (by rw[hs];calc bC.mpr ⋯)) ne
def z3u{m:Int}{ws:-Wy}{es:-eT}{os:-Int}(W:aH m ws)(ok:jh m ws bq es)(ho:cx ws os)(hs:(runN m ws bq es).s=bB m.toNat):(runN m ws bq es).p=k9 m ws os/\sortI ((ft m ws bq es).filterMap (·.1))=k9 m ws os/\↑((ft m ws bq es).filterMap (·.1))<=30:=by
 let I:=(xi m ws).run W ok;let f:=Zt W I.ok.pn I.ok.pu.nd I.tw.p (z0W W I hs) ho;rw[OW I.ok.pu] at f;let pm:=O0 W (pd m ws) ok;let e0:bq.p=[]:=U;rw[e0,q33] at pm;calc⟨f,?_,by rw[pm.length_eq];calc I.ok.pl W⟩;rw[<-f];calc nA (zJ (pm.nodup_iff.mpr I.ok.pu.nd)) I.ok.pu λx=>(sortI_perm _).mem_iff.trans pm.mem_iff
def x7i(N:Nt):dep (nD N)<=3:=by
 let a:=fA N.p;let b:=fA N.k;let c:=fA N.s;erw[nD,bj,dep,cG];symm
/---/def Ja(c_Night:Y):WS:=(aD (eZ (m9 (ay (dC (.int 3)) ai)) (bL 2) (aD (a8 3 (aL 3 FF (ay (aL 1 Fw (ay (aa 1) ai)) (ay (d2 (dq (ay (dC (.int 6)) (ay (dC (.int 12)) (ay (dC (.int 9)) ai)))) (aa 2) bg) (ay (dC (.int 30)) ai))))) (aD (a8 4 (vS (aG ι 3 (IV c_Night) (ay (aa 1) (ay (aa 3) (ay (aL 2 g8 (ay (aa 1) (ay (dC (.int 31)) ai))) ai)))) (dC (.int 0)))) (aD (a8 5 (aL 1 GN (ay (aa 3) ai))) (aD (a8 6 (aJ c_Night 2 (zW c_Night) (ay (aa 3) ai))) (aD (a8 7 (pP (bZ (ag (aa 4))) [η,η,Z 6] (iz 2 (dB (bL 0) (dB (bL 1) hZ))) dZ (vd (dT (d2 (aa 0) (dC (.str "wake")) oEq)) (aF ι c_Night "wake" 2 (xh c_Night) (aa 2) (ay (aa 1) ai)) (aF ι c_Night "end" 2 (zX c_Night) (aa 2) (ay (aa 1) ai))))) (aD (bP (kR (fR (dT (aL 3 Ca (ay (aa 3) (ay (aa 5) (ay (aF ι c_Night "stand" 1 (um c_Night) (aa 6) ai) ai)))))) (fR (dT (aG ι 5 (IX c_Night) (ay (aa 1) (ay (aa 3) (ay (aa 6) (ay (ag (aa 4)) (ay (aa 7) ai))))))))) (bc (dC (.bl ι))) dX) (aD (a8 8 (aF ι c_Night "stand" 1 (um c_Night) (aa 6) ai)) (aD (a8 9 (dY (bZ (aa 7)) [η,η] (iz 2 (dB (bL 0) (dB (bL 1) hZ))) (dT (d2 (aa 0) (dC .non) wR)) (aa 0))) (aD (bP (kR (dT (d2 (dN (ay (aa 9) ai) mq) (aa 5) jB)) (kR (dT (d2 (d2 (aa 8) (dC (.int 0)) bg) (aa 5) jB)) (fR (dT (aL 3 Ca (ay (aa 3) (ay (aa 5) (ay (aa 8) ai)))))))) (bc (dC (.bl ι))) dX) (aD (bP (kR (dT (d2 (aG ι 2 (Ie c_Night) (ay (aa 3) (ay (dN (ay (ag (aa 4)) ai) oC) ai))) (aa 7) jB)) (dT (d2 (aG ι 2 (IL c_Night) (ay (aa 3) (ay (dN (ay (ag (aa 4)) ai) oC) ai))) (aa 8) jB))) (bc (dC (.bl ι))) dX) (bP (kR (dT (d2 (aF ι c_Night "wake" 2 (xh c_Night) (aa 6) (ay (aL 2 g8 (ay (aa 1) (ay (d2 (aa 3) (dC (.int 0)) bg) ai))) ai)) (bQ (ay (dC .non) (ay (dC (.int 0)) ai))) jB)) (dT (d2 (aF ι c_Night "stand" 1 (um c_Night) (aa 6) ai) (aa 8) jB))) (bc (dC (.bl ι))) dX)))))))))))) (bc (dC (.bl θ))))
def z3r(C:Y)(ns:-Int)(hn:↑ns<=63):Ja C KL ⟨η::Z (.o 0)::q0q 8 η,[Z (mC ns 0 0)]⟩:=by
 let ww:dEq (.str "wake") (.str "wake")=θ:=U;let ew:dEq (.str "end") (.str "wake")=ι:=U;unfold Ja;calc bp λN hN=>?_;rfl';calc⟨by decide,?_⟩;refine mz (λi δ=>∃o,bH (20000*i) o/\δ=⟨η::Z (.o 0)::q0q 8 η,[Z o]⟩) ⟨mC ns 0 0,⟨ns,0,0,U,hn,⋯,⋯⟩,U⟩ ?_ ?_
 .ext j d δ L hj ⟨o,P,rfl⟩ hL
  let⟨Pg,rfl⟩:=oy hj;let Pg:j<3:=Pg;calc⟨trivial,?_⟩;erw[bL,q2J,q50,q1a,q1b];let⟨h2,eh2,hh2⟩:=OQ (a:=6) (b:=12) (c:=9) (k:=0+(j:Int)) ⟨⋯,⋯⟩;calc bp λM hM=>?_;rfl';calc⟨20000*j,o,U,U,P,λo1 P1=>?_⟩;simp![0,eh2];calc⟨20000*j,h2,30,o1,U,U,P1,⋯,⋯,⋯,⋯,⋯,λm ws o2 W _ _ P2=>?_⟩;let m1:=W.m1;let fW:=W.fW
  rfl';subst hM;calc bp λM hM=>?_;simp![0,vS];calc⟨20000*j+300,31,o2,U,U,P2,⋯,⋯,by decide,λmany o3 y0 y1 P3=>?_⟩;rfl';calc⟨[],trivial,?_⟩;rfl'
  calc⟨20000*j+300+1,m,many,ws,o3,W,y0,⋯,U,U,P3,⋯,λes o4 a0 b0 e t ok el P4=>?_⟩;rfl';calc⟨θ,_,0,_,⟨U,U,cV⟩,?_⟩;rfl';subst hM;generalize Z (lO a0 b0 (runN m ws bq es))=g1;generalize Z (sO b0 (runN m ws bq es))=g2;generalize Z (OV.al t ((ft m ws bq es).map dU))=g3;calc bp λM hM=>?_;rfl'
  calc⟨m,ws,W,U,U,λos ho=>?_⟩;rfl';subst hM;calc bp λM hM=>?_;rfl';ext a;calc⟨[(5,.ins a C [])],⟨U,trivial⟩,?_⟩;rfl';calc⟨a,m,ws,W,U,U,λb=>?_⟩;rfl'
  subst hM;calc bp λM hM=>?_;rfl';calc⟨e,3,_,⟨U,U,U⟩,?_⟩;rfl';refine Ba (λi acc δ=>acc=(ft m ws bq (es.take i)).map dU/\δ=⟨[η,η,Z (.w a)],[Z o4,g1,g2,Z (.al e (es.map gC)),g3,Z (nO C a b m ws (runN m ws bq (es.take i))),Z (gO b (runN m ws bq (es.take i)))]⟩) ⟨U,U⟩ ?_ ?_
  .ext i d acc δ L' hi ⟨rfl,rfl⟩ jD
   rw[Uj] at hi;let⟨ev,he,rfl⟩:=q0e.mp hi;let il:i<↑es:=(Ll.mp he).1;let⟨h1,hk⟩:=HZ ok he;let ql:=vV (m:=m) (ws:=ws) (N:=bq) (es:=es.take i);let tl:=xc (m:=m) (ws:=ws) (N:=bq) (a:=es.take i);rw[q0K,q7I (q1e il)] at ql tl;let z0:bq.q.length=0:=U;let ON:=dh.run W (pd m ws) hk;rw[H_ he,vM,zM,q0s] at jD;let z8:↑((ft m ws bq (es.take i)).map dU)=i:=by rw[ye,tl]
   generalize runN m ws bq (es.take i)=Ni at ON h1 ql jD ⊢;generalize(ft m ws bq (es.take i)).map dU=ts at z8 jD ⊢
   cases ev with
   |wake h =>
    simp![0,gC,ww];calc⟨⟨a,5,_,U,U,U⟩,[(5,nO C a b m ws Ni),(6,gO b Ni)],⟨U,U,trivial⟩,?_⟩;rfl';calc⟨a,b,m,ws,Ni,h,W,ON,h1,⋯,U,U,?_⟩;rfl';exact⟨⋯,jD _ _ ⟨U,U⟩⟩
   |fin k =>
    simp![0,gC,ew];calc⟨⟨a,5,_,U,U,U⟩,[(5,nO C a b m ws Ni),(6,gO b Ni)],⟨U,U,trivial⟩,?_⟩;rfl';calc⟨a,b,m,ws,Ni,k,W,ON,h1,U,U,?_⟩;rfl';exact⟨⋯,jD _ _ ⟨U,U⟩⟩
  .ext acc δ ⟨rfl,rfl⟩
   calc⟨U,?_⟩;rw[ye,q2s];let I0:dG m ws (runN m ws bq es):=(xi m ws).run W ok;subst hM;calc bp λM hM=>gN λA B hA hB=>?_;rfl';calc⟨⟨a,5,_,U,U,U⟩,[(5,nO C a b m ws (runN m ws bq es))],⟨U,trivial⟩,?_⟩;rfl';calc⟨a,b,m,ws,runN m ws bq es,U,U,?_⟩;rfl';refine⟨m,ws,runN m ws bq es,os,W,I0,ho,U,U,?_⟩
   rfl';calc⟨e,3,_,⟨U,U,U⟩,[(5,nO C a b m ws (runN m ws bq es)),(6,gO b (runN m ws bq es))],⟨U,U,trivial⟩,?_⟩;rfl';calc⟨20000*j+300+1+400,m,a,b,e,ws,es,o4,W,ok,⋯,U,U,P4,⋯,λc8 o5 Cc l2 hs hu P5=>?_⟩;rfl';subst hB;show M _;let⟨f1,f2,f3⟩:=z3u W Cc ho hs
   let I2:dG m ws (runN m ws bq c8):=(xi m ws).run W Cc;let q2:=vV (m:=m) (ws:=ws) (N:=bq) (es:=c8);let z0:bq.q.length=0:=U;let dt:=z0p (ft m ws bq c8);let⟨N2,ja⟩:∃N2,N2=runN m ws bq c8:=⟨_,U⟩;rw[<-ja] at f1 I2 q2 hs;rw[<-ja];let dst:=x7i N2;let tl2:=xc (m:=m) (ws:=ws) (N:=bq) (a:=c8);subst hM;calc bp λM hM=>?_;rfl';calc⟨⟨a,5,_,U,U,U⟩,[(5,nO C a b m ws N2)],⟨U,trivial⟩,?_⟩;rfl'
   calc⟨a,b,m,ws,N2,U,U,?_⟩;rfl';subst hM;calc bp λM hM=>?_;rfl';refine L2.jC z9 gw (by rw[ye];symm) U ?_ ?_
   .ext d hd acc L' ha h1 h2
    let⟨⟨ow,c⟩,hx,rfl⟩:=q0j.mp hd
    cases ow with
    |none=>simp![0,dU,oD];exact h2 U
    |some w=>simp![0,dU,oD];exact⟨ha,h1 U⟩
   rw[z4X];subst hM;calc bp λM hM=>gN λA B hA hB=>?_;let dd:=kY (.lst ((k9 m ws os).map D.int));let e0:dEq (.lst (N2.p.map D.int)) (.lst ((k9 m ws os).map D.int))=θ:=by rw[f1];exact kY _
   let dfo:=fA (k9 m ws os);let dnp:=fA N2.p;let lA:=kY (.lst ((ft m ws bq c8).map dU));let dd3:=kY (nD N2);let dd4:dEq (.tup [.non,.int 0]) (.tup [.non,.int 0])=θ:=kY _;rfl';unfold mq;dsimp only;rw[nh];dsimp only;calc⟨⋯,?_⟩;rw[f2];simp![0,bj,dd];calc⟨⋯,?_⟩;simp![0,nD,cV,bj,e0]
   calc⟨⋯,?_⟩;calc⟨m,ws,N2,os,W,I2,ho,U,U,?_⟩;rfl';subst hB;show M _;subst hM;calc bp λM hM=>gN λA B hA hB=>?_;rfl';calc⟨e,3,_,⟨U,U,U⟩,?_⟩;rfl';calc⟨[],trivial,?_⟩;rfl'
   calc⟨m,ws,c8,W,Cc,⋯,U,U,?_⟩;simp![0,lA];erw[dep] at dt;calc⟨⋯,?_⟩;calc⟨e,3,_,⟨U,U,U⟩,?_⟩;rfl';calc⟨[],trivial,?_⟩;rfl';calc⟨m,ws,c8,W,Cc,⋯,U,U,?_⟩;rw[<-ja];let Ph:dEq (.tup [.lst (N2.p.map D.int),.lst (N2.k.map D.int),.lst (N2.s.map D.int)]) (.tup [.lst (N2.p.map D.int),.lst (N2.k.map D.int),.lst (N2.s.map D.int)])=θ:=kY _
   let dnk:=fA N2.k;let dns:=fA N2.s;simp![0,nD,bj,Ph];calc⟨⋯,?_⟩;subst hB;show M _;subst hM;calc gN λA B hA hB=>?_;rfl';calc⟨⟨a,5,_,U,U,U⟩,?_⟩;simp![0,a_,cV];refine⟨20000*j+300+1+400+500,m,o5,U,U,P5,⋯,⋯,⋯,λh o6 y0 y1 P6=>?_⟩
   rfl';calc⟨[(5,nO C a b m ws N2),(6,gO b N2)],⟨U,U,trivial⟩,?_⟩;rfl';let BH:h∈N2.s:=by rw[hs];exact bC.mpr ⋯
   let et:N2.tell m ws (.wake h)=(η,0):=by unfold Nt.tell;dsimp only;rw[q0r BH]
   let cH:N2.step m ws (.wake h)=⟨N2.p,N2.k,N2.s,N2.q++[η]⟩:=by unfold Nt.step;dsimp only;rw[q0r BH]
   calc⟨a,b,m,ws,N2,h,W,I2.ok,⟨y0,y1⟩,⋯,U,U,?_⟩;rw[et,cH];simp![0,dU,oD,dd4];calc⟨⟨a,5,_,U,U,U⟩,[(5,nO C a b m ws ⟨N2.p,N2.k,N2.s,N2.q++[η]⟩)],⟨U,trivial⟩,?_⟩;rfl';calc⟨a,b,m,ws,⟨N2.p,N2.k,N2.s,N2.q++[η]⟩,U,U,?_⟩;simp![0,nD,bj,Ph];refine⟨⋯,?_⟩
   subst hB;rfl';exact hL _ ⟨o6,P6.mono ⋯,U⟩
 .ext δ ⟨o,P,rfl⟩
  calc⟨trivial,?_⟩;show N _;subst hN;rfl'
end LJ
namespace LJT
open PySem L2 LJ
variable[zt:ba]
end LJT
namespace L2
open PySem PySem.Spec PyProof.Rows
section
variable[zt:ba]
end
section
meta def tgN:υ->-L
 |.Name x _=>[x]
 |.Tuple es _ _=>es.filterMap fun
  |.Name x _=>Z x
  |_=>η
 |_=>[]
meta def d9(N:-L)(cp:-(Option Nat))(tg:υ):-L:=tgN tg++cp.filterMap λc=>c.bind λi=>N[i]?
variable[zt:ba]
section
variable{X:Cx}{tg iter elt:υ}{ifs:-υ}{scope:Γ}{pos:Δ}{w:WI}{g:WG}{t:WT}{f:WE}{cp:-(Option Nat)}
def z64(hi:JI X tg iter (lI w))(hg:∀d,(d9 X.N cp tg).Nodup->JG (c7 X scope (d9 X.N cp tg) d) tg (kW g))(hf:∀d,JF (c7 X scope (d9 X.N cp tg) d) ifs (dS t))(he:∀d,JE (c7 X scope (d9 X.N cp tg) d) elt (tD f))(hc:‹X.calm=θ›)(hn:autoParam (I (d9 X.N cp tg).Nodup=θ) qz0._auto_1)
  (hk:‹scope.kind=.function›) (ho:autoParam (mX X.N X.env.scope scope (d9 X.N cp tg) cp=θ) qz0._auto_1) (hs:‹∀x,foldedSetIterable iter X.env x=pure x›) :
  JE X (.ListComp elt [⟨tg,iter,ifs,0⟩] scope pos) (tD (dY w cp g t f)):=AV cp _ hc hi (λd=>hg d (q00 hn)) hf he hk ho hs
def z54(hi:JI X tg iter (lI w))(hg:∀d,(d9 X.N cp tg).Nodup->JG (c7 X scope (d9 X.N cp tg) d) tg (kW g))(hf:∀d,JF (c7 X scope (d9 X.N cp tg) d) ifs (dS t))(he:∀d,JE (c7 X scope (d9 X.N cp tg) d) elt (tD f))(hc:‹X.calm=θ›)(hn:autoParam (I (d9 X.N cp tg).Nodup=θ) qz0._auto_1)
  (hk:‹scope.kind=.function›) (ho:autoParam (mX X.N X.env.scope scope (d9 X.N cp tg) cp=θ) qz0._auto_1) (hs:‹∀x,foldedSetIterable iter X.env x=pure x›) :
  JE X (.ListComp elt [⟨tg,iter,ifs,0⟩] scope pos) (tD (pP w cp g t f)):=Vv cp _ hc hi (λd=>hg d (q00 hn)) hf he hk ho hs
def z6Z[lH]{i x pos' gZ}(hN:X.N.Nodup)(hit:JI X tg iter (lI w))(hg:∀d,(d9 X.N cp tg).Nodup->JG (c7 X scope (d9 X.N cp tg) d) tg (kW g))(hf:∀d,JF (c7 X scope (d9 X.N cp tg) d) ifs (dS t))(he:∀d,JE (c7 X scope (d9 X.N cp tg) d) elt (tD f))(hi:‹X.N[i]?=Z x›)(hx:autoParam (Loc X.env.scope x) qz8._auto_1)(hc:‹X.calm=θ›)(hn:autoParam (I (d9 X.N cp tg).Nodup=θ) qz0._auto_1)
  (hk:‹scope.kind=.function›) (ho:autoParam (mX X.N X.env.scope scope (d9 X.N cp tg) cp=θ) qz0._auto_1) (hs:‹∀x,foldedSetIterable iter X.env x=pure x›)
  (u0:‹swapsWith (.ListComp elt [⟨tg,iter,ifs,0⟩] scope pos) (Z (.Name x pos')) gZ.line X.env=pure θ›)
  (mR:iq X x:=by first|exact .inl U|exact .inr U|assumption) :
  JS X (.Assign [.Name x pos'] (.ListComp elt [⟨tg,iter,ifs,0⟩] scope pos) gZ) (eJ (a8 i (dY w cp g t f))):=AW cp _ hN hi hx hc hit (λd=>hg d (q00 hn)) hf he hk ho hs u0 mR
end
end
end L2
namespace LJ
open PySem L2 PySem.Spec PySem.W PyProof.Rows
section
variable[zt:ba]
/---/def Jb(V:Ev)(x:L)(d:D):Prop:=∃v u,V.mg x=Z u/\RelV v u/\Is ba.cs d v
def z53{X x d pos}(C:Jb ⟨X.prog,X.w,X.K,X.mg,X.base⟩ x d)(hg:‹Gl X x›)(hd: ~~~(cm x)):JE X (.Name x pos) (tD (dC d)) :=
 let⟨_,_,h1,r,h2⟩:=C
 (Kq hg h1 r hd).weak λ_ _ _ ⟨_,_,_,_,S,q,k⟩↦k _ _ q _ _ _ _ .refl S (Is.same S.nt.cs h2)
/---/def Cd(K:q0b)(x:L)(d:D):Prop:=∃v u,q1S K mainGlobals x=Z (Z u)/\RelV v u/\Is ba.cs d v
def Cd.v{K h mg P w base x d}(c:Cd K x d)(X:K.In h)(G:h.Ns mainGlobals mg):Jb ⟨P,w,K,mg,base⟩ x d :=
 let⟨v,u,a,r,i⟩:=c
 ⟨v,u,q3d X G a,r,i⟩
end
end LJ
namespace LJ
open PySem L2
meta def top(i:Nat):χ:=PySem.Challenge.pw_lotjoin_k50_whole_nights_till_all_know.main.body.getD i (.Pass ⟨0,0,0,0⟩)
section
variable[zt:ba]{Z:Ev}
set_option hygiene false
open Lean in
local macro_rules | `(tactic| ac_rfl) => do
  let b:String->MacroM Term:=fun s=>match s with
    |"?"=>`(?_)
    |"_"=>`(_)
    |"%a"=>`(by assumption)
    |"%b"=>`(by rfl)
    |"%c"=>`(λ_ _=>rfl)
    |"%d"=>`(λd nd=>?_)
    |"%e"=>`(λd=>?_)
    |"%f"=>`(by trivial)
    |s=>if s.front=='.' then `(.$(mkIdent (s.drop 1).toName)) else if s.front=='=' then do
      let f←`(f (op:=.$(mkIdent (s.drop 1).toName)))
      pure ⟨f.raw[1][0]⟩
     else pure (mkIdent s.toName)
  let g:=fun (c:String)(b:String->MacroM Term)(s:String)=>do
    let l←(s.splitOn c).mapM b
    pure (if l.length==1 then l.head! else Syntax.mkApp l.head! l.tail.toArray)
  let b:=g " " (g "/" (g "," b))
  let a←("JE _ .Name/_/_ _;dv _|Z4 %a#JE _ .Constant/_/_/_ _;bT|wx|kQ#JA _ _ _;bw|a7 ? ?|cf ? ?|cY ? ?|b7 ? ?|qR ? ?|Ez ? ?|jW ? ?#JE _ .Call/_/_/_/_ _;cj %a hr ?|Z3 %a hr ?|g5 nq %b B.len q1x ?|g5 V8/rfl %b B.all Vg ?|g5 V9/rfl %b B.min Bb ?|g5 V_/rfl %b B.max Wm ?|g5 Oh/rfl %b B.min Bb ?|g5 X8/hu %b B.sorted nu ?|g5 y8 %b B.sorted nu ?|Wo Wq %b B.sorted nu ?|vc wL %b B.list qN ?|vc V7 %b B.tuple LZ ?|A7 We %b B.isinstance %b B.int Vf ?|A7 Wf %b B.isinstance %b B.bool Ve ?|A7 Wg %b B.isinstance %b B.tuple LZ ?|A7 Wh %b B.isinstance %b B.list qN ?|Wa rfl %b B.list qN %b B.range MY ?|G_ rfl %b B.sorted nu %b B.set AK ?|W9 rfl hu %b B.len q1x %b B.set AK ?|JE.weak kJ/q0M/q0X/q0Y/mV/?/? pV|JE.weak kJ/q0M/q4Y/q4Z/Lh/?/? MM|JE.weak kJ/q0M/PySem.F.slot_list_pop/PySem.F.type_list_pop/Ud/?/? Wi#JE _ .Subscript/_/_/_ _;cX cZ ? ? %c|Fl ? ? ?#JE _ .BinOp/_/_/_/_ _;hX =Add pW ? ?|hX =Sub yW ? ?|hX =Mult A3 ? ?|hX =Mod VT ? ?|hX =FloorDiv WL ? ?|hX =Pow VU ? ?|Wr ? ?#JE _ .Compare/_/_/_/_ _;u_ =Eq rq/hu ? ? %b|u_ =NotEq oA/hu ? ? %b|u_ =Lt E6/hu ? ? %b|u_ =Gt Mz ? ? %b|u_ =In vp/hu ? ? %b|VZ Mx Mx ? ? ?#JE _ _ _;mZ ?|wy ?|jX ?|Me ? ?|Md ?|Vs ?|EB ? ? ?|NI|z64 ? %d %e %e|z54 ? %d %e %e#JS _ _ _;fx ?|jY ? ? ?|z6Z nd ? %d %e %e|gf nd rfl %f ?|kU ?|NL hu ? ? ?|JS.weak Am/?/Dt,?,?,set_list MN|Mf ? ?|wC q2l rfl ? ? ?|Be#eQ _ _ _;c_ ?|bU ? ?|kh#JT _ _ _;eA =Eq rq/hu ? ? %b|eA =NotEq oA/hu ? ? %b|eA =Lt E6/hu ? ? %b|eA =Gt Mz ? ? %b|eA =GtE VW ? ? %b|eA =In vp/hu ? ? %b|eA =NotIn A4/hu ? ? %b|eA =Is Fp ? ? %b|eA =IsNot Fs ? ? %b|Yi hu ? ?|wA ?|JW.jt pO/?/?|JW.jt wB/?/?|tQ ?#JW _ _ _;pO ? ?|tR ?|wB ? ?|yF ?#;E7|E8 ?|yR %b B.range ?|VR %b B.range ?|AZ %b B.enumerate ?|wI ?|iJ nd rfl %f|vg rfl ?|vf|l_ ? ?|EE|wD ?".splitOn "#").mapM fun s=>match s.splitOn ";" with
    |[h,r]=>do
      let a←(r.splitOn "|").mapM fun s=>do `(tacticSeq|refine $(←b s))
      let a:=a.toArray
      let r←`(tactic|first $[|$a]*)
      if h=="" then `(tacticSeq|$r:tactic) else `(tacticSeq|show $(←b h);$r:tactic)
    |_=>`(tacticSeq|skip)
  let a:=a.toArray
  `(tactic|repeat' first $[|$a]*)
meta abbrev Pj:χ:=top 10
abbrev Jc(Z:Ev):Prop:=Fx Z 1 "is_whole" ["thing"] 1 Bi
def x3f(D:Dx Z "is_whole" Pj)(B:BT Z.mg):Jc Z:=eB (N:=["thing"]) D qa λhr nd hu=>⟨FI,(by ac_rfl),W6⟩
meta abbrev Pk:χ:=top 11
abbrev xk(Z:Ev):Prop:=Fx Z 2 "is_within" ["thing", "least", "most"] 3 t5
def x1n(D:Dx Z "is_within" Pk)(B:BT Z.mg)(Pl:Jc Z):xk Z:=eB (N:=["thing", "least", "most"]) D jE λhr nd hu=>⟨FJ,(by ac_rfl),W7⟩
meta abbrev Pn:χ:=top 12
abbrev Ce(Z:Ev):Prop:=Fx Z 1 "is_tuple_of" ["thing", "size"] 2 wV
def q8C(D:Dx Z "is_tuple_of" Pn)(B:BT Z.mg):Ce Z:=eB (N:=["thing", "size"]) D iO λhr nd hu=>⟨FK,(by ac_rfl),W8⟩
meta abbrev Pp:χ:=top 13
abbrev Pq(Z:Ev):Prop:=Fx Z 3 "are_ends" ["many", "one", "other"] 3 FL
def x3h(D:Dx Z "are_ends" Pp)(B:BT Z.mg)(z_:xk Z):Pq Z:=eB (N:=["many", "one", "other"]) D jE λhr nd hu=>⟨FN,(by ac_rfl),W_⟩
meta abbrev Pr:χ:=top 14
abbrev Pt(Z:Ev):Prop:=Fx Z 4 "is_way" ["many", "thing"] 2 FO
def x8U(D:Dx Z "is_way" Pr)(B:BT Z.mg)(z3d:Ct Z "MOST_PRICE" 1000000000)(Cf:Ce Z)(z4U:Pq Z)(z_:xk Z):Pt Z:=eB (N:=["many", "thing"]) D iO λhr nd hu=>⟨Nd,(by ac_rfl),Xa⟩
meta abbrev Pu:χ:=top 15
abbrev Pw(Z:Ev):Prop:=Fx Z 5 "are_ways" ["many", "thing"] 2 FP
def x3g(D:Dx Z "are_ways" Pu)(B:BT Z.mg)(z4P:Ct Z "MOST_WAYS" 30)(z6q:Pt Z):Pw Z:=eB (N:=["many", "thing"]) D iO λhr nd hu=>⟨Nf,(by ac_rfl),Xb⟩
meta abbrev Px:χ:=top 16
abbrev Py(Z:Ev):Prop:=Fx Z 6 "is_web" ["thing"] 1 FQ
def x8T(D:Dx Z "is_web" Px)(B:BT Z.mg)(z2x:Ct Z "MOST_HOUSES" 12)(Cf:Ce Z)(z_:xk Z)(z4T:Pw Z):Py Z:=eB (N:=["thing"]) D qa λhr nd hu=>⟨Ng,(by ac_rfl),Xc⟩
meta abbrev Pz:χ:=top 17
abbrev Cg(Z:Ev):Prop:=Fx Z 7 "need_web" ["web"] 1 zx
def x3d(D:Dx Z "need_web" Pz)(B:BT Z.mg)(z6p:Py Z):Cg Z:=eB (N:=["web"]) D qa λhr nd hu=>⟨Gr,(by ac_rfl),Yc⟩
meta abbrev PA:χ:=top 18
abbrev Jd(Z:Ev):Prop:=Fx Z 1 "rank_of" ["way"] 1 Bu
def x6M(D:Dx Z "rank_of" PA)(B:BT Z.mg):Jd Z:=eB (N:=["way"]) D qa λhr nd hu=>⟨Gs,(by ac_rfl),Yd⟩
meta abbrev PB:χ:=top 19
abbrev PC(Z:Ev):Prop:=Fx Z 11 "order_of" ["web"] 1 Gu
def x3c{T:Y}(D:zS Z "order_of" PB T ⟨52,40,52,76⟩ ((("order_of" : L)++".<locals>.")++"<lambda>"))(B:BT Z.mg)(Ci:Cg Z)(Je:Jd Z):PC Z:=OJ (N:=["web", "ways"]) D qa λLD hc hr nd hu=>⟨NH,(bU (kU (cj Ci hr (a7 (dv 0) bw))) (bU (gf (i:=1) nd U (by trivial) (cX cZ (dv 0) bT (λ_ _=>U))) (c_ (fx (XR (g_.mk (x:="number") (Nb:=["ways"]) (cp:=[ζ 1]) ⟨LD.env hc,LD.ng,LD.blt⟩ LD.tbl U U (by first|rfl|kernel_rfl) U U (λ_ _ _ _ _=>U) ⟨1,hr.mono (by decide),λd hr=>(cj Je hr (b7 (cX cZ (dv 1) (dv 0) (λ_ _=>U)) bw))⟩) U (by rfl) B.sorted nu (by rfl) B.range MY (cY (g5 nq (by rfl) B.len q1x (a7 (dv 1) bw)) bw)))))),Yf⟩
meta abbrev PD:χ:=top 21
abbrev PE(Z:Ev):Prop:=Fx Z 8 "need_ways" ["web", "ways"] 2 Gy
def x1l(D:Dx Z "need_ways" PD)(B:BT Z.mg)(Ci:Cg Z)(z_:xk Z):PE Z:=eB (N:=["web", "ways", "last", "seen", "place", "number"]) D iO λhr nd hu=>⟨NM,(by ac_rfl),Ym⟩
meta abbrev PF:χ:=top 22
abbrev Cj(Z:Ev):Prop:=Fx Z 1 "joined" ["firsts", "one", "other"] 3 wX
def x8S(D:Dx Z "joined" PF)(B:BT Z.mg):Cj Z:=eB (N:=["firsts", "one", "other", "gone", "kept"]) D jE λhr nd hu=>⟨FR,(by ac_rfl),Xd⟩
meta abbrev Jf:χ:=top 23
abbrev Jg(Z:Ev):Prop:=Fx Z 2 "firsts_of" ["web", "ways"] 2 zj
abbrev PG(Z:Ev):Prop:=Fx Z 2 "firsts_of" ["web", "ways"] 2 HB
def x1p(D:Dx Z "firsts_of" Jf)(B:BT Z.mg)(PH:Cj Z):Jg Z:=eB (N:=["web", "ways", "firsts", "number", "way"]) D iO λhr nd hu=>⟨Nh,(by ac_rfl),Xe⟩
def x0a(D:Dx Z "firsts_of" Jf)(B:BT Z.mg)(PH:Cj Z):PG Z:=eB (N:=["web", "ways", "firsts", "number", "way"]) D iO λhr nd hu=>⟨HC,(by ac_rfl),q8t⟩
meta abbrev PJ:χ:=top 26
abbrev PK(Z:Ev):Prop:=Fx Z 5 "least_of" ["web", "ways"] 2 G5
def x3e{T:Y}(D:zS Z "least_of" PJ T ⟨82,25,82,63⟩ ((("least_of" : L)++".<locals>.")++"<lambda>"))(B:BT Z.mg)(Je:Jd Z):PK Z:=OJ (N:=["web", "ways"]) D iO λLD hc hr nd hu=>⟨G6,(c_ (fx (Zj ι (g_.mk (x:="number") (Nb:=["web"]) (cp:=[ζ 0]) ⟨LD.env hc,LD.ng,LD.blt⟩ LD.tbl U U (by first|rfl|kernel_rfl) U U (λ_ _ _ _ _=>U) ⟨1,hr.mono (by decide),λd hr=>(cj Je hr (b7 (cX cZ (cX cZ (dv 1) bT (λ_ _=>U)) (dv 0) (λ_ _=>U)) bw))⟩) hu (by rfl) B.min Bb (a7 (dv 1) bw)))),Zm⟩
meta abbrev PL:χ:=top 27
abbrev PM(Z:Ev):Prop:=Fx Z 1 "leads_out" ["way", "houses"] 2 G1
def x1m(D:Dx Z "leads_out" PL)(B:BT Z.mg):PM Z:=eB (N:=["way", "houses"]) D iO λhr nd hu=>⟨G2,(by ac_rfl),Zk⟩
meta abbrev PN:χ:=top 28
abbrev PQ(Z:Ev):Prop:=Fx Z 2 "ways_out" ["web", "houses"] 2 G3
def x3b(D:Dx Z "ways_out" PN)(B:BT Z.mg)(z4N:PM Z):PQ Z:=eB (N:=["web", "houses"]) D iO λhr nd hu=>⟨G4,(by ac_rfl),Zl⟩
meta abbrev PR:χ:=top 29
abbrev Cm(Z:Ev):Prop:=Fx Z 3 "lot_at" ["web", "ways", "house"] 3 zU
def x8R(D:Dx Z "lot_at" PR)(B:BT Z.mg)(x4m:PG Z):Cm Z:=eB (N:=["web", "ways", "house", "firsts"]) D jE λhr nd hu=>⟨HD,(by ac_rfl),x2P⟩
meta abbrev PS:χ:=top 30
abbrev Jh(Z:Ev):Prop:=Fx Z 1 "ends_of" ["web", "ways"] 2 BL
def x6O(D:Dx Z "ends_of" PS)(B:BT Z.mg):Jh Z:=eB (N:=["web", "ways"]) D iO λhr nd hu=>⟨G9,(by ac_rfl),Zu⟩
meta abbrev PT:χ:=top 33
abbrev Co(Z:Ev):Prop:=Fx Z 1 "rising" ["numbers"] 1 zV
def x8Q(D:Dx Z "rising" PT)(B:BT Z.mg):Co Z:=eB (N:=["numbers"]) D qa λhr nd hu=>⟨HF,(by ac_rfl),x6y⟩
meta abbrev PU:χ:=top 34
abbrev PV(Z:Ev):Prop:=Fx Z 2 "letters_of_asking" ["web", "stand", "lot"] 3 HG
def q4n(D:Dx Z "letters_of_asking" PU)(B:BT Z.mg)(z07:Jh Z):PV Z:=eB (N:=["web", "stand", "lot", "settled", "unsettled", "asking"]) D jE λhr nd hu=>⟨HH,(by ac_rfl),q3B⟩
meta abbrev PW:χ:=top 35
abbrev PX(Z:Ev):Prop:=Fx Z 1 "ways_within" ["web", "lot"] 2 HI
def q8A(D:Dx Z "ways_within" PW)(B:BT Z.mg):PX Z:=eB (N:=["web", "lot"]) D iO λhr nd hu=>⟨HJ,(by ac_rfl),q7h⟩
meta abbrev PY:χ:=top 36
abbrev PZ(Z:Ev):Prop:=Fx Z 6 "waked" ["web", "stand", "house"] 3 HK
def z1y(D:Dx Z "waked" PY)(B:BT Z.mg)(P0:Cm Z)(z4S:PK Z)(z4Q:PQ Z)(z2u:PX Z)(P7:Co Z)(x4h:PV Z):PZ Z:=eB (N:=["web", "stand", "house", "lot", "found", "within", "behind"]) D jE λhr nd hu=>⟨HL,(by ac_rfl),x8m⟩
meta abbrev P8:χ:=top 37
abbrev P9(Z:Ev):Prop:=Fx Z 4 "joined_over" ["web", "stand", "found"] 3 HM
def q8B(D:Dx Z "joined_over" P8)(B:BT Z.mg)(z07:Jh Z)(P0:Cm Z)(P7:Co Z):P9 Z:=eB (N:=["web", "stand", "found", "sizes"]) D jE λhr nd hu=>⟨HN,(by ac_rfl),q7i⟩
meta abbrev P_:χ:=top 38
abbrev Qa(Z:Ev):Prop:=Fx Z 4 "told_whole" ["web", "stand", "house"] 3 HQ
def q98(D:Dx Z "told_whole" P_)(B:BT Z.mg)(P0:Cm Z)(P7:Co Z):Qa Z:=eB (N:=["web", "stand", "house", "lot"]) D jE λhr nd hu=>⟨HR,(by ac_rfl),q8r⟩
meta abbrev Qb:χ:=top 39
abbrev Qc(Z:Ev):Prop:=Fx Z 5 "ended" ["web", "stand", "house", "found"] 4 HS
def z1z(D:Dx Z "ended" Qb)(B:BT Z.mg)(z3b:Qa Z)(z2v:P9 Z):Qc Z:=eB (N:=["web", "stand", "house", "found"]) D OI λhr nd hu=>⟨HU,(by ac_rfl),x8n⟩
meta abbrev Qd:χ:=top 46
abbrev Qe(Z:Ev):Prop:=Fx Z 12 "forest_of" ["web"] 1 GN
def x1o(D:Dx Z "forest_of" Qd)(B:BT Z.mg)(z4R:PC Z)(x4m:Jg Z)(PH:Cj Z):Qe Z:=eB (N:=["web", "order", "forest", "firsts", "number", "way"]) D qa λhr nd hu=>⟨GP,(by ac_rfl),YJ⟩
meta abbrev Qf:χ:=inClass (top 40) 0
abbrev Cp(Z:Ev)(c_Night:Y):Prop:=Fc Z c_Night 8 "Night" ["self", "web"] 2 (zW c_Night)
def x0f{c_Night:Y}(D:Dc Z c_Night "Night" "Night.__init__" Qf)(B:BT Z.mg)(iD:Jb Z "FIRST_STAND" (.tup [(.tup []),(.tup []),(.tup [])]))(az:Kx Z.K c_Night ["town", "latest", "begun", "going"])(Ci:Cg Z):Cp Z c_Night:=okC (N:=["self", "web"]) D Hz λhr nd hu=>⟨HV c_Night,(bU (kU (cj Ci hr (a7 (dv 1) bw))) (bU (vR az.c (az.at "town") (dv 0) (dv 1)) (bU (vR az.c (az.at "latest") (dv 0) (z53 iD)) (bU (vR az.c (az.at "begun") (dv 0) bT) (c_ (vR az.c (az.at "going") (dv 0) NI)))))),q8z c_Night⟩
meta abbrev Qg:χ:=inClass (top 40) 1
abbrev Cq(Z:Ev)(c_Night:Y):Prop:=Fk Z c_Night 7 "wake" ["self", "house"] 2 (xh c_Night)
def x0e{c_Night:Y}(D:Dm Z c_Night "wake" "Night.wake" Qg)(B:BT Z.mg)(az:Kx Z.K c_Night ["town", "latest", "begun", "going"])(z_:xk Z)(z4M:PZ Z):Cq Z c_Night:=BZ (N:=["self", "house", "number", "waking"]) D Hz λhr nd hu=>⟨HW c_Night,(bU (jY (wA (tQ (cj z_ hr (a7 (dv 1) (cf bT (jW (hX yW (cX cZ (lQ az.c (az.at "town") (dv 0)) bT (λ_ _=>U)) bT) bw)))))) (c_ Be) kh) (bU (gf (i:=2) nd U (by trivial) (lQ az.c (az.at "begun") (dv 0))) (bU (vR az.c (az.at "begun") (dv 0) (hX pW (dv 2) bT)) (bU (jY (eA (vp hu) (dv 1) (cX cZ (lQ az.c (az.at "latest") (dv 0)) bT (λ_ _=>U)) (by rfl)) (c_ (fx (jX (cf kQ (cf bT bw))))) kh) (bU (gf (i:=3) nd U (by trivial) (cj z4M hr (jW (lQ az.c (az.at "town") (dv 0)) (jW (lQ az.c (az.at "latest") (dv 0)) (a7 (dv 1) bw))))) (bU (NL hu (mN (lQ az.c (az.at "going") (dv 0))) (dv 2) (jX (a7 (dv 1) (b7 (cX cZ (dv 3) bT (λ_ _=>U)) bw)))) (bU (vR az.c (az.at "latest") (dv 0) (cX cZ (dv 3) bT (λ_ _=>U))) (c_ (fx (jX (cf kQ (b7 (cX cZ (dv 3) bT (λ_ _=>U)) bw)))))))))))),q8y c_Night⟩
meta abbrev Qh:χ:=inClass (top 40) 2
abbrev Cr(Z:Ev)(c_Night:Y):Prop:=Fk Z c_Night 6 "end" ["self", "number"] 2 (zX c_Night)
def x1v{c_Night:Y}(D:Dm Z c_Night "end" "Night.end" Qh)(B:BT Z.mg)(az:Kx Z.K c_Night ["town", "latest", "begun", "going"])(Pl:Jc Z)(z4O:Qc Z):Cr Z c_Night:=BZ (N:=["self", "number", "search", "ending"]) D Hz λhr nd hu=>⟨HX c_Night,(bU (jY (JW.jt (pO (wA (tQ (cj Pl hr (a7 (dv 1) bw)))) (tR (Yj hu (dv 1) (mN (lQ az.c (az.at "going") (dv 0))))))) (c_ Be) kh) (bU (gf (i:=2) nd U (by trivial) (ZR (mN (lQ az.c (az.at "going") (dv 0))) (dv 1))) (bU (gf (i:=3) nd U (by trivial) (cj z4O hr (jW (lQ az.c (az.at "town") (dv 0)) (jW (lQ az.c (az.at "latest") (dv 0)) (b7 (cX cZ (dv 2) bT (λ_ _=>U)) (b7 (cX cZ (dv 2) bT (λ_ _=>U)) bw)))))) (bU (vR az.c (az.at "latest") (dv 0) (cX cZ (dv 3) bT (λ_ _=>U))) (c_ (fx (jX (b7 (cX cZ (dv 3) bT (λ_ _=>U)) (b7 (cX cZ (dv 3) bT (λ_ _=>U)) bw))))))))),q90 c_Night⟩
meta abbrev Qi:χ:=inClass (top 40) 3
abbrev Cu(Z:Ev)(c_Night:Y):Prop:=Fk Z c_Night 1 "stand" ["self"] 1 (um c_Night)
def q8I{c_Night:Y}(D:Dm Z c_Night "stand" "Night.stand" Qi)(B:BT Z.mg)(az:Kx Z.K c_Night ["town", "latest", "begun", "going"]):Cu Z c_Night:=BZ (N:=["self"]) D OK λhr nd hu=>⟨IK c_Night,(c_ (fx (jX (cY (vc wL (by rfl) B.list qN (b7 (cX cZ (lQ az.c (az.at "latest") (dv 0)) bT (λ_ _=>U)) bw)) (cY (vc wL (by rfl) B.list qN (b7 (cX cZ (lQ az.c (az.at "latest") (dv 0)) bT (λ_ _=>U)) bw)) (cY (vc wL (by rfl) B.list qN (b7 (cX cZ (lQ az.c (az.at "latest") (dv 0)) bT (λ_ _=>U)) bw)) bw)))))),q7n c_Night⟩
meta abbrev Qj:χ:=inClass (top 40) 4
abbrev Qk(Z:Ev)(c_Night:Y):Prop:=Fk Z c_Night 1 "under" ["self"] 1 (z7 c_Night)
def q8H{c_Night:Y}(D:Dm Z c_Night "under" "Night.under" Qj)(B:BT Z.mg)(az:Kx Z.K c_Night ["town", "latest", "begun", "going"]):Qk Z c_Night:=BZ (N:=["self"]) D OK λhr nd hu=>⟨IJ c_Night,(c_ (fx (z17 U (by rfl) B.sorted nu (jW (mN (lQ az.c (az.at "going") (dv 0))) bw)))),q7m c_Night⟩
meta abbrev Ql:χ:=top 41
abbrev Qm(Z:Ev)(c_Night:Y):Prop:=Fq Z 8 "told_of" ["night", "event"] 2 (Ia c_Night)
def x6L{c_Night:Y}(D:Dx Z "told_of" Ql)(B:BT Z.mg)(az:Kx Z.K c_Night ["town", "latest", "begun", "going"])(Cf:Ce Z)(bV:Cq Z c_Night)(cJ:Cr Z c_Night):Qm Z c_Night:=nB (N:=["night", "event"]) D iO λhr nd hu=>⟨Ib c_Night,(bU (jY (JW.jt (wB (tQ (cj Cf hr (a7 (dv 1) (cf bT bw)))) (yF (eA (rq hu) (cX cZ (dv 1) bT (λ_ _=>U)) tP (by rfl))))) (c_ (fx (lg ι az.c bV hr (dv 0) (b7 (cX cZ (dv 1) bT (λ_ _=>U)) bw)))) kh) (bU (jY (JW.jt (wB (tQ (cj Cf hr (a7 (dv 1) (cf bT bw)))) (yF (eA (rq hu) (cX cZ (dv 1) bT (λ_ _=>U)) tP (by rfl))))) (c_ (fx (lg ι az.c cJ hr (dv 0) (b7 (cX cZ (dv 1) bT (λ_ _=>U)) bw)))) kh) (c_ Be))),x2N c_Night⟩
meta abbrev Qn:χ:=top 42
abbrev Ji(Z:Ev)(c_Night:Y):Prop:=Fq Z 9 "all_told" ["night", "events"] 2 (B4 c_Night)
def x3i{c_Night:Y}(D:Dx Z "all_told" Qn)(B:BT Z.mg)(az:Kx Z.K c_Night ["town", "latest", "begun", "going"])(z03:Qm Z c_Night):Ji Z c_Night:=nB (N:=["night", "events", "told", "place", "event"]) D iO λhr nd hu=>⟨Ic c_Night,(bU (gf (i:=2) nd U (by trivial) (wy bw)) (bU (wC q2l U (AZ (by rfl) B.enumerate (a7 (dv 1) bw)) (vg U (l_ (iJ (i:=3) nd U (by trivial)) (l_ (iJ (i:=4) nd U (by trivial)) vf))) (c_ (ZQ λpn=>(c_ (kU ((kJ q0M q0X q0Y mV (dv 2) (cY (gJ ι z03 hr (a7 (dv 0) (a7 (dv 4) bw))) bw)).weak pV)))))) (c_ (fx (dv 2))))),x1a c_Night⟩
meta abbrev Qo:χ:=top 43
abbrev Qp(Z:Ev)(c_Night:Y):Prop:=Fq Z 10 "letters_of" ["web", "events"] 2 (Ie c_Night)
def q99{c_Night:Y}(D:Dx Z "letters_of" Qo)(B:BT Z.mg)(az:Kx Z.K c_Night ["town", "latest", "begun", "going"])(Jj:Ji Z c_Night)(cz:Cp Z c_Night):Qp Z c_Night:=nB (N:=["web", "events"]) D iO λhr nd hu=>⟨Ig c_Night,(c_ (fx (gJ θ Jj hr (cY (vU cz hr (a7 (dv 0) bw)) (a7 (dv 1) bw))))),q8s c_Night⟩
meta abbrev Qq:χ:=top 44
abbrev Qr(Z:Ev)(c_Night:Y):Prop:=Fq Z 10 "stand_behind" ["web", "events"] 2 (IL c_Night)
def q7C{c_Night:Y}(D:Dx Z "stand_behind" Qq)(B:BT Z.mg)(az:Kx Z.K c_Night ["town", "latest", "begun", "going"])(cz:Cp Z c_Night)(Jj:Ji Z c_Night)(bI:Cu Z c_Night):Qr Z c_Night:=nB (N:=["web", "events", "night"]) D iO λhr nd hu=>⟨IM c_Night,(bU (gf (i:=2) nd U (by trivial) (vU cz hr (a7 (dv 0) bw))) (bU (kU (gJ ι Jj hr (a7 (dv 2) (a7 (dv 1) bw)))) (c_ (fx (sN ι az.c bI hr (dv 2)))))),q6I c_Night⟩
meta abbrev Qs:χ:=top 48
abbrev Qt(Z:Ev):Prop:=Fx Z 1 "_law_spread" ["cell", "at"] 2 Fu
def q8D(D:Dx Z "_law_spread" Qs)(B:BT Z.mg):Qt Z:=eB (N:=["cell", "at", "primes", "one", "two", "three"]) D iO λhr nd hu=>⟨Fv,(by ac_rfl),WN⟩
meta abbrev Qu:χ:=top 50
abbrev Qv(Z:Ev):Prop:=Fx Z 1 "_law_anew" ["pen"] 1 Fw
def x1u(D:Dx Z "_law_anew" Qu)(B:BT Z.mg):Qv Z:=eB (N:=["pen"]) D qa λhr nd hu=>⟨M6,(by ac_rfl),WQ⟩
meta abbrev Qw:χ:=top 51
abbrev vW(Z:Ev):Prop:=Fx Z 2 "_law_take" ["pen", "many"] 2 g8
def x1r(D:Dx Z "_law_take" Qw)(B:BT Z.mg)(z2w:Qt Z):vW Z:=eB (N:=["pen", "many", "at", "cell", "found"]) D iO λhr nd hu=>⟨Fy,(by ac_rfl),WR⟩
meta abbrev Qx:χ:=top 52
abbrev Qy(Z:Ev):Prop:=Fx Z 3 "_law_pairs_of" ["pen", "kind", "many"] 3 FA
def q6L(D:Dx Z "_law_pairs_of" Qx)(B:BT Z.mg)(lU:vW Z):Qy Z:=eB (N:=["pen", "kind", "many", "every", "other", "ring", "half"]) D jE λhr nd hu=>⟨FC,(by ac_rfl),WW⟩
meta abbrev Qz:χ:=top 53
abbrev QA(Z:Ev):Prop:=Fx Z 4 "_law_web" ["pen", "houses", "most"] 3 FF
def x3j(D:Dx Z "_law_web" Qz)(B:BT Z.mg)(lU:vW Z)(z08:Qy Z):QA Z:=eB (N:=["pen", "houses", "most", "kind", "prices", "many", "pairs", "ways", "k", "one", "other", "price"]) D jE λhr nd hu=>⟨FG,(by ac_rfl),WX⟩
meta abbrev QB:χ:=top 54
abbrev QC(Z:Ev):Prop:=Fx Z 1 "_law_key" ["web", "number"] 2 Gv
def x3k(D:Dx Z "_law_key" QB)(B:BT Z.mg):QC Z:=eB (N:=["web", "number", "one", "other", "price"]) D iO λhr nd hu=>⟨Gw,(by ac_rfl),Yg⟩
meta abbrev QD:χ:=top 55
abbrev QE(Z:Ev):Prop:=Fx Z 1 "_law_marks_by" ["web", "ways"] 2 FT
def q6M(D:Dx Z "_law_marks_by" QD)(B:BT Z.mg):QE Z:=eB (N:=["web", "ways", "found", "number", "one", "other"]) D iO λhr nd hu=>⟨Nj,(by ac_rfl),Xg⟩
meta abbrev QF:χ:=top 56
abbrev Jk(Z:Ev):Prop:=Fx Z 2 "_law_lot_at" ["web", "ways", "house"] 3 zZ
def q8E(D:Dx Z "_law_lot_at" QF)(B:BT Z.mg)(z09:QE Z):Jk Z:=eB (N:=["web", "ways", "house", "marks"]) D jE λhr nd hu=>⟨Ij,(by ac_rfl),q6J⟩
meta abbrev QG:χ:=top 57
abbrev QH(Z:Ev):Prop:=Fx Z 1 "_law_leads_out" ["web", "houses", "number"] 3 Ih
def q5N(D:Dx Z "_law_leads_out" QG)(B:BT Z.mg):QH Z:=eB (N:=["web", "houses", "number", "one", "other"]) D jE λhr nd hu=>⟨Ii,(by ac_rfl),q5c⟩
meta abbrev QI:χ:=top 58
abbrev QJ(Z:Ev):Prop:=Fx Z 2 "_law_outs" ["web", "houses", "ways"] 3 Ik
def x1t(D:Dx Z "_law_outs" QI)(B:BT Z.mg)(x7K:QH Z)(z4V:QC Z):QJ Z:=eB (N:=["web", "houses", "ways", "found"]) D jE λhr nd hu=>⟨Il,(by ac_rfl),q8v⟩
meta abbrev QK:χ:=top 59
abbrev QL(Z:Ev)(c_Night:Y):Prop:=Fq Z 1 "_law_night" [] 0 (Io c_Night)
def x0c{c_Night:Y}(D:Dx Z "_law_night" QK)(B:BT Z.mg):QL Z c_Night:=nB (N:=[]) D bd0 λhr nd hu=>⟨Ip c_Night,(c_ (fx (ZW (BW (mZ bw) (BW (mZ bw) (BW (mZ bw) (BW (wy bw) ZV))))))),q8w c_Night⟩
meta abbrev QM:χ:=top 60
abbrev QN(Z:Ev)(c_Night:Y):Prop:=Fq Z 1 "_law_under" ["night"] 1 (Ir c_Night)
def x0b{c_Night:Y}(D:Dx Z "_law_under" QM)(B:BT Z.mg):QN Z c_Night:=nB (N:=["night"]) D qa λhr nd hu=>⟨Iu c_Night,(c_ (fx (AV [η,η] ["number", "search"] U (AZ (by rfl) B.enumerate (b7 (mN (kq hu (dv 0))) bw)) (λd=>(vg U (l_ (iJ (i:=0) (show(["number", "search"]:-L).Nodup by decide +kernel) U (by trivial)) (l_ (iJ (i:=1) (show(["number", "search"]:-L).Nodup by decide +kernel) U (by trivial)) vf)))) (λd=>(wD (eA Fs (dv 1) kQ (by rfl)))) (λd=>(dv 0))))),q8u c_Night⟩
meta abbrev QO:χ:=top 61
abbrev QP(Z:Ev)(c_Night:Y):Prop:=Fq Z 3 "_law_wake" ["web", "night", "house"] 3 (Iw c_Night)
def x1q{c_Night:Y}(D:Dx Z "_law_wake" QO)(B:BT Z.mg)(Cv:Jk Z)(x4p:QJ Z):QP Z c_Night:=nB (N:=["web", "night", "house", "lot", "gone", "asked", "one", "outs"]) D jE λhr nd hu=>⟨Iy c_Night,(bU (jY (eA (vp hu) (dv 2) (kq hu (dv 1)) (by rfl)) (bU (kU ((kJ q0M q0X q0Y mV (mN (kq hu (dv 1))) (cf kQ bw)).weak pV)) (c_ (fx (jX (cf kQ (cf bT bw)))))) kh) (bU (gf (i:=3) nd U (by trivial) (cj Cv hr (a7 (dv 0) (b7 (kq hu (dv 1)) (a7 (dv 2) bw))))) (bU (gf (i:=4) nd U (by trivial) (hX pW (kq hu (dv 1)) (kq hu (dv 1)))) (bU (gf (i:=5) nd U (by trivial) (wy bw)) (bU (wC q2l U (wI (dv 3)) (iJ (i:=6) nd U (by trivial)) (c_ (kU ((kJ q0M q4Y q4Z Lh (dv 5) (jW (AV [η,η,ζ 6,ζ 4] ["number", "way", "one", "gone"] U (AZ (by rfl) B.enumerate (b7 (cX cZ (dv 0) bT (λ_ _=>U)) bw)) (λd=>(vg U (l_ (iJ (i:=0) (show(["number", "way", "one", "gone"]:-L).Nodup by decide +kernel) U (by trivial)) (l_ (iJ (i:=1) (show(["number", "way", "one", "gone"]:-L).Nodup by decide +kernel) U (by trivial)) vf)))) (λd=>(wD (JW.jt (wB (eA (vp hu) (dv 2) (Fl (dv 1) E7 (E8 bT)) (by rfl)) (yF (eA (A4 hu) (dv 0) (dv 3) (by rfl))))))) (λd=>(dv 0))) bw)).weak MM)))) (bU (gf (i:=7) nd U (by trivial) (cj x4p hr (a7 (dv 0) (a7 (dv 3) (cY (G_ U (by rfl) B.sorted nu (by rfl) B.set AK (a7 (dv 5) bw)) bw))))) (bU (Hl hu (dv 1) (g5 y8 (by rfl) B.sorted nu (jW (hX pW (kq hu (dv 1)) (AV [η,ζ 7] ["number", "outs"] U (wI (G_ U (by rfl) B.sorted nu (by rfl) B.set AK (a7 (dv 5) bw))) (λd=>(iJ (i:=0) (show(["number", "outs"]:-L).Nodup by decide +kernel) U (by trivial))) (λd=>(wD (eA (A4 hu) (dv 0) (dv 1) (by rfl)))) (λd=>(dv 0)))) bw))) (bU (kU ((kJ q0M q0X q0Y mV (mN (kq hu (dv 1))) (qR (jX (jW (EB (eA (oA hu) (dv 7) (mZ bw) (by rfl)) (cX cZ (dv 7) bT (λ_ _=>U)) kQ) (a7 (dv 2) bw))) bw)).weak pV)) (c_ (fx (jX (cf kQ (jW (hX pW (hX A3 bT (hX yW (g5 nq (by rfl) B.len q1x (a7 (dv 3) bw)) bT)) (hX A3 bT (g5 nq (by rfl) B.len q1x (a7 (dv 5) bw)))) bw))))))))))))),q9W c_Night⟩
meta abbrev QQ:χ:=top 62
abbrev QR(Z:Ev)(c_Night:Y):Prop:=Fq Z 3 "_law_end" ["web", "night", "number"] 3 (Iz c_Night)
def x3l{c_Night:Y}(D:Dx Z "_law_end" QQ)(B:BT Z.mg)(Cv:Jk Z):QR Z c_Night:=nB (N:=["web", "night", "number", "way", "house", "lot", "sizes"]) D jE λhr nd hu=>⟨IA c_Night,(bU (Mf (cX cZ (mN (kq hu (dv 1))) (dv 2) (λ_ _=>U)) (vg U (l_ (iJ (i:=3) nd U (by trivial)) (l_ (iJ (i:=4) nd U (by trivial)) vf)))) (bU ((Am kQ (Dt (mN (kq hu (dv 1))) (dv 2) set_list)).weak MN) (bU (jY (JW.jt (pO (JW.jt (wB (eA Fp (dv 3) kQ (by rfl)) (yF (eA (vp hu) (dv 4) (kq hu (dv 1)) (by rfl))))) (tR (eA (vp hu) (dv 3) (kq hu (dv 1)) (by rfl))))) (c_ (fx (jX (cf kQ (cf bT bw))))) kh) (bU (jY (eA Fp (dv 3) kQ (by rfl)) (bU (gf (i:=5) nd U (by trivial) (cj Cv hr (a7 (dv 0) (b7 (kq hu (dv 1)) (a7 (dv 4) bw))))) (bU (Hl hu (dv 1) (g5 y8 (by rfl) B.sorted nu (jW (hX pW (kq hu (dv 1)) (dv 5)) bw))) (c_ (fx (jX (cf kQ (jW (hX yW (g5 nq (by rfl) B.len q1x (a7 (dv 5) bw)) bT) bw))))))) kh) (bU (AW [η,ζ 0,ζ 1] ["end", "web", "night"] (i:=6) nd U (by trivial) U (wI (Fl (cX cZ (cX cZ (dv 0) bT (λ_ _=>U)) (dv 3) (λ_ _=>U)) E7 (E8 bT))) (λd=>(iJ (i:=0) (show(["end", "web", "night"]:-L).Nodup by decide +kernel) U (by trivial))) (λd=>EE) (λd=>(g5 nq (by rfl) B.len q1x (cY (cj Cv hr (a7 (dv 1) (b7 (kq hu (dv 2)) (a7 (dv 0) bw)))) bw)))) (bU (Hl hu (dv 1) (g5 y8 (by rfl) B.sorted nu (jW (hX pW (kq hu (dv 1)) (mZ (a7 (dv 3) bw))) bw))) (c_ (fx (jX (a7 (dv 3) (jW (hX pW bT (g5 (Oh U) (by rfl) B.min Bb (a7 (dv 6) bw))) bw))))))))))),x1d c_Night⟩
meta abbrev QS:χ:=top 63
abbrev QT(Z:Ev)(c_Night:Y):Prop:=Fq Z 3 "_law_event" ["pen", "web", "night", "wakes"] 4 (IC c_Night)
def x0d{c_Night:Y}(D:Dx Z "_law_event" QS)(B:BT Z.mg)(az:Kx Z.K c_Night ["town", "latest", "begun", "going"])(lU:vW Z)(x2v:QN Z c_Night):QT Z c_Night:=nB (N:=["pen", "web", "night", "wakes", "kind", "house", "under"]) D OI λhr nd hu=>⟨ID c_Night,(bU (gf (i:=4) nd U (by trivial) (cj lU hr (a7 (dv 0) (cf bT bw)))) (bU (gf (i:=5) nd U (by trivial) (cj lU hr (a7 (dv 0) (b7 (cX cZ (dv 1) bT (λ_ _=>U)) bw)))) (bU (gf (i:=6) nd U (by trivial) (gJ ι x2v hr (a7 (dv 2) bw))) (bU (jY (JW.jt (pO (eA (rq hu) (dv 6) (mZ bw) (by rfl)) (tR (eA (E6 hu) (dv 4) (dv 3) (by rfl))))) (c_ (fx (jX (cf tP (a7 (dv 5) bw))))) kh) (c_ (fx (jX (cf tP (b7 (cX cZ (dv 6) (cX cZ (mZ (cf bT (jW (hX yW (g5 nq (by rfl) B.len q1x (a7 (dv 6) bw)) bT) (cY (cj lU hr (a7 (dv 0) (cY (g5 nq (by rfl) B.len q1x (a7 (dv 6) bw)) bw))) bw)))) (cj lU hr (a7 (dv 0) (cf bT bw))) (λ_ _=>U)) (λ_ _=>U)) bw))))))))),q8x c_Night⟩
meta abbrev QU:χ:=top 64
abbrev QV(Z:Ev)(c_Night:Y):Prop:=Fq Z 4 "_law_happen" ["web", "night", "event"] 3 (IE c_Night)
def q8F{c_Night:Y}(D:Dx Z "_law_happen" QU)(B:BT Z.mg)(az:Kx Z.K c_Night ["town", "latest", "begun", "going"])(x4n:QP Z c_Night)(x7J:QR Z c_Night):QV Z c_Night:=nB (N:=["web", "night", "event"]) D jE λhr nd hu=>⟨IF c_Night,(bU (jY (eA (rq hu) (cX cZ (dv 2) bT (λ_ _=>U)) tP (by rfl)) (c_ (fx (gJ ι x4n hr (a7 (dv 0) (a7 (dv 1) (b7 (cX cZ (dv 2) bT (λ_ _=>U)) bw)))))) kh) (c_ (fx (gJ ι x7J hr (a7 (dv 0) (a7 (dv 1) (b7 (cX cZ (dv 2) bT (λ_ _=>U)) bw))))))),q7l c_Night⟩
meta abbrev QW:χ:=top 65
abbrev QX(Z:Ev)(c_Night:Y):Prop:=Fq Z 5 "_law_events" ["pen", "web", "many"] 3 (IV c_Night)
def q8G{c_Night:Y}(D:Dx Z "_law_events" QW)(B:BT Z.mg)(az:Kx Z.K c_Night ["town", "latest", "begun", "going"])(lU:vW Z)(x2w:QL Z c_Night)(x2x:QT Z c_Night)(x0Q:QV Z c_Night):QX Z c_Night:=nB (N:=["pen", "web", "many", "wakes", "night", "events", "told", "k", "event"]) D jE λhr nd hu=>⟨IW c_Night,(bU (gf (i:=3) nd U (by trivial) (hX pW bT (cj lU hr (a7 (dv 0) (cf bT bw))))) (bU (gf (i:=4) nd U (by trivial) (z61 ι x2w hr)) (bU (gf (i:=5) nd U (by trivial) (wy bw)) (bU (gf (i:=6) nd U (by trivial) (wy bw)) (bU (wC q2l U (yR (by rfl) B.range (a7 (dv 2) bw)) (iJ (i:=7) nd U (by trivial)) (bU (gf (i:=8) nd U (by trivial) (gJ ι x2x hr (a7 (dv 0) (a7 (dv 1) (a7 (dv 4) (a7 (dv 3) bw)))))) (bU (kU ((kJ q0M q0X q0Y mV (dv 5) (a7 (dv 8) bw)).weak pV)) (c_ (kU ((kJ q0M q0X q0Y mV (dv 6) (cY (gJ ι x0Q hr (a7 (dv 1) (a7 (dv 4) (a7 (dv 8) bw)))) bw)).weak pV)))))) (c_ (fx (z4l (a7 (dv 5) (a7 (dv 6) (a7 (dv 4) bw))))))))))),q6K c_Night⟩
meta abbrev QY:χ:=top 66
abbrev QZ(Z:Ev)(c_Night:Y):Prop:=Fq Z 8 "_law_over" ["pen", "web", "night", "events", "told"] 5 (IX c_Night)
def x1s{c_Night:Y}(D:Dx Z "_law_over" QY)(B:BT Z.mg)(az:Kx Z.K c_Night ["town", "latest", "begun", "going"])(dw:Qk Z c_Night)(bI:Cu Z c_Night)(lU:vW Z)(cJ:Cr Z c_Night)(bV:Cq Z c_Night):QZ Z c_Night:=nB (N:=["pen", "web", "night", "events", "told", "k", "under", "left"]) D Z9 λhr nd hu=>⟨IY c_Night,(bU (wC q2l U (yR (by rfl) B.range (jW (hX pW (g5 nq (by rfl) B.len q1x (cY (sN ι az.c dw hr (dv 2)) bw)) (hX A3 bT (cX cZ (dv 1) bT (λ_ _=>U)))) bw)) (iJ (i:=5) nd U (by trivial)) (bU (gf (i:=6) nd U (by trivial) (sN ι az.c dw hr (dv 2))) (bU (AW [η,ζ 2] ["house", "night"] (i:=7) nd U (by trivial) U (yR (by rfl) B.range (b7 (cX cZ (dv 1) bT (λ_ _=>U)) bw)) (λd=>(iJ (i:=0) (show(["house", "night"]:-L).Nodup by decide +kernel) U (by trivial))) (λd=>(wD (eA (A4 hu) (dv 0) (cX cZ (sN ι az.c bI hr (dv 1)) bT (λ_ _=>U)) (by rfl)))) (λd=>(dv 0))) (c_ (jY (eA (oA hu) (dv 6) (mZ bw) (by rfl)) (bU (kU ((kJ q0M q0X q0Y mV (dv 3) (qR (jX (cf tP (b7 (cX cZ (dv 6) (cj lU hr (a7 (dv 0) (cY (g5 nq (by rfl) B.len q1x (a7 (dv 6) bw)) bw))) (λ_ _=>U)) bw))) bw)).weak pV)) (c_ (kU ((kJ q0M q0X q0Y mV (dv 4) (cY (lg ι az.c cJ hr (dv 2) (b7 (cX cZ (cX cZ (dv 3) (ME bT) (λ_ _=>U)) bT (λ_ _=>U)) bw)) bw)).weak pV)))) (c_ (jY (eA (oA hu) (dv 7) (mZ bw) (by rfl)) (bU (kU ((kJ q0M q0X q0Y mV (dv 3) (qR (jX (cf tP (b7 (cX cZ (dv 7) (cj lU hr (a7 (dv 0) (cY (g5 nq (by rfl) B.len q1x (a7 (dv 7) bw)) bw))) (λ_ _=>U)) bw))) bw)).weak pV)) (c_ (kU ((kJ q0M q0X q0Y mV (dv 4) (cY (lg ι az.c bV hr (dv 2) (b7 (cX cZ (cX cZ (dv 3) (ME bT) (λ_ _=>U)) bT (λ_ _=>U)) bw)) bw)).weak pV)))) kh))))))) (c_ (fx (Me (u_ (rq hu) (g5 nq (by rfl) B.len q1x (b7 (cX cZ (sN ι az.c bI hr (dv 2)) bT (λ_ _=>U)) bw)) (cX cZ (dv 1) bT (λ_ _=>U)) (by rfl)) (Md (u_ (rq hu) (sN ι az.c dw hr (dv 2)) (mZ bw) (by rfl))))))),q9Y c_Night⟩
meta abbrev Jl:χ:=top 24
abbrev Q0(Z:Ev):Prop:=Fx Z 9 "lots_of" ["web", "ways"] 2 Gz
def x6N(D:Dx Z "lots_of" Jl)(B:BT Z.mg)(G_N:PE Z)(G_F:Jg Z):Q0 Z:=by
 let⟨f,fd,a,F⟩:=D;let⟨_,_,GF⟩:=G_F.ex;let sc:pF ["web", "ways", "lots", "house", "first"] ["web", "ways"] (cW Jl):=gu (by decide +kernel);calc⟨f,fd,F.yi sc (λvs H Q E h=>h.1) (λbF A outer s H vs Q E hr h=>?_),a,F.kp,F.binds iO⟩;let⟨hl,F0,ad,ys,aE,K',S0,⟨m,ws,ns,W,hn,hd,GA,rfl,rfl,hK⟩,kk⟩:=h;let nd:=sc.nd;let hu:=hr.units
 refine⟨_,uF (kU (cj G_N hr (a7 (dv 0) (a7 (dv 1) bw))))
  (uF (An (i:=2) nd U (q4h U) jT)
  (uF (Dy q2l U (LG (by rfl) B.enumerate (kM (x5 GF.ok (hr.mono (by decide)) (by rfl) GF.wt GF.kp GF.bd .nil qF (kL (jv 0) (kL (jv 1) bX))) bX)) (Ds U (xN (xK (i:=3) nd U (q4h U)) (xN (xK (i:=4) nd U (q4h U)) iR)))
   (xH (Ku (kJ q0M q0X q0Y mV (kJ q3o q35 PySem.F.type_dict_setdefault Vm (jv 2) (kL (jv 4) (yr (As bX) bX))) (kL (jv 3) bX)))))
  (xH (Dp (tL (Vo U) (by rfl) B.list qN (kM (Uc q3o q4V PySem.F.type_dict_values Vn (jv 2)) bX)))))),?_⟩
 calc YA (Kf:=Z.K) hl W hn hd GA hK S0 (λr ows h v F' H' P _=>kk r ows h v F' H' P) λ_ _ h=>h
meta abbrev Q1:χ:=top 67
abbrev Q2(Z:Ev):Prop:=Fx Z 10 "_law_stand_right" ["web", "forest", "stand"] 3 Ca
def q4D(D:Dx Z "_law_stand_right" Q1)(B:BT Z.mg)(z6k:Q0 Z):Q2 Z:=eB (N:=["web", "forest", "stand", "put", "known", "sure", "every", "lot", "known_by"]) D jE λhr nd hu=>⟨IU,(by ac_rfl),q4m⟩
meta abbrev Cw:χ:=top 49
def pz:pF ["script", "cells", "k", "cell"] ["script"] (cW Cw):=gu (by decide +kernel)
def z3E{f:Y}{fd:FuncData}(F:hW Z.K "_law_open" "_law_open" Cw f fd)(h1:Z.mg "list" = η)(h2:Z.mg "enumerate" = η):cB Z.P Z.w Z.K Z.mg Z.base f_ 1 f fd ["script"] (Nl Z.K):=by
 refine F.yi pz (λvs H Q E h=>?_) (λbF A outer s H vs Q E hr h=>?_)
 .let⟨a,ns,rfl,_⟩:=h
  rfl
 .let⟨a,ns,rfl,hS,hlen,fin⟩:=h
  let nd:=pz.nd
  refine⟨_,uF (An (i:=1) nd U (q4h U) (tL DY (by rfl) h1 PyProof.Rows.boot_list (lY (DO iW (jv 0) K7 (Av tH)) bX)))
   (uF (Dy q2l U (LG (by rfl) h2 (lY (DO iW (jv 0) (Av tH) (Av tH)) bX)) (Ds U (xN (xK (i:=2) nd U (q4h U)) (xN (xK (i:=3) nd U (q4h U)) iR)))
    (xH (Am (xV Kz (DW iV (jv 1) (xV DB (jv 2) tH) (λ_ _=>U)) (jv 3)) (Dt (jv 1) (xV DB (jv 2) tH) set_list))))
   (xH (Dp (As (lY (jv 1) (lY tH (lY tH bX))))))),?_⟩
  calc⟨_,U,_,U,a,_,U,hS,λl1 n1=>⟨l1,_,U,.inl (bR.of cb),λc nc=>?_⟩⟩;let s1:bf H (upd (upd H l1 (.lst (fw (ns.map V.int) η (ζ 12)))) c (.lst (fw (ns.map V.int) η (ζ 12)))):=(pX n1).trans (pX nc);calc⟨_,U,_,U,_,U,a,_,U,s1.seq hS,λl2 n2=>⟨l2,U,⟨_,bR.of cb⟩,?_⟩⟩;let ncH:H c=η:=(pX n1).free nc;let n2':=n2
  let uE:∃ms:-Int,↑ms=min 12 ↑ns/\fw (ns.map V.int) η (ζ 12)=ms.map V.int:=by
   calc⟨_,?_,FW ns η (ζ 12)⟩;rw[q0K,q2q];let e1:HT.bS ↑ns 0 η=0:=HT.TR _ _;let e2:HT.bS ↑ns ↑ns (ζ 12)=min 12 ↑ns:=HT.DN ↑ns ↑ns 12;rw[e1,e2];symm
  let pJ:↑(fw (ns.map V.int) (ζ 12) (ζ 63))=↑ns-12:=by
   rw[FW,ye,q0K,q2q];let e1:HT.bS ↑ns 0 (ζ 12)=min 12 ↑ns:=HT.DN ↑ns 0 12;let e2:HT.bS ↑ns ↑ns (ζ 63)=min 63 ↑ns:=HT.DN ↑ns ↑ns 63;rw[e1,e2,Nat.min_eq_right hlen,q6R];symm
  let Q3:∀i x,(fw (ns.map V.int) (ζ 12) (ζ 63))[i]?=ζ x->∃n:Int,x=V.int n:=λi x e=>by
   rw[FW,Uj] at e
   cases q:((ns.drop (HT.bS ↑ns 0 (ζ 12))).take (HT.bS ↑ns ↑ns (ζ 63)-HT.bS ↑ns 0 (ζ 12)))[i]? with
   |none=>rw[q] at e;cases e
   |some n=>rw[q] at e;exact⟨n,(q0P e).symm⟩
  generalize fw (ns.map V.int) (ζ 12) (ζ 63)=rest at pJ Q3 n2 ⊢;let⟨ms,hml,hme⟩:=uE
  refine LH (K:=Z.K) (a:=l2) (xs:=rest) (λi σ H2=>∃(ks:-Int)(v1 v2:Option V),σ=[ζ (.ref a),ζ (.ref c),v1,v2]/\H2 c=ζ (.lst (ks.map V.int))/\↑ks=min 12 ↑ns/\H2 l2=ζ (.lst rest)/\bf H H2)
   ⟨ms,η,η,U,?_,hml,cb,?_⟩ (λi σ H2 _ ⟨_,_,_,_,_,_,q,_⟩↦bR.of q) ?_ ?_
  .rw[bD (eg cb n2),cb,hme]
  .exact s1.trans (pX n2)
  .ext i x T σ H2 hi ⟨ks,v1,v2,rfl,hc,hk,yg,sm⟩ hT
   let⟨n,rfl⟩:=Q3 i x hi;let tV:i<↑rest:=(Ll.mp hi).1;let q0_:↑ks=12:=by symm
   let cT:c≠T:=eg hc hT;let jK:upd H2 T (.tup [.int i,.int n]) c=ζ (.lst (ks.map V.int)):=by rw[bD cT];exact hc
   let j0:0<=((i:Int))%12:=q2B _ (by decide);let j1:((i:Int))%12<12:=q2b _ (by decide);let⟨m,em⟩:=Xi (ns:=ks) j0 ⋯
   let ix:jA ↑(ks.map V.int) ((i:Int)%12)=ζ ((i:Int)%12).toNat:=by
    unfold jA;rw[q0r j0,q0r (by rw[ye];symm)]
   calc⟨T,_,U,cA.of cb,U,_,_,U,_,_,U,U,?_⟩;calc⟨_,U,_,U,_,_,U,U,(show(0:Int)<12 by decide),_,_,_,_,U,U,bR.of jK,em,_,U,_,_,U,U,_,U,_,U,_,_,U,U,(show(0:Int)<12 by decide),_,_,_,_,U,U,jK,ix,?_⟩;refine⟨ks.set ((i:Int)%12).toNat (m+n),_,_,U,?_,by rw[q1H];calc hk,?_,?_⟩
   .rw[cb,q9G]
   .let l2c:l2≠c:=by
     ext z;subst z;exact absurd n2' (by rw[cb];ext y;cases y)
    rw[bD l2c,bD (eg yg hT)];exact yg
   .ext b o e
    rw[bD (eg e ncH)];exact pX hT b o (sm b o e)
  .ext σ H2 ⟨ks,v1,v2,rfl,hc,hk,yg,sm⟩
   calc⟨_,U,(by show 3<=sizeLine;decide),λp np=>?_⟩;let hp0:H p=η:=sm.free np;calc fin p c _ (sm.trans (pX np)) hp0 ⟨cb,⟨ks,by rw[bD (eg hc np)];calc hc,⋯⟩,q4P 0⟩
meta abbrev xm:χ:=top 68
def z5k{c_Night:Y}{f vX:Y}{fd sU:FuncData}(F:hW Z.K "law" "law" xm f fd)(B:BT Z.mg)(GO:Fn Z.P Z.w Z.K Z.mg Z.base 1 "_law_open" ["script"] (Nl Z.K) vX sU)(az:Kx Z.K c_Night ["town", "latest", "begun", "going"])(x7I:QA Z)(x4q:Qv Z)(x0R:QX Z c_Night)(lU:vW Z)(x4l:Qe Z)(cz:Cp Z c_Night)(bV:Cq Z c_Night)(cJ:Cr Z c_Night)(Q4:Q2 Z)(bI:Cu Z c_Night)(x4o:QZ Z c_Night)(x2r:Qp Z c_Night)(q8O:Qr Z c_Night):cB Z.P Z.w Z.K Z.mg Z.base f_ 23 f fd ["script"] (FU Z.K):=by
 let sc:pF ["script", "pen", "turn", "web", "events", "forest", "night", "told", "stand", "put"] ["script"] (cW xm):=gu (by decide +kernel);refine F.yi (k:=22) sc (λvs H Q E h=>?_) (λbF A outer s H vs Q E hr h=>?_)
 .let⟨a,ns,rfl,_⟩:=h
  rfl
 let⟨a,ns,rfl,hS,hlen,hT,fin⟩:=h;let nd:=sc.nd;let hu:=hr.units;let rest:eQ (gE f_ Z.P Z.w Z.K Z.mg Z.base ["script", "pen", "turn", "web", "events", "forest", "night", "told", "stand", "put"] "law" (cW xm) f bF A outer s H E).mS ((gG xm).drop 1) (eJ (Ja c_Night)):=(bU (wC q2l U (yR (by rfl) B.range (cf bT bw)) (iJ (i:=2) nd U (by trivial)) (bU (gf (i:=3) nd U (by trivial) (cj x7I hr (cY (cj x4q hr (a7 (dv 1) bw)) (b7 (cX cZ (mZ (cf bT (cf bT (cf bT bw)))) (dv 2) (λ_ _=>U)) (cf bT bw))))) (bU (gf (i:=4) nd U (by trivial) (z52 (gJ ι x0R hr (a7 (dv 1) (a7 (dv 3) (cY (cj lU hr (a7 (dv 1) (cf bT bw))) bw)))) bT)) (bU (gf (i:=5) nd U (by trivial) (cj x4l hr (a7 (dv 3) bw))) (bU (gf (i:=6) nd U (by trivial) (vU cz hr (a7 (dv 3) bw))) (bU (Vw [η,η,ζ 6] ["word", "number", "night"] (i:=7) nd U (by trivial) U (wI (mN (dv 4))) (λd=>(vg U (l_ (iJ (i:=0) (show(["word", "number", "night"]:-L).Nodup by decide +kernel) U (by trivial)) (l_ (iJ (i:=1) (show(["word", "number", "night"]:-L).Nodup by decide +kernel) U (by trivial)) vf)))) (λd=>EE) (λd=>(EB (eA (rq hu) (dv 0) tP (by rfl)) (lg ι az.c bV hr (dv 2) (a7 (dv 1) bw)) (lg ι az.c cJ hr (dv 2) (a7 (dv 1) bw))))) (bU (jY (JW.jt (pO (wA (tQ (cj Q4 hr (a7 (dv 3) (a7 (dv 5) (cY (sN ι az.c bI hr (dv 6)) bw)))))) (tR (wA (tQ (gJ ι x4o hr (a7 (dv 1) (a7 (dv 3) (a7 (dv 6) (a7 (mN (dv 4)) (a7 (dv 7) bw))))))))))) (c_ (fx wx)) kh) (bU (gf (i:=8) nd U (by trivial) (sN ι az.c bI hr (dv 6))) (bU (AW [η,η] ["way", "letters"] (i:=9) nd U (by trivial) U (wI (dv 7)) (λd=>(vg U (l_ (iJ (i:=0) (show(["way", "letters"]:-L).Nodup by decide +kernel) U (by trivial)) (l_ (iJ (i:=1) (show(["way", "letters"]:-L).Nodup by decide +kernel) U (by trivial)) vf)))) (λd=>(wD (eA Fs (dv 0) kQ (by rfl)))) (λd=>(dv 0))) (bU (jY (JW.jt (pO (eA (oA hu) (g5 y8 (by rfl) B.sorted nu (a7 (dv 9) bw)) (dv 5) (by rfl)) (pO (eA (oA hu) (cX cZ (dv 8) bT (λ_ _=>U)) (dv 5) (by rfl)) (tR (wA (tQ (cj Q4 hr (a7 (dv 3) (a7 (dv 5) (a7 (dv 8) bw)))))))))) (c_ (fx wx)) kh) (bU (jY (JW.jt (pO (eA (oA hu) (gJ ι x2r hr (a7 (dv 3) (cY (vc wL (by rfl) B.list qN (a7 (mN (dv 4)) bw)) bw))) (dv 7) (by rfl)) (tR (eA (oA hu) (gJ ι q8O hr (a7 (dv 3) (cY (vc wL (by rfl) B.list qN (a7 (mN (dv 4)) bw)) bw))) (dv 8) (by rfl))))) (c_ (fx wx)) kh) (c_ (jY (JW.jt (pO (eA (oA hu) (lg ι az.c bV hr (dv 6) (cY (cj lU hr (a7 (dv 1) (b7 (cX cZ (dv 3) bT (λ_ _=>U)) bw))) bw)) (jX (cf kQ (cf bT bw))) (by rfl)) (tR (eA (oA hu) (sN ι az.c bI hr (dv 6)) (dv 8) (by rfl))))) (c_ (fx wx)) kh))))))))))))) (c_ (fx wx)))
 calc⟨_,uF (An (i:=1) nd U (by trivial) (x5 GO.ok (hr.mono (by decide)) (by rfl) GO.wt GO.kp GO.bd .nil qF (kL (jv 0) bX))) rest,?_⟩;calc⟨_,U,a,ns,U,hS,hlen,λp c H1 sm hp N1=>?_⟩;let⟨F',ms,hm,S⟩:=Xj (a:=a) (n:=8) (ba.same hT sm) N1;calc Xk S (z3r c_Night ms hm) fin
end
end LJ
namespace LJ
open PySem L2 PySem.Spec PySem.W PyProof.Rows
meta def sV(cl:-(Y×-V)):Hp:=λb=>(cl.lookup b).map HO.tup
def Jo{cl:-(Y×-V)}{a:Y}{o:HO}(e:sV cl a=Z o):∃xs,o=.tup xs/\cl.lookup a=Z xs:=by
 unfold sV at e
 cases q:cl.lookup a with
 |none=>rw[q] at e;cases e
 |some xs=>rw[q] at e;cases e;calc⟨xs,U,U⟩
meta def Jp(cl:-(Y×-V)):CC:=⟨sV cl,λe=>let⟨xs,h,_⟩:=Jo e;⟨xs,h⟩⟩
inductive cL (K:q0b):-(Y×-V)->Prop
 |nil:cL K []
 |cons {a:Y} {xs:-V} {aM:Array O} {n:Nat} {od:Option Y} {sl:Array (Option O)} {r:-(Y×-V)} (hl:K.lookup a=Z ⟨.type "tuple",od,.seq aM n,sl⟩) (hv:Vals xs aM.toList) (hn:↑xs<=1000) (h:cL K r):cL K ((a,xs)::r)
def cL.at{K:q0b}{h:Α}(X:K.In h):∀{cl:-(Y×-V)},cL K cl->∀{b:Y}{xs:-V},cl.lookup b=Z xs->↑xs<=sizeLine/\∃aM:-O,Vals xs aM/\IsTup h b aM.toArray
 |_,.nil,b,xs,q=>nomatch q
 |_,.cons (a:=a) hl hv hn t,b,xs,q=>by
  rw[q0E] at q;split at q
  .rename_i c
   let c:=q1K c;subst c;cases q
   exact⟨q0N hn (by decide),_,hv,_,X _ _ hl,U,_,U⟩
  .calc cL.at X t q
def cL.cs{K:q0b}{h:Α}{P:ψ}{w:ω}{cl:-(Y×-V)}(t:cL K cl)(X:K.In h):Cs P w (sV cl) h :=
 ⟨λe=>let⟨xs,h,_⟩:=Jo e;⟨xs,h⟩,λe=>by
  let⟨ys,e1,e2⟩:=Jo e;cases e1
  calc cL.at X t e2⟩
end LJ
namespace LJ
open PySem L2
meta def dQ:-vD:=[⟨159,⟨52,40,52,76⟩,(("order_of" : L)++".<locals>.")++"<lambda>"⟩,⟨192,⟨82,25,82,63⟩,(("least_of" : L)++".<locals>.")++"<lambda>"⟩]
meta def Jq:-(L×χ×Y):=[("order_of",PB,159),("least_of",PJ,192)]
meta abbrev dp(x:L)(s:χ):L×χ:=(x,s)
meta def Q5:-(L×χ):=[dp "is_whole" Pj,dp "is_within" Pk,dp "is_tuple_of" Pn,dp "are_ends" Pp,dp "is_way" Pr,dp "are_ways" Pu,dp "is_web" Px,dp "need_web" Pz,dp "rank_of" PA,dp "need_ways" PD,dp "joined" PF,dp "firsts_of" Jf,dp "leads_out" PL,dp "ways_out" PN,dp "lot_at" PR,dp "ends_of" PS,dp "rising" PT,dp "letters_of_asking" PU,dp "ways_within" PW,dp "waked" PY,dp "joined_over" P8,dp "told_whole" P_,dp "ended" Qb,dp "forest_of" Qd,dp "lots_of" Jl,dp "told_of" Ql,dp "all_told" Qn,dp "letters_of" Qo,dp "stand_behind" Qq,dp "_law_spread" Qs,dp "_law_open" Cw,dp "_law_anew" Qu,dp "_law_take" Qw,dp "_law_pairs_of" Qx,dp "_law_web" Qz,dp "_law_key" QB,dp "_law_marks_by" QD,dp "_law_lot_at" QF,dp "_law_leads_out" QG,dp "_law_outs" QI,dp "_law_night" QK,dp "_law_under" QM,dp "_law_wake" QO,dp "_law_end" QQ,dp "_law_event" QS,dp "_law_happen" QU,dp "_law_events" QW,dp "_law_over" QY,dp "_law_stand_right" Q1,dp "law" xm]
meta def z1H:-(L×L×χ):=[("wake", "Night.wake",Qg),("end", "Night.end",Qh),("stand", "Night.stand",Qi),("under", "Night.under",Qj)]
meta def z67:-(Y×-V):=[(223,[.ref 220,.ref 221,.ref 222]),(220,[]),(221,[]),(222,[])]
meta def Aa:CC:=Jp z67
def q79{K:q0b}(a:q1S K mainGlobals "FIRST_STAND" = Z (Z (.ref 223))):@Cd (je dQ Aa) K "FIRST_STAND" (.tup [(.tup []),(.tup []),(.tup [])]):=⟨.ref 223,.ref 223,a,U,by erw[Is];calc⟨223,_,U,U,.cons (by erw[Is];calc⟨220,_,U,U,.nil⟩) (.cons (by erw[Is];calc⟨221,_,U,U,.nil⟩) (.cons (by erw[Is];calc⟨222,_,U,U,.nil⟩) (.nil)))⟩⟩
def z6e{c_Night jq:Y}{j8:FuncData}{l:q7D}{w:ω}{K:q0b}{h:Α}{mg:L->Option O}{fa:Y}(X:K.In h)(G:h.Ns mainGlobals mg)(hfa:mg "law" = ζ (.ref fa))(DS:jk K Q5)(LS:gv K Jq)(N:∀x∈Hy,q1S K mainGlobals x=ζ η)(sW:q1S K mainGlobals "Night" = ζ (ζ (.ref c_Night)))(az:Kx K c_Night ["town", "latest", "begun", "going"])(gQ:jm K c_Night z1H)(sX:Mk K c_Night jq)(sY:hW K "__init__" "Night.__init__" Qf jq j8)(jr:Ck K "MOST_HOUSES" 12)(lh:Ck K "MOST_WAYS" 30)(j9:Ck K "MOST_PRICE" 1000000000)(ju:@Cd (je dQ Aa) K "FIRST_STAND" (.tup [(.tup []),(.tup []),(.tup [])]))
  : ∃fd:FuncData,(∀(s:ο)(v:O),BindsTo s fd ⟨[v],[]⟩ [("script",v)])/\∀base:Α,K.In base->base.Ns mainGlobals mg->(∀t∈dQ,base.BuiltinsAt mg t.T)->cB l.prog w K mg base f_ 23 fa fd ["script"] (@FU (je dQ Aa) K):=by
 let⟨f,fd,a,F⟩:=DS.at (x:="law") (st:=xm) 49 U;cases hfa.symm.trans (q3d X G a)
 letI:ba:=je dQ Aa;let B:=z69 X G N;calc⟨fd,λs v=>by let⟨_,_,_,_,_,_,_,_,_,rfl,_⟩:=F.ex;calc .of_eq U,λbase KB _ hB=>?_⟩;let D:∀(i:Nat){x:L}{st:χ},Q5[i]?=ζ (x,st)->Dx ⟨l.prog,w,K,mg,base⟩ x st:=λi _ _ e=>(DS.at i e).v X G;let M:∀(i:Nat){x:L}{st:χ}{T:Y}{lp:Δ}{q:L},Jq[i]?=ζ (x,st,T)->dQ[i]?=ζ ⟨T,lp,q⟩->zS ⟨l.prog,w,K,mg,base⟩ x st T lp q:=λi _ _ _ _ _ e e2=>(LS.at i e).v X G KB hB (by decide) (by decide) (q0I e2);let Q6:=x3f (D 0 U) B;let Ab:=x1n (D 1 U) B Q6;let Jr:=q8C (D 2 U) B;let z02:=x3h (D 3 U) B Ab;let z4L:=x8U (D 4 U) B (j9.v X G) Jr z02 Ab
 let z01:=x3g (D 5 U) B (lh.v X G) z4L;let z4K:=x8T (D 6 U) B (jr.v X G) Jr Ab z01;let Js:=x3d (D 7 U) B z4K;let Q7:=x6M (D 8 U) B;let z0Z:=x3c (M 0 U U) B Js Q7;let x7v:=x1l (D 9 U) B Js Ab;let Jt:=x8S (D 10 U) B;let Q8:=x1p (D 11 U) B Jt;let j_:=x0a (D 11 U) B Jt;let z00:=x3e (M 1 U U) B Q7;let x7w:=x1m (D 12 U) B;let z0Y:=x3b (D 13 U) B x7w;let Ju:=x8R (D 14 U) B j_;let Q9:=x6O (D 15 U) B;let Jv:=x8Q (D 16 U) B;let q5E:=q4n (D 17 U) B Q9;let x2n:=q8A (D 18 U) B;let z6i:=z1y (D 19 U) B Ju z00 z0Y x2n Jv q5E;let x2o:=q8B (D 20 U) B Q9 Ju Jv
 let x4c:=q98 (D 21 U) B Ju Jv;let z6j:=z1z (D 22 U) B x4c x2o;let x7x:=x1o (D 23 U) B z0Z Q8 Jt;let z2t:=x6N (D 24 U) B x7v Q8;let eO:=x0f (Z:=⟨l.prog,w,K,mg,base⟩) ⟨jq,j8,⟨q3d X G sW,sX⟩,sY⟩ B (ju.v X G) az Js;let eP:=x0e (Z:=⟨l.prog,w,K,mg,base⟩) (gQ.at 0 U) B az Ab z6i;let fG:=x1v (Z:=⟨l.prog,w,K,mg,base⟩) (gQ.at 1 U) B az Q6 z6j;let dR:=q8I (Z:=⟨l.prog,w,K,mg,base⟩) (gQ.at 2 U) B az;let jw:=q8H (Z:=⟨l.prog,w,K,mg,base⟩) (gQ.at 3 U) B az;let z2s:=x6L (c_Night:=c_Night) (D 25 U) B az Jr eP fG;let Q_:=x3i (c_Night:=c_Night) (D 26 U) B az z2s;let x4f:=q99 (c_Night:=c_Night) (D 27 U) B az Q_ eO
 let x0P:=q7C (c_Night:=c_Night) (D 28 U) B az eO Q_ dR;let x2s:=q8D (D 29 U) B;let x7H:=x1u (D 31 U) B;let xn:=x1r (D 32 U) B x2s;let q8P:=q6L (D 33 U) B xn;let z04:=x3j (D 34 U) B xn q8P;let z05:=x3k (D 35 U) B;let q8Q:=q6M (D 36 U) B;let Ra:=q8E (D 37 U) B q8Q;let q8q:=q5N (D 38 U) B;let x7G:=x1t (D 39 U) B q8q z05;let x4j:=x0c (c_Night:=c_Night) (D 40 U) B;let x4i:=x0b (c_Night:=c_Night) (D 41 U) B;let x7y:=x1q (c_Night:=c_Night) (D 42 U) B Ra x7G;let z06:=x3l (c_Night:=c_Night) (D 43 U) B Ra;let x4k:=x0d (c_Night:=c_Night) (D 44 U) B az xn x4i
 let x2t:=q8F (c_Night:=c_Night) (D 45 U) B az x7y z06;let x2u:=q8G (c_Night:=c_Night) (D 46 U) B az xn x4j x4k x2t;let x7z:=x1s (c_Night:=c_Night) (D 47 U) B az jw dR xn fG eP;let q6h:=q4D (D 48 U) B z2t;let⟨fo,fdo,ao,Fo⟩:=D 30 (x:="_law_open") (st:=Cw) U;calc z5k (Z:=⟨l.prog,w,K,mg,base⟩) F B ⟨z3E Fo B.list B.enumerate,ao,Fo.kp,Fo.binds qa⟩ az z04 x7H x2u xn x7x eO eP fG q6h dR x7z x4f x0P
def z68{K:q0b}{h:Α}(X:K.In h)(LS:gv K Jq):∀t∈dQ,∃cc,q8c h cc t.T:=λt ht=>LS.code X t.T (show t.T∈dQ.map (·.T) from q2n ht)
end LJ
open PySem PySem.W PyProof.Rows
end
open LJ L2
inductive PySem.W.Fast:Prop|tw12492635408099986815|tw18094102698510333146|tw7288008488930624708|tw3369476592564865407|tw9382758595001773120|tw16919511149478516387|tw11175841797476948542|tw10967058264830664678|tw15686099431672308241|tw1614525927800630764|tw10383438704391663995|tw15216513524488334195|tw3540858160560250999|tw8402350107802042104|tw7899251755704330407|tw10545575008178969696|tw17264639649866045495|tw5682941628670570347|tw15571208296656699590|tw15373582965972698394|tw5037638314361183215|tw6700618624813004473|tw12688326314291931006|tw10680111694304109933|tw10892216088638552947|tw1744074850575197257|tw16052127353608417192|tw11469283466434223272|tw3299186907008752756|tw12728876231056523930|tw10964885615820681020|tw4622338489731730070|tw17090931841576290682|tw10536554967253850088|tw5183809437665248193|tw11938033277733859453|tw3959138362157052192|tw8080524882270306472|tw924026870084115909|tw11216089210599138695|tw3503588350390685754|tw12971007715179783619|tw8999838939834304025|tw9081791979796209679|tw4502895572707229844|tw5133028876326068800|tw12759176482585339497|tw193585791547838884|tw4203267167401567984|tw3424304214004042282|tw14107699820241901146|tw15241860752516997508|tw15048831493244340761|tw10460461311458195523|tw10048895522945497334|tw11806426617523663096|tw8261670617264465664|tw7804431110072150651|tw4162918618468579143|tw10796892805941160678|tw11690609151764545694|tw17881682829853843375|tw7206854644957257576|tw14458222648706736952|tw11962100638102668634|tw4645111687072351561|tw12725006588023773522|tw14557547886362156675|tw1475425531686941378|tw17371186571990494851|tw14037386530769553391|tw3660487479580427552|tw285732791273242975|tw3326338109818386126|tw7520959996684301679|tw15792397672501258757|tw15935790547659956860|tw17554738308842892217|tw13238857232751845217|tw6450967970032912433|tw14064406330940762933|tw15906286957007449958|tw5971418969317731502|tw8232944783650422008|tw11695977222712773233|tw8120480720880480667|tw17198213519365494607|tw12053773763974165754|tw16861507702366712975|tw4508519029326849316|tw15246446758526305517|tw2323636989411318563|tw1280245693146396276|tw6847649803885949812|tw16017143901101321507|tw1166825029781210478|tw4784825140975648916|tw6337484115093065830|tw13675103521128667816|tw953373115734304137|tw4495101552770198346|tw14152983735435426561|tw10312546146036815242|tw1437096209511821242|tw2929444638856401839|tw13680167163857161322|tw12120450228459837646|tw3271209558721136335|tw13300838816477346886|tw1059356168519764062|tw18304315224992901752|tw13792222961639559497|tw4494012009428371377|tw11882309428489712582|tw1930448209111207340|tw16560323739144252356|tw8827749882612449216|tw525749556564192469|tw16678362343784577198|tw11535903458678634885|tw8971465938320146435|tw10733652393024737076|tw8801582198324604287|tw2736981239532014553|tw17876300920292629608|tw9214982992502292619|tw7058312786325582985|tw9796198026977378804|tw8696952664459132771|tw11711747707314390019|tw15560207710788480608|tw9953928999069584009|tw4582973630371978117|tw10580034701239408423|tw1557419825410659554|tw17979441503566719198|tw5116480591375424882|tw7159276583058610417|tw2153887374371958425|tw5718107975449769046|tw12261612854842134727|tw17985608707593577238|tw4771033285462452918|tw15797331051901789718|tw9071362476188665628|tw9176110562220946734|tw5034393019944439502|tw4384440569937621515|tw7582941863730372759|tw11707860178958316074|tw16766857629287017598|tw14243461882685180503|tw6473959175504087887|tw4071013615245569966|tw9845982777518699001|tw3052536763665539044|tw985193365736359689|tw3942634566839351656|tw11650940913467387370|tw9526626914345251048|tw2591993638368346972|tw5815268668792214711|tw3984479966719662325|tw9970146924864501863|tw1998814350487752794|tw2801987556756457827|tw6364316094714719882|tw535603953701220422|tw3741382548099707951|tw2354110282718711511|tw141201694727441609|tw8649210858010006815|tw1113630944001984340|tw16946902463910964354|tw14726423244344533849|tw15430396220265624986|tw11188862791408409665|tw16285248847351142650|tw2875657984724572345|tw13959126407496211907|tw11965879424758842886|tw4282089110049871212|tw8370140484223914268|tw14985863162433377796|tw11127305254197158153|tw5241784729291605635|tw157102630996734026|tw7944129298978219916|tw7704755530406384282|tw717745785298513886|tw12260791970749019940|tw17359277269505110742|tw8269487839027123042|tw3358839030936641804|tw2988173845140872225|tw6985491608728576237|tw7011659201999161056|tw11452241028941508667|tw8381193707631588874|tw7186738664552216196|tw1576375248657727485|tw1271736906598275677|tw6503110022912828261|tw6011916365286548557|tw3070210152635840674|tw13962149766799642339|tw16790010582397508523|tw1989424739903281735|tw15295793032918862404|tw5133657238704118366|tw18056410559620635628|tw15056555947898304655|tw1956803033950880899|tw2195680065501078659|tw2592547440100669655|tw6137435922026344054|tw8572721718474387228|tw15511287246249272434|tw13650915613430706527|tw2892127847869127997|tw11965349154719432213|tw1149739937917978145|tw13185300518797323745|tw12776289672245035588|tw16152820469839293209|tw16483775638808879215|tw15160243929587677840|tw18235260011699069023|tw16752695811609816119|tw12810999921803150427|tw13043027506243152910|tw9756474235791380111|tw8740598165142891441|tw22536703142370570|tw4437459373072748139|tw8930515939207283388|tw7347249284554058214|tw1729541964147612699|tw3145341913976693201|tw6874941713988553847|tw17702894981234003055|tw10948390891813740220|tw9692350316488889587|tw17170131084716602234|tw890471762535623807|tw460897460449841074|tw11644836019725035664|tw2821535465598346673|tw14785062267464018932|tw16877344430175411409|tw1523957598054598013|tw16907116211130346301|tw14151984692515787152|tw3375661127568966013|tw5119146057841216489|tw14311858451788683463|tw13665782712738794216|tw17951327330684909975|tw578015836892021705|tw12427423535524292493|tw14578870654680698318|tw9636510322132504064|tw8785808108427120664|tw12150640432071620423|tw15723815813612088347|tw453336414792260850|tw14589027507384631530|tw9218945967928003618|tw5913577734606937381|tw15435604241556772284|tw8422432152089860329|tw7350923494888861974|tw16916844773139179593|tw5831728444993541656|tw12848486674324687367|tw14578405142442743416|tw7231082216847417164|tw7615555933619415630|tw3448262470792229491|tw4517049522848138515|tw3371603906224378833|tw18409963623744717846|tw3398526496303470106|tw8277225877217669116|tw10454192210008977703|tw3768802749754180205|tw11926644033858514650|tw779246086916365136|tw13881427873529194597
set_option maxRecDepth 100000 in
set_option maxHeartbeats 0 in
theorem PySem.Challenge.cw_lotjoin_k50_whole_nights_till_all_know_holds : PySem.Challenge.rw_lotjoin_k50_whole_nights_till_all_know.Holds := by
 w_on;o_law;k_head;(case hw=>w_witness2)
 k_fill
 refine LJ.X_ (l:=PySem.Challenge.rw_lotjoin_k50_whole_nights_till_all_know) (kk:=23) LJ.dQ LJ.Aa rfl rfl rfl ⟨rfl,by decide,by decide,rfl⟩ ?S ?C (λP=>by kernel_rfl) ?F
 case S =>
  intro w h KX;refine LJ.cL.cs ?_ KX
  repeat' first|exact LJ.cL.nil|refine LJ.cL.cons (by k_is) (by repeat' first|exact .nil|refine .cons rfl ?_) (by decide) ?_
 case C =>
  intro w h KX;refine LJ.z68 KX ?_
  repeat' first|exact LJ.gv.nil|refine LJ.zT (by k_is) (by k_is) (by k_is) (by k_is) (by kernel_rfl) ?_
 case F =>
  intro w mg fa h KX G qD;refine' LJ.z6e KX G qD ?dD ?dL ?dN ?aNight ?kNight ?mNight ?iNight ?fNight ⟨_,by k_is,_,rfl⟩ ⟨_,by k_is,_,rfl⟩ ⟨_,by k_is,_,rfl⟩ (LJ.q79 (by k_is))
  (case dD=>repeat' first|exact LJ.jk.nil|refine LJ.Hx (by k_is) (by k_is) (by k_is) (by k_is) ?_)
  (case dL=>repeat' first|exact LJ.gv.nil|refine LJ.zT (by k_is) (by k_is) (by k_is) (by k_is) (by kernel_rfl) ?_)
  (case dN=>repeat' first|exact q54 _|refine LJ.Z_ (by k_is) ?_)
  (case aNight=>k_is)
  (case kNight=>exact⟨⟨by k_is,by k_is,by k_is,by k_is⟩,by repeat' first|exact q54 _|refine List.forall_mem_cons.mpr ⟨(by k_is:q1P _ _ _=_),?_⟩⟩)
  (case mNight=>repeat' first|exact LJ.jm.nil|refine LJ.allM (by k_is) (by k_is) (by k_is) (by k_is) (by k_is) ?_)
  (case iNight=>exact⟨by k_is,by k_is,by k_is,by k_is⟩)
  (case fNight=>exact L2.Ax (by k_is) (by k_is) (by k_is))
