import PyProof.Rows.All
import Wide.All
import OpenK.AllK
import Wide.FinOn
import Lean
import PyProof.Rows.SetFrom
import PyProof.TupleKey
import PyProof.SetRoads
import PySem.SetOps
import PyProof.EqAt
import PyProof.EqKinds
import PyProof.TupleCall
import KE.KDictList
import KE.KDictLaws
import PyProof.NeKinds
import PyProof.Draws
import KE.KSortTup
import KE.KLam
import PyProof.ListRange
import PyProof.TupleOfSeq
import KE.KNestM
import PyProof.MinMaxWalk
import PyProof.Conv_int_bool
import PyProof.ReprRoads
import PyProof.CallFns
import PyProof.FitsInt
import KE.KMinKey
import PySem.Challenge.RW_lotjoin_k41_marks_refused
open PySem renaming wpAny_bind->oj,Heap.get?_push_of_some->rM,wpAny_pure->vw,W.Frag->xY,Heap.lt_size->Qj,Heap.get?_push_size->ZI,Value.none->q0n,W.kitOne->q0r,Value.ref->q0w,wpAny_holding->q0B,Spec->q0C,Heap.get?_update_self->q0E,Obj.mapSeq->q0H,Heap.SameBut.update->q0L,W.nsIn->q0M,W.mg_of->q0N,Str.ofString->q0O,Heap.get?_update_other->q0P,wpAny_newObj_type->q01,W.keepIn->q08,sizeLine_eq->q09,wpAny_callSpecial?_slot->q0_,wpAny_call_entry->q1e,wpAny_field->q1h,Builtin.Tuple.tupleExact->q1j,Value.int->q1l,Builtin.Slice.slicePlaces->q1r,F.called_set->q1u,wpAny_mono->q1v,Heap.size_push->q1w,W.kia_one->q1x,mem_of_lookup->q1y,wpAny_setState_of->q1A,F.plainAttrs_list->q1E,Obj.data_mapFields->q1F,W.fnOf->q1I,Builtin.SmallTypes.nextOf->q1J,SetTable.layClean.free->q1N,NameKind.cell->q1O,Builtin.SmallTypes.ownedTupleIsFree->q1P,wpAny_loadPart'->q1S,NameKind.free->q1Z,wpAny_seqItems->q12,W.findIn->q13,codeAny_builtin->q15,PyData.shownAll->q16,wpAny_truthy_bool->q2d,wpAny_pyIter_enum->q2g,Value.type->q2k,wpAny_Call_Name_kw->q2l,Builtin.Slice.sliceApplied->q2m,F.slot_tuple_iterator_next->q2n,wpAny_setField_rec->q2q,Obj.isFreed_of_fields->q2r,Around.under_plainId->q2v,wpAny_pyIter_list->q2w,SetTable.fill->q2x,Builtin.List.listTooLong->q2z,wpAny_setField->q2D,W.codeIn->q2F,Heap.SameBut->q2J,Obj.putSet->q2K,codeAny_mono->q2L,wpAny_typeOf->q2M,Around.in1_handled->q2O,wpAny_pyIter_tuple->q2P,SetTable.probe.go->q2R,wpAny_attempt->q2U,wpAny_standAt->q2V,wpAny_loadPart_at->q2Z,Str.length_append->q20,SetTable->q21,codeAny_call_builtin->q26,Value.bool->q27,Heap.get?_none_of_le->q28,Builtin.Tuple.tupleItemsOf->q2_,wpAny_askSetting->q3d,Builtin.Slice.sliceAdjust->q3h,Builtin.SmallTypes.ownedTupleHandOut->q3i,F.args_tuple_add_2->q3k,Value.builtin->q3l,wpAny_ite_split->q3p,wpAny_passesOwn->q3q,wpAny_call->q3v,Code.quiet_builtin->q3w,F.entry_tuple_add->q3z,F.slot_list_count->q3A,F.type_list_count->q3B,SetTable.insertAt_perm->q3H,wpAny_storeSet_of->q3I,W.cellsFrom_some->q3K,F.slot_tuple_add->q3M,W.exmOne->q3R,boot_len->q3S,intKind_is->q3X,wpAny_rule->q3Y,wpAny_forIn_list->q3Z,SeqAt.EqAt->q30,call_meets->q32,SetTable.fits->q33,plainId_quiet->q34,wpAny_newList->q35,wpAny_onRaise->q36,wpAny_updateSeq_pair->q39,codeAny_of_tree->q4a,Builtin.Frozenset.updateFrom->q4b,wpAny_execs_nil->q4d,SeqAt.EqAt.same->q4e,F.args_tuple_iterator_next_1->q4g,F.slot_zip_next->q4i,PyData.depthAll->q4j,wpAny_setEntries_of->q4k,Heap.get?_update_ne->q4n,F.entry_tuple_iterator_next->q4p,putSet_of->q4q,SeqAt.EqAt.int_str->q4t,SeqAt.EqAt.str_int->q4u,Calls.Name_function_global->q4v,W.callWith_K->q4w,SeqAt.EqAt.int_int->q4x,Heap.IsSliceOf.new->q4z,wpAny_letOwnedTupleGo_enum->q4A,F.excBase_ValueError->q4B,Builtin.Slice.sliceFields->q4F,Calls.call_function_entry->q4G,Obj.cls_mapFields->q4K,W.methodObj->q4M,wpAny_sequenceKey->q4N,slot_list_getitem->q4O,Obj.mapFields->q4S,Builtin.List.listSameRef->q4T,wpAny_getItem_list_slice->q4U,F.store_ValueError->q4V,wpAny_isInstance->q4Z,wpAny_eqBool_int->q40,Builtin.Range.rangeSize->q41,noFill_tuple_add->q42,F.attr_ValueError->q45,W.isFn->q5d,wpAny_specialOf->q5k,W.instObj->q5l,weight_type_call_type->q5r,builtinLookup_eq_fast->q5s,wpAny_isTrue_Compare1->q5t,wpAny_eqIsQuiet_tuple->q5u,F.sub_list_frozenset->q5y,wpAny_runValue->q5z,isSubtype_type->q5B,W.lookIn->q5D,Around.frames_deeper->q5E,SeqAt.EqAt.none_bool->q5F,SeqAt.EqAt.bool_none->q5G,SeqAt.EqAt.bool_bool->q5H,Heap.MadeExcOf->q5J,wpAny_newTuple->q5M,wpAny_letGo->q5N,Value.str->q5P,SeqAt.EqAt.none_int->q5S,SeqAt.EqAt.none_str->q5T,SeqAt.EqAt.bool_int->q5U,SeqAt.EqAt.bool_str->q5V,SeqAt.EqAt.int_none->q5W,SeqAt.EqAt.int_bool->q5X,SeqAt.EqAt.str_none->q5Y,SeqAt.EqAt.str_bool->q5Z,call_enumerate_list->q50,wpAny_isSubtype_exc->q51,W.codeHd_of_K->q57,EntryCells.newEntry->q58,Paired.length->q6b,seq_tuple_add->q6c,evalPart_none->q6e,Around.under_plain->q6l,Walks.list->q6m,SeqAt.EqAt.str_str->q6o,tupleKind_room_in1->q6q,SeqAt.EqAt.of_refs->q6s,wpAny_eqBool_tuple->q6u,W.mg_none_of->q6v,PyData.showableAll->q6x,Heap.SameBut.refl->q6C,Value.isInt_shape->q6D,F.entry_type_call->q6E,wpAny_pyIter_slot->q6F,wpAny_assign_Name->q6G,W.hasDictIn->q6H,W.specialIn->q6I,W.kitx_list->q6J,W.kitx_dict->q6K,Around.under->q6L,Code.isFrame->q6M,concat_meets->q6N,seqIndex_neg->q6P,Heap.get?_push_at->q6T,wpAny_collect_seq->q60,F.args_zip_next_1->q62,PyData.hasDictAll->q63,F.typeCall_set_1->q67,F.entry_set_init->q68,check_set_init_1->q69,wpAny_execs_cons->q7a,W.plainGet->q7b,W.codeHdIn->q7h,F.entry_zip_next->q7k,wpAny_pyIter_zip->q7l,wpAny_of_eq->q7m,Value.float->q7n,seqIndex_of->q7p,Shared.heap->q7r,F.plain_set_new->q7u,typeLookup_type->q7v,F.slot_set_iter->q7w,wpAny_updateSeq->q7x,W.takesIn->q7y,F.slot_int_rmul->q7A,pushCells_keeps->q7B,W.OpenLaw->q7E,PassesOwn.never->q7I,F.sub_list_set->q7O,entryFor_alias->q7P,wpAny_load->q7Q,isSubtype_stop->q7R,wpAny_Name->q7S,W.InstAt->q7T,typeIs_int->q7X,fitsIndex_both->q7Z,call->q71,wpAny_loadPart->q72,SeqAt.RcAt->q73,SetFound.there->q76,SetTable.grown->q77,W.CodeHd->q7_,PyData.hasDict->q8a,repr_of_reads'->q8b,Shared.TypeIs->q8i,wpAny_handled->q8j,Value.isStrOf->q8l,rangeSize_one->q8n,intBits_le_64->q8o,evalPart_some->q8w,call_list_seq->q8x,Fin->q8O,Within->q8W
open List renaming getElem?_eq_getElem->rN,length_map->rO,getElem?_eq_some_iff->tU,size_toArray->HW,getD_eq_getElem?_getD->HX,length_cons->HY,mem_cons->My,getElem?_map->Qi,mem_cons_self->Qk,length_append->Ql,mem_cons_of_mem->Qm,replicate->q0d,getElem?_append_left->q0g,getElem?_append_right->q0h,mem_iff_getElem?->q0i,not_mem_nil->q0j,mem_singleton->q0l,map_cons->q0o,mem_append_right->q0q,range->q0s,mem_map->q0t,mem_of_getElem?->q0v,length_take->q0y,lookup_cons->q0z,map_map->q0D,length_singleton->q0F,mem_range->q0G,map_append->q0K,getElem?_set_self->q0R,toArray->q0S,all_eq_true->q0T,mem_append->q0U,drop_eq_getElem_cons->q0V,getElem?_eq_none->q0W,getElem?_set_ne->q0Y,length_range->q0Z,set_cons_zero->q02,set_cons_succ->q03,take_of_length_le->q04,getElem?_take_of_lt->q05,length_drop->q06,getElem?_range->q1a,replicate_succ->q1c,map_congr_left->q1d,mem_append_left->q1g,length_nil->q1n,getElem?_cons_succ->q1o,nodup_append->q1p,length_replicate->q1z,length_set->q1G,append_assoc->q1K,getElem?_toArray->q1M,map->q1Q,pairwise_cons->q1U,mem_iff_getElem->q1V,getElem_mem->q1W,getElem?_cons_zero->q1Y,ext_getElem?->q11,filterMap_cons->q14,countP_cons->q18,map_nil->q2b,length_eq_zero_iff->q2c,any_eq_false->q2e,flatten_cons->q2f,append_nil->q2h,any_cons->q2i,mem_filterMap->q2j,take_succ->q2o,pairwise_iff_getElem->q2s,length_reverse->q2A,Perm.refl->q2B,getElem?_replicate->q2E,zip_cons_cons->q2N,nodup_cons->q2Q,find?_cons->q2S,all_cons->q2W,mem_of_mem_drop->q22,length_eraseIdx_of_lt->q23,Perm.swap->q24,nodup_nil->q25,map_id->q3a,mem_of_mem_take->q3c,getElem_map->q3e,eq_of_mem_replicate->q3j,contains_cons->q3y,drop_zero->q3F,pairwise_map->q3G,zip_nil_left->q3L,drop_of_length_le->q3O,reverse_cons->q3P,length_filterMap_eq_countP->q3T,Perm.append_left->q3U,nodup_range->q3V,find?_some->q3_,mem_filter->q4c,nil_append->q4f,mem_map_of_mem->q4o,find?_eq_none->q4r,filterMap_map->q4s,take_zero->q4C,mem_or_eq_of_mem_set->q4D,extract_eq_take_drop->q4E,mem_of_find?_eq_some->q4H,Pairwise.nil->q4I,Sublist.refl->q4P,cons.inj->q4X,sublist_append_left->q4Y,take_length->q46,cons_append->q47,drop_length->q48,length_eq_one_iff->q5g,foldl_cons->q5j,of_mem_zip->q5m,forIn_cons->q5n,countP_eq_length->q5q,Perm.cons->q5x,forIn_nil->q5I,toList_toArray->q52,take_succ_cons->q53,replicate_zero->q55,filter_sublist->q56,length_take_le->q59,map_take->q6h,map_drop->q6i,zip_nil_right->q6n,filter_append->q6t,countP_congr->q6z,take_sublist->q6B,foldl_append->q6Y,drop->q66,getElem_inj->q6_,any_eq_true->q7g,zipIdx_cons->q7j,length->q7o,lookup->q7q,countP_map->q7t,filter_map->q7D,zipIdx_nil->q7G,foldl->q7Y,take->q8E,Perm->q8G,all_map->q84,filter->x0s
open Nat renaming le_refl->BA,ne_of_lt->ZN,lt_of_lt_of_le->q0f,zero_le->q0u,zero_add->q0J,le_trans->q0Q,lt_succ_of_lt->q00,sub_self->q1m,le_of_lt->q1t,ne_of_gt->q1B,lt_succ_self->q19,le_add_right->q1_,lt_irrefl->q2a,le_of_ble_eq_true->q2X,le_of_lt_succ->q2Y,lt_of_le_of_lt->q3t,succ_pos->q3D,le_of_not_lt->q3W,le_succ->q38,succ_ne_self->q44,lt_trans->q4_,sub_zero->q5a,le_of_eq->q5f,ble_eq_true_of_le->q5v,reduceAdd->q6g,le_of_succ_le->q6R,lt_of_succ_le->q6S,min_self->q6V,succ.inj->q61,not_lt_zero->q7C,min_eq_left->q7H,mod_lt->q7L,succ_add->q8S,mul_comm->q8T,ble->q9h,not_lt->x04
open Array renaming length_toList->HZ,getElem?_eq_getElem->ZL,getElem?_toList->q0p,getElem?_eq_some_iff->q07,getD_eq_getD_getElem?->q1k,getElem?_eq_none->q1H,toList_setIfInBounds->q10,toList_push->q2u,toList_filterMap->q2H,getElem?_setIfInBounds->q2T,perm_iff_toList_perm->q3b,forIn_toList->q3u,getD->q3x,toList_replicate->q3E,size_map->q3J,mem_toList_iff->q37,getElem_mem_toList->q4Q,size_setIfInBounds->q4R,replicate->q5h,size_push->q5i,Perm.refl->q5o,toList_extract->q5w,toList_append->q5Q,size_extract->q6j,foldl_toList->q6k,size_append->q6A,toList->q8X
open Option renaming map_eq_some_iff->ZM,some.inj->q0A,isSome_iff_exists->q2y,bind_some->q2G,map_some->q3o,getD_none->q31,isSome->q5_,isSome_some->q6p,isSome_map->q6U,join_some->q7f,none->q90,map->x0U
open Bool renaming false_eq_true->q0a,false_ne_true->q0b,and_eq_true->q0k,not_true->q1b,not_false->q2p,not_eq_true->q3f,true_and->q3m,eq_iff_iff->q3r,and_false->q3N,not_eq_true'->q3Q,or_true->q5c,true_or->q5e,false_and->q5C,or_false->q6a,and_true->q6f
open LawfulBEq renaming eq_of_beq->q0m
open Int renaming toNat_natCast->q0x,emod_lt_of_pos->q1s,emod_nonneg->q1R,toNat->q2t,ofNat.inj->q4W,toNat_of_nonneg->q54,natCast_nonneg->q6r,ediv_one->q6O,ofNat->q7e,zero_add->q82,zero_sub->q9i,mul_one->q9W
open PyProof renaming Rows.slot_tuple_getitem->q0I,Rows.callWith_type1->q1C,Rows.F.plain_set_update_loop->q1X,Rows.F.entry_set_update_loop->q2C,Rows.listUpdate_at->q3n,Rows.get?_update_seq->q3s,Rows.boot_isinstance->q4h,Rows.lt_int->q4l,Rows.entry_tuple_getitem->q4m,Rows.args_tuple_getitem->q4y,Rows.subscriptTail_builtinR->q5b,Rows.entry_list_sort->q5p,Rows.slot_list_sort->q5K,Rows.seqEpoch_at->q5L,Rows.tupleItemsOf_->q6d,Rows.plain_sorted->q6W,Rows.entry_sorted->q6X,Rows.listItems_at->q6Z,Rows.IsTup.new->q7d,Rows.kind_sorted->q7s,Rows.tail_any->q7W
open False renaming elim->q1i
open Ne renaming symm->q1L
open ForInStep renaming yield->q1T
open True renaming intro->q29
open Classical renaming byContradiction->q3g
open Or renaming inl->q3C,inr->q65
open Sum renaming inl->q4L,inr->q5O
open StateT renaming run_pure->q7F
open Function renaming comp->q8z
open Prod renaming fst->q94
open PUnit renaming unit->x1a
set_option Elab.async false
set_option linter.all false
set_option maxRecDepth 100000
abbrev aJ:=PySem.Value->PySem.Shared->Prop
local macro_rules | `(tactic| trivial) => `(tactic| first|exact q3C rfl|exact q65 rfl)
abbrev ZJ:=@if_neg
abbrev ZK:=@if_pos
abbrev q0c:=@decide_eq_true
abbrev q0e:=@decide_eq_false
abbrev q0X:=@if_false
abbrev q1f:=@of_decide_eq_true
abbrev q1q:=@or_false
abbrev q1D:=@decide_eq_true_eq
abbrev q17:=@if_true
abbrev q2I:=@of_decide_eq_false
abbrev q4J:=@bne_self_eq_false
abbrev q43:=@beq_self_eq_true
abbrev q5A:=@not_or
theorem el7{α β γ ε:Type}{A B C:α→β→γ→ε→Prop}{R:Prop}(h:∃F ad δ K, A F ad δ K∧B F ad δ K∧C F ad δ K)(k:∀F ad δ K, A F ad δ K→B F ad δ K→C F ad δ K→R): R:=h.elim λF h=>h.elim λa h=>h.elim λd h=>h.elim λK h=>k F a d K h.1 h.2.1 h.2.2
theorem el5{α β:Type}{A B C:α→β→Prop}{R:Prop}(h:∃F ad, A F ad∧B F ad∧C F ad)(k:∀F ad, A F ad→B F ad→C F ad→R): R:=h.elim λF h=>h.elim λa h=>k F a h.1 h.2.1 h.2.2
theorem el3{α:Type}{A B:α→Prop}{R:Prop}(h:∃F, A F∧B F)(k:∀F, A F→B F→R): R:=h.elim λF h=>k F h.1 h.2
set_option compiler.extract_closed false
local macro_rules | `(tactic| symm) => `(tactic| first|lia|omega (config:={}))
local macro_rules | `(⋯) => `(by symm)
abbrev Ay:=PySem.Value->PySem.Shared->Prop
open Option renaming some->U,some->ζ,none->Z,none->η
open Bool renaming true->θ,false->ι
open Decidable renaming decide->J,decide->μ
open PySem renaming Value->B,Value->ν,Addr->O,Addr->ξ,Shared->L,Shared->ο,Str->R,Str->π,wpAny->G,wpAny->ρ,model->g,model->ς,Expr->M,Expr->υ,Stmt->o,Stmt->χ,Program->n,Program->ψ,World->Q,World->ω,Heap->I,Heap->Α,Around->q,Around->Β,Obj->u,Obj->Γ,Scope->S,Scope->Δ,Pos->y,Pos->Ε,Env->t,Env->Ζ
theorem Y{α:Sort u}{a:α}:a=a:=rfl
section
open Lean in
local macro_rules
 |`(tactic|let $d:letDecl)=>do
  let d:=d.raw[0]
  if d.getKind==`Lean.Parser.Term.letPatDecl then
   let p←d[0].rewriteBottomUpM fun s=>match s.getKind with
    |`ident=>`(rcasesPat|$(⟨s⟩):ident)
    |`Lean.Parser.Term.hole=>`(rcasesPat|_)
    |`Lean.Parser.Term.anonymousCtor=>do
     let a←s[1].getSepArgs.mapM fun x=>`(Parser.Tactic.rcasesPatLo|$(⟨x⟩):rcasesPat)
     `(rcasesPat|⟨$a,*⟩)
    |_=>pure s
   pure (mkNode `Lean.Parser.Tactic.obtain #[mkAtom "obtain",mkNullNode #[mkNode `Lean.Parser.Tactic.rcasesPatMed #[mkNullNode #[p]]],mkNullNode (if d[2].getNumArgs==0 then #[] else #[mkAtom ":",d[2][0][1]]),mkNullNode #[mkAtom ":=",mkNullNode #[d[4]]]])
  else `(tactic|have $(⟨mkNode `Lean.Parser.Term.letDecl #[d]⟩):letDecl)
open Lean in
local macro_rules
 |`(fun $bs* => $e)=>do
  if (← getRef)[1][2].getAtomVal != "↦" then Macro.throwUnsupported
  let ps←bs.mapM fun s=>do
   let p←s.raw.rewriteBottomUpM fun s=>match s.getKind with
    |`ident=>`(rcasesPat|$(⟨s⟩):ident)
    |`Lean.Parser.Term.hole=>`(rcasesPat|_)
    |`Lean.Parser.Term.anonymousCtor=>do
     let a←s[1].getSepArgs.mapM fun x=>`(Parser.Tactic.rcasesPatLo|$(⟨x⟩):rcasesPat)
     `(rcasesPat|⟨$a,*⟩)
    |_=>pure s
   `(rintroPat|$(⟨p⟩):rcasesPat)
  `(by rintro $ps*;exact $e)
local macro_rules |`(tactic|calc $e:term)=>`(tactic|refine $e)
local macro_rules |`(tactic|ext $p*)=>`(tactic|rintro $p*)
local macro_rules |`(↑$x)=>`(($x).length)
local macro_rules |`(⇑$x)=>`(($x).heap.objs.size)
local macro_rules |`($x⁻¹)=>`(by simpa using $x)
open Lean in
local macro_rules
 |`(-$x)=>if x.raw.getKind==`Lean.Parser.Term.typeAscription||x.raw.isOfKind `num||(x.raw.isOfKind `Lean.Parser.Term.paren&&!x.raw[1].isOfKind `Lean.Parser.Term.app&&!x.raw[1].isOfKind `«term-_»&&!x.raw[1].isOfKind `«term_×_»&&!x.raw[1].isOfKind `Lean.Parser.Term.arrow) then Macro.throwUnsupported else `(List $x)
open Lean in
local macro_rules
 |`(tactic|erw[$ls,*] $[$l:location]?)=>do
  let a←ls.getElems.mapM fun r=>do
   let t:Term:=⟨r.raw[1]⟩
   if r.raw[0].getNumArgs==0 then `(Parser.Tactic.simpLemma|$t:term) else `(Parser.Tactic.simpLemma|←$t:term)
  `(tactic|simp only[$a,*] $[$l]?)
namespace LJS
open PySem PySem.SetTable
noncomputable def nx(m i:Nat):Nat:=(i*5+1)%(m+1)
noncomputable def nN(m:Nat):Nat->Nat->Nat
 |0,i=>i
 |n+1,i=>nN m n (nx m i)
theorem xE(m:Nat):∀a b i,nN m (a+b) i=nN m b (nN m a i)
 |0,b,i=>by rw[q0J];rfl
 |a+1,b,i=>by rw[q8S];calc xE m a b (nx m i)
noncomputable def zR(m:Nat):Nat->Nat->-Nat
 |0,_=>[]
 |n+1,i=>i::zR m n (nx m i)
theorem Gp(m:Nat):∀{n i e:Nat},e∈zR m n i->∃k,k<n/\nN m k i=e
 |0,_,_,h=>nomatch h
 |n+1,i,e,h=>by
  rcases My.mp h with rfl|h
  .exact⟨0,q3D _,Y⟩
  .let⟨k,hk,e⟩:=Gp m h
   calc⟨k+1,Nat.succ_lt_succ hk,e⟩
def Mk(m:Nat):Prop:=m=7\/m=31\/m=127
noncomputable def uH(m:Nat):Bool:=(q0s (m+1)).all λe=>(zR m (m+1) 0).contains e
theorem Gq(h:Mk m):uH m=θ/\nN m (m+1) 0=0:=by
 rcases h with rfl|rfl|rfl<;>calc⟨by decide +kernel,by decide +kernel⟩
theorem pR(h:Mk m)(he:e<=m):∃k,k<=m/\nN m k 0=e:=by
 let:=q0T.mp (Gq h).1 e (q0G.mpr (Nat.lt_succ_of_le he));let⟨k,hk,q⟩:=Gp m (List.contains_iff_mem.mp this);calc⟨k,q2Y hk,q⟩
theorem NG(h:Mk m)(hi:i<=m)(he:e<=m):∃n,n<=m/\nN m n i=e:=by
 let⟨a,ha,rfl⟩:=pR h hi;let⟨b,hb,rfl⟩:=pR h he
 by_cases Gr:a<=b
 .refine⟨b-a,⋯,?_⟩
  rw[<-xE];congr 1;symm
 .refine⟨m+1-a+b,⋯,?_⟩
  rw[<-xE,show a+(m+1-a+b)=(m+1)+b by symm,xE,(Gq h).2]
noncomputable def lp(m:Nat):Nat->Nat->Nat->Nat×Nat
 |0,i,p=>(i,p)
 |n+1,i,p=>lp m n (leap m i p).1 (leap m i p).2
theorem zS(m:Nat):∀a b i p,lp m (a+b) i p=lp m b (lp m a i p).1 (lp m a i p).2
 |0,b,i,p=>by rw[q0J];rfl
 |a+1,b,i,p=>by rw[q8S];calc zS m a b _ _
theorem Gs(m:Nat):∀n i,lp m n i 0=(nN m n i,0)
 |0,i=>Y
 |n+1,i=>by
  show lp m n (leap m i 0).1 (leap m i 0).2=_;let e:leap m i 0=(nx m i,0):=by unfold leap nx;simp
  rw[e];calc Gs m n _
theorem Gu(m i p:Nat):(leap m i p).1<=m:=q2Y (q7L _ (q3D _))
theorem Gv(m:Nat):∀n i p,(lp m n i p).2=p / 32 ^ n
 |0,i,p=>by simp[lp]
 |n+1,i,p=>by
  show(lp m n (leap m i p).1 (leap m i p).2).2=_;rw[Gv m n];show p / 32 / 32 ^ n=_;rw[Nat.div_div_eq_div_mul,Nat.pow_succ,q8T]
theorem reach(h:Mk m)(hp:p<2 ^ 64)(he:e<=m):∃n,n<=13+m/\(lp m n i p).1=e:=by
 let z:(lp m 13 i p).2=0:=by
  rw[Gv];exact Nat.div_eq_of_lt (q4_ hp (by decide))
 let q:(lp m 13 i p).1<=m:=by
  rw[zS m 12 1];exact Gu _ _ _
 let⟨n,hn,en⟩:=NG h q he;calc⟨13+n,⋯,?_⟩;rw[zS,z,Gs];calc en
theorem Gw(j:Nat):has #[] j=ι:=by unfold has;simp
theorem uI{t:SetTable}(hd:t.dummies = #[])(j:Nat):t.slot j=.empty\/∃i,t.slot j=.live i/\i<t.place.size/\j∈t.place.toList:=by
 unfold slot;rw[hd,Gw];dsimp only
 by_cases c:(t.place[below t.place j]?==U j)=θ
 .right
  rw[ZK c];let e:=q0m c;let⟨hl,ev⟩:=q07.mp e;exact⟨_,Y,hl,by rw[<-ev];calc q4Q hl⟩
 .left
  rw[ZJ c];rfl
theorem NH{t:SetTable}(hd:t.dummies = #[])(hj:j∉t.place.toList):t.slot j=.empty:=by
 rcases uI hd j with h|⟨_,_,_,h⟩
 .exact h
 .calc absurd h hj
theorem Gx:∀{l l':-Nat},l.Nodup->(∀x∈l,x∈l')->↑l<=↑l'
 |[],_,_,_=>q0u _
 |a::l,l',hn,hs=>by
  let ha:a∈l':=hs a (Qk ..);let kQ:=q2Q.mp hn;let ih:=Gx (l:=l) (l':=l'.erase a) kQ.2 λx hx=>(List.mem_erase_of_ne (λz=>kQ.1 (by rw[<-z];calc hx))).mpr (hs x (Qm _ hx));rw[List.length_erase_of_mem ha] at ih;let:=List.length_pos_of_mem ha;rw[HY];symm
theorem NI{l:-Nat}(h:↑l<=m):∃e,e<=m/\e∉l:=by
 calc q3g λno=>?_;let all:∀e,e∈q0s (m+1)->e∈l:=λe he=>q3g λz=>no ⟨e,q2Y (q0G.mp he),z⟩;let:↑(q0s (m+1))<=↑l:=Gx q3V all;rw[q0Z] at this;symm
noncomputable def stateOf(t:SetTable)(i p:Nat):Probe:=⟨i,runEnd t.mask i-i,i,p,Z⟩
theorem Gy(m i:Nat):runEnd m i-i<=9:=by unfold runEnd;split<;>symm
section
variable{t:SetTable}{f:Nat->Int}{h:Int}
theorem qV(F:Nat)(p:Probe):q2R t f h (F+1) p=(match t.slot p.j with
  |.empty=>U (.empty p.j p.dummy)
  |.dummy=>q2R t f h F (t.advance {p with dummy:=U p.j})
  |.live i=>if f i==h then U (.candidate p.j i (t.advance p)) else q2R t f h F (t.advance p)):=rfl
theorem Gz(hd:t.dummies = #[])(hf:∀i,i<t.place.size->f i≠h):∀(k F:Nat)(p:Probe),p.more=k->p.dummy=Z →
  (∃j,q2R t f h (F+k+1) p=U (.empty j Z))\/q2R t f h (F+k+1) p=q2R t f h F (stateOf t (leap t.mask p.i p.perturb).1 (leap t.mask p.i p.perturb).2)
 |0,F,p,hm,uJ=>by
  show(∃j,q2R t f h (F+1) p=_)\/q2R t f h (F+1) p=_;rw[qV];rcases uI hd p.j with e|⟨i,e,hi,_⟩
  .left;rw[e];exact⟨p.j,by rw[uJ]⟩
  .right
   rw[e];show(if(f i==h)=θ then _ else _)=_;rw[ZJ (by ext z;calc hf i hi (q0m z))];unfold advance;rw[hm,ZJ ⋯,uJ];rfl
 |k+1,F,p,hm,uJ=>by
  let ih:=Gz hd hf k F {p with j:=p.j+1,more:=p.more-1} (by show p.more-1=k;symm) uJ;rw[show F+(k+1)+1=(F+k+1)+1 by symm,qV];rcases uI hd p.j with e|⟨i,e,hi,_⟩
  .left;rw[e];exact⟨p.j,by rw[uJ]⟩
  .rw[e]
   show(∃j,(if(f i==h)=θ then _ else _)=_)\/(if(f i==h)=θ then _ else _)=_;rw[ZJ (by ext z;calc hf i hi (q0m z))];let ea:t.advance p={p with j:=p.j+1,more:=p.more-1}:=by unfold advance;rw[ZK ⋯]
   rw[ea];calc ih
theorem GA(hd:t.dummies = #[])(hf:∀i,i<t.place.size->f i≠h):∀(n F i p:Nat),10*(n+1)<=F->t.slot (lp t.mask n i p).1=.empty->∃j,q2R t f h F (stateOf t i p)=U (.empty j Z)
 |0,F,i,p,hF,hs=>by
  let⟨G,rfl⟩:∃G,F=G+1:=⟨F-1,⋯⟩;rw[qV];let e:t.slot (stateOf t i p).j=.empty:=hs;rw[e];exact⟨i,Y⟩
 |n+1,F,i,p,hF,hs=>by
  let hr:=Gy t.mask i;let⟨G,hG⟩:∃G,F=G+(runEnd t.mask i-i)+1:=⟨F-(runEnd t.mask i-i)-1,⋯⟩;let:=Gz (f:=f) (h:=h) hd hf (runEnd t.mask i-i) G (stateOf t i p) Y Y;rw[<-hG] at this;rcases this with h1|h1
  .exact h1
  .rw[h1]
   calc GA hd hf n G _ _ ⋯ hs
theorem zT(h:Int):bits h<2 ^ 64:=by
 unfold bits;let:=q1s h (show(0:Int)<2 ^ 64 by decide);let:=q1R h (show(2 ^ 64:Int)≠0 by decide);symm
theorem GB(hd:t.dummies = #[])(hm:Mk t.mask)(hz:t.place.size<=t.mask)(hf:∀i,i<t.place.size->f i≠h):∃j,t.probe f h (t.probeStart h)=U (.empty j Z):=by
 let⟨e,he,ne⟩:=NI (l:=t.place.toList) (m:=t.mask) (by rw[HZ];calc hz);let⟨n,hn,en⟩:=reach hm (i:=bits h%(t.mask+1)) (zT h) he;calc GA hd hf n _ _ _ (by unfold turns;symm) (by rw[en];calc NH hd ne)
end
section
variable{m:Nat}{owner:Array (Option Nat)}
theorem zU(F i p:Nat):q1N m owner (F+1) i p=(match(q0s (runEnd m i+1-i)).find? λk=>(owner.getD (i+k) (U 0)).isNone with
   |some k=>U (i+k)
   |none=>q1N m owner F (leap m i p).1 (leap m i p).2):=rfl
theorem zV:∀(n F i p:Nat),n+1<=F->(owner.getD (lp m n i p).1 (U 0)).isNone=θ->∃j,q1N m owner F i p=U j/\(owner.getD j (U 0)).isNone=θ
 |0,F,i,p,hF,hs=>by
  let⟨G,rfl⟩:∃G,F=G+1:=⟨F-1,⋯⟩;rw[zU]
  cases hc:(q0s (runEnd m i+1-i)).find? λk=>(owner.getD (i+k) (U 0)).isNone with
  |some k =>
   let:=q3_ hc;exact⟨i+k,Y,this⟩
  |none =>
   let:=q4r.mp hc 0 (q0G.mpr (by unfold runEnd;split<;>symm));exact absurd hs this
 |n+1,F,i,p,hF,hs=>by
  let⟨G,rfl⟩:∃G,F=G+1:=⟨F-1,⋯⟩;rw[zU]
  cases hc:(q0s (runEnd m i+1-i)).find? λk=>(owner.getD (i+k) (U 0)).isNone with
  |some k =>
   let:=q3_ hc;exact⟨i+k,Y,this⟩
  |none=>calc zV n G _ _ ⋯ hs
end
structure Ow(m:Nat)(owner:Array (Option Nat))(k:Nat):Prop where
 size:owner.size=m+1
 cnt:owner.toList.countP q5_=k
 lt:∀x,U x∈owner.toList->x<k
theorem zW:∀{l:-(Option Nat)}{j k:Nat},l[j]?=U Z->(l.set j (U k)).countP q5_=l.countP q5_+1
 |[],j,k,h=>by simp at h
 |x::l,0,k,h=>by
  simp at h;subst h;rw[q02,q18,q18];rfl
 |x::l,j+1,k,h=>by
  simp at h;rw[q03,q18,q18,zW h];symm
theorem getD_none{owner:Array (Option Nat)}(h:(owner.getD j (U 0)).isNone=θ):owner.toList[j]?=U Z:=by
 rw[q1k] at h;rw[q0p]
 cases e:owner[j]? with
 |none=>rw[e] at h;cases h
 |some x =>
  rw[e] at h
  cases x with
  |none=>rfl
  |some y=>cases h
theorem GC{owner:Array (Option Nat)}(O:Ow m owner k)(hk:k<=m):∃e,e<=m/\(owner.getD e (U 0)).isNone=θ:=by
 refine q3g λno=>?_
 let all:∀x∈owner.toList,x.isSome=θ:=by
  ext x hx;let⟨e,he⟩:=q0i.mp hx
  cases x with
  |some y=>rfl
  |none =>
   let hl:=(tU.mp he).1;rw[HZ,O.size] at hl;calc absurd ⟨e,q2Y hl,?_⟩ no;rw[q1k,<-q0p,he];rfl
 let:=q5q.mpr all;rw[O.cnt,HZ,O.size] at this;symm
theorem NJ{owner:Array (Option Nat)}(hm:Mk m)(O:Ow m owner k)(hk:k<=m)(h:Int):∃j,q1N m owner (turns m) (bits h%(m+1)) (bits h)=U j/\Ow m (owner.setIfInBounds j (U k)) (k+1):=by
 let⟨e,he,hn⟩:=GC O hk;let⟨n,kQ,en⟩:=reach hm (i:=bits h%(m+1)) (zT h) he;let⟨j,ej,hj⟩:=zV (m:=m) (owner:=owner) n (turns m) (bits h%(m+1)) (bits h) (by unfold turns;symm) (by rw[en];calc hn);refine⟨j,ej,by rw[q4R];calc O.size,?_,λx hx=>?_⟩
 .rw[q10,zW (getD_none hj),O.cnt]
 .rw[q10] at hx
  rcases q4D hx with h|h
  .exact q00 (O.lt x h)
  .cases h;calc q19 _
theorem GF(m:Nat):Ow m (q5h (m+1) Z) 0:=by
 refine⟨by simp,?_,λx hx=>?_⟩
 .rw[q3E]
  exact List.countP_eq_zero.mpr λx hx=>by rw[q3j hx];decide
 .rw[q3E] at hx
  cases q3j hx
noncomputable def hZ(m:Nat)(owner:Array (Option Nat)):-(Nat×Nat):=(q0s (m+1)).filterMap λj=>(owner.getD j Z).map (j,·)
theorem zX(O:Ow m owner k):↑(hZ m owner)=k:=by
 unfold hZ;rw[q3T,<-O.cnt]
 let e:owner.toList=(q0s (m+1)).map λj=>owner.getD j Z:=by
  calc q11 λi=>?_;rw[q0p,Qi]
  by_cases hi:i<m+1
  .rw[q1a hi,q3o,ZL (by rw[O.size];calc hi),q1k,ZL (by rw[O.size];calc hi)];rfl
  .rw[q1H (by rw[O.size];symm),q0W (by rw[q0Z];symm)];rfl
 rw[e,q7t];calc q6z λj _=>?_;simp
theorem GG{α:Type}{es:Array α}{order:Array Nat}(h:∀k∈order.toList,k<es.size):(order.filterMap (es[·]?)).size=order.size/\∀e∈(order.filterMap (es[·]?)).toList,e∈es.toList:=by
 constructor
 .rw[<-HZ,q2H,q3T,q5q.mpr λk hk=>?_,HZ]
  rw[ZL (h k hk)];rfl
 .ext e he
  rw[q2H] at he;let⟨k,_,q⟩:=q2j.mp he;calc q0i.mpr ⟨k,by rw[q0p];calc q⟩
theorem zY(t:SetTable)(hd:t.dummies = #[])(j:Nat):(t.put j).1.dummies = #[]/\(t.put j).1.mask=t.mask/\(t.put j).1.place.size=t.place.size+1/\(t.put j).1.led=t.led/\(t.put j).1.plain=t.plain/\(t.put j).1.moves=t.moves/\(t.put j).1.finger=t.finger:=by
 unfold put;dsimp only;rw[hd,Gw];calc⟨Y,Y,?_,Y,Y,Y,Y⟩;unfold insertAt;erw[q6A,q5i,q6j];symm
theorem zZ{α:Type}(xs:Array α)(p:Nat)(x:α):(insertAt xs p x).size=xs.size+1:=by
 unfold insertAt;erw[q6A,q5i,q6j];symm
end LJS
namespace LJS
open PySem PySem.SetTable PyProof.Rows
structure gb(t:SetTable)(es:Array (Int×B))(hs:-Int):Prop where
 mK:t.dummies = #[]
 nP:Mk t.mask
 h9:t.place.size=es.size
 num:es.size=↑hs
 h_:t.tooFull=ι
 ins:∀e∈es.toList,e.1∈hs
def kR(h:I)(S:O)(hs:-Int):Prop:=∃o es ep t,h.get? S=U o/\o.ExactSet/\o.data=.set es ep t/\gb t es hs
section
variable{t:SetTable}{es:Array (Int×B)}{hs:-Int}
theorem gb.fill(T:gb t es hs):t.fill=es.size:=by
 unfold q2x;rw[T.h9,T.mK];rfl
theorem gb.lt(T:gb t es hs):es.size*5<t.mask*3:=by
 let:=T.h_;unfold tooFull at this;rw[T.fill] at this;let:=q2I this;symm
theorem gb.fits(T:gb t es hs):t.fits es.size=θ:=by
 let:=T.lt;unfold q33;rw[T.fill,T.h9];simp;symm
theorem gb.uK(T:gb t es hs):t.gaveWay=ι:=by
 unfold SetTable.gaveWay;rcases T.nP with h|h|h<;>rw[h]<;>rfl
end
theorem GH:sizeAbove (grown 5)-1=31:=by decide +kernel
theorem GI:sizeAbove (grown 19)-1=127:=by decide +kernel
section
variable{prog:n}{w:Q}{A:q}{E:aJ}{s:L}
end
end LJS
namespace LJS
open PySem PySem.SetTable
def Up(xs:Array Nat):Prop:=xs.toList.Pairwise (· < ·)
theorem Up.lt{xs:Array Nat}(u:Up xs){i k:Nat}(NK:i<k)(hk:k<xs.size):xs[i]'⋯<xs[k]:=by
 let:=q2s.mp u i k (by rw[HZ];symm) (by rw[HZ];calc hk) NK;simpa using this
theorem z6{xs:Array Nat}(u:Up xs)(j:Nat):∀(fuel lo hi:Nat),hi<=xs.size->lo<=hi->hi-lo<=fuel->(∀i,(h:i<xs.size)->i<lo->xs[i]<j)->(∀i,(h:i<xs.size)->hi<=i->j<=xs[i]) →
  below.go xs j fuel lo hi<=xs.size/\(∀i,(h:i<xs.size)->i<below.go xs j fuel lo hi->xs[i]<j)/\(∀i,(h:i<xs.size)->below.go xs j fuel lo hi<=i->j<=xs[i])
 |0,lo,hi,h1,h2,h3,a,b=>by
  let:lo=hi:=by symm
  subst this;exact⟨h1,a,b⟩
 |fuel+1,lo,hi,h1,h2,h3,a,b=>by
  unfold below.go
  by_cases c:lo<hi
  .rw[ZK c]
   let hm:(lo+hi) / 2<xs.size:=by symm
   let em:xs.getD ((lo+hi) / 2) j=xs[(lo+hi) / 2]:=by rw[q1k,ZL hm];rfl
   erw[em]
   by_cases d:xs[(lo+hi) / 2]<j
   .rw[ZK d]
    refine z6 u j fuel _ hi h1 ⋯ ⋯ (λi bJ hl=>?_) b
    by_cases e:i<(lo+hi) / 2
    .exact q4_ (u.lt e hm) d
    .let:i=(lo+hi) / 2:=by symm
     subst this;exact d
   .rw[ZJ d]
    refine z6 u j fuel lo _ ⋯ ⋯ ⋯ a λi bJ hl=>?_
    by_cases e:(lo+hi) / 2<i
    .exact q1t (q3t (q3W d) (u.lt e bJ))
    .let:i=(lo+hi) / 2:=by symm
     subst this;exact q3W d
  .rw[ZJ c]
   let:lo=hi:=by symm
   subst this;calc⟨h1,a,b⟩
theorem tF{xs:Array Nat}(u:Up xs)(j:Nat):below xs j<=xs.size/\(∀i,(h:i<xs.size)->i<below xs j->xs[i]<j)/\(∀i,(h:i<xs.size)->below xs j<=i->j<=xs[i]) :=
 z6 u j xs.size 0 xs.size (BA _) (q0u _) ⋯ (λi _ h=>by symm) (λi h h'=>by symm)
theorem NL{xs:Array Nat}(u:Up xs){i:Nat}(hi:i<xs.size):below xs (xs[i]+1)=i+1:=by
 let⟨h0,h1,h2⟩:=tF u (xs[i]+1)
 let a:i<below xs (xs[i]+1):=by
  calc Nat.lt_of_not_le λz=>?_;let:=h2 i hi z;symm
 let b:below xs (xs[i]+1)<=i+1:=by
  calc q3W λz=>?_;let hk:i+1<xs.size:=by symm
  let:=h1 (i+1) hk z;let:=u.lt (k:=i+1) (q19 i) hk;symm
 symm
theorem NM{xs:Array Nat}(u:Up xs):below xs 0=0:=by
 let⟨h0,h1,h2⟩:=tF u 0;calc Nat.eq_zero_of_not_pos λz=>?_;let:=h1 0 ⋯ z;symm
theorem GJ{t:SetTable}(u:Up t.place){j:Nat}(hj:j∉t.place.toList):Up (t.put j).1.place:=by
 let⟨h0,h1,h2⟩:=tF u j;show Up (insertAt t.place (below t.place j) j);unfold Up insertAt;generalize below t.place j=p at h0 h1 h2
 let eL:(((t.place.extract 0 p).push j)++t.place.extract p t.place.size).toList=t.place.toList.take p++([j]++t.place.toList.drop p):=by
  erw[q5Q,q2u,q5w,q4E,q3F,q5a,q1K];let e2:q8E (t.place.size-p) (q66 p t.place.toList)=q66 p t.place.toList:=q04 (by rw[q06,HZ];calc BA _);rw[e2]
 rw[eL]
 let lo:∀x∈t.place.toList.take p,x<j:=by
  ext x hx;let⟨i,hi,e⟩:=q1V.mp hx;rw[q0y,HZ] at hi;let:=h1 i ⋯ ⋯;rw[<-e];simpa using this
 let bJ:∀x∈t.place.toList.drop p,j<x:=by
  ext x hx;let⟨i,hi,e⟩:=q1V.mp hx;rw[q06,HZ] at hi;let:=h2 (p+i) ⋯ ⋯;let z9:j<=x:=by rw[<-e];simpa using this
  calc Nat.lt_of_le_of_ne z9 λz=>hj ?_;rw[z];exact q22 hx
 refine List.pairwise_append.mpr ⟨u.sublist (q6B _ _),?_,λa ha b hb=>?_⟩
 .exact q1U.mpr ⟨bJ,u.sublist (List.drop_sublist _ _)⟩
 .rcases My.mp hb with rfl|hb
  .exact lo a ha
  .calc q4_ (lo a ha) (bJ b hb)
theorem NN(n:Nat)(f:Nat->Option Nat):(((q0s n).filterMap λj=>(f j).map λx=>(j,x)).map (·.1)).Pairwise (· < ·):=by
 rw[q3G];calc List.Pairwise.filterMap _ (λa a' cq b hb b' hb'=>?_) (List.pairwise_lt_range (n:=n));let⟨x,_,rfl⟩:=ZM.mp hb;let⟨y,_,rfl⟩:=ZM.mp hb';calc cq
theorem GK(m:Nat)(owner:Array (Option Nat)):((hZ m owner).map (·.1)).Pairwise (· < ·):=NN (m+1) λj=>owner.getD j Z
theorem GL{α:Type}(next:Nat->Nat):∀(fuel k:Nat)(left:-α)(out:Array α),↑left<=fuel->(pickOrder.go next fuel k left out).toList.Perm (out.toList++left)
 |0,k,left,out,h=>by
  let:left=[]:=q2c.mp ⋯;subst this;rw[q2h];exact q2B _
 |fuel+1,k,left,out,h=>by
  unfold pickOrder.go
  cases left with
  |nil=>simp
  |cons a l =>
   let cq:next k%↑(a::l)<↑(a::l):=q7L _ (by rw[HY];symm);rw[rN cq];refine(GL next fuel (k+1) _ _ ?_).trans ?_
   .rw[q23 cq];symm
   .rw[q2u,q1K]
    calc q3U _ ?_;exact(je cq).symm
where
 je {α:Type}:∀{l:-α}{j:Nat}(h:j<↑l),q8G l (l[j]::l.eraseIdx j)
  |[],_,h=>by simp at h
  |a::l,0,_=>q2B _
  |a::l,j+1,h=>(q5x a (je (l:=l) (j:=j) h⁻¹)).trans (q24 _ _ _)
theorem NO{α:Type}(next:Nat->Nat)(xs:Array α):(pickOrder next xs).toList.Perm xs.toList:=by
 let:=GL next xs.size 0 xs.toList #[] (by rw[HZ];calc BA _);unfold pickOrder;simpa using this
theorem xF{t:SetTable}{f:Nat->Int}{h:Int}:∀{fuel:Nat}{p:Probe}{j:Nat}{d:Option Nat},q2R t f h fuel p=U (.empty j d)->t.slot j=.empty
 |0,_,_,_,e=>nomatch e
 |fuel+1,p,j,d,e=>by
  rw[qV] at e
  cases q:t.slot p.j with
  |empty =>
   rw[q] at e;cases e
   exact q
  |dummy =>
   rw[q] at e;exact xF e
  |live i =>
   rw[q] at e
   by_cases c:(f i==h)=θ
   .erw[c,q17] at e;cases e
   .erw[c,q0X] at e;calc xF e
theorem GN{t:SetTable}(u:Up t.place){j:Nat}(e:t.slot j=.empty):j∉t.place.toList:=by
 ext hm;let⟨i,hi,ei⟩:=q1V.mp hm;let bJ:i<t.place.size:=by rw[<-HZ];exact hi
 let z_:t.place[i]=j:=by simpa using ei
 let⟨h0,h1,h2⟩:=tF u j;let a:¬ i<below t.place j:=λz=>by let:=h1 i bJ z;symm
 let b:¬ below t.place j<i:=λz=>by
  let:=h2 (below t.place j) ⋯ (BA _);let:=u.lt z bJ;symm
 let eb:below t.place j=i:=by symm
 unfold slot at e;rw[eb] at e;let:(t.place[i]?==U j)=θ:=by rw[ZL bJ,z_];simp
 erw[this,q17] at e;cases e
def mL(owner:Array (Option Nat))(k:Nat):Prop:=(owner.toList.filterMap id).Perm (q0s k)
theorem Aa:∀{l:-(Option Nat)}{j k:Nat},l[j]?=U Z->((l.set j (U k)).filterMap id).Perm (k::l.filterMap id)
 |[],j,k,h=>by simp at h
 |x::l,0,k,h=>by
  simp at h;subst h;exact q2B _
 |x::l,j+1,k,h=>by
  simp at h
  cases x with
  |none =>
   show((l.set j (U k)).filterMap id).Perm (k::l.filterMap id);exact Aa h
  |some y =>
   calc(q5x y (Aa h)).trans (q24 _ _ _)
theorem NP{owner:Array (Option Nat)}{j k:Nat}(P:mL owner k)(h:owner.toList[j]?=U Z):mL (owner.setIfInBounds j (U k)) (k+1):=by
 unfold mL at P ⊢;rw[q10,List.range_succ];calc(Aa h).trans ((q5x k P).trans (List.perm_append_singleton k _).symm)
theorem NQ{m:Nat}{owner:Array (Option Nat)}{k:Nat}(hm:Mk m)(O:Ow m owner k)(Pm:mL owner k)(hk:k<=m)(h:Int):∃j,q1N m owner (turns m) (bits h%(m+1)) (bits h)=U j/\Ow m (owner.setIfInBounds j (U k)) (k+1)/\mL (owner.setIfInBounds j (U k)) (k+1):=by
 let⟨e,he,hn⟩:=GC O hk;let⟨n,kQ,en⟩:=reach hm (i:=bits h%(m+1)) (zT h) he;let⟨j,ej,hj⟩:=zV (m:=m) (owner:=owner) n (turns m) (bits h%(m+1)) (bits h) (by unfold turns;symm) (by rw[en];calc hn);refine⟨j,ej,⟨by rw[q4R];calc O.size,?_,λx hx=>?_⟩,NP Pm (getD_none hj)⟩
 .rw[q10,zW (getD_none hj),O.cnt]
 .rw[q10] at hx
  rcases q4D hx with h|h
  .exact q00 (O.lt x h)
  .cases h;calc q19 _
theorem GP{m:Nat}(hm:Mk m):∀(hs:-Int)(owner:Array (Option Nat))(k:Nat),Ow m owner k->mL owner k->k+↑hs<=m+1 →
  ∃aQ,(hs.foldl (init:=U (owner,k)) λacc h=>do
   let(owner,k) <- acc
   let j <- q1N m owner (turns m) (bits h%(m+1)) (bits h)
   pure (owner.setIfInBounds j (U k),k+1))=U (aQ,k+↑hs)/\Ow m aQ (k+↑hs)/\mL aQ (k+↑hs)
 |[],owner,k,O,Pm,_=>⟨owner,Y,O,Pm⟩
 |h::hs,owner,k,O,Pm,hl=>by
  rw[HY] at hl ⊢;let⟨j,ej,O',P'⟩:=NQ hm O Pm ⋯ h;let⟨o2,e2,O2,P2⟩:=GP hm hs _ (k+1) O' P' ⋯;calc⟨o2,?_,by rw[show k+(↑hs+1)=k+1+↑hs by symm];calc⟨O2,P2⟩⟩;rw[q5j,show k+(↑hs+1)=k+1+↑hs by symm,<-e2];congr 1;show(do let j <- q1N m owner (turns m) (bits h%(m+1)) (bits h);pure (owner.setIfInBounds j (U k),k+1))=_;rw[ej];rfl
theorem NR(m:Nat):mL (q5h (m+1) Z) 0:=by
 unfold mL;rw[q3E,List.filterMap_eq_nil_iff.mpr λx hx=>by rw[q3j hx];rfl];calc q2B _
theorem GQ{m:Nat}(hm:Mk m)(hs:Array Int)(hz:hs.size<=m+1):∃owner,layClean m hs=U owner/\Ow m owner hs.size/\mL owner hs.size:=by
 let⟨o,e,O,Pm⟩:=GP hm hs.toList _ 0 (GF m) (NR m) (by rw[HZ];symm);rw[q0J,HZ] at O Pm;calc⟨o,?_,O,Pm⟩;unfold layClean;rw[<-q6k,e];rfl
theorem GS{m:Nat}{owner:Array (Option Nat)}(hs:owner.size=m+1):(hZ m owner).map (·.2)=owner.toList.filterMap id:=by
 unfold hZ;rw[List.map_filterMap]
 let e:owner.toList=(q0s (m+1)).map λj=>owner.getD j Z:=by
  calc q11 λi=>?_;rw[q0p,Qi]
  by_cases hi:i<m+1
  .rw[q1a hi,q3o,ZL (by rw[hs];calc hi),q1k,ZL (by rw[hs];calc hi)];rfl
  .rw[q1H (by rw[hs];symm),q0W (by rw[q0Z];symm)];rfl
 rw[e,q4s];congr 1;funext j;show x0U (λx:Nat×Nat=>x.2) (x0U (λx=>(j,x)) (owner.getD j Z))=owner.getD j Z;cases owner.getD j Z<;>rfl
theorem NS{m:Nat}(hm:Mk m)(t:SetTable)(hs:Array Int)(wanted:Nat)(hw:sizeAbove wanted-1=m)(hz:hs.size<=m+1):
  ∃t' order,t.relaid hs wanted=U (t',order)/\t'.mask=m/\t'.dummies = #[]/\t'.place.size=hs.size/\t'.led=t.led/\t'.plain=t.plain/\Up t'.place/\order.toList.Perm (q0s hs.size):=by
 let⟨owner,e,O,Pm⟩:=GQ hm hs hz;refine⟨{mask:=m,place:=((hZ m owner).map (·.1)).toArray,dummies := #[],finger:=t.finger,led:=t.led,moves:=t.movedTo m,plain:=t.plain},((hZ m owner).map (·.2)).toArray,?_,Y,Y,?_,Y,Y,?_,?_⟩
 .unfold relaid laid
  rw[hw,e];rfl
 .rw[HW,rO,zX O]
 .unfold Up
  exact GK m owner
 .show ((hZ m owner).map (·.2)).Perm _
  rw[GS O.size];calc Pm
theorem NT{order:Array Nat}{n:Nat}(h:order.toList.Perm (q0s n)):coversAll order n=θ:=by
 calc List.isPerm_iff.mpr h
end LJS
namespace LJS
open PySem PySem.SetTable PyProof.Rows
noncomputable def keyOf(e:Int×B):Int:=match e.2 with
 |.int k _=>k
 |_=>0
structure cC(t:SetTable)(es:Array (Int×B))(led:Bool)(ks:-Int):Prop where
 mK:t.dummies = #[]
 nP:Mk t.mask
 h9:t.place.size=es.size
 h_:t.tooFull=ι
 up:Up t.place
 uL:t.plain=θ
 Ab:t.led=led
 xG:∀e∈es.toList,∃k tk,e=(hashInt k,q1l k tk)
 keys:(es.toList.map keyOf).Perm ks
 nQ:ks.Nodup
def eQ(h:I)(S:O)(led:Bool)(ks:-Int):Prop:=∃o es ep t,h.get? S=U o/\o.ExactSet/\o.data=.set es ep t/\cC t es led ks
section
variable{t:SetTable}{es:Array (Int×B)}{led:Bool}{ks:-Int}
theorem cC.num(T:cC t es led ks):es.size=↑ks:=by rw[<-T.keys.length_eq,rO,HZ]
theorem cC.fill(T:cC t es led ks):t.fill=es.size:=by unfold q2x;rw[T.h9,T.mK];rfl
theorem cC.lt(T:cC t es led ks):es.size*5<t.mask*3:=by
 let:=T.h_;unfold tooFull at this;rw[T.fill] at this;let:=q2I this;symm
theorem cC.fits(T:cC t es led ks):t.fits es.size=θ:=by
 let:=T.lt;unfold q33;rw[T.fill,T.h9];simp;symm
theorem cC.elems{prog:n}{w:Q}(T:cC t es led ks):ElemsOf (intKind prog w) es.toList:=λe he=>by
 let⟨k,tk,rfl⟩:=T.xG e he;calc⟨⟨k,q3X ..,Y⟩,Y⟩
theorem cC.lay(T:cC t es led ks)(k:Int)(tk:Tok):∃j,j∉t.place.toList/\layNew t es (hashInt k) (.int k tk)=(insertAt es (t.put j).2 (hashInt k,.int k tk),(t.put j).1,ι,ι):=by
 let lt:=T.lt;let⟨j,ej⟩:=GB (t:=t) (f:=λ_=>hashInt k+1) (h:=hashInt k) T.mK T.nP (by rw[T.h9];symm) (λi _ z=>by symm);let hs:t.slot j=.empty:=xF ej;let⟨p1,p2,p3,_⟩:=zY t T.mK j;refine⟨j,GN T.up hs,?_⟩
 let ff:(t.put j).1.fits (insertAt es (t.put j).2 (hashInt k,q1l k tk)).size=θ:=by
  unfold q33 q2x;rw[p1,p2,p3,zZ,T.h9];simp;symm
 unfold layNew freeSlot;rw[ej];show(insertAt es (t.put j).2 (hashInt k,q1l k tk),(t.put j).1.orStandIn (insertAt es (t.put j).2 (hashInt k,q1l k tk)).size,ι,!(t.put j).1.fits (insertAt es (t.put j).2 (hashInt k,q1l k tk)).size)=_;unfold SetTable.orStandIn;rw[ff,ZK Y];rfl
end
section
variable{prog:n}{w:Q}{A:q}{E:aJ}{s:L}
theorem add_int{S:O}{k:Int}{tk:Tok}{led:Bool}{ks:-Int}{Q:Bool->L->Prop}(hS:eQ s.heap S led ks)(hl:↑ks<60)
  (fin:∀(b:Bool) h',q2J S s.heap h'->eQ h' S led (if k∈ks then ks else ks++[k])->Q b {s with heap:=h'}):G (g prog w) A (setAddHashed S (.int k tk) (hashInt k)) Q E s:=by
 let⟨o,es,ep,t,ho,hex,hd,T⟩:=hS;let hb:es.size<scanBound:=by rw[T.num];unfold scanBound;symm
 let el:=T.elems (prog:=prog) (w:=w);show G _ _ (setAddHashedIn S (.int k tk) (hashInt k) (99999+1)) _ _ _;calc oj (q1A ho hd T.fits ?_);dsimp only;rw[byScan_of (knd:=intKind prog w) Y hb el];calc oj ?_;calc oj (q3Y ?_);refine oj (wpAny_setScan_of (knd:=intKind prog w) (k:=k) (q3X ..) ho hd T.fits el ?_)
 let GU:∀e∈es.toList,(intKind prog w).is k e.2=J (k=keyOf e):=λe he=>by
  let⟨k',mM,rfl⟩:=T.xG e he;exact KeyKind.is_eq_decide (q3X ..) k
 cases hr:es.toList.findIdx? (λe=>(intKind prog w).is k e.2) with
 |some j =>
  let⟨hj,GV,_⟩:=List.findIdx?_eq_some_iff_getElem.mp hr;let hm:es.toList[j]∈es.toList:=q1W hj;rw[GU _ hm] at GV;let hk:k∈ks:=T.keys.mem_iff.mp (by rw[q1f GV];calc q0t.mpr ⟨_,hm,Y⟩);calc vw (vw ?_);let e:s={s with heap:=s.heap}:=by cases s;rfl
  exact fin ι s.heap (q6C S s.heap) (by rw[ZK hk];calc⟨o,es,ep,t,ho,hex,hd,T⟩)
 |none =>
  let hk:k∉ks:=λz=>by
   let⟨e,he,ek⟩:=q0t.mp (T.keys.mem_iff.mpr z);let:=List.findIdx?_eq_none_iff.mp hr e he;rw[GU e he,<-ek,q0c Y] at this;cases this
  let⟨j,nj,ej⟩:=T.lay k tk;rw[ej];rw[ZJ hk] at fin;let⟨p1,p2,p3,p4,p5,p6,p7⟩:=zY t T.mK j;let up1:=GJ T.up nj;let g6:=zZ es (t.put j).2 (hashInt k,q1l k tk)
  let mO:(insertAt es (t.put j).2 (hashInt k,q1l k tk)).toList.Perm (es.toList++[(hashInt k,q1l k tk)]):=by
   let:=q3H es (t.put j).2 (hashInt k,q1l k tk);rw[q2u] at this;exact this
  let lt:=T.lt;let NU:es.size<60:=by rw[T.num];exact hl
  generalize(t.put j).1=t2 at p1 p2 p3 p4 p5 up1 ⊢;generalize insertAt es (t.put j).2 (hashInt k,q1l k tk)=bG at g6 mO ⊢
  let ints2:∀e∈bG.toList,∃k tk,e=(hashInt k,q1l k tk):=λe he=>by
   rcases q0U.mp (mO.mem_iff.mp he) with q|q
   .exact T.xG e q
   .exact⟨k,tk,q0l.mp q⟩
  let pS:(bG.toList.map keyOf).Perm (ks++[k]):=by
   calc(mO.map keyOf).trans ?_;rw[q0K];exact List.Perm.append_right _ T.keys
  let kU:(ks++[k]).Nodup:=q1p.mpr ⟨T.nQ,by simp,λa ha b hb z=>hk (by rw[<-q0l.mp hb,<-z];calc ha)⟩;let Ac:t2.place.size=bG.size:=by rw[p3,T.h9,g6]
  let fl:t2.fill=es.size+1:=by unfold q2x;rw[p1,p3,T.h9];rfl
  calc oj (vw ?_);dsimp only;rw[p5,T.uL,ZK Y];calc oj ?_;rw[hashByValue_scannable 8 Y];calc vw ?_;rw[ZK (show plainKind (q1l k tk)=θ from Y)];refine oj (q3I ho hd ?_ (by rw[g6,q09];symm))
  let fL:(s.heap.update S (q2K bG t2)).get? S=U {o with data:=.set bG (ep+1) t2}:=by
   let:=q0E (q2K bG t2) ho (by rw[q4q bG t2 hd];rfl);rw[q4q bG t2 hd] at this;exact this
  by_cases tf:t2.tooFull=θ
  .rw[ZK (by rw[tf];rfl)]
   let tG:t.mask*3<=(es.size+1)*5:=by
    unfold tooFull at tf;let:=q1f tf;symm
   let⟨m,hm,hw,hsz⟩:∃m,Mk m/\sizeAbove (grown bG.size)-1=m/\(es.size+1)*5<m*3:=by
    rw[g6];rcases T.nP with e|e|e
    .rw[e] at lt tG
     let:es.size+1=5:=by symm
     rw[this];exact⟨31,.inr (.inl Y),GH,⋯⟩
    .rw[e] at lt tG
     let:es.size+1=19:=by symm
     rw[this];exact⟨127,.inr (.inr Y),GI,⋯⟩
    symm
   let⟨t3,order,er,r1,r2,r3,r4,r5,r6,r7⟩:=NS hm t2 (bG.map (·.1)) (grown bG.size) hw (by rw[q3J,g6];symm);rw[q3J] at r3 r7;let uM:=relayAll_perm t2 bG (grown bG.size)
   let e3:relayAll t2 bG (grown bG.size)=(order.filterMap (bG[·]?),t3,ι):=by
    let NV:(order.filterMap (bG[·]?)).size=bG.size:=by
     let:=GG (es:=bG) (order:=order) λx hx=>q0G.mp (r7.mem_iff.mp hx);rw[this.1,<-HZ,r7.length_eq,q0Z]
    let ff:t3.fits (order.filterMap (bG[·]?)).size=θ:=by
     unfold q33 q2x;rw[NV,r2,r3,r1,g6];simp;symm
    unfold relayAll;rw[er];show(if(coversAll order bG.size&&t3.fits (order.filterMap (bG[·]?)).size)=θ then _ else _)=_;rw[NT r7,ff];rfl
   rw[e3] at uM ⊢;calc oj (vw ?_);generalize order.filterMap (bG[·]?)=xH at uM ⊢;let GW:xH.size=bG.size:=by rw[<-HZ,uM.length_eq,HZ]
   refine oj (q3I fL Y ?_ (by rw[GW,g6,q09];symm))
   let fg:((s.heap.update S (q2K bG t2)).update S (q2K xH t3)).get? S=U {o with data:=.set xH (ep+1+1) t3}:=by
    let:=q0E (q2K xH t3) fL (by rw[q4q _ t3 Y];rfl);exact this
   calc vw (vw (fin θ _ ((q0L ..).trans (q0L ..)) ⟨_,_,_,_,fg,hex,Y,r2,by rw[r1];calc hm,by rw[r3,GW],?_,r6,by rw[r5,p5];calc T.uL,by rw[r4,p4];calc T.Ab,λe he=>ints2 e (uM.mem_iff.mp he),(uM.map keyOf).trans pS,kU⟩));unfold tooFull q2x;rw[r2,r3,r1,g6];simp;symm
  .let uN:t2.tooFull=ι:=by cases q:t2.tooFull<;>simp_all
   rw[ZJ (by rw[uN];decide)];calc vw (vw (fin θ _ (q0L ..) ⟨_,_,_,_,fL,hex,Y,p1,by rw[p2];calc T.nP,Ac,uN,up1,by rw[p5];calc T.uL,by rw[p4];calc T.Ab,ints2,pS,kU⟩))
theorem GX{ks:-Int}:∀{vs:-B},ItemsAre (intKind prog w) ks vs->∀v∈vs,∃i t,v=.int i t:=by
 induction ks with
 |nil=>ext vs h v hv;cases h;cases hv
 |cons k ks ih =>
  ext vs h v hv
  cases h with
  |cons h1 h2 =>
   rcases My.mp hv with rfl|hv
   .let⟨t,e⟩:=q6D (k:=k) (v:=v) (by first|exact h1|simpa[intKind] using h1)
    exact⟨_,_,e⟩
   .calc ih h2 v hv
theorem NW{ks:-Int}{a:O}{Q:Bool->L->Prop}(hk:IsTupleKey (intKind prog w) s.heap ks a)(h:∀b,Q b s):G (g prog w) A (hashByValue 8 (.ref a)) Q E s:=by
 let hT:=hk.typeIs;let⟨o,ah,n,ho,_,hd,hi⟩:=hk;show G _ _ (hashByValue (7+1) (.ref a)) _ _ _;unfold hashByValue;calc oj (q5k hT F.slot_tuple_hash.lookup ?_);show G _ _ (seqItems? (.ref a) >>= _) _ _ s;calc oj (q12 ho hd ?_);calc oj ?_;show G _ _ (forIn ah _ _) _ _ s;rw[<-q3u];refine q3Z _ (λrest _ s'=>s'=s/\∀v∈rest,∃i t,v=q1l i t) _ ?_ ?_ _ _ ⟨Y,GX hi⟩
 .ext v rest r s' ⟨rfl,gf⟩
  let⟨i,t,rfl⟩:=gf v Qk;let e:hashByValue 7 (.int i t)=pure θ:=by unfold hashByValue;rfl
  rw[e];calc oj (vw ?_);erw[q1b,q0a,q0X];exact vw ⟨Y,λu hu=>gf u (Qm _ hu)⟩
 .ext ⟨r1,r2⟩ s' ⟨rfl,_⟩
  cases r1 with
  |none=>exact vw (h _)
  |some b=>calc vw (h _)
theorem Ad{h h':I}{ks:-Int}{a:O}(x:IsTupleKey (intKind prog w) h ks a)(k:∀o,h.get? a=U o->h'.get? a=U o):IsTupleKey (intKind prog w) h' ks a:=by
 let⟨o,ah,n,ho,r⟩:=x;calc⟨o,ah,n,k o ho,r⟩
noncomputable abbrev hT(prog:n)(w:Q)(ks:-Int):Int:=tupleKeyHash (intKind prog w) ks
theorem NX{h h':I}{S:O}{hs:-Int}(x:kR h S hs)(k:∀o,h.get? S=U o->h'.get? S=U o):kR h' S hs:=by
 let⟨o,es,ep,t,ho,r⟩:=x;calc⟨o,es,ep,t,k o ho,r⟩
end
section
variable{prog:ψ}{w:Q}{A:q}{R:Result->L->Prop}{I S:O}{fp wr:-O}{G:Array GenState->Array GenState->Prop}{n:Nat}{P:Nat->B->Prop}{St:Nat->L->Prop}
end
theorem Ae{h h':I}{S:O}{led:Bool}{ks:-Int}(x:eQ h S led ks)(k:∀o,h.get? S=U o->h'.get? S=U o):eQ h' S led ks:=by
 let⟨o,es,ep,t,ho,r⟩:=x;calc⟨o,es,ep,t,k o ho,r⟩
noncomputable def once(ks:-Int)(n:Int):-Int:=if n∈ks then ks else ks++[n]
noncomputable def pT(ns:-Int):Nat->-Int
 |0=>[]
 |i+1=>once (pT ns i) (ns.getD i 0)
theorem Af(ns:-Int):∀i,↑(pT ns i)<=i
 |0=>BA _
 |i+1=>by
  let:=Af ns i;show↑(once (pT ns i) (ns.getD i 0))<=i+1;unfold once;split
  .omega
  .rw[Ql,q0F];symm
section
variable{prog:ψ}{w:Q}{A:q}{R:Result->L->Prop}{I S:O}{fp wr:-O}{G:Array GenState->Array GenState->Prop}{n:Nat}{P:Nat->B->Prop}{St:Nat->L->Prop}
theorem NY(W:WalksS prog w A.in1 I fp wr G n P St)(out:S∉fp){led:Bool}(ns:-Int)(isInt:∀i v,P i v->∃t,v=.int (ns.getD i 0) t)(kr:n<=40):
  ∀(left i:Nat)(s:L),i+left=n->St i s->eQ s.heap S led (pT ns i)->(∀s',Moved (S::wr) G s s'->eQ s'.heap S led (pT ns n)->R (.ok (.ret .none)) s') →
   codeAny (g prog w) A (.builtin "set.update.loop" ⟨[.ref S,.ref I],[]⟩) R s:=by
 let kW:S∉wr:=λz=>out (W.sub _ z);let more:∀b,b∈wr->b∈S::wr:=λb hb=>Qm _ hb;ext left
 induction left with
 |zero =>
  ext i s hi st se fin;obtain rfl:i=n:=by symm
  calc q15 q2C ?_;rw[q2v q1X _];show ρ _ A.in1 (pyNext (.ref I) >>= _) _ _ s;calc oj (W.done s _ _ st λs' mv=>?_);show ρ _ A.in1 (ret q0n) _ _ s';exact vw (fin s' (mv.mono more) (Ae se λo e=>mv.heap S o kW e))
 |succ left ih =>
  ext i s hi st se fin;let cq:i<n:=by symm
  calc q15 q2C ?_;rw[q2v q1X _];show ρ _ A.in1 (pyNext (.ref I) >>= _) _ _ s;calc oj (W.item i s _ _ cq st λv s1 hP iP mv=>?_);let⟨t,rfl⟩:=isInt i v hP;show ρ _ A.in1 (holding [q1l (ns.getD i 0) t] (setAdd S (.int (ns.getD i 0) t)) >>= _) _ _ s1;calc oj (q0B ?_);unfold setAdd;calc q0B (oj ((intKind prog w).pyHash (k:=ns.getD i 0) (q3X _ _ _ _) ?_));let hlen:=Af ns i;calc add_int (s:={s1 with toks:=s1.toks+1}) (Ae se λo e=>mv.heap S o kW e) ⋯ λb h2 sb Ag=>?_;let nS:∀b,b∈fp->b≠S:=λb hb z=>out (by rw[<-z];calc hb);refine vw ⟨q34 q1X _,ih (i+1) _ ⋯ (W.frame _ s1 _ _ iP (q1_ _ _) λb hb o e=>by rw[sb.2 b (nS b hb)];calc e) Ag λs3 Ah Ai=>?_⟩
  calc fin s3 (Moved.trans W.gtrans ((mv.mono more).then_heap (q1_ _ _) λb o hb e=>?_) Ah) Ai;rw[sb.2 b (λz=>hb (by rw[z];calc Qk))];calc e
end
noncomputable abbrev cD(led:Bool):u:={cls:=.type "set",dict:=none,data:=.set #[] 0 (.fresh 0 0 led)}
section
variable{prog:n}{w:Q}{A:q}{E:aJ}{s:L}
end
noncomputable abbrev ig(w:Q):Bool := !w.params.followText "set-order"
theorem NZ{h:I}{S:O}{led:Bool}(e:h.get? S=U (cD led)):eQ h S led [] :=
 ⟨_,#[],0,_,e,⟨Y,Y,Y⟩,Y,Y,.inl Y,Y,by cases led<;>decide,q4I,Y,Y,(λ_ h=>nomatch h),q2B _,q25⟩
section
variable{prog:n}{w:Q}{A:q}{E:aJ}{s:L}
theorem N3(a:B){Q₁:aJ}(h:Q₁ (.ref ⇑s) {s with heap:=s.heap.push (cD (ig w))}):
  codeAny (ς prog w) A (.call (.builtin "set.__new__") ⟨[.type "set",a],[]⟩) (wants Q₁ E) s:=by
 calc q4a ?_;show G _ A.in1 (checkBuiltinCall "set.__new__" ⟨[.type "set",a],[]⟩ >>= λ_=>again (.builtin "set.__new__" ⟨[.type "set",a],[]⟩)) _ _ s;calc oj (q7m (F.newCall_set_1 a) (vw ⟨q34 q7u _,?_⟩));calc q15 F.entry_set_new ?_;rw[q2v q7u _];let x1:=sub_set_self;unfold Builtin.«set.__new__» Builtin.Frozenset.newClass newSet setsByText;let⟨hp,g,d,tk,os⟩:=s;dsimp only
 wp_walk
 calc q3d (vw ?_);dsimp only;erw[newObj];exact oj (wpAny_alloc (vw (vw h)))
set_option maxHeartbeats 3200000 in
theorem N4 {l:O} {items:Array B} {Q:aJ} (ns:-Int) (hh:A.handled=Z) (tH:s.heap.IsList l items) (isInt:∀(i:Nat)(v:B),items[i]?=U v->∃t,v=.int (ns.getD i 0) t) (GY:items.size<=40)
  (fin:∀(h':I)(tk:Nat),eQ h' ⇑s (ig w) (pT ns items.size)->(∀b o,b<⇑s->s.heap.get? b=U o->h'.get? b=U o)->Q (.ref ⇑s) {s with heap:=h',toks:=tk}) :
  G (g prog w) A (call (.type "set") [.ref l]) Q E s:=by
 let⟨c,tl,Aj⟩:=q1u.mro;let m1:=q1u.made;let m2:=q1u.sub;let m3:=q1u.notType;let m4:=q1u.canCreate;let m5:=q67 (.ref l);calc q3v (q4a ?_);show G _ _ (callAny (.type "set") _) _ _ _;calc vw ⟨q3w _ (by decide +kernel),q15 q6E ?_⟩;rw[q6l (q5r "set" [.ref l] []) Y]
 repeat(any_goals (first|assumption|wp_step))
 refine q2L (N3 (.ref l) (E:=E) (Q₁:=λr s1=>r=.ref ⇑s/\s1={s with heap:=s.heap.push (cD (ig w))}) ⟨Y,Y⟩) λr s1 hr=>?_
 cases r with
 |error e=>exact hr
 |ok fl =>
  cases fl with
  |ret obj =>
   let⟨rfl,rfl⟩:=hr;generalize N5:ig w=led at fin ⊢;let gS:(s.heap.push (cD led)).get? ⇑s=U (cD led):=ZI _ Y;let tS:q8i {s with heap:=s.heap.push (cD led)} (.ref ⇑s) "set" := ⟨_,gS,Y⟩;let m6:=q1u.init.lookup;let m7:=q1u.init.bind (.ref ⇑s)
   repeat(any_goals (first|assumption|wp_step))
   refine q2L (q26 (R:=wants (λr s2=>r=.none/\∃h' tk,s2={s with heap:=h',toks:=tk}/\eQ h' ⇑s led (pT ns items.size) ∧
     ∀b o,b<⇑s->s.heap.get? b=U o->h'.get? b=U o) E) q1u.init.plain q68 (q69 tS ?_)) λr2 s2 kX=>?_
   .let⟨ol,gl,cl,nl,dl⟩:=tH
    let⟨c0,d0,N6,uO⟩:=ol;simp only at cl dl;subst cl;subst dl;let Ak:(s.heap.push (cD led)).get? l=U {cls:=.type "list",dict:=d0,data:=.seq items nl,slots:=uO}:=rM _ gl;let x1:=q7O;let x2:=q5y;let x3:(q2k "list" == q2k "dict")=ι:=by decide
    let kY:(s.heap.push (cD led)).IsList l items:=⟨_,Ak,Y,nl,Y⟩;let ll:l<⇑s:=Qj gl;unfold Builtin.«set.__init__» noKeywords q4b;generalize Al:pyIter=PI
    wp_walk
    subst Al;calc q2w kY (oj (q5z ?_));let h3:A.in1.in1.in1.handled=Z:=by simp[hh]
    let ez:(s.heap.push (cD led)).objs.size=⇑s+1:=q1w ..;let nI:l≠(s.heap.push (cD led)).objs.size:=by rw[ez];exact ZN (q00 ll)
    refine NY ((q6m h3 _ l nI items).toS) (S:=s.heap.objs.size) ?out (led:=led) ns (λi v hv=>isInt i v hv) GY items.size 0 _ (q0J _)
     ⟨⟨_,ZI _ Y,Y,Y⟩,kY.push _⟩ ?fresh ?fin
    case out =>
     erw[My,q0j,q1q,q5A,ez];exact⟨ZN (q19 _),q1B ll⟩
    case fresh =>
     exact NZ (led:=led) (rM _ gS)
    case fin =>
     ext s' mv se;let⟨h',g',d',mM,uP⟩:=s';obtain rfl:g'=s.gens:=mv.gens;obtain rfl:d'=s.drawn:=mv.drawn;obtain rfl:uP=s.os:=mv.os;show G _ _ _ _ _ _;calc vw ?_;show G _ _ (ret q0n) _ _ _;calc vw ⟨Y,h',mM,Y,se,λb o hb e=>?_⟩;calc mv.heap b o ?_ (rM _ (rM _ e));erw[My,q0j,q1q,q5A,ez];exact⟨ZN hb,ZN (q00 hb)⟩
   .cases r2 with
    |error e=>exact kX
    |ok Am =>
     cases Am with
     |ret r =>
      let⟨rfl,h',mM,rfl,se,kp⟩:=kX
      repeat(any_goals (first|assumption|wp_step))
      exact fin _ _ se kp
     |next=>exact kX
     |brk=>exact kX
     |cont=>exact kX
  |next=>exact hr
  |brk=>exact hr
  |cont=>calc hr
end
theorem aM:Slot "set_iterator" "__next__" "set_iterator.__next__" :=
 .of (owner:="set_iterator") (n:="__next__") (by rw[q7v,q5s];kernel_rfl) (by decide +kernel) (by decide +kernel) (by decide +kernel)
  (by first|exact .inl (by decide +kernel)|calc .inr (by decide +kernel)) (by rw[q5B];kernel_rfl)
theorem GZ:Slot "set_iterator" "__iter__" "set_iterator.__iter__" :=
 .of (owner:="set_iterator") (n:="__iter__") (by rw[q7v,q5s];kernel_rfl) (by decide +kernel) (by decide +kernel) (by decide +kernel)
  (by first|exact .inl (by decide +kernel)|calc .inr (by decide +kernel)) (by rw[q5B];kernel_rfl)
theorem G0:entryFor table "set_iterator.__next__" = U Builtin.«set_iterator.__next__» := entryFor_of_fast (by kernel_rfl)
theorem N7:entryFor table "set_iterator.__iter__" = U Builtin.«dict_keyiterator.__iter__» :=
 q7P (id':="dict_keyiterator.__iter__") (by kernel_rfl) Y (by decide +kernel) (by kernel_rfl)
theorem N8:entryFor table "set.__iter__" = U Builtin.«frozenset.__iter__» :=
 q7P (id':="frozenset.__iter__") (by kernel_rfl) Y (by decide +kernel) (by kernel_rfl)
theorem G1(a:B):argsOk "set_iterator.__next__" ⟨[a],[]⟩:=by unfold argsOk;kernel_rfl
theorem N9(a:B):argsOk "set_iterator.__iter__" ⟨[a],[]⟩:=by unfold argsOk;kernel_rfl
def bH(h:Α)(I S:O)(first:B)(i n ep:Nat):Prop:=∃o,h.get? I=U o/\o.cls=.type "set_iterator" /\ o.data=.fields #[first,.int i 0,.ref S,.int n 0,.int ep 0]
theorem bH.typeIs{s:L}{I S:O}{f:B}{i n ep:Nat}(x:bH s.heap I S f i n ep):s.TypeIs (.ref I) "set_iterator" := let⟨o,ho,hc,_⟩:=x;⟨o,ho,hc⟩
theorem bH.at{h h':Α}{I S:O}{f:B}{i n ep:Nat}(x:bH h I S f i n ep)(e:∀o,h.get? I=U o->h'.get? I=U o):bH h' I S f i n ep:=let⟨o,ho,r⟩:=x;⟨o,e _ ho,r⟩
noncomputable def g7(w:Q)(S:O)(ep:Nat)(es:Array (Int×B)):Array (Int×B):=if w.params.followText "set-order" = θ then pickOrder (w.params.setOrder S ep) es else es
theorem An(w:Q)(S:O)(ep:Nat)(es:Array (Int×B)):(g7 w S ep es).toList.Perm es.toList:=by
 unfold g7;split
 .exact NO _ _
 .calc q2B _
theorem xI(w:Q)(S:O)(ep:Nat)(es:Array (Int×B)):(g7 w S ep es).size=es.size:=by
 let:=(An w S ep es).length_eq;simpa using this
noncomputable def slotAt(t:SetTable)(i:Nat):Nat:=if i=0 then 0 else t.place.getD (i-1) 0+1
structure Ao(w:Q)(I S:O)(o:u)(es:Array (Int×B))(ep:Nat)(t:SetTable)(i:Nat)(h:Α):Prop where
 set:h.get? S=U o
 it:∃slot:Nat,bH h I S (.int slot 0) i es.size ep/\(w.params.followText "set-order" = ι->slot=slotAt t i)
section
variable{prog:n}{w:Q}{A:q}{I S:O}{o:u}{es:Array (Int×B)}{ep:Nat}{t:SetTable}{ks:-Int}
theorem N_(T:cC t es (ig w) ks){i:Nat}(hi:i<=es.size):below t.place (slotAt t i)=i:=by
 unfold slotAt;split
 .rename_i h;subst h;exact NM T.up
 .rename_i h
  let hl:i-1<t.place.size:=by rw[T.h9];symm
  let e:t.place.getD (i-1) 0=t.place[i-1]:=by simp[q3x,hl]
  rw[e,NL T.up hl];symm
theorem G2{E:aJ}{s:L}{Q:Option (B×Nat)->L->Prop}(ho:s.heap.get? S=U o)(hd:o.data=.set es ep t)(T:cC t es (ig w) ks){slot i:Nat}(hi:i<=es.size)(hs:w.params.followText "set-order" = ι->slot=slotAt t i)
  (k:∀qW:Nat,(w.params.followText "set-order" = ι->i<es.size->qW=slotAt t (i+1))->Q (((g7 w S ep es)[i]?).map λe=>(e.2,qW)) s):G (g prog w) A (setNext S slot i ep) Q E s:=by
 calc oj (q1A ho hd T.fits ?_);calc oj ?_;calc oj (q3d (vw ?_));let mw:(g prog w).w=w:=Y
 cases q:w.params.followText "set-order" with
 |true =>
  rw[mw,q];erw[q4J,q0a,q0X,q17];calc oj ?_;calc oj (q1A ho hd T.fits ?_);calc oj ?_;calc oj (q3d (vw ?_));rw[mw,q,ZK Y];calc oj (q3d (vw ?_));calc vw ?_;let:=k slot λz=>by rw[q] at z;cases z
  unfold g7 at this;rw[ZK q] at this;exact this
 |false =>
  rw[mw,q,ZJ (by decide)];let Ap:=hs q;subst Ap;let hb:=N_ T hi;rw[hb];calc q3p (λh=>absurd (show(!t.plain&&J (es.size>1))=θ from h) (by rw[T.uL];simp)) (λ_=>?_);calc oj ?_;calc q3p (c:=(!t.led && !es.isEmpty)=θ) (λh=>absurd h (by rw[T.Ab];unfold ig;rw[q];simp)) (λ_=>?_);calc vw (vw ?_);let hk:=k (slotAt t (i+1)) λ_ _=>Y;unfold g7 at hk;rw[ZJ (by rw[q];decide)] at hk
  by_cases hl:i<es.size
  .let hp:i<t.place.size:=by rw[T.h9];exact hl
   rw[ZL hl] at hk;rw[ZL hl,ZL hp]
   let e:slotAt t (i+1)=t.place[i]+1:=by
    unfold slotAt;simp[q3x,hp]
   rw[e] at hk;exact hk
  .rw[q1H ⋯] at hk
   rw[q1H ⋯];calc hk
theorem G3{E:aJ}{s:L}{a:O}{ob:u}{vs:Array B}{Q:Array B->L->Prop}(ho:s.heap.get? a=U ob)(hd:ob.data=.fields vs)(h:Q vs s):G (g prog w) A (fieldsOf (.ref a)) Q E s:=by
 calc oj (q7Q ho ?_);rw[hd];calc vw h
theorem Oa(hh:A.handled=Z)(fh:S≠I)(hex:o.ExactSet)(hd:o.data=.set es ep t)(T:cC t es (ig w) ks):
  Walks prog w A I [I,S] [I] es.size (λi v=>∃e,(g7 w S ep es)[i]?=U e/\v=e.2) (Ao w I S o es ep t) where
 sub:=λb hb=>by simp at hb;simp[hb]
 frame:=λi h h' st hk=>⟨hk S (by simp) _ st.set,let⟨slot,x,y⟩:=st.it;⟨slot,x.at λo e=>hk I (by simp) o e,y⟩⟩
 item:=λi s Q E hi st hQ=>by
  let⟨slot,hit,hs⟩:=st.it;let⟨oi,tI,hc,qX⟩:=id hit
  refine oj (q2U (q0_ (name:=q0O "__next__") hit.typeIs aM
   (q1e aM hit.typeIs G0 ?_ (G1 _))))
  calc oj (m:=slotArgs _ _ _) (vw ?_);calc oj (G3 tI qX ?_);calc oj (q4k st.set hd T.fits ?_);rw[ZJ (by simp)];calc oj (G2 st.set hd T (slot:=slot) (i:=i) ⋯ hs λqW hn=>?_);let ei:(g7 w S ep es)[i]?=U ((g7 w S ep es)[i]'(by rw[xI];calc hi)):=ZL _;rw[ei];calc oj (q2D tI qX (by simp) ?_);let fL:=q0E (q4S (·.setIfInBounds 0 (rawInt qW))) tI (q2r (q1F qX _));let uQ:=q1F qX (·.setIfInBounds 0 (rawInt (qW:Int)));calc oj (q2D fL uQ (by simp) ?_);let fg:=q0E (q4S (·.setIfInBounds 1 (rawInt ((i:Int)+1)))) fL (q2r (q1F uQ _));let hd2:=q1F uQ (·.setIfInBounds 1 (rawInt ((i:Int)+1)))
  refine vw ⟨_,Y,vw (hQ _ _ s.toks ⟨_,ei,Y⟩ ⟨?_,qW,⟨_,fg,?_,?_⟩,λz=>hn z hi⟩ λb ob hb e=>?_)⟩
  .rw[q0P _ _ (q1L fh),q0P _ _ (q1L fh)];exact st.set
  .exact (q4K ..).trans ((q4K ..).trans hc)
  .rw[hd2];simp[rawInt]
  .let hb':I≠b:=λz=>hb (by simp[z])
   rw[q0P _ _ hb',q0P _ _ hb'];exact e
 done:=λs Q E st hQ=>by
  let⟨slot,hit,hs⟩:=st.it;let⟨oi,tI,hc,qX⟩:=id hit
  refine oj (q2U (q0_ (name:=q0O "__next__") hit.typeIs aM
   (q1e aM hit.typeIs G0 ?_ (G1 _))))
  calc oj (m:=slotArgs _ _ _) (vw ?_);calc oj (G3 tI qX ?_);calc oj (q4k st.set hd T.fits ?_);rw[ZJ (by simp)];calc oj (G2 st.set hd T (slot:=slot) (i:=es.size) (BA _) hs λqW hn=>?_);rw[q1H (by rw[xI];calc BA _)];calc oj (q2D tI qX (by simp) ?_);calc oj ?_;calc oj (m:=firstArgMember _ _) (q7m (a:=q0n) (by first|rfl|(erw[firstArgMember];rfl)) ?_);calc q01 ?_ (by size_fits);calc oj (q8j ?_);rw[show A.in1.handled=Z from hh];calc oj (vw (wpAny_throw ?_));calc oj (q4Z (T:="StopIteration") (b:=true) ⟨_,ZI _ Y,Y⟩ q7R ?_);refine vw (hQ _ s.toks λb ob hb e=>?_)
  let hb':b≠I:=λz=>hb (by simp[z]);exact(((q0L ..).extBut.push _).push _) b ob hb' e
 self:=λi s Q E st hQ=>by
  let⟨slot,hit,_⟩:=st.it;calc q6F hit.typeIs GZ (q1e GZ hit.typeIs N7 ?_ (N9 _));calc vw ⟨_,Y, "set_iterator",_,hit.typeIs,aM.lookup,hQ⟩
theorem Ob{E:aJ}{s:L}{Q:Bool->L->Prop}(ho:s.heap.get? S=U o)(hd:o.data=.set es ep t)(T:cC t es (ig w) ks)(k:Q ι s):G (g prog w) A (setDrawn S) Q E s:=by
 calc oj (q1A ho hd T.fits ?_);calc oj ?_;calc oj (q3d (vw ?_));calc vw ?_;let e:(!(g prog w).w.params.followText "set-order" && (!t.plain&&J (es.size>1)))=ι:=by rw[T.uL];simp
 calc e▸k
theorem Oc{E:aJ}{s:L}{Q:aJ}(ho:s.heap.get? S=U o)(hex:o.ExactSet)(hd:o.data=.set es ep t)(T:cC t es (ig w) ks)
  (k:∀h',(∀b ob,s.heap.get? b=U ob->h'.get? b=U ob)->Ao w ⇑s S o es ep t 0 h'->Q (.ref ⇑s) {s with heap:=h'}):G (g prog w) A (pyIter (.ref S)) Q E s:=by
 let tS:s.TypeIs (.ref S) "set" := ⟨o,ho,hex.1⟩;calc q6F tS q7w (q1e q7w tS N8 ?_ (F.args_set_iter_1 _));calc oj (m:=Builtin.Frozenset.sizeOf _) ?_;calc oj (q4k ho hd T.fits (vw ?_));calc oj (Ob ho hd T ?_);calc oj (vw ?_);calc oj (wpAny_setEpoch_of ho hd T.fits ?_);calc oj (m:=newFields _ _) (q01 (vw ⟨_,Y, "set_iterator",_,⟨_,ZI _ Y,Y⟩,aM.lookup,?_⟩));calc k _ (λb ob e=>rM _ e) ⟨rM _ ho,0,⟨_,ZI _ Y,Y,Y⟩,λ_=>Y⟩
end
section
variable{prog:n}{w:Q}{A:q}{S:O}{o:u}{es:Array (Int×B)}{ep:Nat}{t:SetTable}{ks:-Int}
theorem Od{E:aJ}{s:L}{Q:Bool->L->Prop}(tS:s.TypeIs (.ref S) "set")(k:Q ι s):G (g prog w) A (Builtin.List.listLengthHint (.ref S)) Q E s:=by
 calc oj (q5k tS F.slot_set_len.lookup ?_);generalize Oe:("set.__len__" : String)=ZA
 wp_delta
 subst Oe;calc oj (q4Z (T:="set") (b:=true) tS (by rw[q5B];kernel_rfl) ?_);calc q3p (λGr=>absurd Gr (by decide)) (λ_=>?_);calc oj (q2M tS ?_);calc vw k
theorem Of{E:aJ}{s:L}{Q:-B->L->Prop}(hh:A.handled=Z)(ho:s.heap.get? S=U o)(hex:o.ExactSet)(hd:o.data=.set es ep t)(T:cC t es (ig w) ks)(hn:es.size<=1000)
  (h:∀(h':Α)(tk:Nat),(∀b ob,s.heap.get? b=U ob->h'.get? b=U ob)->⇑s<=h'.objs.size->Q ((g7 w S ep es).toList.map (·.2)) {s with heap:=h',toks:=tk}):G (g prog w) A (collect (.ref S)) Q E s:=by
 let lS:S<⇑s:=Qj ho;calc oj (q5z (q15 F.entry_proto_collect ?_));calc oj (q01 ?_);calc vw ⟨q34 F.plain_list_iadd _,q15 F.entry_list_iadd ?_⟩;generalize tJ:({s with heap:=s.heap.push {cls:=.type "list",data:=.seq ([]:-B).toArray}}:L)=s1;let fL:s1.heap.get? S=U o:=by rw[<-tJ];exact rM _ ho
 let gL:s1.heap.get? ⇑s=U {cls:=.type "list",data:=.seq ([]:-B).toArray}:=by rw[<-tJ];exact ZI _ Y
 let z1:⇑s1=⇑s+1:=by rw[<-tJ];exact q1w ..
 show G _ A.in1 (Builtin.List.listExtendWith (.ref ⇑s) (.ref S) (.ref ⇑s)) _ _ _;calc oj (q2M (T:="set") ⟨o,fL,hex.1⟩ ?_);let h1:q4T (.ref ⇑s) (.ref S)=ι:=by simp[q4T];exact q1B lS
 let h2:(q2k "set" == q2k "list")=ι:=by decide
 let h3:(q2k "set" == q2k "tuple")=ι:=by decide
 erw[h1,h2,h3,q6a,q0a,q0X];calc oj (Oc fL hex hd T λfM qY jf=>?_);calc oj (q0B (Od ⟨o,qY _ _ fL,hex.1⟩ ?_));let fh:S≠⇑s1:=by rw[z1];exact ZN (q00 lS)
 let W:=(Oa (prog:=prog) (A:=A.in1) (I:=s1.heap.objs.size) (by simp[hh]) fh hex hd T).toS
 let Og:⇑s∉[⇑s1,S]:=by
  erw[My,q0j,q1q,q5A,z1];exact⟨ZN (q19 _),q1B lS⟩
 let key:∀(pU:Α)(c:Nat),Ao w ⇑s1 S o es ep t 0 pU->pU.get? ⇑s=U {cls:=.type "list",data:=.seq #[] c}->(∀b ob,b≠⇑s->fM.get? b=U ob->pU.get? b=U ob) →
   codeAny (g prog w) A (.builtin "list.extend.loop" ⟨[.ref ⇑s,.ref ⇑s1,.ref ⇑s],[]⟩) (λr s'=>match r with
    |.ok (.ret v)=>G (g prog w) A (match v with
     |.ref a=>do match(<- load a).data with
      |.seq xs _=>pure xs.toList
      |_=>unsupported "internal:collect"
     |_=>unsupported "internal:collect") Q E s'
    |.ok _=>False
    |.error e=>E e s') {s1 with heap:=pU}:=by
  ext pU c st hL kp;calc codeAny_extend_loopS W (by rw[q09];symm) _ Og _ es.size 0 _ #[] c Y (q0u _) st hL (ItemsOf.nil _) λs' eR c' hm G4 qZ=>?_;refine oj (q7Q G4 (vw ?_))
  let ea:eR.toList=(g7 w S ep es).toList.map (·.2):=by
   calc q11 λi=>?_;rw[Qi]
   by_cases hi:i<es.size
   .let G5:i<eR.size:=by rw[qZ.1];exact hi
    let⟨e,he,hv⟩:=qZ.2 i _ (ZL G5);rw[q0p,ZL G5,q0p,he,hv];rfl
   .rw[q0p,q1H (by rw[qZ.1];symm),q0p,q1H (by rw[xI];symm)];rfl
  rw[ea];let⟨Aq,g3,d3,ZC,Oh⟩:=s';obtain rfl:g3=s1.gens:=hm.gens;obtain rfl:d3=s1.drawn:=hm.drawn;obtain rfl:Oh=s1.os:=hm.os;subst tJ;calc h _ _ (λb ob e=>?_) (q1t (Qj G4));let hb:b<⇑s:=Qj e;calc hm.heap b ob ?_ (kp b ob (ZN hb) (qY b ob (rM _ e)));erw[My,q0j,q1q,q5A];exact⟨ZN hb,by show b≠(s.heap.push _).objs.size;rw[q1w];calc ZN (q00 hb)⟩
 let G6:=qY _ _ gL;calc oj (q3Y ?_);calc oj ?_;calc oj (q7x G6 Y ?_);let G7:=q0E (q0H (·.push q0n)) G6 Y;calc q7x (hz:=by seq_fits) G7 Y ?_;let Oi:=q0E (q0H (·.pop)) G7 Y
 let Ar:∀b ob,b≠⇑s->fM.get? b=U ob->((fM.update ⇑s (q0H (·.push q0n))).update ⇑s (q0H (·.pop))).get? b=U ob :=
  λb ob hb e=>(q0P _ _ (q1L hb)).trans ((q0P _ _ (q1L hb)).trans e)
 calc vw ⟨q34 F.plain_extend_loop _,key _ _ ?_ Oi Ar⟩;let⟨slot,it,sl⟩:=jf.it;calc⟨Ar _ _ (ZN lS) jf.set,slot,it.at λob e=>Ar _ _ (by rw[z1];calc q1B (q19 _)) e,sl⟩
end
end LJS
namespace L2
open PySem PySem.Spec PyProof.Rows
abbrev Key:=Sum Int R
noncomputable def tK:Key->B->Bool
 |.inl k,v=>Value.isInt k v
 |.inr x,v=>q8l x v
noncomputable def As(w:Q):Key->Int
 |.inl k=>hashInt k
 |.inr x=>hashStr w x
theorem nR:∀{k:Key}{v:B},tK k v=θ->(∃i t,k=q4L i/\v=q1l i t)\/(∃x t,k=q5O x/\v=q5P x t)
 |.inl i,v,h=>by
  let⟨t,e⟩:=q6D (k:=i) (v:=v) h;exact .inl ⟨i,t,Y,e⟩
 |.inr x,v,h=>by
  let⟨t,e⟩:=Value.isStrOf_shape (x:=x) (v:=v) h;calc .inr ⟨x,t,Y,e⟩
theorem Oj(i:Int)(t:Tok):tK (.inl i) (.int i t)=θ:=by simp[tK,Value.isInt]
theorem Ol(x:R)(t:Tok):tK (.inr x) (.str x t)=θ:=by simp[tK,q8l]
theorem Om(a b:Int):J ((q4L a:Key)=q4L b)=(a==b):=by
 by_cases e:a=b
 .subst e;simp
 .let h:¬ (q4L a:Key)=q4L b:=λq=>e (Sum.inl.inj q)
  rw[q0e h];calc(beq_eq_false_iff_ne.mpr e).symm
theorem Oo(a b:R):J ((q5O a:Key)=q5O b)=J (a=b):=by
 by_cases e:a=b
 .subst e;simp
 .let h:¬ (q5O a:Key)=q5O b:=λq=>e (Sum.inr.inj q)
  rw[q0e h,q0e e]
theorem Oq(a:Int)(b:R):J ((q4L a:Key)=q5O b)=ι:=q0e (λq=>nomatch q)
theorem Ot(a:R)(b:Int):J ((q5O a:Key)=q4L b)=ι:=q0e (λq=>nomatch q)
noncomputable def jJ(prog:n)(w:Q):PySem.KeyKind prog w Key where
 is:=tK
 hash:=As w
 inj:=λv a b ha hb=>by
  rcases nR ha with⟨i,t,rfl,rfl⟩|⟨x,t,rfl,rfl⟩
  .rcases nR hb with⟨j,u,rfl,e⟩|⟨y,u,rfl,e⟩
   .injection e with e1 _;rw[e1]
   .exact nomatch e
  .rcases nR hb with⟨j,u,rfl,e⟩|⟨y,u,rfl,e⟩
   .exact nomatch e
   .injection e with e1 _;rw[e1]
 byValue:=λk v h=>by
  rcases nR h with⟨i,t,rfl,rfl⟩|⟨x,t,rfl,rfl⟩<;>rfl
 pyHash:=λhv h=>by
  rcases nR hv with⟨i,t,rfl,rfl⟩|⟨x,t,rfl,rfl⟩
  .exact wpAny_pyHash_int h
  .exact wpAny_pyHash_str h
 eqBool:=λhu hv h=>by
  rcases nR hu with⟨i,t,rfl,rfl⟩|⟨x,t,rfl,rfl⟩
  .rcases nR hv with⟨j,u,rfl,rfl⟩|⟨y,u,rfl,rfl⟩
   .rw[Om] at h;exact q40 h
   .rw[Oq] at h;exact q4t i t y u _ _ _ _ h
  .rcases nR hv with⟨j,u,rfl,rfl⟩|⟨y,u,rfl,rfl⟩
   .rw[Ot] at h;exact q4u x t j u _ _ _ _ h
   .rw[Oo] at h;exact wpAny_eqBool_str h
 «strs» := λk x t v h=>by
  rcases nR h with⟨i,u,rfl,e⟩|⟨y,u,rfl,e⟩
  .exact nomatch e
  .injection e with e1 _
   subst e1;cases v<;>rfl
theorem Ou(prog:n)(w:Q)(i:Int)(t:Tok):(jJ prog w).is (.inl i) (.int i t)=θ:=Oj i t
theorem Ov(prog:n)(w:Q)(x:R)(t:Tok):(jJ prog w).is (.inr x) (.str x t)=θ:=Ol x t
inductive V where
 |non|bl (b:Bool)|int (i:Int)|str (x:R)|byt (b:Array UInt8)|flt (b:UInt64)|ref (a:O)|ty (n:String)
 deriving DecidableEq
def RelV:V->B->Prop
 |.non,u=>u=q0n
 |.bl b,u=>u=q27 b
 |.int i,u=>∃t,u=q1l i t
 |.str x,u=>∃t,u=q5P x t
 |.byt b,u=>∃t,u=Value.bytes b t
 |.flt b,u=>∃t,u=q7n b t
 |.ref a,u=>u=q0w a
 |.ty n,u=>u=q2k n
abbrev Vals:-V->-B->Prop:=Paired RelV
theorem Vals.length{xs:-V}{us:-B}(r:Vals xs us):↑xs=↑us:=q6b r
theorem Vals.get:∀{xs:-V}{us:-B}{i:Nat}{x:V},Vals xs us->xs[i]?=U x->∃u,us[i]?=U u/\RelV x u
 |_,_,_,_,.nil,e=>by simp at e
 |_,_,0,_,.cons r _,e=>by simp at e;subst e;exact⟨_,Y,r⟩
 |_,_,i+1,x,.cons _ t,e=>by
  let⟨u,h1,h2⟩:=Vals.get (i:=i) (x:=x) t e⁻¹;calc⟨u,by simpa using h1,h2⟩
theorem Vals.set{x:V}{u:B}(r:RelV x u):∀{xs:-V}{us:-B}(i:Nat),Vals xs us->Vals (xs.set i x) (us.set i u)
 |_,_,_,.nil=>.nil
 |_,_,0,.cons _ t=>.cons r t
 |_,_,i+1,.cons q t=>.cons q (Vals.set r i t)
theorem Vals.append:∀{xs ys:-V}{us ws:-B},Vals xs us->Vals ys ws->Vals (xs++ys) (us++ws)
 |_,_,_,_,.nil,s=>s
 |_,_,_,_,.cons r t,s=>.cons r (Vals.append t s)
theorem Vals.take:∀{xs:-V}{us:-B}(n:Nat),Vals xs us->Vals (xs.take n) (us.take n)
 |_,_,0,_=>.nil
 |_,_,_+1,.nil=>.nil
 |_,_,n+1,.cons r t=>.cons r (Vals.take n t)
theorem Vals.drop:∀{xs:-V}{us:-B}(n:Nat),Vals xs us->Vals (xs.drop n) (us.drop n)
 |_,_,0,r=>r
 |_,_,_+1,.nil=>.nil
 |_,_,n+1,.cons _ t=>Vals.drop n t
def fN:Option V->Option B->Prop
 |some v,some u=>RelV v u
 |none,none=>True
 |_,_=>False
def KV{κ:Type}:-(κ×V)->-(κ×B)->Prop:=Paired λ(p:κ×V) (q:κ×Value)=>p.1=q.1/\RelV p.2 q.2
noncomputable def kV:Key->V
 |.inl i=>.int i
 |.inr x=>.str x
inductive HO where
 |lst (xs:-V)
 |tup (xs:-V)
 |dK (aq:-(Key×V))|dT (aq:-(-Key×V))
 |set (S:Int->Bool) (n:Nat)
 |ins (C dx:O) (fs:-(R×V))
 |own (x:O)
 |xd (fs:-(R×V))
 |met (f x:O)
 |rng (lo hi:Int)
 |frz (o:Γ) (u:HO)
 |tbl (ps:Array B)
 |ext (φ:I->Prop)
abbrev Hp:=O->Option HO
noncomputable def upd(H:Hp)(a:O)(o:HO):Hp:=λb=>if b=a then U o else H b
theorem bj{H:Hp}{a:O}{o:HO}:upd H a o a=U o:=by unfold upd;rw[ZK Y]
theorem aA{H:Hp}{a b:O}{o:HO}(h:b≠a):upd H a o b=H b:=by unfold upd;rw[ZJ h]
theorem pV{H:Hp}{a b:O}{o u:HO}(h:H a=U o)(h':H b=U u)(d:o≠u):a≠b:=by
 ext e;subst e;rw[h] at h';calc d (q0A h')
theorem bR{H:Hp}{a b:O}{o:HO}(h:H a=U o)(h':H b=Z):a≠b:=by
 ext e;subst e;rw[h] at h';cases h'
section
variable(P:n)(w:Q)
def az(H:Hp)(h:I)(a:O):HO->Prop
 |.lst xs=>↑xs<=sizeLine/\∃(ah:-B)(n:Nat),Vals xs ah/\h.get? a=U {cls:=.type "list",data:=.seq ah.toArray n}
 |.tup xs=>↑xs<=sizeLine/\∃ah:-B,Vals xs ah/\IsTup h a ah.toArray
 |.dK aq=>↑aq<=sizeLine/\(a==sysModules)=ι/\∃vs,KV aq vs/\h.DictOf (jJ P w) a vs
 |.dT aq=>↑aq<=sizeLine/\(a==sysModules)=ι/\∃xs:-(-Key×O×B),
   Paired (λ(p:-Key×V) (q:-Key×Addr×Value)=>p.1=q.1/\H q.2.1=U (.tup (p.1.map kV))/\RelV p.2 q.2.2) aq xs ∧
   ∃o es ep,h.get? a=U o/\o.ExactDict/\o.data=.dict es ep/\es.toList=xs.map (entryOfKey (tupleKind (jJ P w)))/\(xs.map (·.1)).Nodup
 |.set S n=>h.SetOf (intKind P w) a S n
 |.ins C dx fs=>H dx=U (.own a)/\fs.length<=1000/\dx≠a/\h.get? a=U (q5l C dx) ∧
   ∃mA,h.Ns1 dx mA/\(∀f,fN (fs.lookup f) (mA f))/\q8W mA (fs.map (·.1))
 |.own _=>∃o,h.get? a=U o
 |.xd fs=>∃mA,h.Ns1 a mA/\∀f,fN (fs.lookup f) (mA f)
 |.rng lo hi=>∃t u v,h.get? a=U {cls:=.type "range",data:=.fields #[.int lo t,.int hi u,.int 1 v]}
 |.frz o u=>h.get? a=U o/\az H h a u
 |.tbl ps=>h.get? a=U {cls:=.none,data:=.fields ps}
 |.met f x=>h.get? a=U (q4M (.ref f) (.ref x))
 |.ext φ=>φ h/\(∃o,h.get? a=U o)/\∀h1 h2:I,φ h1->(∀o,h1.get? a=U o->h2.get? a=U o)->φ h2
def cI(H:Hp)(h:I):Prop:=∀a o,H a=U o->az P w H h a o
end
section
variable{P:n}{w:Q}{H H':Hp}{h h':I}{a:O}{o:HO}
theorem az.lt(x:az P w H h a o):a<h.objs.size:=by
 cases o with
 |lst xs=>let⟨_,_,_,_,e⟩:=x;exact Qj e
 |tup xs=>let⟨_,_,_,p⟩:=x;exact p.lt
 |dK aq=>let⟨_,_,_,_,o,_,_,e,_⟩:=x;exact Qj e
 |dT aq=>let⟨_,_,_,_,o,_,_,e,_⟩:=x;exact Qj e
 |set S n=>let⟨o,_,_,_,e,_⟩:=x;exact Qj e
 |ins C dx fs=>let⟨_,_,_,e,_⟩:=x;exact Qj e
 |own y=>let⟨_,e⟩:=x;exact Qj e
 |xd fs=>let⟨_,⟨_,_,_,e,_⟩,_⟩:=x;exact Qj e
 |rng lo hi=>let⟨_,_,_,e⟩:=x;exact Qj e
 |frz ob u=>let⟨e,_⟩:=x;exact Qj e
 |tbl ps=>exact Qj (show h.get? a=U _ from x)
 |met f y=>exact Qj (show h.get? a=U _ from x)
 |ext φ=>let⟨_,⟨_,e⟩,_⟩:=x;calc Qj e
theorem Paired.q_{α β:Type}{F G:α->β->Prop}:∀{l₁:-α}{l₂:-β},Paired F l₁ l₂->(∀a b,F a b->G a b)->Paired G l₁ l₂
 |_,_,.nil,_=>.nil
 |_,_,.cons r t,f=>.cons (f _ _ r) (Paired.q_ t f)
theorem az.dG(x:az P w H h a o)(k:∀b u,(b=a\/H b=U (.own a))->h.get? b=U u->h'.get? b=U u)
  (ho:∀b,H b=U (.own a)->H' b=U (.own a)) (ht:∀b xs,H b=U (.tup xs)->H' b=U (.tup xs)):az P w H' h' a o:=by
 induction o with
 |lst xs=>let⟨z,ah,n,r,e⟩:=x;exact⟨z,ah,n,r,k _ _ (.inl Y) e⟩
 |tup xs=>let⟨z,ah,r,ob,e,c⟩:=x;exact⟨z,ah,r,ob,k _ _ (.inl Y) e,c⟩
 |dK aq=>let⟨z,y,vs,r,ob,es,ep,e,c⟩:=x;exact⟨z,y,vs,r,ob,es,ep,k _ _ (.inl Y) e,c⟩
 |dT aq =>
  let⟨z,y,xs,r,ob,es,ep,e,c⟩:=x;exact⟨z,y,xs,Paired.q_ r λp q z=>⟨z.1,ht _ _ z.2.1,z.2.2⟩,ob,es,ep,k _ _ (.inl Y) e,c⟩
 |set S n=>let⟨ob,es,ep,t,e,c⟩:=x;exact⟨ob,es,ep,t,k _ _ (.inl Y) e,c⟩
 |ins C dx fs =>
  let⟨d,z,ne,e,mA,⟨od,es,ep,e2,c⟩,r⟩:=x;exact⟨ho _ d,z,ne,k _ _ (.inl Y) e,mA,⟨od,es,ep,k _ _ (.inr d) e2,c⟩,r⟩
 |own y=>let⟨ob,e⟩:=x;exact⟨ob,k _ _ (.inl Y) e⟩
 |xd fs=>let⟨mA,⟨od,es,ep,e,c⟩,r⟩:=x;exact⟨mA,⟨od,es,ep,k _ _ (.inl Y) e,c⟩,r⟩
 |rng lo hi=>let⟨t,u,v,e⟩:=x;exact⟨t,u,v,k _ _ (.inl Y) e⟩
 |frz ob u ih=>let⟨e,q⟩:=x;exact⟨k _ _ (.inl Y) e,ih q⟩
 |tbl ps =>
  let e:h.get? a=U {cls:=.none,data:=.fields ps}:=x;show h'.get? a=U {cls:=.none,data:=.fields ps};exact k a _ (.inl Y) e
 |met f y =>
  let e:h.get? a=U (q4M (.ref f) (.ref y)):=x;show h'.get? a=U (q4M (.ref f) (.ref y));exact k a _ (.inl Y) e
 |ext φ=>let⟨p,⟨o,e⟩,st⟩:=x;calc⟨st _ _ p λo q=>k _ _ (.inl Y) q,⟨o,k _ _ (.inl Y) e⟩,st⟩
theorem cI.lt(x:cI P w H h)(e:H a=U o):a<h.objs.size:=(x a o e).lt
theorem cI.fresh(x:cI P w H h)(e:h.objs.size<=a):H a=Z:=by
 cases q:H a with
 |none=>rfl
 |some u=>calc absurd (q0f (x.lt q) e) (q2a _)
theorem cI.kept(x:cI P w H h)(k:∀b u,h.get? b=U u->h'.get? b=U u):cI P w H h':=λa o e =>
 (x a o e).dG (λb u _ q=>k b u q) (λ_ q=>q) λ_ _ q=>q
theorem cI.laid(x:cI P w H h)(k:∀b u,h.get? b=U u->h'.get? b=U u)(hp:h.objs.size<=a)(new:az P w (upd H a o) h' a o):cI P w (upd H a o) h':=λb u e=>by
 let hn:=x.fresh hp
 by_cases hb:b=a
 .subst hb;rw[bj] at e;cases e;exact new
 .rw[aA hb] at e
  calc(x b u e).dG (λc v _ q=>k c v q) (λc q=>by rw[aA (bR q hn)];calc q) λc xs q=>by rw[aA (bR q hn)];calc q
end
def Rd(H:Hp)(a:O)(u:HO):Prop:=H a=U u\/∃o,H a=U (.frz o u)
theorem Rd.ok{P:n}{w:Q}{H:Hp}{h:I}{a:O}{u:HO}(r:Rd H a u)(x:cI P w H h):az P w H h a u:=by
 rcases r with r|⟨o,r⟩
 .exact x a u r
 .let⟨_,q⟩:=x a _ r
  calc q
def rh:Option HO->Prop
 |some (.lst _)=>True
 |some (.dK _)=>True
 |some (.dT _)=>True
 |some (.set _ _)=>True
 |some (.ins _ _ _)=>True
 |some (.ext _)=>True
 |_=>False
section
variable{P:n}{w:Q}{H:Hp}{h h':I}{x e:O}{o':HO}
theorem cI.write(ok:cI P w H h)(mu:rh (H x))(he:e=x\/H e=U (.own x))(k:∀b u,b≠e->h.get? b=U u->h'.get? b=U u)(mP:∃u,h'.get? e=U u)
  (new:az P w (upd H x o') h' x o'):cI P w (upd H x o') h':=λb u q=>by
 let uR:∀c y,H c=U (.own y)->c≠x:=λc y r z=>by subst z;rw[r] at mu;exact mu
 let Au:∀c xs,H c=U (.tup xs)->c≠x:=λc xs r z=>by subst z;rw[r] at mu;exact mu
 by_cases hb:b=x
 .subst hb;rw[bj] at q;cases q;exact new
 .rw[aA hb] at q
  by_cases rk:b=e
  .let q':H b=U (.own x):=by
    rcases he with z|z
    .exact absurd (rk.trans z) hb
    .rw[rk];exact z
   rw[q] at q';cases q';let⟨v,hv⟩:=mP;exact⟨v,by rw[rk];calc hv⟩
  .refine (ok b u q).dG (λc v hc r=>k c v ?_ r) (λc r=>by rw[aA (uR c b r)];calc r) λc xs r=>by rw[aA (Au c xs r)];exact r
   rcases hc with rfl|hc
   .exact rk
   .ext rfl
    rcases he with z|z
    .exact uR c b hc z
    .rw[hc] at z;cases z;calc hb Y
end
structure Un(fs ex:-O)(H H':Hp)(h h':I):Prop where
 keep:∀b o,h.get? b=U o->H b=Z->b∉fs->b∉ex->h'.get? b=U o
 slot:∀b o,h.get? b=U o->H b=Z->b∈fs->b∉ex->∃sl,h'.get? b=U {o with slots:=sl}
 free:∀b o,h.get? b=U o->H b=Z->b∉ex->H' b=Z
 there:∀b o,h.get? b=U o->b∉ex->∃o',h'.get? b=U o'
 cQ:∀b xs,H b=U (.tup xs)->H' b=U (.tup xs)
 di:∀b o u,H b=U (.frz o u)->H' b=U (.frz o u)
 dH:∀b ps,H b=U (.tbl ps)->∃more,H' b=U (.tbl (ps++more))
section
variable{fs Ox ex ZD:-O}{H H1 H2:Hp}{h h1 h2 h':I}{a x e:O}{o:HO}
theorem Un.any(u:Un fs ex H H1 h h1){b:O}{ob:Γ}(q:h.get? b=U ob)(n:H b=Z)(hx:b∉ex):∃sl,h1.get? b=U {ob with slots:=sl}:=by
 by_cases hb:b∈fs
 .exact u.slot b ob q n hb hx
 .calc⟨ob.slots,u.keep b ob q n hb hx⟩
theorem Un.kept(k:∀b u,h.get? b=U u->h'.get? b=U u):Un fs ex H H h h' :=
 ⟨λb ob q _ _ _=>k b ob q,λb ob q _ _ _=>⟨ob.slots,k b ob q⟩,λ_ _ _ n _=>n,λb ob q _=>⟨ob,k b ob q⟩,λ_ _ q=>q,λ_ _ _ q=>q,λ_ ps q=>⟨#[],by rw[q];simp⟩⟩
theorem Un.refl:Un fs ex H H h h:=Un.kept λ_ _ q=>q
theorem Un.laid(k:∀b u,h.get? b=U u->h'.get? b=U u)(hp:h.objs.size<=a)(hn:H a=Z):Un fs ex H (upd H a o) h h' where
 keep:=λb u q _ _ _=>k b u q
 slot:=λb u q _ _ _=>⟨u.slots,k b u q⟩
 free:=λb u q n _=>by rw[aA (ZN (q0f (Qj q) hp))];exact n
 there:=λb u q _=>⟨u,k b u q⟩
 cQ:=λb xs q=>by rw[aA (bR q hn)];exact q
 di:=λb u xs q=>by rw[aA (bR q hn)];exact q
 dH:=λb ps q=>⟨#[],by rw[aA (bR q hn),q];simp⟩
theorem Un.write(mu:rh (H x))(he:e=x\/H e=U (.own x))(k:∀b u,b≠e->h.get? b=U u->h'.get? b=U u)(mP:∃u,h'.get? e=U u):Un fs ex H (upd H x o) h h':=by
 let hx:∀b,H b=Z->b≠x:=λb n z=>by subst z;rw[n] at mu;exact mu
 let hb:∀b,H b=Z->b≠e:=λb n z=>by
  subst z;rcases he with r|r
  .exact hx b n r
  .rw[n] at r;cases r
 let hm:∀b u,H b=U u->¬ rh (U u)->b≠x:=λb u q nm z=>by subst z;rw[q] at mu;exact nm mu
 refine⟨λb u q n _ _=>k b u (hb b n) q,λb u q n _ _=>⟨u.slots,k b u (hb b n) q⟩,λb u q n _=>by rw[aA (hx b n)];calc n,λb u q _=>?_,
  λb xs q=>by rw[aA (hm b _ q λz=>z)];calc q,λb u xs q=>by rw[aA (hm b _ q λz=>z)];calc q,λb ps q=>⟨#[],by rw[aA (hm b _ q λz=>z),q];simp⟩⟩
 by_cases rk:b=e
 .subst rk;exact mP
 .calc⟨u,k b u rk q⟩
end
noncomputable def xJ(h:I)(H:Hp):-O:=(q0s h.objs.size).filter λa=>(H a).isSome
noncomputable def gg(h:I)(H:Hp):I:=PySem.W.hideAll h (xJ h H)
theorem Oy(h:I)(H:Hp):(gg h H).objs.size=h.objs.size:=PySem.W.hideAll_size _ _
theorem Oz{h:I}{H:Hp}{b:O}{o:u}(e:h.get? b=U o)(n:H b=Z):(gg h H).get? b=U o :=
 PySem.W.hideAll_get _ e λhm=>by
  let q:(H b).isSome=θ:=(q4c.mp hm).2;rw[n] at q;simp at q
theorem OA{h:I}{H:Hp}{b:O}{o:u}(e:(gg h H).get? b=U o):h.get? b=U o/\H b=Z:=by
 let e':h.get? b=U o:=PySem.W.of_hideAll (xJ h H) e;refine⟨e',?_⟩
 cases q:H b with
 |none=>rfl
 |some x =>
  let hm:b∈xJ h H:=q4c.mpr ⟨q0G.mpr (Qj e'),by simp[q]⟩;let z:(gg h H).get? b=Z:=PySem.W.hideAll_none (xJ h H) hm;rw[z] at e;cases e
structure Mod(K:xY)(mg:R->Option B)(base:I):Prop where
 mQ:K.In base
 glob:base.Ns mainGlobals mg
 blt:∃mb,base.Ns builtinsNs mb/\∀x:R,x≠"__name__" -> mb x=bootBuiltins x
 nolimit:base.NoLimit
structure Cx where
 prog:n
 w:Q
 K:xY
 mg:R->Option B
 base:I
 A:q
 N:-R
 s₀:L
 H₀:Hp
 env:t
 outer:-t
 stack:-t
 ex:-O
 fn:R->Bool
 calm:Bool
 pn:-(O×u)
 xe:B->L->Prop
noncomputable def eM(l:-t):-O:=l.filterMap (·.frame)
noncomputable abbrev Cx.fs(X:Cx):-O:=eM X.outer
def tL(sc:S)(x:R):Prop:=sc.names.lookup x=U .local\/sc.names.lookup x=U .cell\/sc.names.lookup x=U .free
def Loc(sc:S)(x:R):Prop:=sc.names.lookup x=U .local\/sc.names.lookup x=U .cell
abbrev bx(x:R):Prop:=(x==("__debug__" : R))=ι
abbrev fq(X:Cx)(x:R):Prop:=X.fn x=θ\/X.env.scope.names.lookup x=U .local
abbrev dI(X:Cx)(e:M)(es:-M):Prop:=starEach (e::es) X.env=(ι,eval e X.env)::starEach es X.env
abbrev eS(X:Cx)(p:y)(es:-M):Prop:=(backTo p (starEach es X.env)).any (·.1)=ι
abbrev au:=-(O×u)
def Look(env:t)(h:I)(m:R->Option B)(x:R)(u:B):Prop :=
 (env.kindOf x=U .local/\m x=U u)\/((env.kindOf x=U .cell\/env.kindOf x=U .free)/\∃c,env.cells.lookup x=U c/\h.IsCell c (U u))
structure Cx.Ok(X:Cx):Prop where
 mod:Mod X.K X.mg X.base
 kind:X.env.scope.kind=.function
 glob:X.env.globals=mainGlobals
 blt:X.env.builtins=builtinsNs
 above:⇑X.s₀<=X.env.locals
 inj:∀x y c,X.env.cells.lookup x=U c->X.env.cells.lookup y=U c->x=y
 has:∀x,(X.env.kindOf x=U .cell\/X.env.kindOf x=U .free)->∃c,X.env.cells.lookup x=U c
 pW:∀x c,X.fn x=θ->X.env.cells.lookup x=U c->⇑X.s₀<=c
 hd:X.calm=θ->X.A.handled=Z
 frames:X.A.frames=U X.stack
 rl:X.stack=X.outer\/(X.stack=X.env::X.outer/\X.env.frame=U X.env.locals)
 uS:∀b∈X.ex,b≠X.env.locals/\∀x c,X.env.cells.lookup x=U c->c≠b
 bs:∀b o,X.base.get? b=U o->X.s₀.heap.get? b=U o/\X.H₀ b=Z
 ku:X.base.objs.size<=⇑X.s₀
 ij:∀b o,X.base.get? b=U o->b∉X.ex
 iQ:∀b∈X.ex,b∉X.fs
 dj:X.s₀.heap.FunFrames X.base X.outer
 kZ:∀b∈X.fs,X.H₀ b=Z
structure Inv(X:Cx)(pins:au)(σ:-(Option V))(H:Hp)(s:L):Prop where
 ok:X.Ok
 os:s.os=X.s₀.os
 bare:AllBare s.gens
 base:Un X.fs X.ex X.H₀ H X.s₀.heap s.heap
 loc:∃m,s.heap.Ns X.env.locals m/\∀(i:Nat)(x:R)(v:V),X.N[i]?=U x->σ[i]?=U (U v)->tL X.env.scope x->∃u,RelV v u/\Look X.env s.heap m x u
 cell:∀x c,X.env.cells.lookup x=U c->∃v,s.heap.IsCell c v
 free:H X.env.locals=Z
 bC:∀x c,X.env.cells.lookup x=U c->H c=Z
 pin:∀p∈X.pn++pins,s.heap.get? p.1=U p.2/\H p.1=Z/\p.1≠X.env.locals/\p.1∉X.fs/\∀v,p.2.data≠.cell v
 aF:cI X.prog X.w H s.heap
 len:↑σ=↑X.N
section
variable{X:Cx}{pins:au}{σ:-(Option V)}{H H':Hp}{s:L}{h':I}
theorem Cx.Ok.Av(ok:X.Ok){b:O}{o:u}(e:X.base.get? b=U o):b∉X.fs:=λhb=>by
 let:=(ok.dj.mem hb).1;rw[e] at this;cases this
theorem Inv.bs(I:Inv X pins σ H s):∀b o,X.base.get? b=U o->s.heap.get? b=U o/\H b=Z:=λb o e =>
 ⟨I.base.keep b o (I.ok.bs b o e).1 (I.ok.bs b o e).2 (I.ok.Av e) (I.ok.ij b o e),I.base.free b o (I.ok.bs b o e).1 (I.ok.bs b o e).2 (I.ok.ij b o e)⟩
theorem Inv.bk(I:Inv X pins σ H s):∀b o,X.base.get? b=U o->s.heap.get? b=U o:=λb o e=>(I.bs b o e).1
theorem Inv.mod(I:Inv X pins σ H s):Mod X.K X.mg X.base:=I.ok.mod
theorem Inv.dz(I:Inv X pins σ H s):X.K.In s.heap:=I.ok.mod.mQ.keeps I.bk
theorem Inv.nolimit(I:Inv X pins σ H s):s.heap.NoLimit:=I.ok.mod.nolimit.keeps I.bk
theorem Inv.lt(I:Inv X pins σ H s):X.env.locals<⇑s:=let⟨_,hn,_⟩:=I.loc;hn.lt
theorem Inv.sz(I:Inv X pins σ H s):⇑X.s₀<=⇑s:=q0Q I.ok.above (q1t I.lt)
theorem Inv.Aw(I:Inv X pins σ H s){a:O}(h:⇑s<=a):a∉X.fs:=λhb=>by
 let⟨_,o,ho,_⟩:=I.ok.dj.mem hb;calc absurd (q0f (Qj ho) (q0Q I.sz h)) (q2a _)
theorem Inv.nU(I:Inv X pins σ H s):∀x c,X.env.cells.lookup x=U c->c≠X.env.locals:=λx c e z=>by
 let⟨v,o,ho,hd⟩:=I.cell x c e;let⟨m,⟨o',es,ep,k6,uT,_⟩,_⟩:=I.loc;rw[z,k6] at ho;cases ho;rw[uT] at hd;cases hd
theorem Inv.dj(I:Inv X pins σ H s):s.heap.FunFrames X.base X.outer:=by
 let all:∀(l:-t),(∀b∈eM l,b∈X.fs)->X.s₀.heap.FunFrames X.base l->s.heap.FunFrames X.base l:=by
  ext l
  induction l with
  |nil=>ext _ _;trivial
  |cons env r ih =>
   ext hs hl;let⟨hk,⟨L,o,hf,hn,ho,hd⟩,hr⟩:=hl;let hL:L∈X.fs:=hs L (by unfold eM;rw[q14,hf];calc Qk);let⟨sl,e⟩:=I.base.slot L o ho (I.ok.kZ L hL) hL λz=>I.ok.iQ L z hL;exact⟨hk,⟨L,_,hf,hn,e,hd⟩,ih (λb hb=>hs b (by unfold eM;rw[q14,hf];calc Qm _ hb)) hr⟩
 calc all X.outer (λ_ hb=>hb) I.ok.dj
theorem Inv.stack(I:Inv X pins σ H s):s.heap.FunFrames X.base X.stack:=by
 rcases I.ok.rl with e|⟨e,hf⟩
 .rw[e];exact I.dj
 .rw[e]
  let⟨m,hn,_⟩:=I.loc;calc .cons (by rw[I.ok.kind];decide) hf hn ?_ I.dj;calc q28 (q0Q I.ok.ku I.ok.above)
theorem Inv.gG(I:Inv X pins σ H s):∀b∈eM X.stack,b∈X.env.locals::X.fs:=λb hb=>by
 rcases I.ok.rl with e|⟨e,hf⟩
 .rw[e] at hb;exact Qm _ hb
 .rw[e] at hb
  unfold eM at hb;rw[q14,hf] at hb;calc hb
theorem Inv.dY(I:Inv X pins σ H s):∀b∈eM X.stack,H b=Z:=λb hb=>by
 rcases My.mp (I.gG b hb) with e|hb
 .rw[e];exact I.free
 .let⟨_,o,ho,_⟩:=I.ok.dj.mem hb
  calc I.base.free b o ho (I.ok.kZ b hb) λz=>I.ok.iQ b z hb
theorem Inv.step{g':Array GenState}{t':Nat}{d':Drawn}{ch:-O}(I:Inv X pins σ H s)
  (mR:∀b∈ch,(b∈X.ex\/⇑X.s₀<=b)/\b≠X.env.locals/\(∀x c,X.env.cells.lookup x=U c->c≠b)/\∀p∈X.pn++pins,p.1≠b)
  (keep:∀b o,b≠X.env.locals->b∉X.fs->b∉ch->s.heap.get? b=U o->H b=Z->h'.get? b=U o)
  (slot:∀b o,b≠X.env.locals->b∈X.fs->b∉ch->s.heap.get? b=U o->H b=Z->∃sl,h'.get? b=U {o with slots:=sl}) (free:∀b o,b∉ch->s.heap.get? b=U o->H b=Z->H' b=Z)
  (there:∀b o,b∉ch->s.heap.get? b=U o->∃o',h'.get? b=U o')
  (cQ:∀b xs,H b=U (.tup xs)->H' b=U (.tup xs)) (di:∀b o u,H b=U (.frz o u)->H' b=U (.frz o u)) (dH:∀b ps,H b=U (.tbl ps)->∃more,H' b=U (.tbl (ps++more)))
  (ns:∀m,s.heap.Ns X.env.locals m->h'.Ns X.env.locals m) (aF:cI X.prog X.w H' h') (hg:AllBare g') :
  Inv X pins σ H' {s with heap:=h',gens:=g',drawn:=d',toks:=t'}:=by
 let G8:∀b o,X.s₀.heap.get? b=U o->b≠X.env.locals:=λb o e=>ZN (q0f (Qj e) I.ok.above)
 let xK:∀b o,X.s₀.heap.get? b=U o->b∉X.ex->b∉ch:=λb o e hx hb=>by
  rcases(mR b hb).1 with z|z
  .exact hx z
  .exact absurd (q0f (Qj e) z) (q2a _)
 let cellK:∀x c,X.env.cells.lookup x=U c->∀v,s.heap.IsCell c v->h'.IsCell c v:=λx c e v ⟨o,ho,hd⟩↦by
  let k9:c∉ch:=λz=>(mR c z).2.2.1 x c e Y
  by_cases hc:c∈X.fs
  .let⟨sl,q⟩:=slot c o (I.nU x c e) hc k9 ho (I.bC x c e)
   exact⟨_,q,hd⟩
  .exact⟨o,keep c o (I.nU x c e) hc k9 ho (I.bC x c e),hd⟩
 refine⟨I.ok,I.os,hg,⟨λb o e n hb hx=>?_,λb o e n hb hx=>?_,λb o e n hx=>?_,λb o e hx=>?_,λb xs e=>cQ b xs (I.base.cQ b xs e),λb o xs e=>di b o xs (I.base.di b o xs e),λb ps e=>?_⟩,?_,λx c e=>?_,?_,λx c e=>?_,λp hp=>?_,aF,I.len⟩
 .exact keep b o (G8 b o e) hb (xK b o e hx) (I.base.keep b o e n hb hx) (I.base.free b o e n hx)
 .let⟨sl,e1⟩:=I.base.slot b o e n hb hx
  let⟨mS,e2⟩:=slot b _ (G8 b o e) hb (xK b o e hx) e1 (I.base.free b o e n hx);exact⟨mS,e2⟩
 .let⟨o',e1⟩:=I.base.there b o e hx
  exact free b o' (xK b o e hx) e1 (I.base.free b o e n hx)
 .let⟨o',e1⟩:=I.base.there b o e hx
  exact there b o' (xK b o e hx) e1
 .let⟨m1,e1⟩:=I.base.dH b ps e
  let⟨m2,e2⟩:=dH b _ e1;exact⟨m1++m2,by rw[e2,Array.append_assoc]⟩
 .let⟨m,hn,hl⟩:=I.loc
  calc⟨m,ns m hn,λi x v e1 e2 e3=>?_⟩;let⟨u,r,l⟩:=hl i x v e1 e2 e3;calc⟨u,r,?_⟩;rcases l with l|⟨k,c,e,z⟩
  .exact .inl l
  .exact .inr ⟨k,c,e,cellK x c e _ z⟩
 .let⟨v,z⟩:=I.cell x c e
  exact⟨v,cellK x c e v z⟩
 .let⟨m,⟨o,_,_,ho,_⟩,_⟩:=I.loc
  exact free _ o (λz=>(mR _ z).2.1 Y) ho I.free
 .let⟨v,o,ho,hd⟩:=I.cell x c e
  exact free c o (λz=>(mR c z).2.2.1 x c e Y) ho (I.bC x c e)
 .let⟨e,n,ne,nf,d⟩:=I.pin p hp
  let k9:p.1∉ch:=λz=>(mR p.1 z).2.2.2 p hp Y;calc⟨keep p.1 p.2 ne nf k9 e n,free p.1 p.2 k9 e n,ne,nf,d⟩
theorem Inv.un{t':Nat}(I:Inv X pins σ H s)(u:Un X.fs [] H H' s.heap h')(aF:cI X.prog X.w H' h'):Inv X pins σ H' {s with heap:=h',toks:=t'}:=by
 let⟨m,⟨o,es,ep,ho,r⟩,_⟩:=id I.loc;let⟨sl,hL⟩:=u.any ho I.free (by simp)
 exact I.step (g':=s.gens) (d':=s.drawn) (ch:=[]) (λ_ z=>nomatch z) (λb o _ hb _ e n=>u.keep b o e n hb (by simp)) (λb o _ hb _ e n=>u.slot b o e n hb (by simp)) (λb o _ e n=>u.free b o e n (by simp)) (λb o _ e=>u.there b o e (by simp)) u.cQ u.di u.dH (λm' hm=>by
  let⟨o',uU,Ax,k6,r'⟩:=hm;rw[ho] at k6;cases k6
  calc⟨_,uU,Ax,hL,r'⟩) aF I.bare
theorem Inv.call{g':Array GenState}{t':Nat}{d':Drawn}{ch:-O}(I:Inv X pins σ H s)(u:Un (eM X.stack) ch H H' s.heap h')(aF:cI X.prog X.w H' h')(hg:AllBare g')
  (mR:∀b∈ch,(b∈X.ex\/⇑X.s₀<=b)/\b≠X.env.locals/\(∀x c,X.env.cells.lookup x=U c->c≠b)/\∀p∈X.pn++pins,p.1≠b) :
  Inv X pins σ H' {s with heap:=h',gens:=g',drawn:=d',toks:=t'}:=by
 let⟨m,⟨o,es,ep,ho,r⟩,_⟩:=id I.loc;let⟨sl,hL⟩:=u.any ho I.free λz=>(mR _ z).2.1 Y
 exact I.step (ch:=ch) mR (λb o hL hb hc e n=>u.keep b o e n (λz=>(My.mp (I.gG b z)).elim hL hb) hc) (λb o _ _ hc e n=>u.any e n hc) (λb o hc e n=>u.free b o e n hc) (λb o hc e=>u.there b o e hc) u.cQ u.di u.dH (λm' hm=>by
  let⟨o',uU,Ax,k6,r'⟩:=hm;rw[ho] at k6;cases k6
  calc⟨_,uU,Ax,hL,r'⟩) aF hg
theorem Inv.turned{t':Nat}{it:O}(I:Inv X pins σ H s)(k:∀b o,b≠it->s.heap.get? b=U o->h'.get? b=U o)(hn:H it=Z)(hL:it≠X.env.locals)
  (h1:it∈X.ex\/⇑X.s₀<=it) (h2:∀x c,X.env.cells.lookup x=U c->c≠it) (h3:∀p∈X.pn++pins,p.1≠it):Inv X pins σ H {s with heap:=h',toks:=t'}:=by
 let G9:∀b u,H b=U u->b≠it:=λb u e z=>by rw[z,hn] at e;cases e
 refine I.step (g':=s.gens) (d':=s.drawn) (ch:=[it]) (λb hb=>?_) (λb o _ _ hc e _=>k b o (λz=>hc (by simp[z])) e) (λb o _ _ hc e _=>⟨o.slots,k b o (λz=>hc (by simp[z])) e⟩) (λ_ _ _ _ n=>n)
  (λb o hc e=>⟨o,k b o (λz=>hc (by simp[z])) e⟩) (λ_ _ e=>e) (λ_ _ _ e=>e) (λb ps e=>⟨#[],by rw[e];simp⟩) (λm hm=>?_) (λb u e=>?_) I.bare
 .let e:b=it:=by simpa using hb
  subst e;exact⟨h1,hL,h2,h3⟩
 .let⟨o,es,ep,ho,r⟩:=hm
  exact⟨o,es,ep,k _ o (q1L hL) ho,r⟩
 .refine (I.aF b u e).dG (λc v hc q=>k c v ?_ q) (λ_ q=>q) λ_ _ q=>q
  rcases hc with z|z
  .rw[z];exact G9 b u e
  .calc G9 c _ z
theorem Inv.tok(I:Inv X pins σ H s)(t:Nat):Inv X pins σ H {s with toks:=t}:=I.un (h':=s.heap) (t':=t) Un.refl I.aF
theorem Inv.kept{t':Nat}(I:Inv X pins σ H s)(k:∀b u,s.heap.get? b=U u->h'.get? b=U u):Inv X pins σ H {s with heap:=h',toks:=t'}:=I.un (Un.kept k) (I.aF.kept k)
theorem Inv.laid{a:O}{o:HO}{t':Nat}(I:Inv X pins σ H s)(k:∀b u,s.heap.get? b=U u->h'.get? b=U u)(hp:⇑s<=a)(new:az X.prog X.w (upd H a o) h' a o):
  Inv X pins σ (upd H a o) {s with heap:=h',toks:=t'}:=I.un (Un.laid k hp (I.aF.fresh hp)) (I.aF.laid k hp new)
theorem Inv.write{x e:O}{o:HO}{t':Nat}(I:Inv X pins σ H s)(mu:rh (H x))(he:e=x\/H e=U (.own x))(k:∀b u,b≠e->s.heap.get? b=U u->h'.get? b=U u)(mP:∃u,h'.get? e=U u)
  (new:az X.prog X.w (upd H x o) h' x o):Inv X pins σ (upd H x o) {s with heap:=h',toks:=t'}:=I.un (Un.write mu he k mP) (I.aF.write mu he k mP new)
theorem Inv.fG{bX:au}(I:Inv X pins σ H s)(h:∀p∈bX,s.heap.get? p.1=U p.2/\H p.1=Z/\p.1≠X.env.locals/\p.1∉X.fs/\∀v,p.2.data≠.cell v):Inv X bX σ H s :=
 ⟨I.ok,I.os,I.bare,I.base,I.loc,I.cell,I.free,I.bC,λp hp=>(q0U.mp hp).elim (λz=>I.pin p (q1g _ z)) (h p),I.aF,I.len⟩
theorem Az{N:-R}(hN:N.Nodup){i j:Nat}{x:R}(a:N[i]?=U x)(b:N[j]?=U x):i=j:=by
 let⟨h1,e1⟩:=tU.mp a;let⟨h2,e2⟩:=tU.mp b;calc(q6_ hN).mp (e1.trans e2.symm)
theorem G_{M:Model}{A:Β}{E:aJ}{i:Nat}{x:R}{v:V}{u:B}{Q:Unit->L->Prop}(I:Inv X pins σ H s)(hN:X.N.Nodup)(hi:X.N[i]?=U x)(hx:Loc X.env.scope x)(r:RelV v u)
  (h:∀s',Inv X pins (σ.set i (U v)) H s'->(∃a,q2J a s.heap s'.heap/\(a=X.env.locals\/X.env.cells.lookup x=U a))->Q () s') (hf:fq X x:=by first|exact .inl Y|exact .inr Y|assumption):G M A (storeName X.env x u) Q E s:=by
 let⟨m,hn,hl⟩:=id I.loc;let AA:(X.env.scope.kind==.class||(X.env.scope.kind==.module&&X.env.locals != X.env.globals))=ι:=by rw[I.ok.kind];rfl
 let Ha:i<↑σ:=by rw[I.len];exact(tU.mp hi).1
 let nU:=I.nU
 let tracked:∀{a:O}{h':Α},(∃o,s.heap.get? a=U o/\H a=Z)->q2J a s.heap h'->cI X.prog X.w H h':=λ{a h'} ha hs b ob e=>by
  let⟨_,_,pX⟩:=ha;calc(I.aF b ob e).dG (λc w' hc q=>(hs.2 c ?_).trans q) (λ_ q=>q) λ_ _ q=>q;ext rfl;rcases hc with rfl|hc
  .rw[pX] at e;cases e
  .rw[pX] at hc;cases hc
 rcases hx with hk|hk
 .refine wpAny_storeName_local hk hn (λh' kQ hs=>?_) AA
  let⟨oL,_,_,kz,_⟩:=id hn;refine h _ ⟨I.ok,I.os,I.bare,⟨λb o e n hb hx=>?_,λb o e n hb hx=>?_,I.base.free,λb o e hx=>?_,I.base.cQ,I.base.di,I.base.dH⟩,⟨_,kQ,λj y v' e1 e2 e3=>?_⟩,λy c e=>?_,I.free,I.bC,λp hp=>?_,tracked ⟨oL,kz,I.free⟩ hs,by simpa using I.len⟩ ⟨_,hs,.inl Y⟩
  .exact (hs.2 b (ZN (q0f (Qj e) I.ok.above))).trans (I.base.keep b o e n hb hx)
  .let⟨sl,e1⟩:=I.base.slot b o e n hb hx
   exact⟨sl,(hs.2 b (ZN (q0f (Qj e) I.ok.above))).trans e1⟩
  .let⟨o',e1⟩:=I.base.there b o e hx
   exact⟨o',(hs.2 b (ZN (q0f (Qj e) I.ok.above))).trans e1⟩
  .by_cases hj:j=i
   .subst hj
    rw[hi] at e1;cases e1;rw[q0R Ha] at e2;cases e2
    exact⟨u,r,.inl ⟨hk,by simp⟩⟩
   .rw[q0Y (q1L hj)] at e2
    let⟨u',r',q⟩:=hl j y v' e1 e2 e3;calc⟨u',r',?_⟩;rcases q with⟨k,e⟩|⟨k,c,e,z⟩
    .refine .inl ⟨k,?_⟩
     let:y≠x:=λe=>hj (Az hN e1 (e▸hi));simp[this,e]
    .exact .inr ⟨k,c,e,z.sameBut hs (nU y c e)⟩
  .let⟨w',z⟩:=I.cell y c e
   exact⟨w',z.sameBut hs (nU y c e)⟩
  .let⟨e,n,ne,nf,d⟩:=I.pin p hp
   exact⟨(hs.2 p.1 ne).trans e,n,ne,nf,d⟩
 .let jK:X.fn x=θ:=by
   rcases hf with z|z
   .exact z
   .rw[z] at hk;cases hk
  let⟨c,hc⟩:=I.ok.has x (.inl hk);let⟨w',z⟩:=I.cell x c hc;calc wpAny_storeName_cell I.ok.kind hk hc z (λh' kA hs=>?_);let⟨oc,Hb,AB⟩:=id z;refine h {s with heap:=h'} ⟨I.ok,I.os,I.bare,⟨λb o e n hb hx=>?_,λb o e n hb hx=>?_,I.base.free,λb o e hx=>?_,I.base.cQ,I.base.di,I.base.dH⟩,⟨m,hn.sameBut hs (q1L (nU x c hc)),λj y v' e1 e2 e3=>?_⟩,λy c' e=>?_,I.free,I.bC,λp hp=>?_,tracked ⟨oc,Hb,I.bC x c hc⟩ hs,by simpa using I.len⟩ ⟨c,hs,.inr hc⟩
  .exact (hs.2 b (ZN (q0f (Qj e) (I.ok.pW x c jK hc)))).trans (I.base.keep b o e n hb hx)
  .let⟨sl,e1⟩:=I.base.slot b o e n hb hx
   exact⟨sl,(hs.2 b (ZN (q0f (Qj e) (I.ok.pW x c jK hc)))).trans e1⟩
  .let⟨o',e1⟩:=I.base.there b o e hx
   exact⟨o',(hs.2 b (ZN (q0f (Qj e) (I.ok.pW x c jK hc)))).trans e1⟩
  .by_cases hj:j=i
   .subst hj
    rw[hi] at e1;cases e1;rw[q0R Ha] at e2;cases e2
    exact⟨u,r,.inr ⟨.inl hk,c,hc,kA⟩⟩
   .rw[q0Y (q1L hj)] at e2
    let⟨u',r',q⟩:=hl j y v' e1 e2 e3;calc⟨u',r',?_⟩;rcases q with q|⟨k,c',e,z'⟩
    .exact .inl q
    .refine .inr ⟨k,c',e,z'.sameBut hs ?_⟩
     ext rfl;exact hj (Az hN e1 (I.ok.inj _ _ _ e hc▸hi))
  .by_cases hcc:c'=c
   .subst hcc;exact⟨_,kA⟩
   .let⟨w2,z2⟩:=I.cell y c' e
    exact⟨w2,z2.sameBut hs hcc⟩
  .let⟨e,n,ne,nf,d⟩:=I.pin p hp
   calc⟨(hs.2 p.1 ?_).trans e,n,ne,nf,d⟩;ext q;rw[q,Hb] at e;let q':oc=p.2:=q0A e;calc d w' (by rw[<-q'];calc AB)
theorem xM{M:Model}{A:q}{E:aJ}{i:Nat}{x:R}{v:V}{u:B}{Q:Unit->L->Prop}(I:Inv X pins σ H s)(hN:X.N.Nodup)(hi:X.N[i]?=U x)(hx:Loc X.env.scope x)(r:RelV v u)
  (h:∀s',Inv X pins (σ.set i (U v)) H s'->Q () s') (hf:fq X x:=by first|exact .inl Y|exact .inr Y|assumption):G M A (storeName X.env x u) Q E s :=
 G_ I hN hi hx r (λs' I' _=>h s' I') hf
theorem Inv.jg{s':L}{ch:-O}(I:Inv X pins σ H s)(ho:s'.os=s.os)(u:Un (eM X.stack) ch H H' s.heap s'.heap)(aF:cI X.prog X.w H' s'.heap)(hg:AllBare s'.gens)
  (mR:∀b∈ch,(b∈X.ex\/⇑X.s₀<=b)/\b≠X.env.locals/\(∀x c,X.env.cells.lookup x=U c->c≠b)/\∀p∈X.pn++pins,p.1≠b):Inv X pins σ H' s':=by
 let⟨h',g',d',t',o'⟩:=s';let e:o'=s.os:=ho;subst e;calc I.call (g':=g') (t':=t') (d':=d') u aF hg mR
end
abbrev XK:=B->Option O->Hp->Prop
abbrev St:=-(Option V)
abbrev VK:=V->Hp->Prop
abbrev TE:=St->Hp->VK->Prop
abbrev TT:=St->Hp->(Bool->Hp->Prop)->Prop
abbrev TA:=St->Hp->(-V->Hp->Prop)->Prop
structure Ends where
 nx:St->Hp->Prop
 rt:VK
 bk:St->Hp->Prop:=λ_ _=>False
 ct:St->Hp->Prop:=λ_ _=>False
abbrev TS:=Ends->St->Hp->Prop
def EP(X:Cx)(pins:au)(σ:St)(Q:VK)(u:B)(s':L):Prop:=∃v H',Inv X pins σ H' s'/\RelV v u/\Q v H'
def TP(X:Cx)(pins:au)(σ:St)(Q:Bool->Hp->Prop)(b:Bool)(s':L):Prop:=∃H',Inv X pins σ H' s'/\Q b H'
def AP(X:Cx)(pins:au)(σ:St)(Q:-V->Hp->Prop)(us:-B)(s':L):Prop:=∃vs H',Inv X pins σ H' s'/\Vals vs us/\Q vs H'
def SP(X:Cx)(pins:au)(D:Ends)(f:Flow)(s':L):Prop :=
 match f with
 |.next=>∃σ' H',Inv X pins σ' H' s'/\D.nx σ' H'
 |.brk=>∃σ' H',Inv X pins σ' H' s'/\D.bk σ' H'
 |.cont=>∃σ' H',Inv X pins σ' H' s'/\D.ct σ' H'
 |.ret u=>∃v σ' H',Inv X pins σ' H' s'/\RelV v u/\D.rt v H'
structure JE(X:Cx)(e:M)(t:TE):Prop where
 out:∀(pins:au)(s:L)(σ:St)(H:Hp)(Q:VK),Inv X pins σ H s->t σ H Q->G (g X.prog X.w) X.A (eval e X.env) (EP X pins σ Q) X.xe s
instance {X:Cx} {e:M} {t:TE}:CoeFun (JE X e t) (λ_=>∀(pins:au)(s:L)(σ:St)(H:Hp)(Q:VK),Inv X pins σ H s->t σ H Q->G (g X.prog X.w) X.A (eval e X.env) (EP X pins σ Q) X.xe s):=⟨JE.out⟩
structure JT(X:Cx)(e:M)(t:TT):Prop where
 out:∀(pins:au)(s:L)(σ:St)(H:Hp)(Q:Bool->Hp->Prop),Inv X pins σ H s->t σ H Q->G (g X.prog X.w) X.A (isTrue e X.env (eval e X.env)) (TP X pins σ Q) X.xe s
instance {X:Cx} {e:M} {t:TT}:CoeFun (JT X e t) (λ_=>∀(pins:au)(s:L)(σ:St)(H:Hp)(Q:Bool->Hp->Prop),Inv X pins σ H s->t σ H Q->G (g X.prog X.w) X.A (isTrue e X.env (eval e X.env)) (TP X pins σ Q) X.xe s):=⟨JT.out⟩
structure JW(X:Cx)(e:M)(t:TT):Prop where
 out:∀(whole:Sem B)(pins:au)(s:L)(σ:St)(H:Hp)(Q:Bool->Hp->Prop),Inv X pins σ H s->t σ H Q->G (g X.prog X.w) X.A (isTrue e X.env whole) (TP X pins σ Q) X.xe s
instance {X:Cx} {e:M} {t:TT}:CoeFun (JW X e t) (λ_=>∀(whole:Sem B)(pins:au)(s:L)(σ:St)(H:Hp)(Q:Bool->Hp->Prop),Inv X pins σ H s->t σ H Q->G (g X.prog X.w) X.A (isTrue e X.env whole) (TP X pins σ Q) X.xe s):=⟨JW.out⟩
theorem JW.jt{X:Cx}{e:M}{t:TT}(h:JW X e t):JT X e t:=⟨h.out _⟩
structure JA(X:Cx)(es:-M)(t:TA):Prop where
 out:∀(pos:y)(pins:au)(s:L)(σ:St)(H:Hp)(Q:-V->Hp->Prop),Inv X pins σ H s->t σ H Q->G (g X.prog X.w) X.A (spliced (backTo pos (starEach es X.env))) (AP X pins σ Q) X.xe s
instance {X:Cx} {es:-M} {t:TA}:CoeFun (JA X es t) (λ_=>∀(pos:y)(pins:au)(s:L)(σ:St)(H:Hp)(Q:-V->Hp->Prop),Inv X pins σ H s->t σ H Q->G (g X.prog X.w) X.A (spliced (backTo pos (starEach es X.env))) (AP X pins σ Q) X.xe s):=⟨JA.out⟩
structure JS(X:Cx)(st:o)(t:TS):Prop where
 out:∀(pins:au)(s:L)(σ:St)(H:Hp)(D:Ends),Inv X pins σ H s->t D σ H->G (g X.prog X.w) X.A (exec st X.env) (SP X pins D) X.xe s
instance {X:Cx} {st:o} {t:TS}:CoeFun (JS X st t) (λ_=>∀(pins:au)(s:L)(σ:St)(H:Hp)(D:Ends),Inv X pins σ H s->t D σ H->G (g X.prog X.w) X.A (exec st X.env) (SP X pins D) X.xe s):=⟨JS.out⟩
structure cj(X:Cx)(st:-o)(t:TS):Prop where
 out:∀(pins:au)(s:L)(σ:St)(H:Hp)(D:Ends),Inv X pins σ H s->t D σ H->G (g X.prog X.w) X.A (execs st X.env) (SP X pins D) X.xe s
instance {X:Cx} {st:-o} {t:TS}:CoeFun (cj X st t) (λ_=>∀(pins:au)(s:L)(σ:St)(H:Hp)(D:Ends),Inv X pins σ H s->t D σ H->G (g X.prog X.w) X.A (execs st X.env) (SP X pins D) X.xe s):=⟨cj.out⟩
theorem a_{α:Type}{t:Sem α}{Q Q':α->L->Prop}{M:Model}{A:q}{E:aJ}{s:L}(h:G M A t Q E s)(hQ:∀a s,Q a s->Q' a s):G M A t Q' E s:=q1v h hQ λ_ _ x=>x
section
variable{X:Cx}
def gi(i:Nat):TE:=fun σ H Q=>∃v,σ[i]?=U (U v)/\Q v H
def tC(v:V):TE:=λ_ H Q=>Q v H
theorem Hc{i:Nat}{x:R}{pos:y}(hN:X.N[i]?=U x)(hv:tL X.env.scope x)(hd:bx x:=by decide)(e7:(x==("__classdict__" : R))=ι:=by decide):JE X (.Name x pos) (gi i):=by
 calc⟨?_⟩;ext pins s σ H Q I h;let⟨v,e,h⟩:=h;let⟨m,hn,hl⟩:=I.loc;let⟨u,r,l⟩:=hl i x v hN e hv;let fin:EP X pins σ Q u s:=⟨v,H,I,r,h⟩;rcases l with⟨hk,hm⟩|⟨hk,c,hc,pY⟩
 .exact q7S (wpAny_loadName_local I.ok.kind hk hn hm fin) hd
 .rcases hk with hk|hk
  .exact q7S (wpAny_loadName_cell I.ok.kind hk hc pY fin) hd
  .calc q7S (wpAny_loadName_free I.ok.kind hk hc pY fin e7) hd
theorem k_{i j pos}:JE X (.Constant (.int i) j pos) (tC (.int i)):=⟨λ_ _ _ H _ I h=>wpAny_Constant_int ⟨.int i,H,I.tok _,⟨_,Y⟩,h⟩⟩
theorem AD{b j pos}:JE X (.Constant (.bool b) j pos) (tC (.bl b)):=⟨λ_ _ _ H _ I h=>Constant_bool ⟨.bl b,H,I,Y,h⟩⟩
theorem OB{j pos}:JE X (.Constant .none j pos) (tC .non):=⟨λ_ _ _ H _ I h=>Constant_none ⟨.non,H,I,Y,h⟩⟩
theorem uV{x j pos}:JE X (.Constant (.str x) j pos) (tC (.str x)):=⟨λ_ _ _ H _ I h=>Calls.Constant_str ⟨.str x,H,I.tok _,⟨_,Y⟩,h⟩
⟩
def Gl(X:Cx)(x:R):Prop:=X.env.kindOf x=U .globalImplicit
theorem uW{E:aJ}{pins:au}{s:L}{σ:St}{H:Hp}{x:R}{u:B}{pos:y}{Q:aJ}(I:Inv X pins σ H s)(hg:Gl X x)(hm:X.mg x=U u)(h:Q u s)
  (hd:bx x:=by decide):G (g X.prog X.w) X.A (eval (.Name x pos) X.env) Q E s :=
 q4v I.ok.kind hg (Calls.loadGlobal_global (by rw[I.ok.glob];calc I.mod.glob.keeps I.bk) hm h) hd
theorem nW{E:aJ}{pins:au}{s:L}{σ:St}{H:Hp}{x:R}{u:B}{pos:y}{Q:aJ}(I:Inv X pins σ H s)(hg:Gl X x)(hm:X.mg x=Z)(hv:bootBuiltins x=U u)(h:Q u s)
  (hn:x≠"__name__" := by decide) (hd:bx x:=by decide):G (g X.prog X.w) X.A (eval (.Name x pos) X.env) Q E s:=by
 let⟨mb,h1,h2⟩:=I.mod.blt;calc q4v I.ok.kind hg (Calls.loadGlobal_builtin (by rw[I.ok.glob];calc I.mod.glob.keeps I.bk) hm (by rw[I.ok.blt];calc h1.keeps I.bk) ((h2 x hn).trans hv) h) hd
theorem AE{x:R}{v:V}{u:B}{pos:y}(hg:Gl X x)(hm:X.mg x=U u)(r:RelV v u)(hd:bx x:=by decide):JE X (.Name x pos) (tC v):=⟨λ_ _ _ H _ I h=>uW I hg hm ⟨v,H,I,r,h⟩ hd⟩
theorem Hd{x:R}{v:V}{u:B}{pos:y}(hg:Gl X x)(hm:X.mg x=Z)(hv:bootBuiltins x=U u)(r:RelV v u)(hn:x≠"__name__" := by decide)(hd:bx x:=by decide):JE X (.Name x pos) (tC v):=⟨λ_ _ _ H _ I h=>nW I hg hm hv ⟨v,H,I,r,h⟩ hn hd
⟩
variable{a b:M}{ta tb:TE}{pos:y}
structure JC(X:Cx)(op:CmpOp)(a b:M)(t:TE):Prop where
 out:∀(pins:au)(s:L)(σ:St)(H:Hp)(Q:VK),Inv X pins σ H s->t σ H Q →
  G (g X.prog X.w) X.A (eval a X.env) (λv s₁=>G (g X.prog X.w) X.A (eval b X.env) (λu s₂=>G (g X.prog X.w) X.A (compareOp op v u) (EP X pins σ Q) X.xe s₂) X.xe s₁) X.xe s
instance {X:Cx} {op:CmpOp} {a b:M} {t:TE}:CoeFun (JC X op a b t) (λ_=>∀(pins:au)(s:L)(σ:St)(H:Hp)(Q:VK),Inv X pins σ H s->t σ H Q->G (g X.prog X.w) X.A (eval a X.env) (λv s₁=>G (g X.prog X.w) X.A (eval b X.env) (λu s₂=>G (g X.prog X.w) X.A (compareOp op v u) (EP X pins σ Q) X.xe s₂) X.xe s₁) X.xe s):=⟨JC.out⟩
theorem OC(b:M){op:CmpOp}(h:op≠.In)(h2:op≠.NotIn):behindInMarks op b=ι:=by
 let e1:(op==CmpOp.In)=ι:=by cases op<;>first|rfl|exact absurd Y h
 let e2:(op==CmpOp.NotIn)=ι:=by cases op<;>first|rfl|exact absurd Y h2
 cases b<;>simp[behindInMarks,e1,e2]
def uX(ta:TE):TE:=fun σ H Q=>ta σ H λx H1=>Q (.bl (J (x=.non))) H1
theorem RelV.lg{x:V}{v:B}(r:RelV x v):(v==q0n)=J (x=.non):=by
 cases x with
 |non=>cases r;rfl
 |bl _=>cases r;rfl
 |int _=>let⟨t,rfl⟩:=r;rfl
 |str _=>let⟨t,rfl⟩:=r;rfl
 |byt _=>let⟨t,rfl⟩:=r;rfl
 |flt _=>let⟨t,rfl⟩:=r;rfl
 |ref _=>cases r;rfl
 |ty _=>cases r;rfl
theorem OD{j pos'}(ha:JE X a ta):JC X .Is a (.Constant .none j pos') (uX ta):=by
 calc⟨?_⟩;ext pins s σ H Q I h;calc a_ (ha pins s σ H _ I h) λv s1 h0_=>el5 h0_ λx H1 I1 r1 q1=>?_;calc Constant_none (is_none_gen ⟨.bl _,H1,I1,by rw[r1.lg];rfl,q1⟩)
def tB(t:TE):TT:=fun σ H Q=>t σ H λx H1=>∃c,x=.bl c/\Q c H1
theorem He{op:CmpOp}{t:TE}(h:JC X op a b t)(h1:behindInMarks op b=ι:=by first|exact OC _ (by decide) (by decide)|rfl):JT X (.Compare a [op] [b] pos) (tB t):=by
 calc⟨?_⟩;ext pins s σ H Q I hw;calc q5t (a_ (h pins s σ H _ I hw) λv s1 h1=>a_ h1 λu s2 h2=>a_ h2 λc s3 h0_=>el5 h0_ λx H1 I1 r1 q1=>?_) h1;let⟨d,rfl,q⟩:=q1;cases r1
 calc q2d ⟨H1,I1,q⟩
theorem AF{e:M}{t:TE}(h:JE X e t)(he:∀whole,isTrue e X.env whole=(do let v <- whole;standAt e.pos;holding [v] (truthy v)):=by ext _;rfl):JT X e (tB t):=by
 calc⟨?_⟩;ext pins s σ H Q I hw;calc isTrue_plain (a_ (h pins s σ H _ I hw) λv s1 h0_=>el5 h0_ λx H1 I1 r1 q1=>?_) (he _);let⟨d,rfl,q⟩:=q1;cases r1
 calc q2d ⟨H1,I1,q⟩
variable{tA xN:TT}{rest:-M}
def uY(t u:TT):TT:=fun σ H Q=>t σ H λc H1=>if c=θ then u σ H1 Q else Q ι H1
def Hf(t u:TT):TT:=fun σ H Q=>t σ H λc H1=>if c=θ then Q θ H1 else u σ H1 Q
def AG(t:TT):TT:=fun σ H Q=>t σ H λc H1=>Q (!c) H1
theorem OE(ha:JT X a tA):JW X (.BoolOp .And [a] pos) tA:=by
 calc⟨?_⟩;ext wh pins s σ H Q I h;refine isTrue_and (a_ (ha pins s σ H Q I h) λc s1 e=>?_)
 cases c with
 |true=>exact isTrue_and_nil e
 |false=>calc e
theorem Hg(ha:JT X a tA):JW X (.BoolOp .Or [a] pos) tA:=by
 calc⟨?_⟩;ext wh pins s σ H Q I h;refine isTrue_or (a_ (ha pins s σ H Q I h) λc s1 e=>?_)
 cases c with
 |false=>exact isTrue_or_nil e
 |true=>calc e
theorem OF(ha:JT X a tA)(hb:JW X (.BoolOp .And (b::rest) pos) xN):JW X (.BoolOp .And (a::b::rest) pos) (uY tA xN):=by
 calc⟨?_⟩;ext wh pins s σ H Q I h;refine isTrue_and (a_ (ha pins s σ H _ I h) λc s1 h0_=>el3 h0_ λH1 I1 q1=>?_)
 cases c with
 |true=>exact hb wh pins s1 σ H1 Q I1 q1
 |false=>calc⟨H1,I1,q1⟩
theorem AH(ha:JT X a tA)(hb:JW X (.BoolOp .Or (b::rest) pos) xN):JW X (.BoolOp .Or (a::b::rest) pos) (Hf tA xN):=by
 calc⟨?_⟩;ext wh pins s σ H Q I h;refine isTrue_or (a_ (ha pins s σ H _ I h) λc s1 h0_=>el3 h0_ λH1 I1 q1=>?_)
 cases c with
 |true=>exact⟨H1,I1,q1⟩
 |false=>calc hb wh pins s1 σ H1 Q I1 q1
theorem AI(ha:JT X a tA):JT X (.UnaryOp .Not a pos) (AG tA):=by
 calc⟨?_⟩;ext pins s σ H Q I h;calc isTrue_not (ha pins s σ H (λc H1=>Q (!c) H1) I h)
def OG(ta tb:TE):TE:=fun σ H Q=>ta σ H λx H1=>∃c,x=.bl c/\if c=θ then tb σ H1 Q else Q (.bl ι) H1
def OH(ta:TE):TE:=fun σ H Q=>ta σ H λx H1=>∃c,x=.bl c/\Q (.bl (!c)) H1
theorem OI{op}{t:TE}(h:JE X a t):JE X (.BoolOp op [a] pos) t:=⟨λpins s σ H Q I hw=>BoolOp_one (h pins s σ H Q I hw)⟩
theorem OJ(ha:JE X a ta)(hb:JE X (.BoolOp .And (b::rest) pos) tb):JE X (.BoolOp .And (a::b::rest) pos) (OG ta tb):=by
 calc⟨?_⟩;ext pins s σ H Q I h;calc BoolOp_and (a_ (ha pins s σ H _ I h) λv s1 h0_=>el5 h0_ λx H1 I1 r1 q1=>?_);let⟨c,rfl,q1⟩:=q1;cases r1
 refine q2d ?_
 cases c with
 |true=>exact hb pins s1 σ H1 Q I1 q1
 |false=>calc⟨.bl ι,H1,I1,Y,q1⟩
theorem OK(ha:JE X a ta):JE X (.UnaryOp .Not a pos) (OH ta):=by
 calc⟨?_⟩;ext pins s σ H Q I h;calc UnaryOp_ (a_ (ha pins s σ H _ I h) λv s1 h0_=>el5 h0_ λx H1 I1 r1 q1=>?_);let⟨c,rfl,q1⟩:=q1;cases r1
 calc not_of (q2d ⟨.bl (!c),H1,I1,Y,q1⟩)
def Hh(t:TT)(ta tb:TE):TE:=fun σ H Q=>t σ H λc H1=>if c=θ then ta σ H1 Q else tb σ H1 Q
theorem AJ{c:M}(hc:JT X c tA)(ha:JE X a ta)(hb:JE X b tb):JE X (.IfExp c a b pos) (Hh tA ta tb):=by
 calc⟨?_⟩;ext pins s σ H Q I h;refine wpAny_IfExp (a_ (hc pins s σ H _ I h) λd s1 h0_=>el3 h0_ λH1 I1 q1=>?_)
 cases d with
 |true=>exact ha pins s1 σ H1 Q I1 q1
 |false=>calc hb pins s1 σ H1 Q I1 q1
end
def bh(K:xY)(H:Hp)(a:O)(xs:-V):Prop :=
 Rd H a (.lst xs) ∨
  ∃(o:u)(ah:Array B)(n:Nat),K.lookup a=U o/\o.cls=.type "list" /\ o.dict=Z/\o.data=.seq ah n/\ah.size<=sizeLine/\Vals xs ah.toList
def bz(K:xY)(H:Hp)(a:O)(xs:-V):Prop :=
 Rd H a (.tup xs) ∨
  ∃(o:u)(ah:Array B)(n:Nat),K.lookup a=U o/\o.cls=.type "tuple" /\ o.data=.seq ah n/\ah.size<=sizeLine/\Vals xs ah.toList
noncomputable def AK:B->Option V
 |.none=>U .non
 |.bool b=>U (.bl b)
 |.int i _=>U (.int i)
 |.str x _=>U (.str x)
 |.bytes b _=>U (.byt b)
 |.float b _=>U (.flt b)
 |.ref a=>U (.ref a)
 |.type n=>U (.ty n)
 |_=>Z
theorem RelV.abs{x:V}{u:B}(r:RelV x u):AK u=U x:=by
 cases x with
 |non=>cases r;rfl
 |bl _=>cases r;rfl
 |int _=>let⟨t,rfl⟩:=r;rfl
 |str _=>let⟨t,rfl⟩:=r;rfl
 |byt _=>let⟨t,rfl⟩:=r;rfl
 |flt _=>let⟨t,rfl⟩:=r;rfl
 |ref _=>cases r;rfl
 |ty _=>cases r;rfl
theorem RelV.inj{x y:V}{u:B}(r:RelV x u)(q:RelV y u):x=y:=q0A (r.abs.symm.trans q.abs)
theorem Vals.inj:∀{xs ys:-V}{us:-B},Vals xs us->Vals ys us->xs=ys
 |_,_,_,.nil,.nil=>Y
 |_,_,_,.cons r t,.cons r' t'=>by rw[r.inj r',Vals.inj t t']
section
variable{X:Cx}{pins:au}{σ:St}{H:Hp}{s:L}{a:O}{xs ys:-V}
theorem bh.of{K:xY}(h:H a=U (.lst xs)):bh K H a xs:=.inl (.inl h)
theorem bz.of{K:xY}(h:H a=U (.tup xs)):bz K H a xs:=.inl (.inl h)
theorem Inv.list(I:Inv X pins σ H s)(h:bh X.K H a xs):∃ah:-B,Vals xs ah/\PlainL s.heap a ah.toArray/\↑xs<=sizeLine:=by
 rcases h with h|⟨o,ah,n,hk,hc,hd,hs,hz,r⟩
 .let⟨z,ah,n,r,e⟩:=h.ok I.aF
  exact⟨ah,r,⟨_,n,e,Y,Y,Y⟩,z⟩
 .refine⟨ah.toList,r,⟨o,n,I.dz a o hk,hc,hd,by simpa using hs⟩,?_⟩
  let e:=↑r;erw[HZ] at e;symm
theorem Inv.tuple(I:Inv X pins σ H s)(h:bz X.K H a xs):∃ah:-B,Vals xs ah/\IsTup s.heap a ah.toArray/\↑xs<=sizeLine:=by
 rcases h with h|⟨o,ah,n,hk,hc,hs,hz,r⟩
 .let⟨z,ah,r,p⟩:=h.ok I.aF
  exact⟨ah,r,p,z⟩
 .refine⟨ah.toList,r,⟨o,I.dz a o hk,hc,n,by simpa using hs⟩,?_⟩
  let e:=↑r;erw[HZ] at e;symm
theorem Inv.fO(I:Inv X pins σ H s)(h:bh X.K H a xs)(h':bh X.K H a ys):xs=ys:=by
 let⟨ah,r,⟨o,n,e,_,_,d⟩,_⟩:=I.list h;let⟨its',r',⟨o',n',e',_,_,d'⟩,_⟩:=I.list h';rw[e] at e';cases e';rw[d] at d';injection d' with d1 _;let:ah=its':=by simpa using congrArg q8X d1
 subst this;calc r.inj r'
theorem Inv.eT(I:Inv X pins σ H s)(h:bz X.K H a xs)(h':bz X.K H a ys):xs=ys:=by
 let⟨ah,r,⟨o,e,_,n,d⟩,_⟩:=I.tuple h;let⟨its',r',⟨o',e',_,n',d'⟩,_⟩:=I.tuple h';rw[e] at e';cases e';rw[d] at d';injection d' with d1 _;let:ah=its':=by simpa using congrArg q8X d1
 subst this;calc r.inj r'
end
noncomputable abbrev Cx.gj(X:Cx)(E:aJ):Cx:={X with xe:=E}
noncomputable abbrev Cx.lh(X:Cx):Cx:=X.gj λ_ _=>False
theorem Cx.Ok.gj{X:Cx}(ok:X.Ok)(E:aJ):(X.gj E).Ok :=
 ⟨ok.mod,ok.kind,ok.glob,ok.blt,ok.above,ok.inj,ok.has,ok.pW,ok.hd,ok.frames,ok.rl,ok.uS,ok.bs,ok.ku,ok.ij,ok.iQ,ok.dj,ok.kZ⟩
theorem Cx.Ok.cR{X:Cx}{E:aJ}(ok:(X.gj E).Ok):X.Ok :=
 ⟨ok.mod,ok.kind,ok.glob,ok.blt,ok.above,ok.inj,ok.has,ok.pW,ok.hd,ok.frames,ok.rl,ok.uS,ok.bs,ok.ku,ok.ij,ok.iQ,ok.dj,ok.kZ⟩
section
variable{X:Cx}{pins:au}{σ:St}{H:Hp}{s:L}{E:aJ}
theorem Inv.gj(I:Inv X pins σ H s)(E:aJ):Inv (X.gj E) pins σ H s:=⟨I.ok.gj E,I.os,I.bare,I.base,I.loc,I.cell,I.free,I.bC,I.pin,I.aF,I.len⟩
theorem Inv.cR(I:Inv (X.gj E) pins σ H s):Inv X pins σ H s:=⟨I.ok.cR,I.os,I.bare,I.base,I.loc,I.cell,I.free,I.bC,I.pin,I.aF,I.len⟩
theorem SP.cR{D:Ends}{f:Flow}{s':L}(h:SP (X.gj E) pins D f s'):SP X pins D f s':=by
 cases f with
 |next=>let⟨σ',H',I,q⟩:=h;exact⟨σ',H',I.cR,q⟩
 |brk=>let⟨σ',H',I,q⟩:=h;exact⟨σ',H',I.cR,q⟩
 |cont=>let⟨σ',H',I,q⟩:=h;exact⟨σ',H',I.cR,q⟩
 |ret u=>let⟨v,σ',H',I,r,q⟩:=h;calc⟨v,σ',H',I.cR,r,q⟩
theorem cj.lh{st:-o}{t:TS}(h:cj X.lh st t):cj X st t:=⟨λpins s σ H D I hw =>
 q1v (h pins s σ H D (I.gj _) hw) (λ_ _ q=>q.cR) λ_ _ z=>q1i z⟩
end
section
variable{X:Cx}{st:o}{rest:-o}{t u:TS}{e:M}{te:TE}{pos:y}
def OL:TS:=λD σ H=>D.nx σ H
def uZ(t u:TS):TS:=λD σ H=>t {D with nx:=u D} σ H
theorem jh:cj X [] OL:=⟨λ_ _ σ H _ I h=>q4d ⟨σ,H,I,h⟩⟩
theorem tM(h1:JS X st t)(h2:cj X rest u):cj X (st::rest) (uZ t u):=by
 calc⟨?_⟩;ext pins s σ H D I h;refine q7a (a_ (h1 pins s σ H {D with nx:=u D} I h) λf s1 q=>?_)
 cases f with
 |next =>
  let⟨σ',H',I',q⟩:=q;exact h2 pins s1 σ' H' D I' q
 |ret v=>exact q
 |brk=>exact q
 |cont=>calc q
theorem nX(h1:JS X st t):cj X [st] t:=by
 calc⟨?_⟩;ext pins s σ H D I h;refine q7a (a_ (h1 pins s σ H D I h) λf s1 q=>?_)
 cases f with
 |next=>exact q4d q
 |ret v=>exact q
 |brk=>exact q
 |cont=>calc q
theorem Inv.quiet{pins:au}{σ:St}{H:Hp}{s:L}(I:Inv X pins σ H s):interactive X.env=ι:=by simp[interactive,I.ok.kind]
def OM(te:TE):TS:=λD σ H=>te σ H λ_ H1=>D.nx σ H1
theorem Hi(he:JE X e te)(hs:swapsWith e Z pos.line X.env=pure ι:=by rfl):JS X (.Expr e pos) (OM te):=by
 calc⟨?_⟩;ext pins s σ H D I h;calc wpAny_Expr_any (a_ (he pins s σ H _ I h) λv s1 h0_=>el5 h0_ λx H1 I1 r1 q1 =>⟨σ,H1,I1,q1⟩) I.quiet hs
def u3(te:TE):TS:=λD σ H=>te σ H D.rt
theorem u4(he:JE X e te):JS X (.Return (U e) pos) (u3 te):=by
 calc⟨?_⟩;ext pins s σ H D I h;calc wpAny_Return_some (a_ (he pins s σ H _ I h) λv s1 h0_=>el5 h0_ λx H1 I1 r1 q1 =>⟨x,σ,H1,I1,r1,q1⟩)
def AL(c:TT)(t u:TS):TS:=λD σ H=>c σ H λb H1=>if b=θ then t D σ H1 else u D σ H1
theorem Hj{c:M}{a b:-o}{tc:TT}(hc:JT X c tc)(ha:cj X a t)(hb:cj X b u):JS X (.If c a b pos) (AL tc t u):=by
 calc⟨?_⟩;ext pins s σ H D I h;refine wpAny_If (a_ (hc pins s σ H _ I h) λd s1 h0_=>el3 h0_ λH1 I1 q1=>?_)
 cases d with
 |true=>exact ha pins s1 σ H1 D I1 q1
 |false=>calc hb pins s1 σ H1 D I1 q1
end
abbrev TG:=V->St->Hp->(St->Hp->Prop)->Prop
abbrev kB:=-V->St->Hp->(St->Hp->Prop)->Prop
structure JG(X:Cx)(target:M)(t:TG):Prop where
 out:∀(pins:au)(s:L)(σ:St)(H:Hp)(v:V)(u:B)(Q:St->Hp->Prop),Inv X pins σ H s->RelV v u->t v σ H Q →
  G (g X.prog X.w) X.A (assign target X.env u) (λ_ s'=>∃σ' H',Inv X pins σ' H' s'/\Q σ' H') X.xe s
instance {X:Cx} {target:M} {t:TG}:CoeFun (JG X target t) (λ_=>∀(pins:au)(s:L)(σ:St)(H:Hp)(v:V)(u:B)(Q:St->Hp->Prop),Inv X pins σ H s->RelV v u->t v σ H Q->G (g X.prog X.w) X.A (assign target X.env u) (λ_ s'=>∃σ' H',Inv X pins σ' H' s'/\Q σ' H') X.xe s):=⟨JG.out⟩
structure ji(X:Cx)(ts:-M)(t:kB):Prop where
 out:∀(pins:au)(s:L)(σ:St)(H:Hp)(vs:-V)(us:-B)(Q:St->Hp->Prop),Inv X pins σ H s->Vals vs us->t vs σ H Q →
  G (g X.prog X.w) X.A (assignInOrder ((assignEach ts X.env).map (·.2)) us) (λ_ s'=>∃σ' H',Inv X pins σ' H' s'/\Q σ' H') X.xe s
instance {X:Cx} {ts:-M} {t:kB}:CoeFun (ji X ts t) (λ_=>∀(pins:au)(s:L)(σ:St)(H:Hp)(vs:-V)(us:-B)(Q:St->Hp->Prop),Inv X pins σ H s->Vals vs us->t vs σ H Q->G (g X.prog X.w) X.A (assignInOrder ((assignEach ts X.env).map (·.2)) us) (λ_ s'=>∃σ' H',Inv X pins σ' H' s'/\Q σ' H') X.xe s):=⟨ji.out⟩
abbrev rp:=V->V->V->Hp->(Hp->Prop)->Prop
def u5(X:Cx)(t:rp):Prop :=
 ∀(pins:au)(s:L)(σ:St)(H:Hp)(o i v:V)(ov iv u:B)(Q:Hp->Prop),Inv X pins σ H s->RelV o ov->RelV i iv->RelV v u->t o i v H Q →
  G (g X.prog X.w) X.A (setItem ov iv u) (λ_ s'=>∃H',Inv X pins σ H' s'/\Q H') X.xe s
section
variable{X:Cx}{pos:y}
def jj(i:Nat):TG:=λv σ H Q=>Q (σ.set i (U v)) H
theorem AM{i:Nat}{x:R}(hN:X.N.Nodup)(hi:X.N[i]?=U x)(hx:Loc X.env.scope x)(hf:fq X x:=by first|exact .inl Y|exact .inr Y|assumption):JG X (.Name x pos) (jj i):=by
 calc⟨?_⟩;ext pins s σ H v u Q I r h;calc q6G (xM I hN hi hx r (λs' I'=>⟨_,H,I',h⟩) hf)
def AN:kB:=λvs σ H Q=>vs=[]/\Q σ H
def ON(t:TG)(u:kB):kB:=λvs σ H Q=>∃v r,vs=v::r/\t v σ H fun σ' H'=>u r σ' H' Q
theorem jk:ji X [] AN:=by
 calc⟨?_⟩;ext pins s σ H vs us Q I r h;let⟨e,h⟩:=h;subst e;cases r
 calc assignInOrder_nil ⟨σ,H,I,h⟩
theorem AO{e:M}{es:-M}{t:TG}{u:kB}(h1:JG X e t)(h2:ji X es u)
  (hs:(assignEach (e::es) X.env).map (·.2)=assign e X.env::(assignEach es X.env).map (·.2):=by rfl):ji X (e::es) (ON t u):=by
 calc⟨?_⟩;ext pins s σ H vs us Q I r h;let⟨v,vr,e1,h⟩:=h;subst e1
 cases r with
 |cons r rr =>
  rw[hs];calc assignInOrder_cons (a_ (h1 pins s σ H _ _ _ I r h) λ_ s1 ⟨σ1,H1,I1,q1⟩=>?_);calc h2 pins s1 σ1 H1 _ _ Q I1 rr q1
def AQ(K:xY)(n:Nat)(t:kB):TG:=λv σ H Q=>∃a xs,v=.ref a/\bz K H a xs/\↑xs=n/\t xs σ H Q
theorem Hk{es:-M}{k:Nat}{t:kB}{n:Nat}(hc:X.calm=θ)(h:ji X es t)
  (hn:↑(assignEach es X.env)=n:=by rfl) (g8:(assignEach es X.env).findIdx? (·.1)=Z:=by rfl):JG X (.Tuple es k pos) (AQ X.K n t):=by
 calc⟨?_⟩;ext pins s σ H v u Q I r hw;let⟨a,xs,e1,hq,hl,hw⟩:=hw;subst e1;cases r
 let⟨ah,rv,ht,hz⟩:=I.tuple hq;calc assign_Tuple_tuple (I.ok.hd hc) ht (by simp[hn,<-hl,rv.length]) g8 λh' hx=>?_;let I1:Inv X pins σ H {s with heap:=h'}:=I.kept (t':=s.toks) λb o e=>hx b o (ZN (Qj e)) e;calc h pins _ σ H xs _ Q I1 rv⁻¹ hw
def u7(to ti:TE)(t:rp):TG:=λv σ H Q=>to σ H λo H1=>ti σ H1 λi H2=>t o i v H2 λH3=>Q σ H3
theorem Hl{o i:M}{to ti:TE}{t:rp}(ho:JE X o to)(hi:JE X i ti)(hs:u5 X t)
  (ha:∀v,assign (.Subscript o i pos) X.env v=(do
   let ov <- holding [v] (eval o X.env)
   let iv <- holding [v,ov] (eval i X.env)
   standAt pos
   holding [v,ov,iv] (setItem ov iv v)
   release [v,ov,iv] []):=by ext _;rfl):JG X (.Subscript o i pos) (u7 to ti t):=by
 calc⟨?_⟩;ext pins s σ H v u Q I r h;rw[ha];calc oj (q0B (a_ (ho pins s σ H _ I h) λov s1 h0_=>el5 h0_ λx H1 I1 r1 q1=>?_));calc oj (q0B (a_ (hi pins s1 σ H1 _ I1 q1) λiv s2 h0_=>el5 h0_ λy H2 I2 r2 q2=>?_));calc oj (q2V (oj (q0B (a_ (hs pins s2 σ H2 x y v ov iv u _ I2 r1 r2 r q2) λ_ s3 h0_=>el3 h0_ λH3 I3 q3=>?_))));calc wpAny_release ⟨σ,H3,I3,q3⟩
def dJ(te:TE)(g:TG):TS:=λD σ H=>te σ H λx H1=>g x σ H1 D.nx
theorem AR{tg e:M}{te:TE}{g:TG}(he:JE X e te)(hg:JG X tg g)(hs:swapsWithSole [tg] e pos.line X.env=pure ι:=by rfl)(hw:swappedStores [tg] e X.env=pure Z:=by rfl)
  (h1:(assignEach [tg] X.env).map (·.2)=[assign tg X.env]:=by rfl):JS X (.Assign [tg] e pos) (dJ te g):=by
 calc⟨?_⟩;ext pins s σ H D I h;calc wpAny_Assign_stores (a_ (he pins s σ H _ I h) λv s1 h0_=>el5 h0_ λx H1 I1 r1 q1=>?_) hs hw;rw[h1];calc a_ (hg pins s1 σ H1 x v _ I1 r1 q1) λ_ s2 q=>q
theorem rq{i:Nat}{x:R}{e:M}{te:TE}{pos':Ε}(hN:X.N.Nodup)(hi:X.N[i]?=U x)(hx:Loc X.env.scope x)(he:JE X e te)(hs:swapsWith e (U (.Name x pos')) pos.line X.env=pure ι:=by rfl)(hf:fq X x:=by first|exact .inl Y|exact .inr Y|assumption):
  JS X (.Assign [.Name x pos'] e pos) (dJ te (jj i)):=by
 calc⟨?_⟩;ext pins s σ H D I h;calc wpAny_Assign_Name (a_ (he pins s σ H _ I h) λv s1 h0_=>el5 h0_ λy H1 I1 r1 q1=>?_) hs;calc xM I1 hN hi hx r1 (λs2 I2=>⟨_,H1,I2,q1⟩) hf
end
structure It where
 go:Nat->Hp->Prop
 tN:Nat->Hp->V->Hp->Prop
 stop:Nat->Hp->Prop
def bq(X:Cx)(pins:au)(H:Hp)(b:O):Prop :=
 H b=Z/\b≠X.env.locals/\b∉X.fs/\(b∈X.ex\/⇑X.s₀<=b)/\(∀x c,X.env.cells.lookup x=U c->c≠b)/\∀p∈X.pn++pins,p.1≠b
theorem Inv.gH{X:Cx}{pins:au}{σ:St}{H H':Hp}{s:L}{b:O}(I:Inv X pins σ H s)(hb:⇑s<=b)(hn:H' b=Z):bq X pins H' b:=by
 refine⟨hn,q1B (q0f I.lt hb),I.Aw hb,.inr (q0Q I.sz hb),λx c e z=>?_,λp hp z=>?_⟩
 .let⟨v,q⟩:=I.cell x c e
  exact absurd (q0f q.lt (by rw[z];calc hb)) (q2a _)
 .calc absurd (q0f (Qj (I.pin p hp).1) (by rw[z];calc hb)) (q2a _)
structure Turn(P:n)(w:ω)(K:xY)(tg:M)(J:It)(fp:-O)(it:O)(tn:Nat->I->Prop):Prop where
 mem:it∈fp
 obj:∀i h,tn i h->∀b∈fp,∃o,h.get? b=U o/\∀v,o.data≠.cell v
 keep:∀i h h',tn i h->(∀b∈fp,∀o,h.get? b=U o->h'.get? b=U o)->tn i h'
 item:∀(X:Cx),X.prog=P->X.w=w->X.K=K->X.calm=θ->∀(i:Nat)(pins:au)(s:L)(σ:St)(H:Hp)(E:aJ),Inv X pins σ H s->(∀b∈fp,bq X pins H b)->tn i s.heap->J.go i H →
  G (g P w) X.A (pyNext (.ref it)) (λr s1=>∃u,r=U u ∧
   G (g P w) X.A (letOwnedTupleGo tg (.ref it) u) (λ_ s2=>∃x H',Inv X pins σ H' s2/\RelV x u/\J.tN i H x H'/\tn (i+1) s2.heap/\∀b∈fp,H' b=Z) E s1) E s
 done:∀(X:Cx),X.prog=P->X.w=w->X.K=K->X.calm=θ->∀(i:Nat)(pins:au)(s:L)(σ:St)(H:Hp)(E:aJ),Inv X pins σ H s->(∀b∈fp,bq X pins H b)->tn i s.heap->J.stop i H →
  G (g P w) X.A (pyNext (.ref it)) (λr s1=>r=Z/\Inv X pins σ H s1) E s
 self:∀(A:q)(i:Nat)(s:L)(Q:aJ)(E:aJ),tn i s.heap->Q (.ref it) s->G (g P w) A (pyIter (.ref it)) Q E s
abbrev TI:=St->Hp->(It->Hp->Prop)->Prop
def AS(X:Cx)(pins:au)(σ:St)(tg:M)(R:It->Hp->Prop)(AU:B)(s2:L):Prop :=
 ∃(it:O)(fp:-O)(tn:Nat->I->Prop)(J:It)(H':Hp),AU=.ref it/\Inv X pins σ H' s2/\Turn X.prog X.w X.K tg J fp it tn/\tn 0 s2.heap/\(∀b∈fp,bq X pins H' b)/\R J H'
structure JI(X:Cx)(tg iter:M)(wi:TI):Prop where
 out:∀(pins:au)(s:L)(σ:St)(H:Hp)(R:It->Hp->Prop),Inv X pins σ H s->wi σ H R →
  G (g X.prog X.w) X.A (eval iter X.env) (λv s1=>G (g X.prog X.w) X.A (pyIter v) (AS X pins σ tg R) X.xe s1) X.xe s
instance {X:Cx} {tg iter:M} {wi:TI}:CoeFun (JI X tg iter wi) (λ_=>∀(pins:au)(s:L)(σ:St)(H:Hp)(R:It->Hp->Prop),Inv X pins σ H s->wi σ H R->G (g X.prog X.w) X.A (eval iter X.env) (λv s1=>G (g X.prog X.w) X.A (pyIter v) (AS X pins σ tg R) X.xe s1) X.xe s):=⟨JI.out⟩
theorem AV {M:Model} {A:q} {E:aJ} {s:L} {tg:υ} {it:O} {u:B} {o:Γ} {n:String} {vs:Array B} {Q:Unit->L->Prop} (ho:s.heap.get? it=U o) (hc:o.cls = .type n) (hd:o.data = .fields vs)
  (hn:["enumerate", "zip", "dict_itemiterator", "dict_reverseitemiterator", "odict_iterator", "itertools.zip_longest", "itertools.pairwise"].contains n=ι) (hQ:Q () s):G M A (letOwnedTupleGo tg (.ref it) u) Q E s:=by
 unfold letOwnedTupleGo
 cases tg<;>first
  | exact vw hQ
  | (cases u<;>first
    | exact vw hQ
    | (refine oj (q7Q ho ?_)
       rw[hc,hd];show G M A (if (["enumerate", "zip", "dict_itemiterator", "dict_reverseitemiterator", "odict_iterator", "itertools.zip_longest", "itertools.pairwise"].contains n && vs[0]? == U (rawInt _))=θ then _ else _) Q E s;rw[ZJ (by ext h;rw[hn,q5C] at h;cases h)]
       calc vw hQ))
noncomputable def Hm(K:xY)(a:O):It :=
 ⟨λi H=>∃xs x,bh K H a xs/\xs[i]?=U x,λi H x H'=>H'=H/\∀xs,bh K H a xs->xs[i]?=U x,λi H=>∃xs,bh K H a xs/\↑xs<=i⟩
noncomputable def Hn(K:xY)(a:O):It :=
 ⟨λi H=>∃xs x,bz K H a xs/\xs[i]?=U x,λi H x H'=>H'=H/\∀xs,bz K H a xs->xs[i]?=U x,λi H=>∃xs,bz K H a xs/\↑xs<=i⟩
noncomputable def u9(lo:Int)(n:Nat):It:=⟨λi _=>i<n,λi H x H'=>H'=H/\x=.int (lo+i),λi _=>n<=i⟩
theorem OO{P:n}{w:Q}{K:xY}{tg:M}(a it:O):Turn P w K tg (Hm K a) [it] it (λi h=>h.IsListIter it a i) where
 mem:=by simp
 obj:=λi h st b hb=>by
  let e:b=it:=by simpa using hb
  subst e;let⟨o,e,c,d⟩:=st;exact⟨o,e,λv z=>by rw[d] at z;cases z⟩
 keep:=λi h h' st k=>st.at λo e=>k it (by simp) o e
 item:=by
  ext X hP hw hK hc i pins s σ H E I hf st hg;subst hP hw hK;let⟨xs,x,hq,hx⟩:=hg;let⟨ah,rv,p,hz⟩:=I.list hq;let⟨u,hu,ru⟩:=rv.get hx;let⟨f0,f1,f2,f3,f4,f5⟩:=hf it (by simp);calc wpAny_pyNext_list_item st p.isList (x:=u) hu⁻¹ λh' eN sb=>?_;let I1:Inv X pins σ H {s with heap:=h'}:=I.turned (t':=s.toks) (λb o hb e=>(sb.2 b hb).trans e) f0 f1 f3 f4 f5;let⟨o,e,c,d⟩:=id eN;exact⟨u,Y,AV (s:={s with heap:=h'}) e c d (by decide) ⟨x,H,I1,ru,⟨Y,λys hy=>by rw[I.fO hy hq];calc hx⟩,eN,λb hb=>(hf b hb).1⟩⟩
 done:=by
  ext X hP hw hK hc i pins s σ H E I hf st hg;subst hP hw hK;let⟨xs,hq,hx⟩:=hg;let⟨ah,rv,p,hz⟩:=I.list hq;let⟨f0,f1,f2,f3,f4,f5⟩:=hf it (by simp);let hl:=↑rv;exact wpAny_pyNext_list_end (I.ok.hd hc) st p.isList (by simp;symm) λh' eb=>⟨Y,I.turned (t':=s.toks) (λb o hb e=>eb b o hb e) f0 f1 f3 f4 f5⟩
 self:=λ_ _ _ _ _ st h=>wpAny_pyIter_listiter st h
theorem OQ{P:n}{w:Q}{K:xY}{tg:M}(a it:O):Turn P w K tg (Hn K a) [it] it (λi h=>h.IsTupleIter it a i) where
 mem:=by simp
 obj:=λi h st b hb=>by
  let e:b=it:=by simpa using hb
  subst e;let⟨o,e,c,d⟩:=st;exact⟨o,e,λv z=>by rw[d] at z;cases z⟩
 keep:=λi h h' st k=>st.at λo e=>k it (by simp) o e
 item:=by
  ext X hP hw hK hc i pins s σ H E I hf st hg;subst hP hw hK;let⟨xs,x,hq,hx⟩:=hg;let⟨ah,rv,p,hz⟩:=I.tuple hq;let⟨u,hu,ru⟩:=rv.get hx;let⟨f0,f1,f2,f3,f4,f5⟩:=hf it (by simp);calc wpAny_pyNext_tuple_item st (show s.heap.IsTuple a ah.toArray from p) (x:=u) hu⁻¹ λh' eN sb=>?_;let I1:Inv X pins σ H {s with heap:=h'}:=I.turned (t':=s.toks) (λb o hb e=>(sb.2 b hb).trans e) f0 f1 f3 f4 f5;let⟨o,e,c,d⟩:=id eN;exact⟨u,Y,AV (s:={s with heap:=h'}) e c d (by decide) ⟨x,H,I1,ru,⟨Y,λys hy=>by rw[I.eT hy hq];calc hx⟩,eN,λb hb=>(hf b hb).1⟩⟩
 done:=by
  ext X hP hw hK hc i pins s σ H E I hf st hg;subst hP hw hK;let⟨xs,hq,hx⟩:=hg;let⟨ah,rv,p,hz⟩:=I.tuple hq;let⟨f0,f1,f2,f3,f4,f5⟩:=hf it (by simp);let hl:=↑rv;exact wpAny_pyNext_tuple_end (I.ok.hd hc) st (show s.heap.IsTuple a ah.toArray from p) (by simp;symm) λh' eb=>⟨Y,I.turned (t':=s.toks) (λb o hb e=>eb b o hb e) f0 f1 f3 f4 f5⟩
 self:=λ_ _ _ _ _ st h=>wpAny_pyIter_tupleiter st h
theorem OR{P:ψ}{w:Q}{K:xY}{tg:M}(it:O)(lo:Int)(n:Nat):Turn P w K tg (u9 lo n) [it] it (λi h=>IsRangeIter h it (lo+(i:Nat)*1) ((n:Int)-(i:Nat)) 1) where
 mem:=by simp
 obj:=λi h st b hb=>by
  let e:b=it:=by simpa using hb
  subst e
  exact⟨_,st,λv z=>by
   let z':Data.fields _=Data.cell v:=z
   cases z'⟩
 keep:=λi h h' st k=>k it (by simp) _ st
 item:=by
  ext X hP hw hK hc i pins s σ H E I hf st hg;subst hP hw hK;let⟨f0,f1,f2,f3,f4,f5⟩:=hf it (by simp);let W:=Walks.range (prog:=X.prog) (w:=X.w) (I.ok.hd hc) it lo 1 n;calc W.item i s _ _ hg st λv h' tk hv eN kk=>?_;let⟨t,rfl⟩:=hv;let I1:Inv X pins σ H {s with heap:=h',toks:=tk}:=I.turned (λb o hb e=>kk b o hb⁻¹ e) f0 f1 f3 f4 f5;calc⟨_,Y,AV (s:={s with heap:=h',toks:=tk}) (n:="range_iterator") eN Y Y (by decide) ⟨.int (lo+i),H,I1,⟨t,?_⟩,⟨Y,Y⟩,eN,λb hb=>(hf b hb).1⟩⟩;rw[q9W]
 done:=by
  ext X hP hw hK hc i pins s σ H E I hf st hg;subst hP hw hK;let⟨f0,f1,f2,f3,f4,f5⟩:=hf it (by simp);exact wpAny_pyNext_range_end (I.ok.hd hc) st (by let:n<=i:=hg;symm) λh' eb=>⟨Y,I.turned (t':=s.toks) (λb o hb e=>eb b o hb e) f0 f1 f3 f4 f5⟩
 self:=λ_ _ _ _ _ st h=>wpAny_pyIter_rangeiter st h
section
variable{X:Cx}{tg:M}
theorem Ho{pins:au}{σ:St}{H:Hp}{s:L}{R:It->Hp->Prop}{E:aJ}{lo hi:Int}{t u v:Tok}{tk:Nat}(I:Inv X pins σ H s)(h1 : -(2 ^ 62)<=lo)(h2:lo<2 ^ 62)(h3 : -(2 ^ 62)<=hi)(h4:hi<2 ^ 62)
  (q:R (u9 lo (hi-lo).toNat) H):G (g X.prog X.w) X.A (pyIter (.ref ⇑s)) (AS X pins σ tg R) E {s with heap:=s.heap.push {cls:=.type "range",data:=.fields #[.int lo t,.int hi u,.int 1 v]},toks:=tk}:=by
 calc wpAny_pyIter_range (IsRange.new ..) (small_one h1 h2 h3 h4) ?_;let I1:Inv X pins σ H {s with heap:=s.heap.push {cls:=.type "range",data:=.fields #[.int lo t,.int hi u,.int 1 v]},toks:=tk}:=I.kept λb o e=>rM _ e
 refine⟨(s.heap.push {cls:=.type "range",data:=.fields #[.int lo t,.int hi u,.int 1 v]}).objs.size,[(s.heap.push {cls:=.type "range",data:=.fields #[.int lo t,.int hi u,.int 1 v]}).objs.size],_,_,H,Y,
  I1.kept (t':=tk) λb o e=>rM _ e,OR _ lo (hi-lo).toNat,?_,λb hb=>?_,q⟩
 .let e1:lo+((0:Nat):Int)*1=lo:=by simp
  let e2:(((hi-lo).toNat:Nat):Int)-((0:Nat):Int)=q41 lo hi 1:=by rw[q8n];split<;>symm
  show IsRangeIter _ _ (lo+((0:Nat):Int)*1) ((((hi-lo).toNat:Nat):Int)-((0:Nat):Int)) 1;rw[e1,e2];exact ZI _ Y
 .let e:b=(s.heap.push {cls:=.type "range",data:=.fields #[.int lo t,.int hi u,.int 1 v]}).objs.size:=by simpa using hb
  subst e;calc I1.gH (BA _) (I1.aF.fresh (BA _))
def OS(ta:TA):TI:=fun σ H R=>ta σ H λvs H1=>∃j:Int,vs=[.int j] /\ -(2 ^ 62)<=j/\j<2 ^ 62/\R (u9 0 j.toNat) H1
def OT(ta:TA):TI:=fun σ H R=>ta σ H λvs H1=>∃i j:Int,vs=[.int i,.int j]/\(-(2 ^ 62)<=i/\i<2 ^ 62 /\ -(2 ^ 62)<=j/\j<2 ^ 62)/\R (u9 i (j-i).toNat) H1
theorem OU{a:M}{ta:TA}{p pos:y}(hg:Gl X "range")(hm:X.mg "range" = Z)(ha:JA X [a] ta)(hs:starEach [a] X.env=[(ι,eval a X.env)]:=by rfl):JI X tg (.Call (.Name "range" p) [a] [] pos) (OS ta):=by
 calc⟨?_⟩;ext pins s σ H R I h;calc Call_ (nW I hg hm boot_range (q1C (a_ (ha pos pins s σ H _ I h) λus s1 h0_=>el5 h0_ λvs H1 I1 r1 q1=>?_) hs Y));let⟨j,e,q1,q2,q⟩:=q1;subst e
 cases r1 with
 |cons r rr =>
  cases rr
  let⟨t,rfl⟩:=r;calc call_range_1 (Ho I1 ⋯ ⋯ q1 q2 q⁻¹)
theorem OW{a b:M}{ta:TA}{p pos:y}(hg:Gl X "range")(hm:X.mg "range" = Z)(ha:JA X [a,b] ta)(hs:starEach [a,b] X.env=[(ι,eval a X.env),(ι,eval b X.env)]:=by rfl)(dZ:starEach [b] X.env=[(ι,eval b X.env)]:=by rfl):
  JI X tg (.Call (.Name "range" p) [a,b] [] pos) (OT ta):=by
 calc⟨?_⟩;ext pins s σ H R I h;calc Call_ (nW I hg hm boot_range (q1C (a_ (ha pos pins s σ H _ I h) λus s1 h0_=>el5 h0_ λvs H1 I1 r1 q1=>?_) (by rw[hs,dZ]) (by rw[dZ];rfl)));let⟨i,j,e,⟨q1,q2,q3,q4⟩,q⟩:=q1;subst e
 cases r1 with
 |cons r rr =>
  cases rr with
  |cons r' rr =>
   cases rr
   let⟨t,rfl⟩:=r;let⟨t',rfl⟩:=r';calc call_range_2 (Ho I1 q1 q2 q3 q4 q)
def AW(wi:TI)(g:TG)(tb:TS):TS:=λD σ H=>wi σ H λJ H1=>∃W:Nat->Nat->St->Hp->Prop,(∃m,W 0 m σ H1)/\∀i m σ H,W i m σ H →
 (J.stop i H/\D.nx σ H)\/(J.go i H/\∃N:St->Hp->Prop,(∀σ' H',N σ' H'->∃m',m'<m/\W (i+1) m' σ' H')/\∀x H',J.tN i H x H'->g x σ H' fun σ2 H2=>tb {D with nx:=N,ct:=N,bk:=D.nx} σ2 H2)
noncomputable def u_(fp:-O)(h:I):-(O×u):=fp.filterMap λb=>(h.get? b).map λo=>(b,o)
theorem xO{fp:-O}{h:I}{b:O}{o:u}(hb:b∈fp)(e:h.get? b=U o):(b,o)∈u_ fp h:=q2j.mpr ⟨b,hb,by rw[e];rfl⟩
theorem OX{fp:-O}{h:I}{p:O×u}(hp:p∈u_ fp h):p.1∈fp/\h.get? p.1=U p.2:=by
 let⟨b,hb,e⟩:=q2j.mp hp
 cases q:h.get? b with
 |none=>rw[q] at e;cases e
 |some o =>
  rw[q] at e;let e':(b,o)=p:=q0A e;subst e';calc⟨hb,q⟩
theorem Inv.pinned{pins:au}{σ:St}{H:Hp}{s:L}{fp:-O}(I:Inv X pins σ H s)(hf:∀b∈fp,bq X pins H b)(ho:∀b∈fp,∃o,s.heap.get? b=U o/\∀v,o.data≠.cell v):Inv X (pins++u_ fp s.heap) σ H s :=
 I.fG λp hp=>(q0U.mp hp).elim (λz=>I.pin p (q0q _ z)) λz=>by
  let⟨hb,e⟩:=OX z;let⟨f0,f1,f2,_⟩:=hf p.1 hb;let⟨o,e',d⟩:=ho p.1 hb;rw[e] at e';cases e';calc⟨e,f0,f1,f2,d⟩
theorem Inv.d4{pins pl:au}{σ:St}{H:Hp}{s:L}(I:Inv X (pins++pl) σ H s):Inv X pins σ H s:=I.fG λp hp=>I.pin p (q0q _ (q1g _ hp))
theorem Hq{iter:M}{body:-χ}{wi:TI}{g:TG}{tb:TS}{pos:y}(hp:PassesOwn (ς X.prog X.w) X.A X.env X.xe)(hc:X.calm=θ)(hi:JI X tg iter wi)(hg:JG X tg g)(hb:cj X body tb)
  (hs:∀x,foldedSetIterable iter X.env x=pure x:=by ext _;rfl):JS X (.For tg iter body [] pos) (AW wi g tb):=by
 calc⟨?_⟩;ext pins s σ H D I h;calc wpAny_For (a_ (hi pins s σ H _ I h) λv s1 h1=>a_ h1 λAU s2 h2=>?_) hs;let⟨it,fp,tn,J,H2,e,I2,T,jf,f2,W,⟨m0,w0⟩,turn⟩:=h2;subst e;let iR:∀{H':Hp},(∀b∈fp,H' b=Z)->∀b∈fp,bq X pins H' b:=λhn b hb=>⟨hn b hb,(f2 b hb).2⟩;calc codeAny_forLoop_any (λn s'=>∃i σ' H',Inv X pins σ' H' s'/\tn i s'.heap/\(∀b∈fp,H' b=Z)/\W i n σ' H') ?_ m0 ⟨0,σ,H2,I2,jf,λb hb=>(f2 b hb).1,w0⟩;ext n s3 ⟨i,σ3,H3,I3,pZ,va,w3⟩;rcases turn i n σ3 H3 w3 with⟨stop,qn⟩|⟨go,N,hN,step⟩
 .refine q3q hp (a_ (T.done X Y Y Y hc i pins s3 σ3 H3 X.xe I3 (iR va) pZ stop) λr s4 ⟨hr,I4⟩=>?_)
  subst hr;exact q4d ⟨σ3,H3,I4,qn⟩
 .refine q3q hp (a_ (T.item X Y Y Y hc i pins s3 σ3 H3 X.xe I3 (iR va) pZ go) λr s4 ⟨u,hr,h4⟩=>?_)
  subst hr;calc q3q hp (a_ h4 λ_ s5 ⟨x,H5,I5,r5,y5,rz,AX⟩=>?_);let AY:=I5.pinned (iR AX) (T.obj _ _ rz);calc q3q hp (a_ (hg _ s5 σ3 H5 x u _ AY r5 (step x H5 y5)) λ_ s6 ⟨σ6,H6,I6,q6⟩=>?_);refine q3q hp (a_ (hb _ s6 σ6 H6 _ I6 q6) λf s7 q7=>?_)
  let again:∀{σ7:St}{H7:Hp},Inv X (pins++u_ fp s5.heap) σ7 H7 s7->N σ7 H7->∃m,m<n/\∃i σ' H',Inv X pins σ' H' s7/\tn i s7.heap/\(∀b∈fp,H' b=Z)/\W i m σ' H':=λ{σ7 H7} I7 n7=>by
   let⟨m',hm,w7⟩:=hN σ7 H7 n7;calc⟨m',hm,i+1,σ7,H7,I7.d4,T.keep _ _ _ rz λb hb o e=>(I7.pin (b,o) (q0q _ (q0q _ (xO hb e)))).1,λb hb=>?_,w7⟩;let⟨o,e,d⟩:=T.obj _ _ rz b hb;exact(I7.pin (b,o) (q0q _ (q0q _ (xO hb e)))).2.1
  cases f with
  |next=>let⟨σ7,H7,I7,n7⟩:=q7;exact again I7 n7
  |cont=>let⟨σ7,H7,I7,n7⟩:=q7;exact again I7 n7
  |brk=>let⟨σ7,H7,I7,q7⟩:=q7;exact⟨σ7,H7,I7.d4,q7⟩
  |ret v=>let⟨x7,σ7,H7,I7,r7,q7⟩:=q7;calc⟨x7,σ7,H7,I7.d4,r7,q7⟩
end
abbrev R2:=V->V->Hp->VK->Prop
def dA(X:Cx)(f:B->B->Sem B)(r:R2):Prop :=
 ∀(pins:au)(s:L)(σ:St)(H:Hp)(x y:V)(v u:B)(Q:VK),Inv X pins σ H s->RelV x v->RelV y u->r x y H Q →
  G (g X.prog X.w) X.A (f v u) (EP X pins σ Q) X.xe s
def AZ(X:Cx)(f:B->Sem B)(r:V->Hp->VK->Prop):Prop :=
 ∀(pins:au)(s:L)(σ:St)(H:Hp)(x:V)(v:B)(Q:VK),Inv X pins σ H s->RelV x v->r x H Q →
  G (g X.prog X.w) X.A (f v) (EP X pins σ Q) X.xe s
def g9(X:Cx)(f:B)(r:-V->Hp->VK->Prop):Prop :=
 ∀(pins:au)(s:L)(σ:St)(H:Hp)(xs:-V)(us:-B)(Q:VK),Inv X pins σ H s->Vals xs us->r xs H Q →
  G (g X.prog X.w) X.A (call f us) (EP X pins σ Q) X.xe s
def vb(r:R2)(ta tb:TE):TE:=fun σ H Q=>ta σ H λx H1=>tb σ H1 λy H2=>r x y H2 Q
def OY(r:V->Hp->VK->Prop)(ta:TE):TE:=fun σ H Q=>ta σ H λx H1=>r x H1 Q
def rI(C:Int->Int->Prop)(g:Int->Int->V):R2:=λx y H Q=>∃i j,x=.int i/\y=.int j/\C i j/\Q (g i j) H
def nY(g:Int->Int->V):R2:=λx y H Q=>∃i j,x=.int i/\y=.int j/\Q (g i j) H
def rU(g:Int->V):V->Hp->VK->Prop:=λx H Q=>∃i,x=.int i/\Q (g i) H
section
variable{X:Cx}{a b c:M}{ta tb tc:TE}{pos:y}
theorem rA(ha:JE X a ta)(hb:JE X b tb){pins:au}{s:L}{σ:St}{H:Hp}{R:V->V->Hp->Prop}(I:Inv X pins σ H s)
  (h:ta σ H λx H1=>tb σ H1 λy H2=>R x y H2) {Q:aJ} {f:B->B->Sem B}
  (hf:∀v u s2 x y H2,Inv X pins σ H2 s2->RelV x v->RelV y u->R x y H2->G (g X.prog X.w) X.A (f v u) Q X.xe s2) :
  G (g X.prog X.w) X.A (eval a X.env) (λv s₁=>G (g X.prog X.w) X.A (eval b X.env) (λu s₂=>G (g X.prog X.w) X.A (f v u) Q X.xe s₂) X.xe s₁) X.xe s:=by
 calc a_ (ha pins s σ H _ I h) λv s1 h0_=>el5 h0_ λx H1 I1 r1 q1=>?_;calc a_ (hb pins s1 σ H1 _ I1 q1) λu s2 h0_=>el5 h0_ λy H2 I2 r2 q2=>?_;calc hf v u s2 x y H2 I2 r1 r2 q2
theorem rB{op:Operator}{r:R2}(ho:dA X (binaryOp op) r)(ha:JE X a ta)(hb:JE X b tb):JE X (.BinOp a op b pos) (vb r ta tb):=by
 calc⟨?_⟩;ext pins s σ H Q I h;calc wpAny_BinOp (rA ha hb I h λv u s2 x y H2 I2 rx ry q=>ho pins s2 σ H2 x y v u Q I2 rx ry q)
theorem Hr{op:UnaryOp}{r:V->Hp->VK->Prop}(ho:AZ X (unaryOp op) r)(ha:JE X a ta):JE X (.UnaryOp op a pos) (OY r ta):=by
 calc⟨?_⟩;ext pins s σ H Q I h;calc UnaryOp_ (a_ (ha pins s σ H _ I h) λv s1 h0_=>el5 h0_ λx H1 I1 r1 q1 =>ho pins s1 σ H1 x v Q I1 r1 q1)
theorem xP{f:B->B->Sem B}{C:Int->Int->Prop}{g:Int->Int->Int}
  (rule:∀(i j:Int)(t u:Tok)(s:L)(Q:aJ)(E:aJ),C i j->Q (.int (g i j) s.toks) {s with toks:=s.toks+1}->G (ς X.prog X.w) X.A (f (.int i t) (.int j u)) Q E s) :
  dA X f (rI C λi j=>.int (g i j)):=by
 ext pins s σ H x y v u Q I rx ry h;let⟨i,j,rfl,rfl,hc,q⟩:=h;let⟨t,rfl⟩:=rx;let⟨t',rfl⟩:=ry;calc rule i j t t' s _ _ hc ⟨.int (g i j),H,I.tok _,⟨_,Y⟩,q⟩
theorem vc{f:B->B->Sem B}{g:Int->Int->Int}
  (rule:∀(i j:Int)(t u:Tok)(s:L)(Q:aJ)(E:aJ),Q (.int (g i j) s.toks) {s with toks:=s.toks+1}->G (ς X.prog X.w) X.A (f (.int i t) (.int j u)) Q E s) :
  dA X f (nY λi j=>.int (g i j)):=by
 ext pins s σ H x y v u Q I rx ry h;let⟨i,j,rfl,rfl,q⟩:=h;let⟨t,rfl⟩:=rx;let⟨t',rfl⟩:=ry;calc rule i j t t' s _ _ ⟨.int (g i j),H,I.tok _,⟨_,Y⟩,q⟩
theorem nZ{f:B->B->Sem B}{g:Int->Int->Bool}
  (rule:∀(i j:Int)(t u:Tok)(s:L)(Q:aJ)(E:aJ),Q (.bool (g i j)) s->G (ς X.prog X.w) X.A (f (.int i t) (.int j u)) Q E s) :
  dA X f (nY λi j=>.bl (g i j)):=by
 ext pins s σ H x y v u Q I rx ry h;let⟨i,j,rfl,rfl,q⟩:=h;let⟨t,rfl⟩:=rx;let⟨t',rfl⟩:=ry;calc rule i j t t' s _ _ ⟨.bl (g i j),H,I,Y,q⟩
def vf(i j:Int):Prop:=j≠0/\j.natAbs<1073741824
def dM(i j:Int):Prop:=0<=j/\j<=1000000/\i.natAbs<2 ^ 64
def n5(i j:Int):Prop:=(-(2 ^ 64)<i/\i<2 ^ 64)\/(-(2 ^ 64)<j/\j<2 ^ 64)
theorem n5.ok{i j:Int}(h:n5 i j):IntMulOk i j:=by
 rcases h with⟨h1,h2⟩|⟨h1,h2⟩
 .exact .of_left (q8o h1 h2)
 .calc .of_right (q8o h1 h2)
theorem Hs:dA X (binaryOp .Add) (nY λi j=>.int (i+j)):=vc λ_ _ _ _ _ _ _ q=>add_int q
theorem OZ:dA X (binaryOp .Sub) (nY λi j=>.int (i-j)):=vc λ_ _ _ _ _ _ _ q=>sub_int q
theorem O0:dA X (binaryOp .Mult) (rI n5 λi j=>.int (i*j)):=xP λ_ _ _ _ _ _ _ hc q=>mul_int q hc.ok
theorem O1:dA X (binaryOp .FloorDiv) (rI vf λi j=>.int (i.fdiv j)):=xP λ_ _ _ _ _ _ _ hc q=>floordiv_int hc.1 q (.inl (PyProof.noPylong_small hc.2))
theorem A0:dA X (binaryOp .Mod) (rI (λ_ j=>0<j) λi j=>.int (i%j)):=xP λi j _ _ _ _ _ hc q=>by
 let h1:(0:Int)<j:=hc;calc mod_int' ⋯ (by rw[Int.fmod_eq_emod_of_nonneg i ⋯];calc q)
theorem O3:dA X (binaryOp .Pow) (rI dM λi j=>.int (i ^ j.toNat)):=xP λ_ _ _ _ _ _ _ hc q=>pow_int_small hc.1 hc.2.1 hc.2.2 q
theorem O4{f:B->Sem B}{g:Int->Int}
  (rule:∀(i:Int)(t:Tok)(s:L)(Q:aJ)(E:aJ),Q (.int (g i) s.toks) {s with toks:=s.toks+1}->G (ς X.prog X.w) X.A (f (.int i t)) Q E s) :
  AZ X f (rU λi=>.int (g i)):=by
 ext pins s σ H x v Q I rx h;let⟨i,rfl,q⟩:=h;let⟨t,rfl⟩:=rx;calc rule i t s _ _ ⟨.int (g i),H,I.tok _,⟨_,Y⟩,q⟩
theorem Ht:AZ X (unaryOp .USub) (rU λi=>.int (-(i:Int))):=O4 λ_ _ _ _ _ q=>neg_int q
end
noncomputable def A2:V->V->Bool
 |.non,.non=>θ|.non,.int _=>θ|.int _,.non=>θ|.non,.bl _=>θ|.bl _,.non=>θ|.non,.str _=>θ|.str _,.non=>θ
 |.int _,.int _=>θ|.bl _,.bl _=>θ|.str _,.str _=>θ|.byt _,.byt _=>θ
 |.int _,.str _=>θ|.str _,.int _=>θ|.bl _,.str _=>θ|.str _,.bl _=>θ
 |_,_=>ι
def O5:R2:=λx y H Q=>A2 x y=θ/\Q (.bl (!J (x=y))) H
theorem O6{i j:Int}:J (V.int i=V.int j)=(i==j):=by
 rw[q3r];simp
theorem O7{i j:Bool}:J (V.bl i=V.bl j)=(i==j):=by
 rw[q3r];simp
theorem O8{i j:R}:J (V.str i=V.str j)=(i==j):=by
 rw[q3r];simp
theorem O9{i j:Array UInt8}:J (V.byt i=V.byt j)=(i.toList==j.toList):=by
 rw[q3r];cases i
 cases j
 simp
section
variable{X:Cx}{a b c:M}{ta tb tc:TE}{pos:y}
theorem ik{pins:au}{σ:St}{H:Hp}{s:L}{Q:VK}{k k':Bool}(I:Inv X pins σ H s)(q:Q (.bl k) H)(e:k=k'):EP X pins σ Q (.bool k') s:=by
 subst e;calc⟨.bl k,H,I,Y,q⟩
theorem O_:dA X (compareOp .NotEq) O5:=by
 ext pins s σ H x y v u Q I rx ry h;let⟨hs,q⟩:=h
 cases x with
 |non =>
  cases rx
  cases y with
  |non=>cases ry;exact PySem.EqNone.ne_none_none (ik I q (by simp))
  |bl j=>cases ry;exact PySem.EqNone.ne_none_bool (ik I q (by simp))
  |int j=>let⟨t',rfl⟩:=ry;exact PySem.EqNone.ne_none_int (ik I q (by simp))
  |str j=>let⟨t',rfl⟩:=ry;exact PySem.EqNone.ne_none_str (ik I q (by simp))
  |_=>exact absurd (show ι=θ from hs) q0b
 |bl i =>
  cases rx
  cases y with
  |non=>cases ry;exact PySem.EqNone.ne_bool_none (ik I q (by simp))
  |bl j=>cases ry;exact ne_bool (ik I q (congrArg not O7))
  |str j=>let⟨t',rfl⟩:=ry;exact PySem.EqMixed.ne_bool_str (ik I q (by simp))
  |_=>exact absurd (show ι=θ from hs) q0b
 |int i =>
  let⟨t,rfl⟩:=rx
  cases y with
  |non=>cases ry;exact PySem.EqNone.ne_int_none (ik I q (by simp))
  |int j=>let⟨t',rfl⟩:=ry;exact ne_int (ik I q (congrArg not O6))
  |str j=>let⟨t',rfl⟩:=ry;exact PySem.EqMixed.ne_int_str (ik I q (by simp))
  |_=>exact absurd (show ι=θ from hs) q0b
 |str i =>
  let⟨t,rfl⟩:=rx
  cases y with
  |non=>cases ry;exact PySem.EqNone.ne_str_none (ik I q (by simp))
  |bl j=>cases ry;exact PySem.EqMixed.ne_str_bool (ik I q (by simp))
  |int j=>let⟨t',rfl⟩:=ry;exact PySem.EqMixed.ne_str_int (ik I q (by simp))
  |str j=>let⟨t',rfl⟩:=ry;exact ne_str (ik I q (congrArg not O8))
  |_=>exact absurd (show ι=θ from hs) q0b
 |byt i =>
  let⟨t,rfl⟩:=rx
  cases y with
  |byt j=>let⟨t',rfl⟩:=ry;exact PySem.W.ne_bytes (ik I q (congrArg not O9))
  |_=>exact absurd (show ι=θ from hs) q0b
 |_=>cases y<;>calc absurd (show ι=θ from hs) q0b
theorem Hu:dA X (compareOp .Lt) (nY λi j=>.bl (J (i<j))):=nZ λ_ _ _ _ _ _ _ q=>lt_int q
theorem Pa:dA X (compareOp .LtE) (nY λi j=>.bl (J (i<=j))):=nZ λ_ _ _ _ _ _ _ q=>le_int q
theorem Pb:dA X (compareOp .Gt) (nY λi j=>.bl (J (j<i))):=nZ λ_ _ _ _ _ _ _ q=>gt_int q
theorem Pc:dA X (compareOp .GtE) (nY λi j=>.bl (J (j<=i))):=nZ λ_ _ _ _ _ _ _ q=>ge_int q
theorem Pd:dA X (compareOp .Is) (λx y H Q=>y=.non/\Q (.bl (J (x=.non))) H):=by
 ext pins s σ H x y v u Q I rx ry h;let⟨rfl,q⟩:=h;cases ry
 refine is_none_gen (ik I q ?_)
 cases x<;>first
  |(cases rx;rfl)
  |(let⟨t,rfl⟩:=rx;rfl)
theorem Pf:dA X (compareOp .IsNot) (λx y H Q=>y=.non/\Q (.bl (!J (x=.non))) H):=by
 ext pins s σ H x y v u Q I rx ry h;let⟨rfl,q⟩:=h;cases ry
 refine isnot_none_gen (ik I q ?_)
 cases x<;>first
  |(cases rx;rfl)
  |(let⟨t,rfl⟩:=rx;rfl)
theorem Hv(b:M){op:CmpOp}(h:op≠.In:=by decide)(h2:op≠.NotIn:=by decide):behindInMarks op b=ι:=by
 let e1:(op==CmpOp.In)=ι:=by cases op<;>first|rfl|exact absurd Y h
 let e2:(op==CmpOp.NotIn)=ι:=by cases op<;>first|rfl|exact absurd Y h2
 cases b<;>simp[behindInMarks,e1,e2]
theorem Pg{op:CmpOp}{r:R2}(ho:dA X (compareOp op) r)(ha:JE X a ta)(hb:JE X b tb)(hm:behindInMarks op b=ι):JE X (.Compare a [op] [b] pos) (vb r ta tb):=by
 calc⟨?_⟩;ext pins s σ H Q I h;calc wpAny_Compare1 (rA ha hb I h λv u s2 x y H2 I2 rx ry q=>ho pins s2 σ H2 x y v u Q I2 rx ry q) hm
def Ph(t:TE):TT:=fun σ H Q=>t σ H λx H'=>∃k,x=.bl k/\Q k H'
theorem A3{op:CmpOp}{r:R2}(ho:dA X (compareOp op) r)(ha:JE X a ta)(hb:JE X b tb)(hm:behindInMarks op b=ι):JT X (.Compare a [op] [b] pos) (Ph (vb r ta tb)):=by
 calc⟨?_⟩;ext pins s σ H Q I h
 refine q5t (a_ (ha pins s σ H _ I h) λv s1 h0_=>el5 h0_ λx H1 I1 r1 q1 =>a_ (hb pins s1 σ H1 _ I1 q1) λu s2 h0_=>el5 h0_ λy H2 I2 r2 q2 =>
  a_ (ho pins s2 σ H2 x y v u _ I2 r1 r2 q2) λc s3 ⟨z,H3,I3,r3,k,e,q3⟩=>?_) hm
 subst e;cases r3
 calc q2d ⟨H3,I3,q3⟩
def Pj(r r':R2)(ta tb tc:TE):TE:=fun σ H Q=>ta σ H λx H1=>tb σ H1 λy H2=>r x y H2 λz H3=>∃k,z=.bl k ∧
 (if k=θ then tc σ H3 λw' H4=>r' y w' H4 Q else Q (.bl ι) H3)
theorem Pk{op rC:CmpOp}{r r':R2}(ho:dA X (compareOp op) r)(k6:dA X (compareOp rC) r')(ha:JE X a ta)(hb:JE X b tb)(hc:JE X c tc)
  (hm:lastMarks [op,rC] [b,c]=ι:=by with_unfolding_all rfl):JE X (.Compare a [op,rC] [b,c] pos) (Pj r r' ta tb tc):=by
 calc⟨?_⟩;ext pins s σ H Q I h
 refine Compare_chain (a_ (ha pins s σ H _ I h) λv s1 h0_=>el5 h0_ λx H1 I1 r1 q1 =>chain_link (a_ (hb pins s1 σ H1 _ I1 q1) λu s2 h0_=>el5 h0_ λy H2 I2 r2 q2 =>
  a_ (ho pins s2 σ H2 x y v u _ I2 r1 r2 q2) λd s3 ⟨z,H3,I3,r3,k,e,q3⟩=>?_)) hm
 subst e;cases r3
 refine q2d ?_
 cases k with
 |false=>exact ite_ff ⟨.bl ι,H3,I3,Y,q3⟩
 |true=>calc ite_tt (chain_last (a_ (hc pins s3 σ H3 _ I3 q3) λw' s4 ⟨z',H4,I4,r4,q4⟩↦k6 pins s4 σ H4 y z' u w' Q I4 r2 r4 q4))
theorem rD:(sizeLine:Nat)<2 ^ 63:=by rw[q09];decide
theorem Pl:dA X (binaryOp .Add) (λx y H Q=>∃i j,x=.str i/\y=.str j/\↑i+↑j<=sizeLine/\Q (.str (i++j)) H):=by
 ext pins s σ H x y v u Q I rx ry h;let⟨i,j,rfl,rfl,hz,q⟩:=h;let⟨t,rfl⟩:=rx;let⟨t',rfl⟩:=ry;calc add_str (λt' tk=>⟨.str (i++j),H,I.tok _,⟨_,Y⟩,q⟩) hz
theorem vals1{x:V}{us:-B}(r:Vals [x] us):∃u,us=[u]/\RelV x u:=by
 cases r with
 |cons r1 r2=>cases r2;calc⟨_,Y,r1⟩
theorem vals2{x y:V}{us:-B}(r:Vals [x,y] us):∃u w',us=[u,w']/\RelV x u/\RelV y w':=by
 cases r with
 |cons r1 r2 =>
  cases r2 with
  |cons r3 r4=>cases r4;calc⟨_,_,Y,r1,r3⟩
theorem Pn(hc:X.calm=θ):g9 X (.builtin "min") (λxs H Q=>∃i j,xs=[.int i,.int j]/\Q (.int (if j<i then j else i)) H):=by
 ext pins s σ H xs us Q I r h;let⟨i,j,rfl,q⟩:=h;let⟨u,w',rfl,⟨t,rfl⟩,⟨t',rfl⟩⟩:=vals2 r;refine min_two_ints (I.ok.hd hc) λh' tk k=>⟨_,H,I.kept k,?_,q⟩
 by_cases hj:j<i
 .rw[ZK hj,ZK hj];exact⟨_,Y⟩
 .rw[ZJ hj,ZJ hj];calc⟨_,Y⟩
end
structure rE(h:I)(x dx C:O)(mA:R->Option B):Prop where
 obj:h.get? x=U (q5l C dx)
 ns:h.Ns1 dx mA
 ne:dx≠x
theorem A4{h:I}{dx:O}{mA:R->Option B}(n:h.Ns1 dx mA):∃od,h.get? dx=U od/\∀name,q5D name od=U (mA name):=by
 let⟨o,es,ep,ho,hd,hk,_,hm⟩:=n;calc⟨o,ho,λname=>?_⟩;let e:=hm name;unfold nsFind findBy at e;rw[<-Array.find?_toList] at e;unfold q5D;rw[hd];dsimp only;split
 .rename_i y q
  rw[q] at e;exact congrArg U e
 .rename_i q
  rw[q] at e
  let a:es.toList.any (·.refKey)=ι:=by
   rw[q2e];ext y hy;let⟨z,t,A5⟩:=hk y (q37.mp hy);simp[DictEntry.refKey,A5]
  let a':¬ es.toList.any (·.refKey)=θ:=by rw[a];exact q0b
  rw[ZJ a'];calc congrArg U e
theorem rE.look{h:Α}{x dx C:O}{mA:R->Option B}(I:rE h x dx C mA):∃od,q7T h x (q5l C dx) C (U od)/\∀name,q5D name od=U (mA name) :=
 let⟨od,ho,hl⟩:=A4 I.ns
 ⟨od,⟨I.obj,Y,Y,ho⟩,hl⟩
section
variable{prog:n}{w:Q}{A:q}{E:aJ}{s:L}{K:xY}{x dx C f:O}{mA:R->Option B}{name:R}{v:B}
end
theorem fN.some_of{v:V}{o:Option B}(r:fN (U v) o):∃u,o=U u/\RelV v u:=by
 cases o with
 |none=>exact(show False from r).elim
 |some u=>calc⟨u,Y,r⟩
theorem Po{v:V}{u:B}(r:RelV v u):PySem.W.handedIn u=θ:=by
 cases v with
 |non=>cases(show u=q0n from r);rfl
 |bl b=>cases(show u=q27 b from r);rfl
 |int i=>let⟨t,e⟩:=(show ∃t,u=q1l i t from r);cases e;rfl
 |str x=>let⟨t,e⟩:=(show ∃t,u=q5P x t from r);cases e;rfl
 |byt b=>let⟨t,e⟩:=(show ∃t,u=Value.bytes b t from r);cases e;rfl
 |flt b=>let⟨t,e⟩:=(show ∃t,u=q7n b t from r);cases e;rfl
 |ref a=>cases(show u=q0w a from r);rfl
 |ty n=>cases(show u=q2k n from r);rfl
section
variable{P:n}{w:Q}{H H':Hp}{h h':I}{a C dx:O}{fs Ox:-(R×V)}
theorem Pp(aF:cI P w H h)(e:H a=U (.ins C dx fs)):∃mA,rE h a dx C mA/\(∀f,fN (fs.lookup f) (mA f))/\q8W mA (fs.map (·.1))/\fs.length<=1000/\H dx=U (.own a):=by
 let⟨d,z,ne,ob,mA,n,r,q⟩:=(show az P w H h a (.ins C dx fs) from aF a _ e);calc⟨mA,⟨ob,n,ne⟩,r,q,z,d⟩
end
structure A6(K:xY)(C:O):Prop where
 pg:q7b K C Str.empty=θ
 hd:q6H K C=θ
 po:PySem.W.plainOver K C=θ
 sa:q13 K (.ref C) "__setattr__" = U (U (.builtin "object.__setattr__"))
theorem A6.get{K:xY}{C:O}(c:A6 K C)(f:R):q7b K C f=θ:=c.pg
def tO(K:xY)(C:O)(f:R):Prop:=q13 K (.ref C) f=U Z
section
variable{X:Cx}{pins:au}{σ:St}{H:Hp}{s:L}{a C dx:O}{fs:-(R×V)}{f:R}{v:V}{A:q}{E:aJ}
theorem Pq{prog:n}{w:ω}{env:t}{e:M}{f:R}{pos:y}{s:L}{Q:aJ}(hb:attributeBase e f env (eval e env)=eval e env)
  (h:G (g prog w) A (eval e env) (λo s₁=>G (g prog w) A (getAttr o f θ) Q E s₁) E s):G (g prog w) A (eval (.Attribute e f pos) env) Q E s :=
 Attribute_any_ h (by rw[arm_eval_Attribute,hb])
end
section
variable{X:Cx}{o e value:M}{f:R}{pos pos' A7:y}{ta tv:TE}
end
section
variable{X:Cx}{pins:au}{σ:St}{H:Hp}{s:L}{A:q}{E:aJ}{Q:aJ}{c:B}{b:Bool}
inductive d5 (K:xY) (H:Hp):V->B->Prop where
 |non:d5 K H .non (.type "NoneType")
 |bl (x:Bool):d5 K H (.bl x) (.type "bool")
 |int (i:Int):d5 K H (.int i) (.type "int")
 |str (x:R):d5 K H (.str x) (.type "str")
 |flt (x:UInt64):d5 K H (.flt x) (.type "float")
 |lst {a:O} {xs:-V} (e:H a=U (.lst xs)):d5 K H (.ref a) (.type "list")
 |frz {a:O} {o:u} {xs:-V} (e:H a=U (.frz o (.lst xs))):d5 K H (.ref a) (.type "list")
 |tup {a:O} {xs:-V} (e:H a=U (.tup xs)):d5 K H (.ref a) (.type "tuple")
 |dK {a:O} {aq:-(Key×V)} (e:H a=U (.dK aq)):d5 K H (.ref a) (.type "dict")
 |dT {a:O} {aq:-(-Key×V)} (e:H a=U (.dT aq)):d5 K H (.ref a) (.type "dict")
 |ins {a C dx:O} {fs:-(R×V)} (e:H a=U (.ins C dx fs)) (cl:A6 K C) (ha:q13 K (.ref C) "__class__" = U (U (.builtin "object.__class__")))
   (hn:q6I K (.builtin "object.__class__") "__get__" = U (U (.builtin "getset_descriptor.__get__"))) (xQ:q7y K (.builtin "object.__class__")=U θ)
   (hm:PySem.W.mroIn K C (.type "object")=U θ):d5 K H (.ref a) (.ref C)
theorem Pr{x:V}{u t:B}(I:Inv X pins σ H s)(rx:RelV x u)(ty:d5 X.K H x t)(e:q0r X.K t c=U b)(h:∀tk,Q (.bool b) {s with toks:=tk}):
  G (g X.prog X.w) A (call (.builtin "isinstance") [u,c]) Q E s:=by
 cases ty with
 |non=>cases(show u=q0n from rx);exact q1x PySem.W.kitx_none I.dz q29 e (λz=>nomatch z) h
 |bl y=>cases(show u=q27 y from rx);exact q1x PySem.W.kitx_bool I.dz q29 e (λz=>nomatch z) h
 |int i=>let⟨t,q⟩:=(show ∃t,u=q1l i t from rx);cases q;exact q1x PySem.W.kitx_int I.dz q29 e (λz=>nomatch z) h
 |str y=>let⟨t,q⟩:=(show ∃t,u=q5P y t from rx);cases q;exact q1x PySem.W.kitx_str I.dz q29 e (λz=>nomatch z) h
 |flt y=>let⟨t,q⟩:=(show ∃t,u=q7n y t from rx);cases q;exact q1x PySem.W.kitx_float I.dz q29 e (λz=>nomatch z) h
 | @lst a xs ea =>
  cases(show u=q0w a from rx)
  let⟨_,_,n,_,h1⟩:=(show az X.prog X.w H s.heap a (.lst xs) from I.aF a _ ea);exact q1x q6J I.dz ⟨_,h1,Y⟩ e (λz=>nomatch z) h
 | @frz a ob xs ea =>
  cases(show u=q0w a from rx)
  let⟨_,_,_,n,_,h1⟩:=(show az X.prog X.w H s.heap a (.frz ob (.lst xs)) from I.aF a _ ea);exact q1x q6J I.dz ⟨_,h1,Y⟩ e (λz=>nomatch z) h
 | @tup a xs ea =>
  cases(show u=q0w a from rx)
  let⟨_,_,_,p⟩:=(show az X.prog X.w H s.heap a (.tup xs) from I.aF a _ ea);let⟨o,h1,h2,_⟩:=p;exact q1x PySem.W.kitx_tuple I.dz ⟨o,h1,h2⟩ e (λz=>nomatch z) h
 | @dK a aq ea =>
  cases(show u=q0w a from rx)
  let⟨_,_,vs,_,p⟩:=(show az X.prog X.w H s.heap a (.dK aq) from I.aF a _ ea);let⟨o,es,ep,h1,h2,_⟩:=p;exact q1x q6K I.dz ⟨o,h1,h2.1⟩ e (λz=>nomatch z) h
 | @dT a aq ea =>
  cases(show u=q0w a from rx)
  let⟨_,_,xs,_,o,es,ep,h1,h2,_⟩:=(show az X.prog X.w H s.heap a (.dT aq) from I.aF a _ ea);exact q1x q6K I.dz ⟨o,h1,h2.1⟩ e (λz=>nomatch z) h
 | @ins a C dx fs ea cl ha hn xQ hm =>
  cases(show u=q0w a from rx)
  let⟨mA,O,_⟩:=Pp I.aF ea;let⟨od,J,_⟩:=O.look;calc q1x (PySem.W.kitx_own (cl.get _) cl.hd ha hn xQ hm) I.dz J e (λz=>nomatch z) h
end
structure aX(k:Nat)(A:q):Prop where
 hd:A.handled=Z
 dp:A.depth+3*k+5<recursionLimit
 un:A.units+16*k+200<cLine
 gd:A.guards=U []
theorem aX.mono{j k:Nat}{A:q}(r:aX k A)(h:j<=k):aX j A:=⟨r.hd,by let:=r.dp;symm,by let:=r.un;symm,r.gd⟩
theorem aX.deeper{k:Nat}{A:q}(r:aX (k+1) A)(env:t):aX k (A.deeper env) :=
 ⟨r.hd,by let:=r.dp;show A.depth+1+3*k+5<_;symm,by let:=r.un;show A.units+3+16*k+200<_;symm,r.gd⟩
theorem aX.in1{k:Nat}{A:q}(r:aX (k+1) A):aX k A.in1 :=
 ⟨r.hd,by let:=r.dp;show A.depth+3*k+5<_;symm,by let:=r.un;show A.units+1+16*k+200<_;symm,r.gd⟩
theorem Pt{A:q}{C:O}{us:-B}{kw:-(R×B)}:(A.under (.builtin "type.__call__" ⟨.ref C::us,kw⟩)).depth=A.depth+1:=by
 first|rfl|simp[q6L,Code.weight,Code.isCreation,Code.isGuard,Code.isCaller,Code.frames,q6M,guardIds]
theorem Pu{A:q}{C:O}{us:-B}{kw:-(R×B)}:(A.under (.builtin "type.__call__" ⟨.ref C::us,kw⟩)).units=A.units+1:=by
 first|rfl|simp[q6L,Code.cUnits,Code.frames,q6M]
theorem aX.make{k:Nat}{A:q}(r:aX (k+1) A)(C:O)(us:-B)(kw:-(R×B)):aX k (A.under (.builtin "type.__call__" ⟨.ref C::us,kw⟩)) :=
 ⟨r.hd,by let:=r.dp;rw[Pt];symm,by let:=r.un;rw[Pu];symm,r.gd⟩
theorem aX.depth{k:Nat}{A:q}(r:aX k A):A.depth<recursionLimit:=by let:=r.dp;symm
theorem aX.units{k:Nat}{A:q}(r:aX k A):A.units+64<cLine:=by let:=r.un;symm
def jL:TA:=λ_ H Q=>Q [] H
def jl(ta:TE)(tr:TA):TA:=fun σ H Q=>ta σ H λx H1=>tr σ H1 λxs H2=>Q (x::xs) H2
section
variable{X:Cx}{e:M}{es:-M}{te:TE}{t:TA}{pos:y}
theorem aY:JA X [] jL:=⟨λ_ _ _ _ H Q I h=>Calls.spliced_nil ⟨[],H,I,.nil,h⟩⟩
theorem jm(ha:JE X e te)(hr:JA X es t)(hs:dI X e es:=by rfl):JA X (e::es) (jl te t):=by
 calc⟨?_⟩;ext pos pins s σ H Q I h;rw[hs];show G _ _ (spliced ((ι,eval e X.env)::backTo pos (starEach es X.env))) _ _ s;calc Calls.spliced_cons (a_ (ha pins s σ H _ I h) λu s1 h0_=>el5 h0_ λx H1 I1 r1 q1=>?_);calc a_ (hr pos pins s1 σ H1 _ I1 q1) λus s2 h0_=>el5 h0_ λxs H2 I2 r2 q2 =>⟨x::xs,H2,I2,.cons r1 r2,q2⟩
def A8(t:TA):TE:=fun σ H Q=>t σ H λxs H1=>↑xs<=sizeLine/\∀p,H1 p=Z->Q (.ref p) (upd H1 p (.tup xs))
def A9(t:TA):TE:=fun σ H Q=>t σ H λxs H1=>↑xs<=sizeLine/\∀p,H1 p=Z->Q (.ref p) (upd H1 p (.lst xs))
theorem Pw{x1}(h:JA X es t):JE X (.Tuple es x1 pos) (A8 t):=by
 calc⟨?_⟩;ext pins s σ H Q I hq;calc wpAny_Tuple_spliced (a_ (h pos pins s σ H _ I hq) λus s1 ⟨xs,H1,I1,r,z,q⟩=>⟨by rw[<-↑r];calc z,?_⟩);let hf:H1 ⇑s1=Z:=I1.aF.fresh (BA _);calc⟨.ref ⇑s1,upd H1 ⇑s1 (.tup xs),I1.laid (t':=s1.toks) (λb u e=>rM _ e) (BA _) ?_,Y,q _ hf⟩;calc⟨z,us,r,⟨_,ZI _ Y,Y,_,Y⟩⟩
theorem n6(h:JA X es t):JE X (.List es pos) (A9 t):=by
 calc⟨?_⟩;ext pins s σ H Q I hq;calc wpAny_List_spliced (a_ (h pos pins s σ H _ I hq) λus s1 ⟨xs,H1,I1,r,z,q⟩=>⟨by rw[<-↑r];calc z,?_⟩);let hf:H1 ⇑s1=Z:=I1.aF.fresh (BA _);calc⟨.ref ⇑s1,upd H1 ⇑s1 (.lst xs),I1.laid (t':=s1.toks) (λb u e=>rM _ e) (BA _) ?_,Y,q _ hf⟩;calc⟨z,us,0,r,ZI _ Y⟩
end
abbrev Sp:=-V->Hp->VK->XK->Prop
abbrev jM:=-t->Hp->L->XK->B->L->Prop
structure iS(P:n)(w:Q)(K:xY)(mg:R->Option B)(base:I)(A:q)(outer:-t)(s:L)(H:Hp):Prop where
 frames:A.frames=U outer
 mod:Mod K mg base
 bs:∀b o,base.get? b=U o->s.heap.get? b=U o/\H b=Z
 ku:base.objs.size<=⇑s
 dj:s.heap.FunFrames base outer
 kZ:∀b∈eM outer,H b=Z
 aF:cI P w H s.heap
 bare:AllBare s.gens
def CE(outer:-t)(P:n)(w:ω)(H:Hp)(s:L)(Q:VK)(u:B)(s':L):Prop :=
 ∃v H',s'.os=s.os/\AllBare s'.gens/\Un (eM outer) [] H H' s.heap s'.heap/\cI P w H' s'.heap/\RelV v u/\Q v H'
def CR(CX:jM)(outer:-t)(P:n)(w:ω)(H:Hp)(s:L)(Q:VK)(E:XK)(r:Result)(s':L):Prop :=
 match r with
 |.ok (.ret u)=>CE outer P w H s Q u s'
 |.ok _=>False
 |.error e=>CX outer H s E e s'
structure bK(P:n)(w:ω)(K:xY)(mg:R->Option B)(base:I)(CX:jM)(k:Nat)(f:O)(fd:FuncData)(ps:-R)(sp:Sp):Prop where
 len:∀vs H Q E,sp vs H Q E->↑vs=↑ps
 run:∀(A:q)(outer:-t)(s:L)(H:Hp)(args:Args)(us:-B)(vs:-V)(Q:VK)(E:XK),aX k A->iS P w K mg base A outer s H->BindsTo s fd args (ps.zip us)->Vals vs us->sp vs H Q E →
  codeAny (g P w) A (.call (.ref f) args) (CR CX outer P w H s Q E) s
theorem iS.make{P:n}{w:Q}{K:xY}{mg:R->Option B}{base:I}{A:q}{outer:-t}{s:L}{H:Hp}(e:iS P w K mg base A outer s H)(C:O)(us:-B)(kw:-(R×B)):
  iS P w K mg base (A.under (.builtin "type.__call__" ⟨.ref C::us,kw⟩)) outer s H:=⟨by first|exact e.frames|(simpa[q6L,Code.envs,q6M,pushEnvs] using e.frames),e.mod,e.bs,e.ku,e.dj,e.kZ,e.aF,e.bare⟩
section
variable{X:Cx}{pins:au}{σ:St}{H:Hp}{s s':L}
theorem Inv.rF(I:Inv X pins σ H s):iS X.prog X.w X.K X.mg X.base X.A X.stack s H :=
 ⟨I.ok.frames,I.ok.mod,I.bs,q0Q I.ok.ku I.sz,I.stack,I.dY,I.aF,I.bare⟩
theorem Inv.after{Q:VK}{u:B}(I:Inv X pins σ H s)(h:CE X.stack X.prog X.w H s Q u s'):EP X pins σ Q u s':=by
 let⟨v,H',os,bare,un,aF,r,q⟩:=h;let⟨hh,g,d,t,uP⟩:=s';obtain rfl:uP=s.os:=os;calc⟨v,H',I.call (h':=hh) (g':=g) (d':=d) (t':=t) (ch:=[]) un aF bare (λb z=>absurd z (by simp)),r,q⟩
end
def tP(sp:Sp)(p9:-V)(E:XK)(t:TA):TE:=fun σ H Q=>t σ H λvs H1=>sp (vs++p9) H1 Q E
def Binds(K:xY)(fd:FuncData)(ps:-R)(ds:-B):Prop :=
 ∀(s:L)(us:-B),K.In s.heap->↑(us++ds)=↑ps->BindsTo s fd ⟨us,[]⟩ (ps.zip (us++ds))
theorem Binds.all{K:xY}{fd:FuncData}{ps:-R}(h:∀us:-B,↑us=↑ps->bindArgs fd ⟨us,[]⟩=pure (ps.zip us)):Binds K fd ps []:=λs us _ hl=>by
 rw[q2h] at hl ⊢;calc .of_eq (h us hl)
def p_(CX:jM)(X:Cx)(E:XK):Prop:=∀(pins:au)(σ:St)(H:Hp)(s:L)(e:B)(s':L),Inv X pins σ H s->CX X.stack H s E e s'->X.xe e s'
section
variable{X:Cx}{CX:jM}{k:Nat}{f C:O}{fd:FuncData}{ps:-R}{sp:Sp}{p9:-V}{ds:-B}{E:XK}{x m:R}{p pos apos:y}{e o:M}{es:-M}{ta:TE}{t:TA}
theorem Px{pins:au}{σ:St}{H:Hp}{s:L}{Q:VK}{us:-B}{vs:-V}(F:bK X.prog X.w X.K X.mg X.base CX k f fd ps sp)(hr:aX k X.A)(hb:Binds X.K fd ps ds)(hd:Vals p9 ds)(hx:p_ CX X E)
  (I:Inv X pins σ H s) (r:Vals vs us) (h:sp (vs++p9) H Q E):G (g X.prog X.w) X.A (call (.ref f) us) (EP X pins σ Q) X.xe s:=by
 let r2:Vals (vs++p9) (us++ds):=r.append hd;let hl:↑(us++ds)=↑ps:=by rw[<-↑r2];exact F.len _ _ _ _ h
 refine q3v (q2L (F.run X.A X.stack s H ⟨us,[]⟩ (us++ds) (vs++p9) Q E hr I.rF (hb s us I.dz hl) r2 h) λr s' hq=>?_)
 cases r with
 |error e=>exact hx pins σ H s e s' I hq
 |ok fl =>
  cases fl with
  |ret u=>exact I.after hq
  |next=>exact q1i hq
  |brk=>exact q1i hq
  |cont=>calc q1i hq
theorem vg(F:bK X.prog X.w X.K X.mg X.base CX k f fd ps sp)(hr:aX k X.A)(hg:Gl X x)(hm:X.mg x=U (.ref f))(hk:q08 X.K (.ref f)=θ)(hb:Binds X.K fd ps ds)(hd:Vals p9 ds)(hx:p_ CX X E)
  (ha:JA X (e::es) t) (cS:bx x:=by decide) (he:dI X e es:=by rfl) (cU:eS X pos es:=by rfl) :
  JE X (.Call (.Name x p) (e::es) [] pos) (tP sp p9 E t):=by
 calc⟨?_⟩;ext pins s σ H Q I h;calc q2l (uW I hg hm ?_ cS);calc q4w (h₀:=X.base) I.ok.mod.mQ hk (a_ (ha pos pins s σ H _ I h) λus s1 h0_=>el5 h0_ λvs H1 I1 r q =>⟨I1.dz,?_⟩) he cU;calc Px F hr hb hd hx I1 r q
end
section
variable{X:Cx}{CX:jM}{k:Nat}{f C:O}{fd:FuncData}{ps ks:-R}{sp:Sp}{E:XK}{x m:R}{p pos apos jN:y}{e o:M}{es:-M}{ZE:-Keyword}{te ta:TE}{t tk:TA}{nm:Option R}
variable{g:-B->-B->-B}{gV:-V->-V->-V}
end
structure mT(N P:-R)(sc:S):Prop where
 kind:sc.kind=.function
 co:sc.isCoroutine=ι
 gen:sc.isGenerator=ι
 nd:N.Nodup
 pre:N.take ↑P=P
 par:∀x∈P,sc.names.lookup x=U .local\/sc.names.lookup x=U .cell
 rG:∀y∈sc.names,y.2≠.free
theorem Hw{kindOf:R->Option NameKind}{x:R}:∀{binds:-(R×B)}{m:R->Option B},(∀v,(x,v)∉binds)->bindL kindOf binds m x=m x
 |[],_,_=>Y
 |(n,v)::r,m,h=>by
  unfold bindL;rw[Hw λw hw=>h w (Qm _ hw)];split
  .let:x≠n:=by ext rfl;exact h v Qk
   simp[this]
  .rfl
theorem Hx{kindOf:R->Option NameKind}{x:R}:∀{binds:-(R×B)}{m:R->Option B},(∀v,(x,v)∉binds)->bindC kindOf binds m x=m x
 |[],_,_=>Y
 |(n,v)::r,m,h=>by
  unfold bindC;rw[Hx λw hw=>h w (Qm _ hw)];split
  .rfl
  .let:x≠n:=by ext rfl;exact h v Qk
   simp[this]
theorem Hy{kindOf:R->Option NameKind}{x:R}{v:B}:∀{P:-R}{vs:-B}{i:Nat}{m:R->Option B},P.Nodup->P[i]?=U x->vs[i]?=U v->kindOf x=U .local →
  bindL kindOf (P.zip vs) m x=U v
 |[],_,_,_,_,h,_,_=>by simp at h
 |_::_,[],_,_,_,_,h,_=>by simp at h
 |p::P,w::vs,0,m,nd,h1,h2,hk=>by
  simp at h1 h2;subst h1;subst h2;show bindL kindOf ((p,w)::P.zip vs) m p=_;unfold bindL;rw[Hw λv hv=>(q2Q.mp nd).1 (q5m hv).1,ZK hk];simp
 |p::P,w::vs,i+1,m,nd,h1,h2,hk=>by
  show bindL kindOf ((p,w)::P.zip vs) m x=_;unfold bindL;calc Hy (i:=i) (q2Q.mp nd).2 h1⁻¹ h2⁻¹ hk
theorem Hz{kindOf:R->Option NameKind}{x:R}{v:B}:∀{P:-R}{vs:-B}{i:Nat}{m:R->Option B},P.Nodup->P[i]?=U x->vs[i]?=U v->kindOf x≠U .local →
  bindC kindOf (P.zip vs) m x=U v
 |[],_,_,_,_,h,_,_=>by simp at h
 |_::_,[],_,_,_,_,h,_=>by simp at h
 |p::P,w::vs,0,m,nd,h1,h2,hk=>by
  simp at h1 h2;subst h1;subst h2;show bindC kindOf ((p,w)::P.zip vs) m p=_;unfold bindC;rw[Hx λv hv=>(q2Q.mp nd).1 (q5m hv).1,ZJ hk];simp
 |p::P,w::vs,i+1,m,nd,h1,h2,hk=>by
  show bindC kindOf ((p,w)::P.zip vs) m x=_;unfold bindC;calc Hz (i:=i) (q2Q.mp nd).2 h1⁻¹ h2⁻¹ hk
noncomputable def start(N:-R)(vs:-V):St:=vs.map U++q0d (↑N-↑vs) Z
noncomputable def aS(CX:jM)(P:n)(w:Q)(K:xY)(mg:R->Option B)(base:I)(N:-R)(qual:R)(scope:S)(f:O)(cd:B)(A:q)(outer:-t)(s:L)(H:Hp)(E:XK):Cx where
 prog:=P
 w:=w
 K:=K
 mg:=mg
 base:=base
 A:=A.deeper (envOfC qual scope ⇑s f cd)
 N:=N
 s₀:=s
 H₀:=H
 env:=envOfC qual scope ⇑s f cd
 outer:=outer
 stack:=envOfC qual scope ⇑s f cd::outer
 ex:=[]
 calm:=true
 fn:=λ_=>θ
 pn:=[]
 xe:=λe s'=>G (g P w) (A.deeper (envOfC qual scope ⇑s f cd)) (leaving (envOfC qual scope ⇑s f cd) e) (λ_ iT=>CX outer H s E e iT) (λe' iT=>CX outer H s E e' iT) s'
theorem HA{sc:S}{n:Nat}{x:R}(h:sc.names.lookup x=U .cell):∃c,(cellsFrom n sc.names []).lookup x=U c:=by
 let q:=q3K sc.names n [] (.inl h);calc q2y.mp q
theorem Py{CX:jM}{P:ψ}{w:Q}{K:xY}{mg:R->Option B}{base:I}{N ps:-R}{qual:R}{scope:Δ}{f:O}{cd:B}{A:Β}{outer:-t}{s s1:L}{H:Hp}{E:XK}{us:-B}{vs:-V}
  (S:mT N ps scope) (hd:A.handled=Z) (e0:iS P w K mg base A outer s H) (hl:↑vs=↑ps) (r:Vals vs us)
  (x:InCallC s ⇑s (bindL (envOfC qual scope ⇑s f cd).kindOf (ps.zip us) λ_=>Z) (cellsFrom (⇑s+1) scope.names []) (bindC (envOfC qual scope ⇑s f cd).kindOf (ps.zip us) λ_=>Z) s1) :
  Inv (aS CX P w K mg base N qual scope f cd A outer s H E) [] (start N vs) H s1:=by
 let cU:↑ps<=↑N:=by let:=congrArg q7o S.pre;rw[q0y] at this;symm
 let⟨h1,tk,rfl,hk⟩:=x.done;let n8:∀b:O,b∉(aS CX P w K mg base N qual scope f cd A outer s H E).ex:=λb z=>absurd (show b∈([]:-O) from z) (by simp)
 refine⟨⟨e0.mod,S.kind,Y,Y,BA _,λy z c h1 h2=>?_,λy hy=>?_,λy c _ h=>?_,λ_=>hd,q5E e0.frames,.inr ⟨Y,Y⟩,λb z=>absurd z (n8 b),e0.bs,e0.ku,λb _ _=>n8 b,λb z=>absurd z (n8 b),e0.dj,e0.kZ⟩,
  Y,e0.bare,Un.kept hk,⟨_,x.toInCall.ns,λi y v h1 h2 h3=>?_⟩,λy c h=>⟨_,x.cell y c h⟩,e0.aF.fresh (BA _),λy c h=>?_,λp hp=>absurd (show p∈([]:au) from hp) (by simp),e0.aF.kept hk,?_⟩
 .exact name_of_addr x.apart (q1y h1) (q1y h2)
 .let hy:scope.names.lookup y=U .cell\/scope.names.lookup y=U .free:=hy
  rcases hy with hy|hy
  .exact HA hy
  .exact absurd Y (S.rG _ (q1y hy))
 .exact q1t (x.above y c (q1y h))
 .let hi:i<↑vs:=by
   unfold start at h2
   by_cases hi:i<↑vs
   .exact hi
   .rw[q0h hi⁻¹] at h2
    rw[q2E] at h2;split at h2<;>cases h2
  let ha:vs[i]?=U v:=by
   unfold start at h2;rw[q0g hi⁻¹,Qi] at h2
   cases e:vs[i]? with
   |none=>rw[e] at h2;cases h2
   |some a=>rw[e] at h2;cases h2;rfl
  let⟨u,hu,rv⟩:=r.get ha
  let hp:ps[i]?=U y:=by
   rw[<-S.pre,q05 ⋯];exact h1
  let HB:ps.Nodup:=by rw[<-S.pre];exact S.nd.sublist (q6B _ _)
  calc⟨u,rv,?_⟩;rcases S.par y (q0v hp) with k|k
  .exact .inl ⟨k,Hy HB hp hu k⟩
  .let⟨c,e⟩:=HA (n:=⇑s+1) k
   calc .inr ⟨.inl k,c,e,?_⟩;let q:=x.cell y c e;rw[Hz HB hp hu (by show scope.names.lookup y≠_;rw[k];decide)] at q;exact q
 .exact e0.aF.fresh (q1t (x.above y c (q1y h)))
 .unfold start
  show _=↑N;rw[Ql,rO,q1z];symm
theorem A_{CX:jM}{P:ψ}{w:ω}{K:xY}{mg:R->Option B}{base:Α}{k:Nat}{f:O}{name qual:R}{params:Arguments}{body:-χ}{scope:Δ}{dV kV doc pm aO ct oc:B}{an od:Option O}
  {mU:Array (Option B)} {N ps:-R} {sp:Sp} (lk:K.lookup f=U ⟨oc,od,.func (q1I name qual params body scope dV kV doc pm an aO ct),mU⟩) (e7:q2F K aO qual=θ) (S:mT N ps scope)
  (len:∀vs H Q E,sp vs H Q E->↑vs=↑ps)
  (d6:∀(A:Β)(outer:-Ζ)(s:L)(H:Hp)(vs:-V)(Q:VK)(E:XK),aX k (A.deeper (envOfC qual scope ⇑s f aO))->sp vs H Q E →
   ∃t,cj (aS CX P w K mg base N qual scope f aO A outer s H E) body t/\t {nx:=λ_ H'=>Q .non H',rt:=Q} (start N vs) H) :
  bK P w K mg base CX (k+1) f (q1I name qual params body scope dV kV doc pm an aO ct) ps sp:=by
 calc⟨len,λA outer s H args us vs Q E hr e0 hb r mV=>?_⟩;let hl:=len _ _ _ _ mV;let KX:K.In s.heap:=e0.mod.mQ.keeps λb o e=>(e0.bs b o e).1;let lim:s.heap.NoLimit:=e0.mod.nolimit.keeps λb o e=>(e0.bs b o e).1
 let vh:∀y∈ps.zip us,scope.names.lookup y.1=U .local\/(scope.names.lookup y.1=U .cell/\((cellsFrom (⇑s+1) scope.names []).lookup y.1).isSome=θ):=λ⟨n,v⟩ hy↦by
  rcases S.par n (q5m hy).1 with q|q
  .exact .inl q
  .exact .inr ⟨q,q3K _ _ _ (.inl q)⟩
 calc codeAny_call_function hr.depth (KX _ _ lk) Y S.co S.gen Y (PySem.W.codeRec_of KX e7) (hb _ _ _ _ ?_);calc wpAny_newFunctionEnv_cells S.kind vh λenv he s1 x=>?_;subst he;calc⟨lim.keeps x.toInCall.keep,codeAny_func ?_⟩;let⟨t,ht,hq⟩:=d6 A outer s H vs Q E (hr.deeper _) mV;let I:Inv (aS CX P w K mg base N qual scope f aO A outer s H E) [] (start N vs) H s1:=Py S hr.hd e0 hl r x;refine q1v (ht [] s1 (start N vs) H _ I hq) (λfl s' hs=>?_) λe s' hs=>hs
 let fin:∀{σ':St}{H':Hp}{v:V}{u:B},Inv (aS CX P w K mg base N qual scope f aO A outer s H E) [] σ' H' s'->RelV v u->Q v H'->CE outer P w H s Q u s' :=
  λ{σ' H' v u} J rv q=>⟨v,H',J.os,J.bare,J.base,J.aF,rv,q⟩
 cases fl with
 |ret u =>
  let⟨v,σ',H',J,rv,q⟩:=hs;exact fin J rv q
 |next =>
  let⟨σ',H',J,q⟩:=hs;exact fin (v:=V.non) (u:=q0n) J Y q
 |brk =>
  let⟨_,_,_,q⟩:=hs;exact q1i q
 |cont =>
  let⟨_,_,_,q⟩:=hs;calc q1i q
section
variable{X:Cx}{x:R}{p pos:y}{e:M}{es:-M}{t:TA}{id T:String}{r:-V->Hp->VK->Prop}
def xS(r:-V->Hp->VK->Prop)(t:TA):TE:=fun σ H Q=>t σ H λvs H1=>r vs H1 Q
theorem vi(hc:g9 X (.builtin id) r)(hg:Gl X x)(hm:X.mg x=Z)(hv:bootBuiltins x=U (.builtin id))(ha:JA X (e::es) t)(hn:x≠"__name__" := by decide)(cS:bx x:=by decide)
  (he:dI X e es:=by rfl) (cU:eS X pos es:=by rfl):JE X (.Call (.Name x p) (e::es) [] pos) (xS r t):=by
 calc⟨?_⟩;ext pins s σ H Q I h;calc q2l (nW I hg hm hv ?_ hn cS);calc PyProof.Rows.callWith_builtin1 (a_ (ha pos pins s σ H _ I h) λus s1 h0_=>el5 h0_ λvs H1 I1 r1 q1 =>hc pins s1 σ H1 vs us Q I1 r1 q1) he cU
theorem qa(hc:g9 X (.type T) r)(hg:Gl X x)(hm:X.mg x=Z)(hv:bootBuiltins x=U (.type T))(ha:JA X (e::es) t)(hn:x≠"__name__" := by decide)(cS:bx x:=by decide)
  (he:dI X e es:=by rfl) (cU:eS X pos es:=by rfl):JE X (.Call (.Name x p) (e::es) [] pos) (xS r t):=by
 calc⟨?_⟩;ext pins s σ H Q I h;calc q2l (nW I hg hm hv ?_ hn cS);calc q1C (a_ (ha pos pins s σ H _ I h) λus s1 h0_=>el5 h0_ λvs H1 I1 r1 q1 =>hc pins s1 σ H1 vs us Q I1 r1 q1) he cU
end
end L2
namespace HT
open PySem PyProof.Rows
noncomputable def lexLt:-Int->-Int->Bool
 |[],[]=>ι
 |[],_::_=>θ
 |_::_,[]=>ι
 |x::xs,y::ys=>if x=y then lexLt xs ys else J (x<y)
theorem mW(x y:Int)(xs ys:-Int):lexLt (x::xs) (y::ys)=if x=y then lexLt xs ys else J (x<y):=rfl
theorem Pz:lexLt [] []=ι:=rfl
theorem PA(y:Int)(ys:-Int):lexLt [] (y::ys)=θ:=rfl
theorem PB(x:Int)(xs:-Int):lexLt (x::xs) []=ι:=rfl
theorem PC(A:q)(s:L)(a:Int)(t:Tok)(c:Int)(u:Tok):∃e,q30 A s (.int a t) (.int c u) e/\(e=θ↔a=c) :=
 ⟨(a==c),q4x a t c u,by simp⟩
theorem PD(A:q)(s:L)(a:Int)(t:Tok)(c:Int)(u:Tok)(prog:n)(w:ω)(E:aJ)(Q:aJ)(h:Q (.bool (J (a<c))) s):
  G (g prog w) A (richCompare .Lt (.int a t) (.int c u)) Q E s :=
 (q4l h:G (g prog w) A (compareOp .Lt (.int a t) (.int c u)) Q E s)
section
open PySem.SeqAt
open PySem.AutoSeq1 (wpAny_loadPart')
open PySem.MeetsSeq PySem.MeetsSeq2 PySem.MeetsSeq3
theorem PE(l b:O)(items b7:Array B)(n n2:Nat)(dd qb:Option O)(sl qc:Array (Option B))(ns ms:-Int)(hi:IntsAre items.toList ns)(hj:IntsAre b7.toList ms):
  Meets (Builtin.«tuple.__lt__» ⟨[.ref l,.ref b],[]⟩)
   (λ_ R s=>s.heap.get? l=U {cls:=.type "tuple",dict:=dd,data:=.seq items n,slots:=sl}/\s.heap.get? b=U {cls:=.type "tuple",dict:=qb,data:=.seq b7 n2,slots:=qc} ∧
    R (.ok (.ret (.bool (lexLt ns ms)))) s) :=
 .of_wp λprog w A R s h=>by
  let⟨hp,g,d,tk,os⟩:=s;let⟨hl,hb,h⟩:=h;let f2:=AutoSeq1.sub_tuple_tuple;let z1:items.size=ns.length:=by rw[<-↑hi];simp
  let z2:b7.size=↑ms:=by rw[<-↑hj];simp
  wp_walk using q1S hl,q1S hb,q3Z _ (λrest b s'=>b.1=Z/\s'=⟨hp,g,d,tk,os⟩/\∃(vs ws:-B)(eO tQ:-Int),rest=vs.zip ws ∧
   IntsAre vs eO/\IntsAre ws tQ/\↑eO+b7.size=↑tQ+items.size/\R (.ok (.ret (.bool (lexLt eO tQ)))) ⟨hp,g,d,tk,os⟩) _
  case turn =>
   ext⟨y,x⟩ rest b s' ⟨hb',rfl,vs,ws,eO,tQ,hz,Ba,xT,hlen,hR⟩
   cases Ba with
   |nil=>rw[q3L] at hz;cases hz
   |cons a t Bc =>
    cases xT with
    |nil=>rw[q6n] at hz;cases hz
    |cons c u Be =>
     rw[q2N] at hz;injection hz with PF hrest;injection PF with hy hx;subst hy hx;rw[mW] at hR;erw[HY] at hlen;let⟨e,he,vj⟩:=PC A.in1 ⟨hp,g,d,tk,os⟩ a t c u;refine oj (he prog w _ _ ?_)
     cases e with
     |true =>
      rw[ZK (vj.mp Y)] at hR
      wp_walk
      exact⟨Y,Y,_,_,_,_,hrest,Bc,Be,⋯,hR⟩
     |false =>
      rw[ZJ (λq=>absurd (vj.mpr q) q0b)] at hR;let PG:=PD A.in1 ⟨hp,g,d,tk,os⟩ a t c u prog w
      wp_walk using PG
      exact⟨_,Y,by simpa using hR⟩
  case fin =>
   ext⟨b1,b2⟩ s' ⟨hb',rfl,vs,ws,eO,tQ,hz,Ba,xT,hlen,hR⟩;simp only at hb';subst hb'
   let hv:lexLt eO tQ=J (items.size<b7.size):=by
    cases Ba with
    |nil =>
     cases xT with
     |nil =>
      erw[q1n] at hlen;rw[Pz];exact(q0e ⋯).symm
     |cons c u hw =>
      erw[q1n,HY] at hlen;rw[PA];exact(q0c ⋯).symm
    |cons a t hv =>
     cases xT with
     |nil =>
      erw[q1n,HY] at hlen;rw[PB];exact(q0e ⋯).symm
     |cons c u hw =>
      rw[q2N] at hz;cases hz
   rw[hv] at hR
   wp_walk
   exact⟨_,Y,by simpa[Builtin.Tuple.tupleCompareSizes] using hR⟩
  case h =>
   calc⟨Y,Y,items.toList,b7.toList,ns,ms,Y,hi,hj,⋯,h⟩
end
section
variable{prog:n}{w:Q}{A:q}{E:aJ}{s:L}
theorem HC{l b:O}{items b7:Array B}{ns ms:-Int}{Q:aJ}(hl:IsTup s.heap l items)(hb:IsTup s.heap b b7)(hi:IntsAre items.toList ns)(hj:IntsAre b7.toList ms)
  (hu:A.units<cLine) (h:Q (.bool (lexLt ns ms)) s):G (g prog w) A (compareOp .Lt (.ref l) (.ref b)) Q E s:=by
 let⟨⟨cls,dd,data,sl⟩,ho,hc,n,hd⟩:=id hl;let⟨⟨vk,qb,data2,qc⟩,fg,jo,n2,hd2⟩:=id hb;simp only at hc hd jo hd2;subst hc hd jo hd2
 exact richCompare_meets_room (op:=.Lt) ⟨_,ho,Y⟩ ⟨_,fg,Y⟩ PySem.F.slot_tuple_lt PySem.F.entry_tuple_lt (PySem.F.args_tuple_lt_2 _ _) (PE l b items b7 n n2 dd qb sl qc ns ms hi hj)
  ⟨ho,fg,show q27 (lexLt ns ms)≠Value.notImplemented/\Q (.bool (lexLt ns ms)) s from⟨(λx=>nomatch x),h⟩⟩ hu
theorem PH{t b:O}{vs ws:-B}{Q:aJ}(ht:IsTup s.heap t vs.toArray)(hb:IsTup s.heap b ws.toArray)(hv:vs≠[])
  (h1:ws=[]->Q (.ref t) s) (h2:ws≠[]->Q (.ref ⇑s) {s with heap:=s.heap.push {cls:=.type "tuple",data:=.seq (vs++ws).toArray}})
  (hsz:↑vs+↑ws<=sizeLine):G (g prog w) A (binaryOp .Add (.ref t) (.ref b)) Q E s:=by
 let⟨⟨cls,dd,data,sl⟩,ho,hc,n,hd⟩:=id ht;let⟨⟨vk,qb,data2,qc⟩,fg,jo,n2,hd2⟩:=id hb;simp only at hc hd jo hd2;subst hc hd jo hd2;let e:vs.toArray++ws.toArray=(vs++ws).toArray:=by simp
 by_cases hw:ws=[]
 .exact q6N ⟨_,ho,Y⟩ ⟨_,fg,Y⟩ q42 q6c q3M q3z (q3k _ _)
   (tuple_addW1 t b vs.toArray ws.toArray n n2 dd qb sl qc hv⁻¹ (by simp[hw])) ⟨ho,fg,h1 hw⟩
 .refine q6N ⟨_,ho,Y⟩ ⟨_,fg,Y⟩ q42 q6c q3M q3z (q3k _ _)
   (tuple_addW2 t b vs.toArray ws.toArray n n2 dd qb sl qc hv⁻¹ hw⁻¹ (by rw[HW,HW];calc hsz)) ⟨ho,fg,?_⟩
  rw[e];calc h2 hw
noncomputable def aV(n d:Nat):Option Int->Nat
 |none=>d
 |some v=>if v<0 then(v+(n:Int)).toNat else min v.toNat n
theorem Bf(n d:Nat):aV n d Z=d:=rfl
theorem qd(n d k:Nat):aV n d (U (k:Int))=min k n:=by
 show(if(k:Int)<0 then((k:Int)+(n:Int)).toNat else min (k:Int).toNat n)=min k n;rw[ZJ ⋯,q0x]
theorem PJ(n d:Nat)(hd:d<=n)(o:Option Int):aV n d o<=n:=by
 cases o with
 |none=>exact hd
 |some v =>
  show(if v<0 then(v+(n:Int)).toNat else min v.toNat n)<=n
  by_cases hv:v<0
  .rw[ZK hv];symm
  .rw[ZJ hv];calc Nat.min_le_right _ _
theorem HD(v:Int)(n d:Nat):(if v<0 then max (v+(n:Int)) 0 else min v (n:Int))=((aV n d (U v):Nat):Int):=by
 show(if v<0 then max (v+(n:Int)) 0 else min v (n:Int))=(((if v<0 then(v+(n:Int)).toNat else min v.toNat n):Nat):Int)
 by_cases hv:v<0
 .erw[ZK hv];symm
 .erw[ZJ hv];symm
theorem PK(lo hi:Option Int)(n:Nat):q3h lo hi 1 (n:Int)=(((aV n 0 lo:Nat):Int),((aV n n hi:Nat):Int)):=by
 let h1:¬ ((1:Int)<0):=by symm
 unfold q3h;erw[h1,q0X];refine Prod.ext ?_ ?_
 .cases lo with
  |none=>rfl
  |some v=>exact HD v n 0
 .cases hi with
  |none=>rfl
  |some v=>calc HD v n n
theorem PL(i j:Nat):q1r (i:Int) (j:Int) 1=j-i:=by
 unfold q1r;let h1:(1:Int)>0:=by symm
 erw[h1,q17,q6O];split<;>symm
theorem vm{v:B}{o:Option Int}{Q:Option Int->L->Prop}(p:IsPart v o)(h:Q o s):G (g prog w) A (Builtin.Slice.slicePartIndex v) Q E s:=by
 cases p with
 |none=>exact slicePart_none h
 |int i t=>calc slicePart_int h
theorem HE{sl:O}{vl vu:B}{lo hi:Option Int}{n:Nat}{Q:Int×Int×Nat->L->Prop}(hs:s.heap.IsSliceOf sl vl vu .none)(pl:IsPart vl lo)(pu:IsPart vu hi)
  (h:Q (((aV n 0 lo:Nat):Int),1,aV n n hi-aV n 0 lo) s):G (g prog w) A (q2m (.ref sl) (pure (n:Int))) Q E s:=by
 let⟨os,jO,n_,mX⟩:=id hs;unfold q2m q4F;calc oj (oj (q1h jO mX (x:=vl) Y (oj (q1h jO mX (x:=vu) Y (oj (q1h jO mX (x:=.none) Y (vw ?_)))))));calc oj (slicePart_none ?_);show G _ _ (if((1:Int)==0)=θ then _ else _) _ _ s;rw[ZJ (by decide)];refine oj (vm pl (oj (vm pu (oj (vw ?_)))))
 show G _ _ (match q3h lo hi 1 (n:Int) with|(lo,hi)=>pure (lo,(1:Int),q1r lo hi 1)) _ _ s;rw[PK lo hi n];show G _ _ (pure (((aV n 0 lo:Nat):Int),(1:Int),q1r ((aV n 0 lo:Nat):Int) ((aV n n hi:Nat):Int) 1)) _ _ s;rw[PL];calc vw h
theorem PM(xs:Array B)(i k:Nat):((q0s k).filterMap λ(m:Nat)=>xs[((i:Int)+(m:Int)*1).toNat]?).toArray=((xs.toList.drop i).take k).toArray:=by
 let e:(λ(m:Nat)=>xs[((i:Int)+(m:Int)*1).toNat]?)=λm=>xs[i+m]?:=by
  funext m;let:((i:Int)+(m:Int)*1).toNat=i+m:=by symm
  rw[this]
 rw[e];let:=pick_run xs i k;rw[q4s] at this;let e2:((λx=>xs[x]?)∘λx=>i+x)=λm=>xs[i+m]?:=Y;rw[e2] at this;rw[this]
theorem PN{t sl:O}{items:Array B}{vl vu:B}{lo hi:Option Int}{Q:aJ}(ht:IsTup s.heap t items)(hs:s.heap.IsSliceOf sl vl vu .none)(pl:IsPart vl lo)(pu:IsPart vu hi)
  (hw:¬ (aV items.size 0 lo=0/\aV items.size items.size hi=items.size))
  (h:Q (.ref ⇑s) {s with heap:=s.heap.push {cls:=.type "tuple",data:=.seq ((items.toList.drop (aV items.size 0 lo)).take (aV items.size items.size hi-aV items.size 0 lo)).toArray}})
  (hsz:items.size<=sizeLine):G (g prog w) A (getItem (.ref t) (.ref sl)) Q E s:=by
 let d7:sizeOk (.seq ((items.toList.drop (aV items.size 0 lo)).take (aV items.size items.size hi-aV items.size 0 lo)).toArray):=by
  show((items.toList.drop (aV items.size 0 lo)).take (aV items.size items.size hi-aV items.size 0 lo)).toArray.size<=sizeLine;rw[HW,q0y,q06,HZ];symm
 let hj:aV items.size items.size hi<=items.size:=PJ _ _ (BA _) hi;let⟨os,jO,n_,mX⟩:=id hs;let vo:s.TypeIs (.ref sl) "slice" := ⟨os,jO,n_⟩;unfold getItem
 try with_reducible refine q0B ?_
 first|refine oj (vw ?_)|skip
 refine oj (q4N ht.typeIs (by decide) ?_)
 refine oj (q0_ (name:=q0O "__getitem__") ht.typeIs q0I
  (q1e q0I ht.typeIs q4m ?_ (q4y _ _)))
 show G _ _ (q2_ (.ref t) >>= _) _ _ s;calc oj (q6d ht ?_);calc oj (q2M vo ?_);rw[ZK (by decide)];refine oj (HE hs pl pu ?_)
 let PQ:¬ ((((aV items.size 0 lo:Nat):Int)==0&&(1:Int)==1&&(aV items.size items.size hi-aV items.size 0 lo)==items.size)=θ):=by
  ext q;rw[q0k,q0k] at q;let q1:((aV items.size 0 lo:Nat):Int)=0:=q0m q.1.1;let q2:aV items.size items.size hi-aV items.size 0 lo=items.size:=q0m q.2;exact hw ⟨⋯,⋯⟩
 show G _ _ (if(((aV items.size 0 lo:Nat):Int)==0&&(1:Int)==1&&(aV items.size items.size hi-aV items.size 0 lo)==items.size)=θ then _ else _) _ _ s;rw[ZJ PQ,PM]
 first
  |exact oj (m:=q1j _) (q01 (vw ⟨_,Y,vw h⟩) d7)
  |exact oj (m:=q1j _) (q01 (oj (vw (vw ⟨_,Y,vw h⟩))) d7)
  |exact oj (oj (m:=q1j _) (q01 (vw (vw ⟨_,Y,vw h⟩)) d7))
  |calc oj (oj (m:=q1j _) (q01 (vw ⟨_,Y,vw h⟩) d7))
end
end HT
namespace L2
open PySem PySem.Spec PyProof.Rows
abbrev TO:=St->Hp->(Option Int->Hp->Prop)->Prop
def PO(X:Cx)(e:Option M)(t:TO):Prop :=
 ∀(pins:au)(s:L)(σ:St)(H:Hp)(Q:Option Int->Hp->Prop),Inv X pins σ H s->t σ H Q →
  G (g X.prog X.w) X.A (evalPart e X.env) (λu s'=>∃o H',Inv X pins σ H' s'/\IsPart u o/\Q o H') X.xe s
def PR:TO:=λ_ H Q=>Q Z H
def PS(t:TE):TO:=fun σ H Q=>t σ H λx H1=>∃i,x=.int i/\Q (U i) H1
theorem intsAre_of{ns:-Int}:∀{us:-B},Vals (ns.map V.int) us->IntsAre us ns:=by
 induction ns with
 |nil=>ext us r;rw[q2b] at r;cases r;exact .nil
 |cons n ns ih =>
  ext us r;rw[q0o] at r
  cases r with
  |cons r1 r2 =>
   let⟨t,e⟩:=r1;subst e;calc .cons n t (ih r2)
section
variable{X:Cx}{e:M}{te:TE}{lo hi:Option M}{tl th:TO}{pos p2:y}
theorem HF:PO X Z PR:=by
 ext pins s σ H Q I h;rw[q6e];calc vw ⟨Z,H,I,.none,h⟩
theorem xU(h:JE X e te):PO X (U e) (PS te):=by
 ext pins s σ H Q I hw;rw[q8w];calc a_ (h pins s σ H _ I hw) λu s1 h0_=>el5 h0_ λx H1 I1 r1 q1=>?_;let⟨i,rfl,q⟩:=q1;let⟨t,rfl⟩:=r1;calc⟨U i,H1,I1,.int i t,q⟩
def qe(X:Cx)(r:V->Option Int->Option Int->Hp->VK->Prop):Prop :=
 ∀(pins:au)(s:L)(σ:St)(H:Hp)(x:V)(v vl vu:B)(lo hi:Option Int)(sl:O)(Q:VK),Inv X pins σ H s->RelV x v->s.heap.IsSliceOf sl vl vu .none->IsPart vl lo->IsPart vu hi->r x lo hi H Q →
  ∃T id,typeLookup (.type T) "__getitem__" = pure (U (.builtin id))/\s.TypeIs v T/\G (g X.prog X.w) X.A (getItem v (.ref sl)) (EP X pins σ Q) X.xe s
theorem qe.or{r r':V->Option Int->Option Int->Hp->VK->Prop}(h:qe X r)(h':qe X r'):qe X (λx lo hi H Q=>r x lo hi H Q\/r' x lo hi H Q):=by
 ext pins s σ H x v vl vu lo hi sl Q I rx hs pl pu q;rcases q with q|q
 .exact h pins s σ H x v vl vu lo hi sl Q I rx hs pl pu q
 .calc h' pins s σ H x v vl vu lo hi sl Q I rx hs pl pu q
def PT(r:V->Option Int->Option Int->Hp->VK->Prop)(te:TE)(tl th:TO):TE:=fun σ H Q=>te σ H λx H1=>tl σ H1 λl H2=>th σ H2 λu H3=>r x l u H3 Q
theorem Bg{r:V->Option Int->Option Int->Hp->VK->Prop}(hr:qe X r)(he:JE X e te)(hl:PO X lo tl)(hu:PO X hi th):JE X (.Subscript e (.Slice lo hi Z p2) pos) (PT r te tl th):=by
 calc⟨?_⟩;ext pins s σ H Q I h;calc Subscript_ (a_ (he pins s σ H _ I h) λv s1 h0_=>el5 h0_ λx H1 I1 r1 q1=>?_);calc wpAny_Slice (a_ (hl pins s1 σ H1 _ I1 q1) λvl s2 h0_=>el5 h0_ λl H2 I2 pl q2 =>a_ (hu pins s2 σ H2 _ I2 q2) λvu s3 h0_=>el5 h0_ λu H3 I3 pu q3=>?_);rw[q6e];calc vw ?_;let I4:Inv X pins σ H3 {s3 with heap:=s3.heap.push {cls:=.type "slice",data:=.fields #[vl,vu,.none]}}:=I3.kept (t':=s3.toks) λb ob q=>rM _ q;let⟨T,id,hT,ht,hg⟩:=hr pins {s3 with heap:=s3.heap.push {cls:=.type "slice",data:=.fields #[vl,vu,.none]}} σ H3 x v vl vu l u ⇑s3 Q I4 r1 (q4z ..) pl pu q3
 show G (g X.prog X.w) X.A (subscriptTail e (.Slice lo hi Z p2) v (.ref ⇑s3)) (EP X pins σ Q) X.xe {s3 with heap:=s3.heap.push {cls:=.type "slice",data:=.fields #[vl,vu,.none]}};calc q7W (ops:=[.ref ⇑s3,v]) ht hT hg (by with_unfolding_all rfl)
noncomputable def cV(xs:-V)(lo hi:Option Int):-V:=(xs.drop (HT.aV ↑xs 0 lo)).take (HT.aV ↑xs ↑xs hi-HT.aV ↑xs 0 lo)
theorem HG(xs:-V)(lo hi:Option Int):↑(cV xs lo hi)<=↑xs:=by
 unfold cV;rw[q0y,q06];symm
def Bh(K:xY):V->Option Int->Option Int->Hp->VK->Prop:=λx lo hi H Q=>∃a xs,x=.ref a/\bz K H a xs ∧
 ¬ (HT.aV ↑xs 0 lo=0/\HT.aV ↑xs ↑xs hi=↑xs)/\∀p,H p=Z->Q (.ref p) (upd H p (.tup (cV xs lo hi)))
theorem PU:qe X (Bh X.K):=by
 ext pins s σ H x v vl vu lo hi sl Q I rx hs pl pu h;let⟨a,xs,rfl,hx,hw,q⟩:=h;cases rx
 let⟨ah,r,ht,hz⟩:=I.tuple hx;let hlen:ah.toArray.size=↑xs:=by rw[HW];exact r.length.symm
 calc⟨"tuple",_,q0I.lookup,ht.typeIs,?_⟩;calc HT.PN ht hs pl pu (by rw[hlen];calc hw) ?_ (by rw[hlen];calc hz);rw[hlen];calc⟨.ref ⇑s,_,I.laid (t':=s.toks) (o:=.tup (cV xs lo hi)) (λb ob q=>rM _ q) (BA _) ?_,Y,q _ (I.aF.fresh (BA _))⟩;calc⟨q0Q (HG xs lo hi) hz,_,(r.drop (HT.aV ↑xs 0 lo)).take (HT.aV ↑xs ↑xs hi-HT.aV ↑xs 0 lo),q7d _ _⟩
def Bi(K:xY):R2:=λx y H Q=>∃a b ns ms,x=.ref a/\y=.ref b/\bz K H a (ns.map V.int)/\bz K H b (ms.map V.int)/\Q (.bl (HT.lexLt ns ms)) H
theorem PV(hu:X.A.units<cLine):dA X (compareOp .Lt) (Bi X.K):=by
 ext pins s σ H x y v u Q I rx ry h;let⟨a,b,ns,ms,rfl,rfl,ha,hb,q⟩:=h;cases rx
 cases ry
 let⟨ah,r1,p1,_⟩:=I.tuple ha;let⟨bf,r2,p2,_⟩:=I.tuple hb;let i1:IntsAre ah.toArray.toList ns:=intsAre_of r1;let i2:IntsAre bf.toArray.toList ms:=intsAre_of r2;calc HT.HC p1 p2 i1 i2 hu ⟨.bl (HT.lexLt ns ms),H,I,Y,q⟩
def PW(K:xY):R2:=λx y H Q=>∃a b xs ys,x=.ref a/\y=.ref b/\bz K H a xs/\bz K H b ys/\xs≠[]/\↑xs+↑ys<=sizeLine ∧
 (ys=[]->Q (.ref a) H)/\(ys≠[]->∀p,H p=Z->Q (.ref p) (upd H p (.tup (xs++ys))))
theorem Vals.fH{xs:-V}{us:-B}(r:Vals xs us):us=[]↔xs=[]:=by
 cases r with
 |nil=>simp
 |cons _ _=>simp
theorem PX:dA X (binaryOp .Add) (PW X.K):=by
 ext pins s σ H x y v u Q I rx ry h;let⟨a,b,xs,ys,rfl,rfl,ha,hb,hx,hz,q1,q2⟩:=h;cases rx
 cases ry
 let⟨ah,r1,p1,_⟩:=I.tuple ha;let⟨bf,r2,p2,_⟩:=I.tuple hb;calc HT.PH p1 p2 (λz=>hx (r1.fH.mp z)) (λz=>⟨.ref a,H,I,Y,q1 (r2.fH.mp z)⟩) (λz=>?_) (by rw[<-↑r1,<-↑r2];calc hz);calc⟨.ref ⇑s,_,I.laid (t':=s.toks) (o:=.tup (xs++ys)) (λb ob q=>rM _ q) (BA _) ?_,Y,q2 (λw=>z (r2.fH.mpr w)) _ (I.aF.fresh (BA _))⟩;calc⟨by rw[Ql];calc hz,_,r1.append r2,q7d _ _⟩
end
noncomputable def jP(n:Nat)(i:Int):Option Nat:=if 0<=i then(if i<n then U i.toNat else Z) else if -(n:Int)<=i then U (i+n).toNat else Z
noncomputable def dm{α:Type}(xs:-α)(i:Int):Option α:=(jP ↑xs i).bind λj=>xs[j]?
theorem HH{n:Nat}{i:Int}{j:Nat}(h:jP n i=U j):seqIndex? i n=U j/\j<n /\ -(n:Int)<=i/\i<n:=by
 unfold jP at h
 by_cases h0:0<=i
 .rw[ZK h0] at h
  by_cases h1:i<n
  .rw[ZK h1] at h
   let e:i.toNat=j:=q0A h;exact⟨by rw[q7p h0 h1,e],⋯,⋯,h1⟩
  .rw[ZJ h1] at h;cases h
 .rw[ZJ h0] at h
  by_cases h1 : -(n:Int)<=i
  .rw[ZK h1] at h
   let e:(i+n).toNat=j:=q0A h;exact⟨by rw[q6P ⋯ h1,e],⋯,h1,⋯⟩
  .rw[ZJ h1] at h;cases h
theorem Bj{α:Type}{xs:-α}{i:Int}{v:α}(h:dm xs i=U v):∃j,seqIndex? i ↑xs=U j/\xs[j]?=U v/\j<↑xs /\ -(↑xs:Int)<=i/\i<↑xs:=by
 unfold dm at h
 cases e:jP ↑xs i with
 |none=>rw[e] at h;cases h
 |some j =>
  rw[e] at h;let⟨h1,h2,h3,h4⟩:=HH e;calc⟨j,h1,h,h2,h3,h4⟩
theorem kC{α:Type}{xs:-α}{j:Nat}{v:α}(h:xs[j]?=U v):dm xs (j:Int)=U v:=by
 let hj:j<↑xs:=(tU.mp h).1
 let e:jP ↑xs (j:Int)=U j:=by
  unfold jP;rw[ZK ⋯,ZK ⋯];simp
 unfold dm;rw[e];calc h
def HI(b:M):Prop:=∀o i,subscripted b ι o i=operate [o,i] (getItem o i)
def vp(X:Cx)(r:R2):Prop :=
 ∀(value slice:M)(pins:au)(s:L)(σ:St)(H:Hp)(x y:V)(v u:B)(Q:VK),Inv X pins σ H s->RelV x v->RelV y u->r x y H Q →
  subscripted slice ι v u=operate [v,u] (getItem v u)->G (g X.prog X.w) X.A (subscriptTail value slice v u) (EP X pins σ Q) X.xe s
def HJ(X:Cx)(id:String)(r:V->-V->Hp->VK->Prop):Prop :=
 ∀(pins:au)(s:L)(σ:St)(H:Hp)(x:V)(xs:-V)(v:B)(us:-B)(Q:VK),Inv X pins σ H s->RelV x v->Vals xs us->r x xs H Q →
  G (g X.prog X.w) X.A (call (.builtin id) (v::us)) (EP X pins σ Q) X.xe s
section
variable{X:Cx}{a b:M}{ta tb:TE}{pos:y}
theorem xV{r:R2}(hr:vp X r)(ha:JE X a ta)(hb:JE X b tb)(hs:HI b):JE X (.Subscript a b pos) (vb r ta tb):=by
 calc⟨?_⟩;ext pins s σ H Q I h;calc Subscript_ (rA ha hb I h λv u s2 x y H2 I2 rx ry q=>hr a b pins s2 σ H2 x y v u Q I2 rx ry q (hs _ _))
def Bk(K:xY):R2:=λx y H Q=>∃p xs i v,x=.ref p/\y=.int i/\bh K H p xs/\dm xs i=U v/\Q v H
def Bl(K:xY):R2:=λx y H Q=>∃p xs i v,x=.ref p/\y=.int i/\bz K H p xs/\dm xs i=U v/\Q v H
def Bm:R2:=λx y H Q=>∃z i c,x=.str z/\y=.int i/\↑z<=sizeLine/\dm z.cps.toList i=U c/\Q (.str ⟨#[c]⟩) H
theorem xW:vp X (Bk X.K):=by
 ext value slice pins s σ H x y v u Q I rx ry h hs;let⟨p,xs,i,z,rfl,rfl,hq,he,q⟩:=h;cases rx
 let⟨t,rfl⟩:=ry;let⟨ah,r,pl,hz⟩:=I.list hq;let⟨j,h1,h2,h3,h4,h5⟩:=Bj he;let⟨w,ew,vq⟩:=r.get h2;let hl:=↑r;let hn:=rD;let fin:EP X pins σ Q w s:=⟨z,H,I,vq,q⟩
 by_cases h0:0<=i
 .let hj:i.toNat=j:=by
   rw[q7p h0 h5] at h1;exact q0A h1
  exact item_listR pl.isList h0 ⋯ (by rw[hj];simpa using ew) fin hs
 .let hj:(i+(ah.toArray.size:Int)).toNat=j:=by
   rw[q6P ⋯ h4] at h1;rw[HW,<-hl];exact q0A h1
  exact q5b (x:=w) pl.isList.typeIs q4O.lookup
   (wpAny_getItem_list_neg (Q:=λr s'=>r=w/\EP X pins σ Q r s') pl.isList ⋯ (by rw[HW]<;>symm) ⋯ (by rw[hj];simpa using ew) ⟨Y,fin⟩) hs
theorem PY:vp X (Bl X.K):=by
 ext value slice pins s σ H x y v u Q I rx ry h hs;let⟨p,xs,i,z,rfl,rfl,hq,he,q⟩:=h;cases rx
 let⟨t,rfl⟩:=ry;let⟨ah,r,pl,hz⟩:=I.tuple hq;let⟨j,h1,h2,h3,h4,h5⟩:=Bj he;let⟨w,ew,vq⟩:=r.get h2;let hl:=↑r;let hn:=rD;let fin:EP X pins σ Q w s:=⟨z,H,I,vq,q⟩
 exact q5b (x:=w) pl.typeIs slot_tuple_getitem.lookup
  (getItem_tuple (j:=j) (Q:=λr s'=>r=w/\EP X pins σ Q r s') pl ⋯ ⋯ (by rw[HW,<-hl];calc h1) ew⁻¹ ⟨Y,fin⟩) hs
theorem PZ:vp X Bm:=by
 ext value slice pins s σ H x y v u Q I rx ry h hs;let⟨z,i,c,rfl,rfl,hz,he,q⟩:=h;let⟨t,rfl⟩:=rx;let⟨t',rfl⟩:=ry;let⟨j,h1,h2,h3,h4,h5⟩:=Bj he;let hl:↑z.cps.toList=↑z:=by simp[Str.length]
 rw[hl] at h1 h4 h5;let hn:=rD
 exact q7W (typeIs_str s z t) slot_str_getitem.lookup (getItem_str (c:=c) (by
  let e1:J (i < -(2 ^ 63:Int))=ι:=q0e ⋯;let e2:J (i ≥ 2 ^ 63)=ι:=q0e ⋯
  rw[e1,e2,q6a]) (by rw[h1];simpa using h2) ⟨.str ⟨#[c]⟩,H,I.tok _,⟨_,Y⟩,q⟩) hs
theorem P0(ah:-B)(n j:Nat)(u:B):q0H (·.setIfInBounds j u) {cls:=.type "list",data:=.seq ah.toArray n}={cls:=.type "list",data:=.seq (ah.set j u).toArray n}:=by
 simp[q0H]
theorem Inv.lst{pins:au}{σ:St}{H:Hp}{s:L}{p:O}{xs:-V}(I:Inv X pins σ H s)(h:H p=U (.lst xs)):
  ∃(ah:-B)(n:Nat),Vals xs ah/\s.heap.get? p=U {cls:=.type "list",data:=.seq ah.toArray n}/\↑xs<=sizeLine:=by
 let⟨z,ah,n,r,e⟩:=I.aF p _ h;calc⟨ah,n,r,e,z⟩
theorem Inv.rH{pins:au}{σ:St}{H:Hp}{s:L}{p:O}{xs ys:-V}{ah its':-B}{n n':Nat}{f:Γ->Γ}(I:Inv X pins σ H s)(h:H p=U (.lst xs))
  (ho:s.heap.get? p=U {cls:=.type "list",data:=.seq ah.toArray n}) (hf:f {cls:=.type "list",data:=.seq ah.toArray n}={cls:=.type "list",data:=.seq its'.toArray n'}) (r:Vals ys its') (hz:↑ys<=sizeLine) (t:Nat) :
  Inv X pins σ (upd H p (.lst ys)) {s with heap:=s.heap.update p f,toks:=t}:=by
 let e:(s.heap.update p f).get? p=U {cls:=.type "list",data:=.seq its'.toArray n'}:=by
  rw[q0E f ho (by rw[hf]<;>rfl),hf]
 calc I.write (x:=p) (e:=p) (by rw[h];trivial) (.inl Y) (λb u hb q=>(q0P _ _ (q1L hb)).trans q) ⟨_,e⟩ ?_;calc⟨hz,its',n',r,e⟩
def HK:V->V->V->Hp->(Hp->Prop)->Prop:=λo i v H Q=>∃p xs k j,o=.ref p/\i=.int k/\H p=U (.lst xs)/\jP ↑xs k=U j/\Q (upd H p (.lst (xs.set j v)))
theorem set_list:u5 X HK:=by
 ext pins s σ H o i v ov iv u Q I ro ri rv h;let⟨p,xs,k,j,rfl,rfl,hp,hj,q⟩:=h;cases ro
 let⟨t,rfl⟩:=ri;let⟨ah,n,r,ho,hz⟩:=I.lst hp;let⟨h1,h2,h3,h4⟩:=HH hj;let hl:=↑r;let hn:=rD
 let I':Inv X pins σ (upd H p (.lst (xs.set j v))) {s with heap:=s.heap.update p (q0H (·.setIfInBounds j u))} :=
  I.rH hp ho (P0 ah n j u) (r.set rv j) (by rw[q1G];calc hz) s.toks
 by_cases h0:0<=k
 .let hk:k.toNat=j:=by
   rw[q7p h0 h4] at h1;exact q0A h1
  exact PySem.W.ki_setAt ho h0 ⋯ (by rw[HW,<-hl];calc h4) (by rw[hk];calc⟨_,I',q⟩)
 .let hk:(k+(ah.toArray.size:Int)).toNat=j:=by
   rw[q6P ⋯ h3] at h1;rw[HW,<-hl];exact q0A h1
  calc PySem.W.ki_setBack ho ⋯ (by rw[HW,<-hl];calc h3) ⋯ (by rw[hk];calc⟨_,I',q⟩)
theorem P8(lo hi:Option Int)(n:Nat):(sliceBounds lo hi Z n).1=((HT.aV n 0 lo:Nat):Int)/\(sliceBounds lo hi Z n).2.1=((HT.aV n n hi:Nat):Int)/\(sliceBounds lo hi Z n).2.2=1:=by
 refine⟨?_,?_,Y⟩
 .cases lo with
  |none=>simp[sliceBounds,HT.aV]
  |some i =>
   erw[sliceBounds,HT.aV,q31,show(1:Int)>0 by decide,q17]
   by_cases h:i<0
   .erw[h,q17]<;>symm
   .erw[h,q0X]<;>symm
 .cases hi with
  |none=>simp[sliceBounds,HT.aV]
  |some i =>
   erw[sliceBounds,HT.aV,q31,show(1:Int)>0 by decide,q17]
   by_cases h:i<0
   .erw[h,q17]<;>symm
   .erw[h,q0X]<;>symm
theorem P9(ah:-B)(lo hi:Option Int):slicePick ah.toArray lo hi Z=((ah.drop (HT.aV ↑ah 0 lo)).take (HT.aV ↑ah ↑ah hi-HT.aV ↑ah 0 lo)).toArray:=by
 let⟨h1,h2,h3⟩:=P8 lo hi ah.toArray.size;unfold slicePick;rw[h1,h2,h3];erw[sliceRange_one,pick_run,HW]<;>rfl
def Bo(K:xY):V->Option Int->Option Int->Hp->VK->Prop:=λx lo hi H Q=>∃a xs,x=.ref a/\bh K H a xs/\∀p,H p=Z->Q (.ref p) (upd H p (.lst (cV xs lo hi)))
theorem gJ:qe X (Bo X.K):=by
 ext pins s σ H x v vl vu lo hi sl Q I rx hs pl pu h;let⟨a,xs,rfl,hx,q⟩:=h;cases rx
 let⟨ah,r,ht,hz⟩:=I.list hx;let hlen:=↑r;calc⟨"list",_,q4O.lookup,ht.isList.typeIs,?_⟩;calc q4U ht.isList hs pl pu .none (by simp) ?_ (by rw[HW]<;>symm);rw[P9,<-hlen];calc⟨.ref ⇑s,_,I.laid (t':=s.toks) (o:=.lst (cV xs lo hi)) (λb ob q=>rM _ q) (BA _) ?_,Y,q _ (I.aF.fresh (BA _))⟩;calc⟨q0Q (HG xs lo hi) hz,_,0,(r.drop (HT.aV ↑xs 0 lo)).take (HT.aV ↑xs ↑xs hi-HT.aV ↑xs 0 lo),ZI _ Y⟩
noncomputable def jq:V->Bool
 |.non=>θ
 |.bl _=>θ
 |.int _=>θ
 |.str _=>θ
 |_=>ι
noncomputable def fP:V->V->Bool
 |.non,.non=>θ
 |.bl a,.bl b=>a==b
 |.bl a,.int b=>(if a then 1 else 0)==b
 |.int a,.bl b=>a==(if b then 1 else 0)
 |.int a,.int b=>a==b
 |.str a,.str b=>a==b
 |_,_=>ι
theorem P_{A:q}{s:L}{y x:V}{u v:B}(ry:RelV y u)(rx:RelV x v)(fy:jq y=θ)(fx:jq x=θ):q30 A s u v (fP y x):=by
 cases y with
 |non =>
  cases ry
  cases x with
  |non=>cases rx;exact q4e _
  |bl b=>cases rx;exact q5F b
  |int b=>let⟨t,rfl⟩:=rx;exact q5S b t
  |str b=>let⟨t,rfl⟩:=rx;exact q5T b t
  |_=>exact absurd (show ι=θ from fx) q0b
 |bl a =>
  cases ry
  cases x with
  |non=>cases rx;exact q5G a
  |bl b=>cases rx;exact q5H a b
  |int b=>let⟨t,rfl⟩:=rx;exact q5U a b t
  |str b=>let⟨t,rfl⟩:=rx;exact q5V a b t
  |_=>exact absurd (show ι=θ from fx) q0b
 |int a =>
  let⟨t',rfl⟩:=ry
  cases x with
  |non=>cases rx;exact q5W a t'
  |bl b=>cases rx;exact q5X a t' b
  |int b=>let⟨t,rfl⟩:=rx;exact q4x a t' b t
  |str b=>let⟨t,rfl⟩:=rx;exact q4t a t' b t
  |_=>exact absurd (show ι=θ from fx) q0b
 |str a =>
  let⟨t',rfl⟩:=ry
  cases x with
  |non=>cases rx;exact q5Y a t'
  |bl b=>cases rx;exact q5Z a t' b
  |int b=>let⟨t,rfl⟩:=rx;exact q4u a t' b t
  |str b=>let⟨t,rfl⟩:=rx;exact q6o a t' b t
  |_=>exact absurd (show ι=θ from fx) q0b
 |_=>calc absurd (show ι=θ from fy) q0b
noncomputable def qf(x:V)(u:B):Bool:=match u with
 |.none=>fP .non x
 |.bool b=>fP (.bl b) x
 |.int i _=>fP (.int i) x
 |.str z _=>fP (.str z) x
 |_=>ι
theorem Bp{x y:V}{u:B}(r:RelV y u)(f:jq y=θ):qf x u=fP y x:=by
 cases y with
 |non=>cases r;rfl
 |bl b=>cases r;rfl
 |int i=>let⟨t,rfl⟩:=r;rfl
 |str z=>let⟨t,rfl⟩:=r;rfl
 |_=>calc absurd (show ι=θ from f) q0b
theorem Bq{A:q}{s:L}{x:V}{v:B}(rx:RelV x v)(fx:jq x=θ):∀{xs:-V}{us:-B},Vals xs us->xs.all jq=θ->∀u∈us,q30 A s u v (qf x u)
 |_,_,.nil,_=>λu hu=>by cases hu
 |y::xs,u::us,.cons r t,f=>λu' hu=>by
  rw[q2W,q0k] at f;rcases My.mp hu with rfl|hu
  .rw[Bp r f.1];exact P_ r rx f.1 fx
  .calc Bq rx fx t f.2 u' hu
theorem HL:g9 X (.builtin "len") (λxs H Q=>∃p ys,xs=[.ref p]/\(bh X.K H p ys\/bz X.K H p ys)/\Q (.int ↑ys) H):=by
 ext pins s σ H xs us Q I r h;let⟨p,ys,rfl,hq,q⟩:=h;let⟨u,rfl,rx⟩:=vals1 r;cases rx
 let hn:=rD;rcases hq with hq|hq
 .let⟨ah,r',pl,hz⟩:=I.list hq
  let hlen:=↑r';exact Calls.call_len_list pl.isList (by erw[HW]<;>symm) ⟨.int ↑ys,H,I.tok _,⟨s.toks+1,by rw[HW,hlen]⟩,q⟩
 .let⟨ah,r',pl,hz⟩:=I.tuple hq
  let hlen:=↑r';calc len_tuple pl (by erw[HW]<;>symm) ⟨.int ↑ys,H,I.tok _,⟨s.toks+1,by rw[HW,hlen]⟩,q⟩
theorem Qa:g9 X (.builtin "len") (λxs H Q=>∃z,xs=[.str z]/\↑z<=sizeLine/\Q (.int ↑z) H):=by
 ext pins s σ H xs us Q I r h;let⟨z,rfl,hz,q⟩:=h;let⟨u,rfl,t,rfl⟩:=vals1 r;let hn:=rD;calc len_str ⋯ ⟨.int ↑z,H,I.tok _,⟨_,Y⟩,q⟩
theorem Br:g9 X (.type "list") (λxs H Q=>∃p ys,xs=[.ref p]/\(bh X.K H p ys\/bz X.K H p ys)/\∀l,H l=Z->Q (.ref l) (upd H l (.lst ys))):=by
 ext pins s σ H xs us Q I r h;let⟨p,ys,rfl,hq,q⟩:=h;let⟨u,rfl,rx⟩:=vals1 r;cases rx
 let fin:∀(ah:-B),Vals ys ah->↑ys<=sizeLine->∀(h':Α)(c':Nat),(∀b o',s.heap.get? b=U o'->h'.get? b=U o') →
   h'.get? ⇑s=U {cls:=.type "list",dict:=none,data:=.seq ah.toArray c',slots := #[]}->EP X pins σ Q (.ref ⇑s) {s with heap:=h'}:=λah r' hz h' c' kp e =>
  ⟨.ref ⇑s,_,I.laid (t':=s.toks) kp (BA _) (show az X.prog X.w _ h' _ (.lst ys) from⟨hz,ah,c',r',e⟩),Y,q _ (I.aF.fresh (BA _))⟩
 rcases hq with hq|hq
 .let⟨ah,r',pl,hz⟩:=I.list hq
  let hlen:=↑r';let⟨o,ho,hc,n,hd⟩:=pl.isList;exact q8x p (.inl Y) ho hc hd (λh' c' kp e=>fin ah r' hz h' c' kp e) (by erw[HW]<;>symm)
 .let⟨ah,r',pl,hz⟩:=I.tuple hq
  let hlen:=↑r';let⟨o,ho,hc,n,hd⟩:=pl;calc q8x p (.inr Y) ho hc hd (λh' c' kp e=>fin ah r' hz h' c' kp e) (by erw[HW]<;>symm)
theorem HM:g9 X (.type "tuple") (λxs H Q=>∃p ys,xs=[.ref p]/\((bh X.K H p ys/\∀l,H l=Z->Q (.ref l) (upd H l (.tup ys)))\/(bz X.K H p ys/\Q (.ref p) H))):=by
 ext pins s σ H xs us Q I r h;let⟨p,ys,rfl,h⟩:=h;let⟨u,rfl,rx⟩:=vals1 r;cases rx
 rcases h with⟨hq,q⟩|⟨hq,q⟩
 .let⟨ah,r',pl,hz⟩:=I.list hq
  let hlen:=↑r';calc call_tuple_list pl.isList (λh' kp=>?_) (by erw[HW]<;>symm);let I1:Inv X pins σ H {s with heap:=h'}:=I.kept (t':=s.toks) kp
  let I2:Inv X pins σ (upd H h'.objs.size (.tup ys)) {s with heap:=h'.push {cls:=.type "tuple",data:=.seq ah.toArray}} :=
   I1.laid (t':=s.toks) (λb o e=>rM _ e) (BA _) (show az X.prog X.w _ _ _ (.tup ys) from⟨hz,ah,r',q7d _ _⟩)
  exact⟨.ref h'.objs.size,_,I2,Y,q _ (I1.aF.fresh (BA _))⟩
 .let⟨ah,r',pl,hz⟩:=I.tuple hq
  calc call_tuple_same pl ⟨.ref p,H,I,Y,q⟩
def Bs(K:xY)(T:String)(x:V)(H:Hp):Prop:=match x with
 |.str _=>T="str"
 |.int _=>T="int"
 |.ref p=>(T="list" /\ ∃xs,bh K H p xs)\/(T="tuple" /\ ∃o,K.lookup p=U o/\o.cls=.type "tuple" /\ o.dict=Z) ∨
   (T="dict" /\ ((∃aq,H p=U (.dK aq))\/∃aq,H p=U (.dT aq)))\/(T="set" /\ ∃S n,H p=U (.set S n))
 |_=>False
theorem Qb{pins:au}{σ:St}{H:Hp}{s:L}{T:String}{x:V}{v:B}(I:Inv X pins σ H s)(r:RelV x v)(ty:Bs X.K T x H):
  s.TypeIs v T/\∀a,v=.ref a->∃ob,s.heap.get? a=U ob/\ob.dict=Z:=by
 cases x with
 |str z =>
  let⟨t,rfl⟩:=r;cases(show T="str" from ty)
  exact⟨typeIs_str s z t,λ_ e=>nomatch e⟩
 |int i =>
  let⟨t,rfl⟩:=r;cases(show T="int" from ty)
  exact⟨q7X s i t,λ_ e=>nomatch e⟩
 |ref p =>
  cases r
  rcases ty with⟨rfl,xs,hq⟩|⟨rfl,o,hk,hc,hd⟩|⟨rfl,hk⟩|⟨rfl,S,n,hk⟩
  .let⟨ah,_,pl,_⟩:=I.list hq
   calc⟨pl.isList.typeIs,λa e=>?_⟩;cases e
   let⟨o,n,e,c,hd,_⟩:=pl;exact⟨o,e,hd⟩
  .refine⟨⟨o,I.dz p o hk,hc⟩,λa e=>?_⟩
   cases e
   exact⟨o,I.dz _ o hk,hd⟩
  .let z:∃o,s.heap.get? p=U o/\o.ExactDict:=by
    rcases hk with⟨aq,hk⟩|⟨aq,hk⟩
    .let⟨_,_,_,_,o,_,_,e,ex,_⟩:=I.aF p _ hk
     exact⟨o,e,ex⟩
    .let⟨_,_,_,_,o,_,_,e,ex,_⟩:=I.aF p _ hk
     exact⟨o,e,ex⟩
   let⟨o,e,ex⟩:=z;calc⟨⟨o,e,ex.1⟩,λa e2=>?_⟩;cases e2
   exact⟨o,e,ex.2.1⟩
  .let⟨o,_,_,_,e,ex,_⟩:=I.aF p _ hk
   calc⟨⟨o,e,ex.1⟩,λa e2=>?_⟩;cases e2
   exact⟨o,e,ex.2.1⟩
 |_=>calc q1i ty
def tR(K:xY)(T:String)(r:V->-V->Hp->VK->Prop)(to:TE)(t:TA):TE:=fun σ H Q=>to σ H λx H1=>Bs K T x H1/\t σ H1 λxs H2=>r x xs H2 Q
variable{o e:M}{es:-M}{to:TE}{t:TA}{name:R}{apos ip:y}{T id:String}{r:V->-V->Hp->VK->Prop}
theorem rJ(pa:PlainAttrs T)(slot:Slot T name id)(Qc:typeOf (.builtin id)=pure (.type "method_descriptor"))(hm:HJ X id r)(ho:JE X o to)(ha:JA X (e::es) t)
  (vt:attributeBase o name X.env (eval o X.env)=eval o X.env:=by rfl)
  (Bt:((backTo ip (starEach (e::es) X.env)).all (λx => !x.1)&&(backToKw ip (keywordEach [] X.env)).all (λx=>x.1.isSome)
   && J (↑(e::es)+↑([]:-Keyword)+(if([]:-Keyword).isEmpty then 0 else 1)<30))=θ:=by rfl)
  (vv:(apos.endLine==ip.line)=θ:=by rfl) (hs:dI X e es:=by rfl) (hplain:eS X ip es:=by rfl) :
  JE X (.Call (.Attribute o name apos) (e::es) [] ip) (tR X.K T r to t):=by
 calc⟨?_⟩;ext pins s σ H Q I h;calc wpAny_Call_method_late vt Bt vv Y (a_ (ho pins s σ H _ I h) λv s1 ⟨x,H1,I1,r1,ty,q1⟩=>?_);let⟨h1,h2⟩:=Qb I1 r1 ty;calc⟨T,id,pa,slot,Qc,h1,h2,?_⟩;let hA:=ha ip pins s1 σ H1 _ I1 q1;rw[hs] at hA ⊢;calc Calls.callWith_builtin (by show(ι||(backTo ip (starEach es X.env)).any (·.1))=ι;rw[hplain]<;>rfl) (Calls.evalArgs_plain ?_);calc a_ hA λus s2 h0_=>el5 h0_ λvs H2 I2 r2 q2 =>hm pins s2 σ H2 x vs v us Q I2 r1 r2 q2
end
def vx(X:Cx)(id:String)(r:V->-V->Hp->VK->Prop):Prop :=
 ∀(pins:au)(s:L)(σ:St)(H:Hp)(x:V)(xs:-V)(v:B)(us:-B)(Q:VK),Inv X pins σ H s->RelV x v->Vals xs us->r x xs H Q →
  G (g X.prog X.w) X.A (call (.builtin id) (v::us)) (EP X pins σ Q) X.xe s
theorem Vals.one:∀{x:V}{us:-B},Vals [x] us->∃u,us=[u]/\RelV x u:=by
 ext x us h
 cases h with
 |cons r h=>cases h;calc⟨_,Y,r⟩
theorem Vals.two:∀{x y:V}{us:-B},Vals [x,y] us->∃u v,us=[u,v]/\RelV x u/\RelV y v:=by
 ext x y us h
 cases h with
 |cons r h =>
  let⟨v,rfl,q⟩:=Vals.one h;calc⟨_,_,Y,r,q⟩
theorem Vals.eraseIdx:∀{xs:-V}{us:-B}(i:Nat),Vals xs us->Vals (xs.eraseIdx i) (us.eraseIdx i)
 |_,_,_,.nil=>.nil
 |_,_,0,.cons _ t=>t
 |_,_,i+1,.cons r t=>.cons r (Vals.eraseIdx i t)
theorem Vals.rep{xs:-V}{us:-B}(h:Vals xs us):∀k:Nat,Vals (q0d k xs).flatten (q0d k us).flatten
 |0=>.nil
 |k+1=>by
  rw[q1c,q1c,q2f,q2f];calc Vals.append h (Vals.rep h k)
theorem HN{α:Type}:∀(l:-α)(i:Nat),↑(l.eraseIdx i)<=↑l
 |[],_=>BA _
 |_::_,0=>q38 _
 |_::r,i+1=>Nat.succ_le_succ (HN r i)
theorem foldl_rep(ah:-B):∀(k:Nat)(acc:-B),
  q7Y (λx1 x2=>x1++x2) acc.toArray (q0d k ah.toArray)=(acc++(q0d k ah).flatten).toArray
 |0,acc=>by simp
 |k+1,acc=>by
  let e:acc.toArray++ah.toArray=(acc++ah).toArray:=by simp
  let e2:(acc++ah)++(q0d k ah).flatten=acc++(q0d (k+1) ah).flatten:=by
   rw[q1c,q2f,q1K]
  rw[<-e2,<-foldl_rep ah k (acc++ah),<-e,q1c,q5j]
section
variable{X:Cx}{pins:au}{σ:St}{H:Hp}{s:L}{l b:O}{xs ys zs:-V}
theorem Inv.rK{ah its':-B}{n:Nat}{f:Array B->Array B}{t':Nat}(I:Inv X pins σ H s)(hH:H l=U (.lst xs))
  (e:s.heap.get? l=U {cls:=.type "list",data:=.seq ah.toArray n}) (hf:f ah.toArray=its'.toArray) (hv:Vals ys its') (hz:↑ys<=sizeLine) :
  Inv X pins σ (upd H l (.lst ys)) {s with heap:=s.heap.update l (q0H f),toks:=t'}:=by
 let q:=PySem.IsL.update e f;rw[hf] at q;calc I.write (x:=l) (e:=l) (by rw[hH];calc trivial) (.inl Y) (λb' u hb hu=>(q0P s.heap (q0H f) (q1L hb)).trans hu) ⟨_,q⟩ ?_;calc⟨hz,its',_,hv,q⟩
theorem Inv.b8{ah:-B}{t':Nat}(I:Inv X pins σ H s)(hv:Vals ys ah)(hz:↑ys<=sizeLine):
  Inv X pins σ (upd H ⇑s (.lst ys)) {s with heap:=s.heap.push {cls:=.type "list",data:=.seq ah.toArray},toks:=t'} :=
 I.laid (λ_ _ q=>rM _ q) (BA _) ⟨hz,ah,0,hv,ZI _ Y⟩
theorem Inv.fresh(I:Inv X pins σ H s):H ⇑s=Z:=I.aF.fresh (BA _)
theorem Inv.iU(I:Inv X pins σ H s)(hH:H l=U (.lst xs)):↑xs<=sizeLine/\∃(ah:-B)(n:Nat),Vals xs ah/\↑xs=↑ah/\s.heap.get? l=U {cls:=.type "list",data:=.seq ah.toArray n}:=by
 let⟨z,ah,n,r,e⟩:=I.aF l _ hH;calc⟨z,ah,n,r,↑r,e⟩
theorem HP{n:Nat}(h:n<=sizeLine):q2z n=ι:=by
 unfold q2z;calc q0e ⋯
end
section
variable{X:Cx}
def HQ:V->-V->Hp->VK->Prop:=λx vs H Q=>∃l xs y,x=.ref l/\vs=[y]/\H l=U (.lst xs)/\↑xs<sizeLine/\Q .non (upd H l (.lst (xs++[y])))
theorem HR:vx X "list.append" HQ:=by
 ext pins s σ H x vs v us Q I rx rv h;let⟨l,xs,y,rfl,rfl,hH,hz,q⟩:=h;cases rx
 let⟨u,rfl,ru⟩:=rv.one;let⟨z,ah,n,r,hl,e⟩:=I.iU hH;calc q32 F.slot_list_append ⟨_,e,Y⟩ F.entry_list_append (F.args_list_append_2 _ _) (PySem.list_append l ah.toArray n u (by rw[HW];symm)) ⟨e,?_⟩;calc⟨.non,_,I.rK (its':=ah++[u]) hH e (by simp) (r.append (.cons ru .nil)) ?_,Y,q⟩;rw[Ql,q0F];symm
def HS:V->-V->Hp->VK->Prop:=λx vs H Q=>∃l b xs zs,x=.ref l/\vs=[.ref b]/\H l=U (.lst xs)/\H b=U (.lst zs)/\↑xs+↑zs<=sizeLine/\Q .non (upd H l (.lst (xs++zs)))
theorem Qd:vx X "list.extend" HS:=by
 ext pins s σ H x vs v us Q I rx rv h;let⟨l,b,xs,zs,rfl,rfl,hH,hB,hz,q⟩:=h;cases rx
 let⟨u,rfl,ru⟩:=rv.one;cases ru
 let⟨z,ah,n,r,hl,e⟩:=I.iU hH;let⟨z2,bf,n2,r2,tT,e2⟩:=I.iU hB;let hsz:ah.toArray.size+bf.toArray.size<=sizeLine:=by rw[HW,HW];symm
 let lj:¬ (!ah.toArray.isEmpty&&q2z (ah.toArray.size+bf.toArray.size))=θ:=by
  rw[HP hsz,q3N];exact q0b
 refine q32 F.slot_list_extend ⟨_,e,Y⟩ F.entry_list_extend (F.args_list_extend_2 _ _)
  (AutoSeq1.list_extend_list_list_0 l ah.toArray n b bf.toArray n2 lj (by rw[HW];symm) ⋯) ⟨e,e2,?_⟩
 calc⟨.non,_,I.rK (its':=ah++bf) hH e (by simp) (r.append r2) ?_,Y,q⟩;rw[Ql];symm
def HU:V->-V->Hp->VK->Prop:=λx vs H Q=>∃l xs i k y,x=.ref l/\vs=[.int i]/\H l=U (.lst xs) /\ -(2 ^ 63)<=i/\i<2 ^ 63/\seqIndex? i ↑xs=U k/\xs[k]?=U y/\Q y (upd H l (.lst (xs.eraseIdx k)))
theorem Qe:vx X "list.pop" HU:=by
 ext pins s σ H x vs v us Q I rx rv h;let⟨l,xs,i,k,y,rfl,rfl,hH,h1,h2,hk,hy,q⟩:=h;cases rx
 let⟨u,rfl,ru⟩:=rv.one;let⟨t,rfl⟩:=ru;let⟨z,ah,n,r,hl,e⟩:=I.iU hH;let⟨w,hw,vq⟩:=r.get hy
 refine q32 F.slot_list_pop ⟨_,e,Y⟩ F.entry_list_pop (F.args_list_pop_2 _ _)
  (MeetsSeq.list_pop_at l ah.toArray n i t k w (q7Z h1 h2) (by rw[HW,<-hl];calc hk) (by rw[<-q0p];calc hw) (by rw[HW];symm)) ⟨e,?_⟩
 refine⟨y,_,I.rK (its':=ah.eraseIdx k) hH e ?_ (r.eraseIdx k) ?_,vq,q⟩
 .show ah.toArray.eraseIdxIfInBounds k=(ah.eraseIdx k).toArray
  rw[List.eraseIdxIfInBounds_toArray]
 .let:=HN xs k
  symm
def Bu:R2:=λx y H Q=>∃l b xs zs,x=.ref l/\y=.ref b/\H l=U (.lst xs)/\H b=U (.lst zs)/\↑xs+↑zs<=sizeLine/\∀p,H p=Z->Q (.ref p) (upd H p (.lst (xs++zs)))
theorem xX:dA X (binaryOp .Add) Bu:=by
 ext pins s σ H x y v u Q I rx ry h;let⟨l,b,xs,zs,rfl,rfl,hH,hB,hz,q⟩:=h;cases rx
 cases ry
 let⟨z,ah,n,r,hl,e⟩:=I.iU hH;let⟨z2,bf,n2,r2,tT,e2⟩:=I.iU hB;calc PySem.P.add_list e e2 ?_ (by rw[HW,HW];symm);let ea:ah.toArray++bf.toArray=(ah++bf).toArray:=by simp
 rw[ea];calc⟨.ref _,_,I.b8 (t':=s.toks) (r.append r2) (by rw[Ql];symm),Y,q _ I.fresh⟩
def Bv:R2:=λx y H Q=>∃l k xs,x=.ref l/\y=.int k/\H l=U (.lst xs) /\ -(2 ^ 63)<=k/\k<2 ^ 63/\↑xs*k.toNat<=sizeLine ∧
 ∀p,H p=Z->Q (.ref p) (upd H p (.lst (q0d k.toNat xs).flatten))
theorem len_rep{α:Type}(xs:-α)(k:Nat):(q0d k xs).flatten.length=k*↑xs:=by
 induction k with
 |zero=>simp
 |succ k ih=>rw[q1c,q2f,Ql,ih,Nat.succ_mul,Nat.add_comm]
theorem Qf:dA X (binaryOp .Mult) Bv:=by
 ext pins s σ H x y v u Q I rx ry h;let⟨l,k,xs,rfl,rfl,hH,h1,h2,hz,q⟩:=h;cases rx
 let⟨t,rfl⟩:=ry;let⟨z,ah,n,r,hl,e⟩:=I.iU hH;let hlen:ah.toArray.size*k.toNat<=sizeLine:=by rw[HW,<-hl];exact hz
 let Bw:¬ ah.toArray.size*k.toNat>(2 ^ 63-1) / 8:=by
  let:(sizeLine:Nat)<=(2 ^ 63-1) / 8:=by decide
  symm
 let Bx:¬ (!Builtin.List.listFitsIndex k)=θ:=by
  rw[q7Z h1 h2];exact q0b
 let lj:¬ q2z (ah.toArray.size*k.toNat)=θ:=by
  rw[HP hlen];exact q0b
 let By:q7Y (λx1 x2=>x1++x2) #[] (q0d (if ah.toArray.isEmpty=θ then 0 else k.toNat) ah.toArray)=(q0d k.toNat ah).flatten.toArray:=by
  let f0:∀m:Nat,q7Y (λx1 x2=>x1++x2) #[] (q0d m ah.toArray)=(q0d m ah).flatten.toArray:=λm=>by
   let:=foldl_rep ah m [];rw[q4f] at this;exact this
  rw[f0]
  cases ah with
  |nil=>simp
  |cons a r'=>rw[ZJ (by simp)]
 refine wpAny_binaryOp_repeat_ref (T:="list") (U:="int") (by decide) ⟨_,e,Y⟩ (λs'=>q7X s' k t) noFill_list_mul F.fills_int_mul q7A repeat_list F.slot_int_index.lookup
  (q32 q7A (q7X s k t) F.entry_int_rmul (F.args_int_rmul_2 _ _) (int___rmul___int_list k t l ah.toArray n)
   ⟨e,Y,⟨_,e,Y⟩,q32 F.slot_list_mul ⟨_,e,Y⟩ F.entry_list_mul (F.args_list_mul_2 _ _) (AutoListH.list___mul___list_int_3 l ah.toArray n k t Bx Bw lj) ⟨e,?_⟩⟩)
 rw[By];calc⟨.ref _,_,I.b8 (t':=s.toks) (r.rep k.toNat) (by rw[len_rep,q8T];calc hz),Y,q _ I.fresh⟩
end
section
variable{prog:n}{w:Q}{A:q}{E:aJ}{s:L}
end
section
variable{X:Cx}
end
end L2
namespace Att
open PySem PySem.W PySem.Calls PyProof.Rows
theorem ft{P:Params}{h:I}:∀(ns:-Int)(vs:-B),WellAll P h vs (ns.map WData.int)->IntsAre vs ns:=by
 ext ns
 induction ns with
 |nil =>
  ext vs w;rw[q2b] at w;cases w
  exact .nil
 |cons n ns ih =>
  ext vs w;rw[q0o] at w
  cases w with
  |cons a b =>
   cases a
   calc .cons _ _ (ih _ b)
theorem jQ{l:OpenLaw}{n:Nat}(hn:l.most=U n){P:Params}{h:I}{args:-WData}{vals:-B}
  (oa:l.row.toRowW.claim.pre args=θ) (Bz:WellAll P h vals args) :
  ∃a vs ns,vals=[q0w a]/\args=[WData.list (ns.map WData.int)]/\h.get? a=U {cls:=.type "list",data:=.seq vs.toArray}/\IntsAre vs ns/\ns.length<=n:=by
 let Qg:WShape.hasAll [] args [.list .int]=θ:=(pre_splitW oa).1;let hc:l.pre.holds [] {args:=args}=θ:=(pre_splitW oa).2;let⟨d,r,rfl,h1,h2⟩:=hasAllW_cons Qg;obtain rfl:=hasAllW_nil h2;let⟨xs,rfl,h3⟩:=hasW_list h1;let⟨ns,rfl⟩:=items_int h3
 let hlen:ns.length<=n:=by
  unfold OpenLaw.pre at hc
  let h4:(WTm.not (.lt (.lit (.int (n:Int))) (.len (.arg 0)))).holds [] {args:=[.list (ns.map .int)]}=θ:=by
   let h4:=(holds_andW hc).1;rw[hn] at h4;exact h4
  let h5:=condW_of h4 (w_not (w_lt w_lit (w_len_list (w_arg Y))));rw[rO] at h5;calc q3W λq=>?_;let q':(n:Int)<((ns.length:Nat):Int):=by symm
  first
   |(rw[q0c q'] at h5;calc absurd h5 (by decide))
   |(simp at h5;symm)
 cases Bz with
 |cons w1 w2 =>
  cases w2
  cases w1 with
  |list ho gf=>calc⟨_,_,ns,Y,Y,ho,ft ns _ gf,hlen⟩
theorem jR(l:OpenLaw)(args:-WData):l.row.toRowW.claim.post args (.bool θ) args=θ :=
 postW_of (r:=l.row.toRowW) (X:=(θ==θ))
  (show WShape.has [] (.bool θ) .bool=θ by first|rfl|decide|simp[WShape.has,WShape.arms,WShape.armsAll])
  (show(WTm.eq .res (.lit (.bool θ))).value [] {args:=args,res:=U (.bool θ),after:=args}=U (.bool (θ==θ)) from w_eq_bool (w_res Y) w_lit) Y
theorem iq{l:OpenLaw}{n:Nat}{q:ψ}{loose:-R}{XP:(R->Option B)->I->Prop}{YP:Q->I->Prop}{d:DefRec}
  (hn:l.most=U n) (vy:d.params.defaults=[])
  (call:∀(w:Q)(s₀ s₁:L)(mg mb:R->Option B)(fa:O)(o:u)(pm cd doc:B)(a:O)(vs:-B)(ns:-Int),
   Ground q loose [] XP w s₀ mg mb s₁.heap->YP w s₁.heap →
   s₁.heap.get? fa=U o->o.data=.func (docDef d.name d.params d.body d.scope pm cd doc)->s₁.heap.CodeRec cd d.name->mg d.name=U (.ref fa) →
   s₁.heap.get? a=U {cls:=.type "list",data:=.seq vs.toArray}->IntsAre vs ns->ns.length<=n->s₁.gens = #[] →
   codeAny (g l.prog w) callerA (.call (.ref fa) ⟨[.ref a],[]⟩) (λr s'=>r=.ok (.ret (.bool θ))/\OldK s₁.heap s'.heap/\s'.os=s₁.os/\AllBare s'.gens) s₁) :
  WalkO q loose XP YP l.row.toRowW d [] (λf vs=>q71 f vs):=by
 ext w s₀ s₁ mg mb G Y fa o pm cd doc dV kV ho hd e7 hD oh hg args vals as oa Qh ZF Bz ZH;obtain rfl:dV=.none:=Dflts.none hD vy;obtain rfl:kV=.none:=Dflts.noKw hD;let⟨a,vs,ns,rfl,rfl,rL,hints,hlen⟩:=jQ hn oa Bz;calc enter_call (q2L (call w s₀ s₁ mg mb fa o pm cd doc a vs ns G Y ho (fd_plain hd) e7 oh rL hints hlen hg) λr s' hq=>?_);let⟨rfl,h2,h3,h4⟩:=hq;calc⟨.inl ⟨.bool θ,.bool θ,[],rfl,λ_=>rfl,.bool θ,jR l _,λ_=>⟨q4I,λ_ hm=>(nomatch hm)⟩⟩,h2,h3,h4⟩
section
variable{prog:n}{w:Q}{A:q}{E:aJ}{s:L}{K:Frag}
end
end Att
namespace L2
open PySem PySem.Spec PyProof.Rows
theorem HV:∀{vs:-B}{ns:-Int},IntsAre vs ns->Vals (ns.map V.int) vs
 |_,_,.nil=>.nil
 |_,_,.cons n t h=>.cons ⟨t,Y⟩ (HV h)
noncomputable def inClass(s:o)(j:Nat):o:=match s with
 |.ClassDef _ _ _ body _ _ _ _ _ _ _=>body.getD j (.Pass ⟨0,0,0,0⟩)
 |_=>.Pass ⟨0,0,0,0⟩
noncomputable def kD(s:o):Arguments:=match s with
 |.FunctionDef _ a _ _ _ _ _ _ _ _=>a
 |_=>{posonlyargs:=[],args:=[],vararg:=none,kwonlyargs:=[],kw_defaults:=[],kwarg:=none,defaults:=[]}
noncomputable def d8(s:o):-o:=match s with
 |.FunctionDef _ _ b _ _ _ _ _ _ _=>b
 |_=>[]
noncomputable def cw(s:o):S:=match s with
 |.FunctionDef _ _ _ _ _ _ sc _ _ _=>sc
 |_=>{kind:=.function,names:=[],isGenerator:=false,isCoroutine:=false}
abbrev fJ:jM:=λ_ _ _ _ _ _=>False
abbrev E0:XK:=λ_ _ _=>False
theorem vz{X:Cx}:p_ fJ X E0:=λ_ _ _ _ _ _ _ h=>h.elim
structure gm(K:xY)(x qual:R)(st:o)(f:O)(fd:FuncData):Prop where
 ex:∃(oc:B)(od:Option O)(kV doc pm:B)(an:Option O)(aO ct:B)(mU:Array (Option B)),
  fd=q1I x qual (kD st) (d8 st) (cw st) .none kV doc pm an aO ct/\K.lookup f=U ⟨oc,od,.func fd,mU⟩/\q2F K aO qual=θ
 kp:q08 K (.ref f)=θ
section
variable{P:n}{w:Q}{K:xY}{mg:R->Option B}{base:I}
theorem gm.tV{x qual:R}{st:o}{f:O}{fd:FuncData}{N ps:-R}{k:Nat}{sp:Sp}(F:gm K x qual st f fd)(S:mT N ps (cw st))(len:∀vs H Q E,sp vs H Q E->↑vs=↑ps)
  (d6:∀(aO:B)(A:Β)(outer:-Ζ)(s:L)(H:Hp)(vs:-V)(Q:VK)(E:XK),aX k (A.deeper (envOfC qual (cw st) ⇑s f aO))->sp vs H Q E →
   ∃t,cj (aS fJ P w K mg base N qual (cw st) f aO A outer s H E).lh (d8 st) t/\t {nx:=λ_ H'=>Q .non H',rt:=Q} (start N vs) H):bK P w K mg base fJ (k+1) f fd ps sp:=by
 let⟨oc,od,kV,doc,pm,an,aO,ct,mU,rfl,lk,e7⟩:=F.ex;calc A_ lk e7 S len λA outer s H vs Q E hr mV=>?_;let⟨t,h,q⟩:=d6 aO A outer s H vs Q E hr mV;calc⟨t,h.lh,q⟩
theorem gm.binds{x qual:R}{st:o}{f:O}{fd:FuncData}{ps:-R}(F:gm K x qual st f fd)
  (h:∀(kV doc pm:B)(an:Option O)(aO ct:B)(us:-B),↑us=↑ps->bindArgs (q1I x qual (kD st) (d8 st) (cw st) .none kV doc pm an aO ct) ⟨us,[]⟩=pure (ps.zip us)):Binds K fd ps []:=by
 let⟨oc,od,kV,doc,pm,an,aO,ct,mU,rfl,lk,e7⟩:=F.ex;calc .all (h kV doc pm an aO ct)
theorem xZ{x qual:R}{st:o}{f:O}{oc:B}{od an:Option O}{mU:Array (Option B)}{kV doc pm aO ct:B}(l:K.lookup f=U ⟨oc,od,.func (q1I x qual (kD st) (d8 st) (cw st) .none kV doc pm an aO ct),mU⟩)
  (c:q2F K aO qual=θ) (k:q08 K (.ref f)=θ):gm K x qual st f (q1I x qual (kD st) (d8 st) (cw st) .none kV doc pm an aO ct):=⟨⟨oc,od,kV,doc,pm,an,aO,ct,mU,Y,l,c⟩,k⟩
end
theorem qg{n:Nat}(h:n<=1000):n<sizeLine:=q3t h (by decide)
section
variable{X:Cx}
theorem jv(i:Nat){x:R}{pos:y}(hN:X.N[i]?=U x:=by rfl)(hv:tL X.env.scope x:=by first|exact q3C Y|exact q65 (q3C Y)|calc q65 (q65 Y))(hd:bx x:=by decide)
  (e7:(x==("__classdict__" : R))=ι:=by decide):JE X (.Name x pos) (gi i):=Hc hN hv hd e7
end
theorem rP{A B:Prop}(h:B):if ι=θ then A else B:=by
 rw[ZJ q0b];calc h
theorem BB{A B:Prop}(h:A):if θ=θ then A else B:=by
 rw[ZK Y];calc h
theorem BC{c A B:Prop}[Decidable c](h1:c->A)(h2:¬ c->B):if c then A else B:=by
 by_cases h:c
 .rw[ZK h]
  exact h1 h
 .rw[ZJ h]
  calc h2 h
theorem Qn{c A B:Prop}[Decidable c](hc:c)(h:B):if(!J c)=θ then A else B:=by
 rw[q0c hc];calc rP h
def av(H H':Hp):Prop:=∀b o,H b=U o->H' b=U o
theorem av.trans{H H1 H2:Hp}(a:av H H1)(b:av H1 H2):av H H2:=λc o h=>b c o (a c o h)
theorem av.free{H H':Hp}(e:av H H'){l:O}(h:H' l=q90):H l=q90:=by
 cases q:H l with
 |none=>rfl
 |some o =>
  rw[e l o q] at h;cases h
theorem av.seq{K:xY}{H H':Hp}{a:O}{xs:-V}(e:av H H')(h:bh K H a xs):bh K H' a xs:=by
 rcases h with(h|⟨o,h⟩)|h
 .exact .inl (.inl (e _ _ h))
 .exact .inl (.inr ⟨o,e _ _ h⟩)
 .calc .inr h
theorem Qo{prog:ψ}{w:Q}{A:q}{R:Result->L->Prop}{s:L}{elt target iter:M}{ifs:-M}{scope:S}{pos:y}{it acc:B}{env:t}(I:Nat->L->Prop)
  (turn:∀n s,I n s->G (g prog w) A (pyNext it) (λr s₁=>match r with
   |none=>R (.ok .next) s₁
   |some v=>G (g prog w) A (letOwnedTupleGo target it v) (λ_ s₂=>G (g prog w) A (assign target env v) (λ_ s₃ =>
     G (g prog w) A (forIn ifs θ λc r=>if r=θ then do let ok <- isTrue c env (eval c env);pure (q1T ok) else pure (q1T r)) (λok s₄ =>
      if ok=θ then G (g prog w) A (eval elt env) (λx s₅ =>
       G (g prog w) A (call (.builtin "list.append") [acc,x]) (λ_ s₆=>∃m,m<n/\I m s₆) (λ_ _=>False) s₅) (λ_ _=>False) s₄
      else ∃m,m<n/\I m s₄) (λ_ _=>False) s₃) (λ_ _=>False) s₂) (λ_ _=>False) s₁) (λ_ _=>False) s)
  (n:Nat) (h:I n s) :
  codeAny (g prog w) A (.compLoop (.ListComp elt [⟨target,iter,ifs,0⟩] scope pos) 0 it acc env) R s:=by
 calc codeAny_loop Y I (λn s hI=>?_) n h;show G _ A ((compTurn (.ListComp elt [⟨target,iter,ifs,0⟩] scope pos) 0 it acc env).onRaise (λx=>do noteFrame x env;theTreesLotGoes x)) _ _ s;calc wpAny_noted ?_;rw[compTurn_list];refine oj (q2V (oj (q1v (turn n s hI) (λr s₁ h₁=>?_) λ_ _ h'=>q1i h')))
 cases r with
 |none=>exact vw h₁
 |some v =>
  calc oj (q1v h₁ (λ_ s₂ h₂=>?_) λ_ _ h'=>q1i h');refine oj (q1v h₂ (λ_ s₃ h₃=>oj (q1v h₃ (λok s₄ h₄=>?_) λ_ _ h'=>q1i h')) λ_ _ h'=>q1i h')
  cases ok with
  |false=>exact vw ⟨Y,h₄⟩
  |true =>
   calc oj (oj (q1v h₄ (λx s₄ h₄=>oj (q1v h₄ (λ_ s₅ h₅=>vw (vw ⟨Y,h₅⟩)) λ_ _ h'=>q1i h')) λ_ _ h'=>q1i h'))
theorem BE{env:t}:∀(names:-(R×NameKind))(acc:-(R×O)),(∀y∈names,y.2=.free->∃c,env.cells.lookup y.1=U c)->(∀x c,acc.lookup x=U c->env.cells.lookup x=U c) →
  ∃cl,(forIn names acc (λ(x:Str×NameKind) (cs:-(Str×Addr))=>if x.2==q1Z then cellOf env x.1 >>= λa=>pure (q1T ((x.1,a)::cs)) else pure (q1T cs)):Sem (-(R×O)))=pure cl ∧
   (∀x c,cl.lookup x=U c->env.cells.lookup x=U c)/\(∀y∈names,y.2=.free->∃c,cl.lookup y.1=U c)/\(∀x c,acc.lookup x=U c->∃c,cl.lookup x=U c)
 |[],acc,_,h2=>⟨acc,Y,h2,λ_ hy=>absurd hy (by simp),λx c e=>⟨c,e⟩⟩
 |(n,k)::r,acc,h1,h2=>by
  rw[q5n]
  by_cases hk:k=.free
  .subst hk
   let⟨c,hc⟩:=h1 (n,.free) Qk Y;let kA:env.cells.lookup n=U c:=hc;let ec:cellOf env n=pure c:=by unfold cellOf;rw[kA]
   let fM:∀x d,((n,c)::acc).lookup x=U d->env.cells.lookup x=U d:=λx d e=>by
    rw[q0z] at e
    cases q:x==n with
    |true =>
     rw[q] at e;cases e
     rw[q0m q];exact kA
    |false =>
     rw[q] at e;exact h2 x d e
   let⟨cl,e,p1,p2,p3⟩:=BE r ((n,c)::acc) (λy hy=>h1 y (Qm _ hy)) fM;refine⟨cl,?_,p1,λy hy hf=>?_,λx d e=>?_⟩
   .dsimp only
    rw[ZK (by decide),ec];exact e
   .rcases My.mp hy with rfl|hy
    .exact p3 n c (by simp)
    .exact p2 y hy hf
   .cases q:x==n with
    |true=>exact p3 x c (by rw[q0z,q])
    |false=>exact p3 x d (by rw[q0z,q];calc e)
  .let⟨cl,e,p1,p2,p3⟩:=BE r acc (λy hy=>h1 y (Qm _ hy)) h2
   refine⟨cl,?_,p1,λy hy hf=>?_,p3⟩
   .dsimp only
    rw[ZJ hk⁻¹];exact e
   .rcases My.mp hy with rfl|hy
    .exact absurd hf hk
    .calc p2 y hy hf
theorem H_{scope:S}{env:t}(h:∀y∈scope.names,y.2=.free->∃c,env.cells.lookup y.1=U c):
  ∃cl,closureFor scope env=pure cl/\(∀x c,cl.lookup x=U c->env.cells.lookup x=U c)/\∀y∈scope.names,y.2=.free->∃c,cl.lookup y.1=U c:=by
 let⟨cl,e,p1,p2,_⟩:=BE scope.names [] h (λx c e=>by simp at e);calc⟨cl,?_,p1,p2⟩;let e':closureFor scope env=(forIn scope.names ([]:-(R×O)) (λ(x:Str×NameKind) (cs:-(Str×Addr))=>if x.2==q1Z then cellOf env x.1 >>= λa=>pure (q1T ((x.1,a)::cs)) else pure (q1T cs)):Sem (-(R×O))) >>= pure:=Y;rw[e',e];rfl
structure BD where
 cl:-(R×O)
 C:O
 s:L
 H:Hp
 fp:-O
@[reducible] noncomputable def cm (X:Cx) (scope:S) (Nb:-R) (d:BD):Cx where
 prog:=X.prog
 w:=X.w
 K:=X.K
 mg:=X.mg
 base:=X.base
 A:=X.A
 N:=Nb
 s₀:=d.s
 H₀:=d.H
 env:=compEnvC scope d.cl d.C X.env
 outer:=X.stack
 stack:=X.stack
 ex:=d.fp
 fn:=λx=>J (scope.names.lookup x=U .cell)
 calm:=X.calm
 pn:=[]
 xe:=λ_ _=>False
noncomputable def iJ(cp:-(Option Nat))(σ:St):St:=cp.map λo=>match o with
 |some i=>(σ[i]?).join
 |none=>Z
noncomputable def lq(N:-R)(x4 scope:S)(Nb:-R)(cp:-(Option Nat)):Bool :=
 (scope.names.all λy=>(J (y.2≠.cell)||J (scope.names.lookup y.1=U .cell))&&(J (y.2≠.local)||J (scope.names.lookup y.1=U .local))&&(J (y.2≠.free)||J (x4.names.lookup y.1=U .cell)||J (x4.names.lookup y.1=U .free))) &&
 J (↑cp=↑Nb)&&(cp.zip Nb).all λz=>match z.1 with
  |none=>θ
  |some i=>J (N[i]?=U z.2)&&J (scope.names.lookup z.2=U .free)
structure x5(X:Cx)(scope:S)(Nb:-R)(cp:-(Option Nat)):Prop where
 kind:scope.kind=.function
 cell:∀y∈scope.names,y.2=.cell->scope.names.lookup y.1=U .cell
 names:∀y∈scope.names,y.2=.local->scope.names.lookup y.1=U .local
 free:∀y∈scope.names,y.2=.free->(X.env.kindOf y.1=U .cell\/X.env.kindOf y.1=U .free)
 len:↑cp=↑Nb
 vA:∀(j i:Nat)(x:R),cp[j]?=U (U i)->Nb[j]?=U x->X.N[i]?=U x/\scope.names.lookup x=U .free
theorem x1L{X:Cx}{scope:S}{Nb:-R}{cp:-(Option Nat)}(hk:scope.kind=.function)(h:lq X.N X.env.scope scope Nb cp=θ):x5 X scope Nb cp:=by
 unfold lq at h;erw[q0k,q0T,Bool.or_eq_true,q1D] at h;let⟨⟨h1,h2⟩,h3⟩:=h;refine⟨hk,λy hy e=>(h1 y hy).1.1.resolve_left (λz=>z e),λy hy e=>?_,λy hy e=>?_,h2,λj i x e1 e2=>?_⟩
 .rcases (h1 y hy).1.2 with z|z
  .exact absurd e z
  .exact z
 .rcases (h1 y hy).2 with(z|z)|z
  .exact absurd e z
  .exact .inl z
  .exact .inr z
 .let hm:(U i,x)∈cp.zip Nb:=by
   let:(cp.zip Nb)[j]?=U (U i,x):=by
    rw[List.getElem?_zip_eq_some];exact⟨e1,e2⟩
   exact q0v this
  let:=h3 _ hm;simpa using this
theorem BF{env:t}{x:R}:∀{names:-(R×NameKind)}{k:NameKind},names.lookup x=U k →
  (names.map λ(n,k)=>if(k==q1Z&&env.scope.kind==.function&&env.kindOf n==U .cell) then(n,q1O) else(n,k)).lookup x =
   U (if(k==q1Z&&env.scope.kind==.function&&env.kindOf x==U .cell) then q1O else k)
 |[],k,h=>by simp at h
 |(n,k')::r,k,h=>by
  let ih:=@BF env x r k;show q7q x ((if(k'==q1Z&&env.scope.kind==.function&&env.kindOf n==U .cell)=θ then(n,q1O) else(n,k'))::_)=_
  cases hx:x==n with
  |true =>
   erw[q0z,hx] at h;cases h
   let e:x=n:=q0m hx;subst e
   by_cases hc:(k'==q1Z&&env.scope.kind==.function&&env.kindOf x==U .cell)=θ
   .rw[ZK hc,ZK hc];simp[q0z]
   .rw[ZJ hc,ZJ hc];simp[q0z]
  |false =>
   erw[q0z,hx] at h
   by_cases hc:(k'==q1Z&&env.scope.kind==.function&&env.kindOf n==U .cell)=θ
   .rw[ZK hc];erw[q0z,hx];exact ih h
   .rw[ZJ hc];erw[q0z,hx];calc ih h
theorem Ia{env:t}{x:R}:∀{names:-(R×NameKind)},names.lookup x=Z →
  (names.map λ(n,k)=>if(k==q1Z&&env.scope.kind==.function&&env.kindOf n==U .cell) then(n,q1O) else(n,k)).lookup x=Z
 |[],h=>by simp
 |(n,k')::r,h=>by
  let ih:=@Ia env x r;show q7q x ((if(k'==q1Z&&env.scope.kind==.function&&env.kindOf n==U .cell)=θ then(n,q1O) else(n,k'))::_)=_
  cases hx:x==n with
  |true=>erw[q0z,hx] at h;cases h
  |false =>
   erw[q0z,hx] at h
   by_cases hc:(k'==q1Z&&env.scope.kind==.function&&env.kindOf n==U .cell)=θ
   .rw[ZK hc];erw[q0z,hx];exact ih h
   .rw[ZJ hc];erw[q0z,hx];calc ih h
structure JF(X:Cx)(ifs:-M)(t:TT):Prop where
 out:∀(pins:au)(s:L)(σ:St)(H:Hp)(Q:Bool->Hp->Prop),Inv X pins σ H s->t σ H Q →
  G (g X.prog X.w) X.A (forIn ifs θ λc r=>if r=θ then do let ok <- isTrue c X.env (eval c X.env);pure (q1T ok) else pure (q1T r)) (TP X pins σ Q) X.xe s
instance {X:Cx} {ifs:-M} {t:TT}:CoeFun (JF X ifs t) (λ_=>∀(pins:au)(s:L)(σ:St)(H:Hp)(Q:Bool->Hp->Prop),Inv X pins σ H s->t σ H Q->G (g X.prog X.w) X.A (forIn ifs θ λc r=>if r=θ then do let ok <- isTrue c X.env (eval c X.env);pure (q1T ok) else pure (q1T r)) (TP X pins σ Q) X.xe s):=⟨JF.out⟩
def BG:TT:=λ_ H Q=>Q θ H
theorem rQ{X:Cx}:JF X [] BG:=⟨λ_ _ _ H _ I h=>wpAny_tests_nil ⟨H,I,h⟩⟩
theorem Qp{X:Cx}{c:M}{t:TT}(h:JT X c t):JF X [c] t:=⟨λpins s σ H Q I hw=>wpAny_tests_one (h pins s σ H Q I hw)
⟩
def Qq(g:TG)(tf:TT)(te:TE)(l:O)(x:V)(τ:St)(H:Hp)(N:St->Hp->Prop):Prop :=
 g x τ H fun τ2 H2=>tf τ2 H2 λb H3=>if b=θ then te τ2 H3 λy H4=>∃ys,H4 l=U (.lst ys)/\↑ys<sizeLine/\N τ2 (upd H4 l (.lst (ys++[y]))) else N τ2 H3
def Ib(J:It)(g:TG)(tf:TT)(te:TE)(l:O)(τ0:St)(H0:Hp)(Q:VK):Prop :=
 ∃W:Nat->Nat->St->Hp->Prop,(∃m,W 0 m τ0 H0)/\∀i m τ H,W i m τ H →
  (J.stop i H/\Q (.ref l) H)\/(J.go i H/\∃N:St->Hp->Prop,(∀τ' H',N τ' H'->∃m',m'<m/\W (i+1) m' τ' H')/\∀x H',J.tN i H x H'->Qq g tf te l x τ H' N)
def vB(wi:TI)(cp:-(Option Nat))(g:BD->TG)(tf:BD->TT)(te:BD->TE):TE:=fun σ H Q=>wi σ H λJ H1=>∀(d:BD)(l:O),H1 l=Z->Ib J (g d) (tf d) (te d) l (iJ cp σ) (upd H1 l (.lst [])) Q
theorem tW:∀{names:-(R×NameKind)}{n:Nat}{acc:-(R×O)}{x:R}{c:O},(cellsFrom n names acc).lookup x=U c->acc.lookup x=U c\/(n<=c/\(x,q1O)∈names)
 |[],n,acc,x,c,h=>.inl h
 |(y,k)::r,n,acc,x,c,h=>by
  unfold cellsFrom at h;split at h
  .rename_i hk
   let ek:k=.cell:=q0m hk;subst ek;rcases tW h with h|⟨h,m⟩
   .rw[q0z] at h
    cases q:x==y with
    |true=>rw[q] at h;cases h;rw[q0m q];exact .inr ⟨BA _,Qk ..⟩
    |false=>rw[q] at h;exact .inl h
   .exact .inr ⟨⋯,Qm _ m⟩
  .rcases tW h with h|⟨h,m⟩
   .exact .inl h
   .calc .inr ⟨h,Qm _ m⟩
theorem BH:∀{names:-(R×NameKind)}{n:Nat}{acc:-(R×O)}{x:R}{c:O},(x,q1O)∈names->(cellsFrom n names acc).lookup x=U c->n<=c
 |[],n,acc,x,c,m,h=>by cases m
 |(y,k)::r,n,acc,x,c,m,h=>by
  unfold cellsFrom at h
  by_cases mr:(x,q1O)∈r
  .split at h
   .let:=BH mr h;symm
   .exact BH mr h
  .let e:(x,q1O)=(y,k):=by
    rcases My.mp m with e|e
    .exact e
    .exact absurd e mr
   cases e
   rw[ZK (by decide)] at h;rcases tW h with h|⟨h,_⟩
   .rw[q0z,q43] at h
    cases h;exact BA _
   .omega
theorem BI:∀{names:-(R×NameKind)}{n:Nat}{acc:-(R×O)}{x y:R}{c:O},(∀u v c,acc.lookup u=U c->acc.lookup v=U c->u=v)->(∀u c,acc.lookup u=U c->c<n)->(cellsFrom n names acc).lookup x=U c->(cellsFrom n names acc).lookup y=U c->x=y
 |[],n,acc,x,y,c,hi,_,h1,h2=>hi x y c h1 h2
 |(z,k)::r,n,acc,x,y,c,hi,hb,h1,h2=>by
  unfold cellsFrom at h1 h2;split at h1
  .rename_i hk
   rw[ZK hk] at h2;refine BI (λu v c q1 q2=>?_) (λu c q=>?_) h1 h2
   .rw[q0z] at q1 q2
    cases e1:u==z with
    |true =>
     rw[e1] at q1;cases q1
     cases e2:v==z with
     |true=>rw[q0m e1,q0m e2]
     |false=>rw[e2] at q2;exact absurd (hb v _ q2) (q2a _)
    |false =>
     rw[e1] at q1
     cases e2:v==z with
     |true=>rw[e2] at q2;cases q2;exact absurd (hb u _ q1) (q2a _)
     |false=>rw[e2] at q2;exact hi u v c q1 q2
   .rw[q0z] at q
    cases e1:u==z with
    |true=>rw[e1] at q;cases q;exact q19 _
    |false=>rw[e1] at q;exact q00 (hb u c q)
  .rename_i hk
   rw[ZJ hk] at h2;calc BI hi hb h1 h2
theorem BJ:∀{names:-(R×NameKind)}{n:Nat}{acc:-(R×O)}{x:R},(x,q1O)∉names->(cellsFrom n names acc).lookup x=acc.lookup x
 |[],n,acc,x,_=>Y
 |(y,k)::r,n,acc,x,m=>by
  unfold cellsFrom;split
  .rename_i hk
   let ek:k=.cell:=q0m hk;subst ek;rw[BJ λz=>m (Qm _ z),q0z]
   cases q:x==y with
   |true=>exact absurd (by rw[q0m q];calc Qk ..) m
   |false=>rfl
  .calc BJ λz=>m (Qm _ z)
theorem BK:∀{names:-(R×NameKind)}{h:I}{acc:-(R×O)}{x:R}{c:O},(∀u c,acc.lookup u=U c->∃v,h.IsCell c v)->(cellsFrom h.objs.size names acc).lookup x=U c->∃v,(pushCells h names).IsCell c v
 |[],h,acc,x,c,hc,e=>hc x c e
 |(y,k)::r,h,acc,x,c,hc,e=>by
  unfold cellsFrom at e;unfold pushCells;split at e
  .rename_i hk
   rw[ZK hk];let hz:(h.push {cls:=.type "cell",data:=.cell Z}).objs.size=h.objs.size+1:=q1w ..;rw[<-hz] at e;calc BK (λu c q=>?_) e;rw[q0z] at q
   cases e1:u==y with
   |true=>rw[e1] at q;cases q;exact⟨Z,_,ZI _ Y,Y⟩
   |false =>
    rw[e1] at q;let⟨v,o,g1,g2⟩:=hc u c q;exact⟨v,o,rM _ g1,g2⟩
  .rename_i hk
   rw[ZJ hk];calc BK hc e
theorem Qr{M:Model}{A:q}{E:aJ}{s:L}{scope:S}{g:O}{cl:-(R×O)}{qual:R}{env:t}{Q:t->L->Prop}
  (h:Q (newEnv scope ⇑s g (cellsFrom (⇑s+1) scope.names cl) qual Z .none (U env) builtinsNs) {s with heap:=pushCells (s.heap.push {cls:=.type "dict",data:=.dict #[]}) scope.names}) :
  G M A (newFunctionEnv scope g cl [] qual Z .none (U env)) Q E s:=by
 erw[newFunctionEnv,q6p,q17];calc oj (wpAny_alloc ?_);calc oj (wpAny_layCells _ (λname kind cells=>by cases Qs:kind==q1O<;>simp[Qs]) _ _ _ _ ?_);rw[show({s with heap:=s.heap.push {cls:=.type "dict",data:=.dict #[]}}:L).heap.objs.size=⇑s+1 from q1w ..];calc oj ?_;rw[q5I];calc vw (vw h)
section
variable{X:Cx}{elt tg iter:M}{ifs:-M}{scope:S}{pos:y}{Nb:-R}{cp:-(Option Nat)}{wi:TI}{g:BD->TG}{tf:BD->TT}{te:BD->TE}
variable{pins:au}{σ:St}{H:Hp}{s:L}
noncomputable abbrev vC(scope:S)(s:L)(cl:-(R×O)):-(R×O):=cellsFrom (⇑s+1) scope.names cl
theorem Qt{fp:-O}{cl:-(R×O)}(S:x5 X scope Nb cp)(I:Inv X pins σ H s)(hf:∀b∈fp,bq X pins H b)(ho:∀b∈fp,∃o,s.heap.get? b=U o)
  (c1:∀x c,cl.lookup x=U c->X.env.cells.lookup x=U c) (c2:∀y∈scope.names,y.2=.free->∃c,cl.lookup y.1=U c):(cm X scope Nb ⟨vC scope s cl,⇑s,s,H,fp⟩).Ok:=by
 let Qu:∀b∈fp,b∉eM X.stack:=λb hb z=>by
  let⟨_,f1,f2,_⟩:=hf b hb;rcases My.mp (I.gG b z) with e|e
  .exact f1 e
  .exact f2 e
 let lt:∀u c,cl.lookup u=U c->c<⇑s:=λu c e=>by
  let⟨v,q⟩:=I.cell u c (c1 _ _ e);exact q.lt
 refine⟨I.ok.mod,?_,I.ok.glob,I.ok.blt,BA _,λx y c h1 h2=>?_,λx hx=>?_,λx c h hc=>?_,I.ok.hd,I.ok.frames,.inl Y,λb hb=>⟨?_,λx c e=>?_⟩,I.bs,q0Q I.ok.ku I.sz,λb o e hb=>?_,Qu,I.stack,I.dY⟩
 .exact S.kind
 .exact BI (λu v c q1 q2=>I.ok.inj u v c (c1 _ _ q1) (c1 _ _ q2)) (λu c e=>q00 (lt u c e)) h1 h2
 .cases q:scope.names.lookup x with
  |none =>
   let z:(relabel scope X.env).names.lookup x=Z:=Ia q;let jr:(relabel scope X.env).names.lookup x=U .cell\/(relabel scope X.env).names.lookup x=U .free:=hx;rw[z] at jr;rcases jr with h|h<;>cases h
  |some k =>
   let hm:=q1y q;let z:(relabel scope X.env).names.lookup x=_:=BF (env:=X.env) q;let jr:(relabel scope X.env).names.lookup x=U .cell\/(relabel scope X.env).names.lookup x=U .free:=hx;rw[z] at jr
   let kf:k=.free\/k=.cell:=by
    by_cases hk:k=.free
    .exact .inl hk
    .let:(k==q1Z)=ι:=by simpa using hk
     erw[this,q5C,q0a,q0X] at jr;rcases jr with h|h
     .exact .inr (q0A h)
     .exact absurd (q0A h) hk
   calc q2y.mp (q3K scope.names _ cl ?_);rcases kf with rfl|rfl
   .let⟨c,e⟩:=c2 (x,.free) hm Y
    exact .inr (by rw[show cl.lookup x=U c from e];rfl)
   .exact .inl q
 .let hl:scope.names.lookup x=U .cell:=q1f h
  let:=BH (q1y hl) hc;exact q6R this
 .let⟨o,e⟩:=ho b hb
  exact ZN (Qj e)
 .rcases tW e with e|⟨e,_⟩
  .exact (hf b hb).2.2.2.2.1 x c (c1 _ _ e)
  .let⟨o,eo⟩:=ho b hb
   let BL:=Qj eo;ext z;subst z;exact absurd (q6S e) (x04.mpr (q1t BL))
 .rcases (hf b hb).2.2.2.1 with z|z
  .exact I.ok.ij b o e z
  .calc absurd (q0f (Qj (I.ok.bs b o e).1) z) (q2a _)
theorem Qv{cp:-(Option Nat)}{σ:St}{j:Nat}{v:V}(h:(iJ cp σ)[j]?=U (U v)):∃i,cp[j]?=U (U i)/\σ[i]?=U (U v):=by
 unfold iJ at h;rw[Qi] at h
 cases e:cp[j]? with
 |none=>rw[e] at h;cases h
 |some o =>
  rw[e] at h
  cases o with
  |none=>cases h
  |some i =>
   calc⟨i,Y,?_⟩;let h':(σ[i]?).join=U v:=q0A h
   cases q:σ[i]? with
   |none=>rw[q] at h';cases h'
   |some z =>
    rw[q] at h';let:z=U v:=h';rw[this]
theorem Qw{fp:-O}{cl:-(R×O)}{h1:Α}{tk:Nat}(S:x5 X scope Nb cp)(I:Inv X pins σ H s)(hf:∀b∈fp,bq X pins H b)(ho:∀b∈fp,∃o,s.heap.get? b=U o)
  (c1:∀x c,cl.lookup x=U c->X.env.cells.lookup x=U c) (c2:∀y∈scope.names,y.2=.free->∃c,cl.lookup y.1=U c)
  (hn:h1.Ns ⇑s (λx=>([]:-(R×B)).reverse.lookup x)) (hk:∀b o,s.heap.get? b=U o->h1.get? b=U o) (n_:∀x c,(vC scope s cl).lookup x=U c->∃v,h1.IsCell c v) :
  Inv (cm X scope Nb ⟨vC scope s cl,⇑s,s,H,fp⟩) [] (iJ cp σ) H {s with heap:=h1,toks:=tk}:=by
 refine⟨Qt S I hf ho c1 c2,Y,I.bare,Un.kept hk,⟨_,hn,λj x v e1 e2 e3=>?_⟩,n_,I.aF.fresh (BA _),λx c e=>?_,λp hp=>absurd (show p∈([]:au) from hp) (by simp),I.aF.kept hk,?_⟩
 .let⟨i,q1,q2⟩:=Qv e2
  let⟨q3,q4⟩:=S.vA j i x q1 e1;let hm:=q1y q4;let qh:=S.free _ hm Y;let⟨m,_,hl⟩:=I.loc
  let Qx:tL X.env.scope x:=by
   rcases qh with h|h
   .exact .inr (.inl h)
   .exact .inr (.inr h)
  let⟨u,ru,lk⟩:=hl i x v q3 q2 Qx;refine⟨u,ru,?_⟩
  let nl:X.env.kindOf x≠U .local:=by
   rcases qh with h|h
   .ext z;rw[h] at z;cases z
   .ext z;rw[h] at z;cases z
  rcases lk with⟨k,_⟩|⟨_,c,ec,hc⟩
  .exact absurd k nl
  .let⟨c',Ic⟩:=c2 (x,.free) hm Y
   let Ie:=c1 _ _ Ic;rw[ec] at Ie;cases Ie;let nc:(x,q1O)∉scope.names:=λz=>by let:=S.cell _ z Y;rw[show scope.names.lookup x=U .free from q4] at this;cases this
   refine .inr ⟨?_,c,(BJ nc).trans Ic,?_⟩
   .let z:(relabel scope X.env).names.lookup x=_:=BF (env:=X.env) q4
    show(relabel scope X.env).names.lookup x=U .cell\/(relabel scope X.env).names.lookup x=U .free;rw[z];split
    .exact .inl Y
    .exact .inr Y
   .let⟨o,e,d⟩:=hc
    exact⟨o,hk _ _ e,d⟩
 .rcases tW e with e|⟨e,_⟩
  .exact I.bC x c (c1 _ _ e)
  .exact I.aF.fresh (q6R e)
 .unfold iJ
  rw[rO];calc S.len
theorem Qy{fp:-O}{d:BD}{it l:O}{tn:Nat->I->Prop}{J:It}{R:Result->L->Prop}{Q:VK}{H1:Hp}{s1:L}{τ:St}(hc:X.calm=θ)
  (hg:JG (cm X scope Nb d) tg (g d)) (hf:JF (cm X scope Nb d) ifs (tf d)) (he:JE (cm X scope Nb d) elt (te d)) (T:Turn X.prog X.w X.K tg J fp it tn)
  (ZO:d.fp=fp) (I1:Inv (cm X scope Nb d) [] τ H1 s1) (g8:tn 0 s1.heap) (Ig:∀b∈fp,bq (cm X scope Nb d) [] H1 b)
  (W:Nat->Nat->St->Hp->Prop) (w0:∃m,W 0 m τ H1)
  (turn:∀i m τ H,W i m τ H->(J.stop i H/\Q (.ref l) H)\/(J.go i H/\∃N:St->Hp->Prop,(∀τ' H',N τ' H'->∃m',m'<m/\W (i+1) m' τ' H')/\∀x H',J.tN i H x H'->g d x τ H' fun τ2 H2=>tf d τ2 H2 λb H3 =>
   if b=θ then te d τ2 H3 λy H4=>∃ys,H4 l=U (.lst ys)/\↑ys<sizeLine/\N τ2 (upd H4 l (.lst (ys++[y]))) else N τ2 H3))
  (fin:∀τ' H' s',Inv (cm X scope Nb d) [] τ' H' s'->Q (.ref l) H'->R (.ok .next) s') :
  codeAny (ς X.prog X.w) X.A (.compStart (.ListComp elt [⟨tg,iter,ifs,0⟩] scope pos) 0 (.ref it) (.ref l) (compEnvC scope d.cl d.C X.env)) R s1:=by
 let iR:∀{H':Hp},(∀b∈fp,H' b=Z)->∀b∈fp,bq (cm X scope Nb d) [] H' b:=λhn b hb=>⟨hn b hb,(Ig b hb).2⟩
 let loop:codeAny (ς X.prog X.w) X.A (.compLoop (.ListComp elt [⟨tg,iter,ifs,0⟩] scope pos) 0 (.ref it) (.ref l) (compEnvC scope d.cl d.C X.env)) R s1:=by
  let⟨m0,w0⟩:=w0;calc Qo (λn s'=>∃i τ' H',Inv (cm X scope Nb d) [] τ' H' s'/\tn i s'.heap/\(∀b∈fp,H' b=Z)/\W i n τ' H') ?_ m0 ⟨0,τ,H1,I1,g8,λb hb=>(Ig b hb).1,w0⟩;ext n s3 ⟨i,σ3,H3,I3,pZ,va,w3⟩;rcases turn i n σ3 H3 w3 with⟨stop,qn⟩|⟨go,N,hN,step⟩
  .refine a_ (T.done (cm X scope Nb d) Y Y Y hc i [] s3 σ3 H3 (λ_ _=>False) I3 (iR va) pZ stop) λr s4 ⟨hr,I4⟩=>?_
   subst hr;exact fin σ3 H3 s4 I4 qn
  .refine a_ (T.item (cm X scope Nb d) Y Y Y hc i [] s3 σ3 H3 (λ_ _=>False) I3 (iR va) pZ go) λr s4 ⟨u,hr,h4⟩=>?_
   subst hr;calc a_ h4 λ_ s5 ⟨x,H5,I5,r5,y5,rz,AX⟩=>?_;let AY:=I5.pinned (iR AX) (T.obj _ _ rz);refine a_ (hg _ s5 σ3 H5 x u _ AY r5 (step x H5 y5)) λ_ s6 ⟨σ6,H6,I6,q6⟩=>?_
   let again:∀{σ7:St}{H7:Hp}{s7:L}{m':Nat},Inv (cm X scope Nb d) ([]++u_ fp s5.heap) σ7 H7 s7->m'<n->W (i+1) m' σ7 H7->∃m,m<n/\∃i σ' H',Inv (cm X scope Nb d) [] σ' H' s7/\tn i s7.heap/\(∀b∈fp,H' b=Z)/\W i m σ' H':=λ{σ7 H7 s7 m'} I7 hm w7=>by
    calc⟨m',hm,i+1,σ7,H7,I7.d4,T.keep _ _ _ rz λb hb o e=>(I7.pin (b,o) (q0q _ (q0q _ (xO hb e)))).1,λb hb=>?_,w7⟩;let⟨o,e,d⟩:=T.obj _ _ rz b hb;exact(I7.pin (b,o) (q0q _ (q0q _ (xO hb e)))).2.1
   refine a_ (hf _ s6 σ6 H6 _ I6 q6) λok s7 h0_=>el3 h0_ λH7 I7 q7=>?_
   cases ok with
   |false =>
    rw[ZJ q0b] at q7 ⊢;let⟨m',hm,w7⟩:=hN _ _ q7;exact again I7 hm w7
   |true =>
    rw[ZK Y] at q7 ⊢;calc a_ (he _ s7 σ6 H7 _ I7 q7) λy s8 ⟨yv,H8,I8,r8,ys,hy,hz,q8⟩=>?_;let⟨m',hm,w8⟩:=hN _ _ q8;calc a_ (HR _ s8 σ6 H8 (.ref l) [yv] (.ref l) [y] (λ_ H9=>H9=upd H8 l (.lst (ys++[yv]))) I8 Y (.cons r8 .nil) ⟨l,ys,yv,Y,Y,hy,hz,Y⟩) λ_ s9 h0_=>el5 h0_ λ_ H9 I9 _ e9=>?_;subst e9;exact again I9 hm w8
 calc codeAny_compStart_list loop (T.self _ 0 s1 _ _ g8 loop)
theorem Qz{fp:-O}{d:BD}{τ:St}{H1 H':Hp}{s1 s':L}(I1:Inv X pins σ H1 s1)(hs:d.s=s1)(hH:d.H=H1)(hd:d.fp=fp)(hf:∀b∈fp,bq X pins H1 b)(J:Inv (cm X scope Nb d) [] τ H' s'):Inv X pins σ H' s':=by
 subst hs hH hd;calc I1.jg (ch:=d.fp) J.os J.base J.aF J.bare λb hb=>⟨(hf b hb).2.2.2.1,(hf b hb).2.1,(hf b hb).2.2.2.2.1,(hf b hb).2.2.2.2.2⟩
theorem Ih{use:Option (B->Sem Unit)}{P:aJ}{Q:VK}(hc:X.calm=θ)(S:x5 X scope Nb cp)(hi:JI X tg iter wi)(hg:∀d,JG (cm X scope Nb d) tg (g d))(hf:∀d,JF (cm X scope Nb d) ifs (tf d))(he:∀d,JE (cm X scope Nb d) elt (te d))
  (hs:∀x,foldedSetIterable iter X.env x=pure x) (I:Inv X pins σ H s) (h:vB wi cp g tf te σ H Q)
  (fin:∀(l C:O)(H':Hp)(s':L)(m:R->Option B),Inv X pins σ H' s'->bq X pins H' C->(∀p c,X.env.cells.lookup p=U c->c≠C)->s'.heap.Ns C m->Q (.ref l) H'->compPost (ς X.prog X.w) X.A X.xe use P (.ref l) C (.ok .next) s') :
  G (ς X.prog X.w) X.A (comprehension (.ListComp elt [⟨tg,iter,ifs,0⟩] scope pos) scope X.env (firstIterPos [⟨tg,iter,ifs,0⟩] pos) (newList []) ι (eval iter X.env) use) P X.xe s:=by
 let⟨cl,QA,c1,c2⟩:=H_ (scope:=scope) (env:=X.env) λy hy kE=>by
  rcases S.free y hy kE with z|z
  .exact I.ok.has _ (.inl z)
  .exact I.ok.has _ (.inr z)
 calc wpAny_comprehension_free (cl:=cl) Y hs QA S.kind S.names (a_ (hi pins s σ H _ I h) λv s1 h1=>a_ h1 λAU s2 h2=>?_);let⟨it,fp,tn,J,H2,e,I2,T,jf,f2,q2⟩:=h2;subst e;calc q01 ?_;let hl:H2 ⇑s2=Z:=I2.fresh;let I3:Inv X pins σ (upd H2 ⇑s2 (.lst [])) {s2 with heap:=s2.heap.push {cls:=.type "list",data:=.seq ([]:-B).toArray}}:=I2.b8 (t':=s2.toks) (ys:=[]) .nil (q0u _);let k3:∀b o,s2.heap.get? b=U o->(s2.heap.push {cls:=.type "list",data:=.seq ([]:-B).toArray}).get? b=U o:=λb o e=>rM _ e
 let f3:∀b∈fp,bq X pins (upd H2 ⇑s2 (.lst [])) b:=λb hb=>by
  let⟨o,e,_⟩:=T.obj _ _ jf b hb;calc⟨?_,(f2 b hb).2⟩;rw[aA (ZN (Qj e))];exact(f2 b hb).1
 generalize QB:upd H2 ⇑s2 (.lst [])=H3 at I3 f3;generalize QC:({s2 with heap:=s2.heap.push {cls:=.type "list",data:=.seq ([]:-B).toArray}}:L)=s3 at I3;let Ii:∀b o,s2.heap.get? b=U o->s3.heap.get? b=U o:=by rw[<-QC];exact k3
 let o3:∀b∈fp,∃o,s3.heap.get? b=U o:=λb hb=>let⟨o,e,_⟩:=T.obj _ _ jf b hb;⟨o,Ii b o e⟩;calc Qr ?_;let k4:∀b o,s3.heap.get? b=U o->(pushCells (s3.heap.push {cls:=.type "dict",data:=.dict #[]}) scope.names).get? b=U o:=λb o e=>q7B _ _ _ _ (rM _ e);let vD:(pushCells (s3.heap.push {cls:=.type "dict",data:=.dict #[]}) scope.names).Ns ⇑s3 (λx=>([]:-(R×B)).reverse.lookup x):=(Heap.Ns.new s3.heap (.type "dict")).keeps (q7B _ _)
 let I4:=Qw (Nb:=Nb) (tk:=s3.toks) S I3 f3 o3 c1 c2 vD k4 λx c e=>by
  let hz:(s3.heap.push {cls:=.type "dict",data:=.dict #[]}).objs.size=⇑s3+1:=q1w ..;let e':(cellsFrom (s3.heap.push {cls:=.type "dict",data:=.dict #[]}).objs.size scope.names cl).lookup x=U c:=by rw[hz];exact e
  calc BK (λu c q=>?_) e';let⟨v,o,g1,g2⟩:=I3.cell u c (c1 _ _ q);exact⟨v,o,rM _ g1,g2⟩
 generalize ZP:pushCells (s3.heap.push {cls:=.type "dict",data:=.dict #[]}) scope.names=h₁ at k4 vD I4 ⊢;let⟨W,w0,turn⟩:=q2 ⟨vC scope s3 cl,⇑s3,s3,H3,fp⟩ ⇑s2 hl;rw[QB] at w0;refine Qy (d:=⟨vC scope s3 cl,⇑s3,s3,H3,fp⟩) (fp:=fp) (tn:=tn) (J:=J) (Q:=Q) hc (hg _) (hf _) (he _) T Y I4 (T.keep _ _ _ jf λb hb o e=>k4 b o (Ii b o e)) (λb hb=>?_) W w0 turn fun τ' H' s' I5 q5=>?_
 .let⟨o,e⟩:=o3 b hb
  refine⟨(f3 b hb).1,ZN (Qj e),λz=>?_,.inl hb,λx c ec=>?_,λp hp=>absurd (show p∈([]:au) from hp) (by simp)⟩
  .rcases My.mp (I3.gG b z) with r|r
   .exact (f3 b hb).2.1 r
   .exact (f3 b hb).2.2.1 r
  .rcases tW ec with q|⟨q,_⟩
   .exact (f3 b hb).2.2.2.2.1 x c (c1 _ _ q)
   .let BL:=Qj e
    ext z;subst z;exact absurd (q6S q) (x04.mpr (q1t BL))
 .let I6:Inv X pins σ H' s':=Qz I3 Y Y Y f3 I5
  let⟨m,hn,_⟩:=I5.loc;let fC:bq X pins H' ⇑s3:=I3.gH (BA _) I5.free;calc fin _ _ _ _ m I6 fC (λp c e=>fC.2.2.2.2.1 p c e) hn q5
theorem Ij(cp:-(Option Nat))(Nb:-R)(hc:X.calm=θ)(hi:JI X tg iter wi)(hg:∀d,JG (cm X scope Nb d) tg (g d))(hf:∀d,JF (cm X scope Nb d) ifs (tf d))(he:∀d,JE (cm X scope Nb d) elt (te d))
  (hk:scope.kind=.function:=by rfl) (ho:lq X.N X.env.scope scope Nb cp=θ:=by first|rfl|kernel_rfl) (hs:∀x,foldedSetIterable iter X.env x=pure x:=by ext _;rfl) :
  JE X (.ListComp elt [⟨tg,iter,ifs,0⟩] scope pos) (vB wi cp g tf te):=by
 calc⟨?_⟩;ext pins s σ H Q I h;rw[eval_ListComp];calc Ih (use:=none) hc (x1L hk ho) hi hg hf he hs I h λl C H' s' m I' fC hcc hn q=>⟨m,hn,λh' vE=>⟨.ref l,H',?_,Y,q⟩⟩;calc I'.turned (t':=s'.toks) (λb o hb e=>(vE.2 b hb).trans e) fC.1 fC.2.1 fC.2.2.2.1 fC.2.2.2.2.1 fC.2.2.2.2.2
theorem QD(cp:-(Option Nat))(Nb:-R){i:Nat}{x:R}{pos' ir:y}(hN:X.N.Nodup)(hi:X.N[i]?=U x)(hx:Loc X.env.scope x)(hc:X.calm=θ)(hit:JI X tg iter wi)(hg:∀d,JG (cm X scope Nb d) tg (g d))(hf:∀d,JF (cm X scope Nb d) ifs (tf d))(he:∀d,JE (cm X scope Nb d) elt (te d))
  (hk:scope.kind=.function:=by rfl) (ho:lq X.N X.env.scope scope Nb cp=θ:=by first|rfl|kernel_rfl) (hs:∀x,foldedSetIterable iter X.env x=pure x:=by ext _;rfl)
  (vF:swapsWith (.ListComp elt [⟨tg,iter,ifs,0⟩] scope pos) (U (.Name x pos')) ir.line X.env=pure θ:=by rfl)
  (jK:fq X x:=by first|exact .inl Y|exact .inr Y|assumption) :
  JS X (.Assign [.Name x pos'] (.ListComp elt [⟨tg,iter,ifs,0⟩] scope pos) ir) (dJ (vB wi cp g tf te) (jj i)):=by
 calc⟨?_⟩;ext pins s σ H D I h;rw[exec_Assign_Name_used _ _ _ _ vF];calc oj (q2V (oj ?_));show G _ X.A (do let _ <- comprehension (.ListComp elt [⟨tg,iter,ifs,0⟩] scope pos) scope X.env _ (newList []) ι (eval iter X.env) (U (assign (.Name x pos') X.env))) _ _ s;calc oj (a_ (Ih (use:=U (assign (.Name x pos') X.env)) (P:=λ_ s'=>SP X pins D .next s') hc (x1L hk ho) hit hg hf he hs I h λl C H' s' m I' fC hcc hn q=>?_) λ_ s' hq=>vw (vw hq));show G _ X.A (assign (.Name x pos') X.env (.ref l)) _ _ s';refine q6G (G_ I' hN hi hx (v:=.ref l) Y (λiT QE ⟨a,sb,ha⟩=>?_) jK)
 let nC:C≠a:=by
  rcases ha with e|e
  .rw[e];exact fC.2.1
  .exact q1L (hcc _ _ e)
 calc⟨m,hn.sameBut sb nC,λh' vE=>⟨_,H',?_,q⟩⟩;calc QE.turned (t':=iT.toks) (λb o hb e=>(vE.2 b hb).trans e) fC.1 fC.2.1 fC.2.2.2.1 fC.2.2.2.2.1 fC.2.2.2.2.2
end
section
variable{g:TG}{tf:TT}{te:TE}
end
section
variable{X:Cx}{pins:au}{σ:St}{H:Hp}{s:L}{h':I}{T:O}{o:HO}{ch:-O}{t':Nat}
theorem Inv.fQ(I:Inv X pins σ H s)(hf:∀b∈ch,bq X pins H b)(k:∀b u,b∉ch->s.heap.get? b=U u->h'.get? b=U u)(hT:⇑s<=T)(new:az X.prog X.w (upd H T o) h' T o):
  Inv X pins σ (upd H T o) {s with heap:=h',toks:=t'}:=by
 let hn:H T=Z:=I.aF.fresh hT;let k9:∀b u,H b=U u->b∉ch:=λb u e hb=>by rw[(hf b hb).1] at e;cases e
 refine I.step (g':=s.gens) (d':=s.drawn) (ch:=ch) (λb hb=>⟨(hf b hb).2.2.2.1,(hf b hb).2.1,(hf b hb).2.2.2.2.1,(hf b hb).2.2.2.2.2⟩) (λb u _ _ hc e _=>k b u hc e) (λb u _ _ hc e _=>⟨u.slots,k b u hc e⟩)
  (λb u _ e n=>by rw[aA (ZN (q0f (Qj e) hT))];calc n) (λb u hc e=>⟨u,k b u hc e⟩) (λb xs e=>by rw[aA (bR e hn)];calc e)
  (λb u xs e=>by rw[aA (bR e hn)];calc e) (λb ps e=>⟨#[],by rw[aA (bR e hn),e];simp⟩) (λm hm=>?_) (λb u e=>?_) I.bare
 .let⟨u,es,ep,ho,r⟩:=hm
  exact⟨u,es,ep,k _ u (λhb=>(hf _ hb).2.1 Y) ho,r⟩
 .by_cases hb:b=T
  .subst hb;rw[bj] at e;cases e;exact new
  .rw[aA hb] at e
   refine(I.aF b u e).dG (λc v hc q=>k c v ?_ q) (λc q=>by rw[aA (bR q hn)];calc q) λc xs q=>by rw[aA (bR q hn)];exact q
   rcases hc with z|z
   .rw[z];exact k9 b u e
   .calc k9 c _ z
theorem Inv.jS(I:Inv X pins σ H s)(hf:∀b∈ch,bq X pins H b)(k:∀b u,b∉ch->s.heap.get? b=U u->h'.get? b=U u):Inv X pins σ H {s with heap:=h',toks:=t'}:=by
 let k9:∀b u,H b=U u->b∉ch:=λb u e hb=>by rw[(hf b hb).1] at e;cases e
 refine I.step (g':=s.gens) (d':=s.drawn) (ch:=ch) (λb hb=>⟨(hf b hb).2.2.2.1,(hf b hb).2.1,(hf b hb).2.2.2.2.1,(hf b hb).2.2.2.2.2⟩) (λb u _ _ hc e _=>k b u hc e) (λb u _ _ hc e _=>⟨u.slots,k b u hc e⟩)
  (λb u _ e n=>n) (λb u hc e=>⟨u,k b u hc e⟩) (λb xs e=>e)
  (λb u xs e=>e) (λb ps e=>⟨#[],by rw[e];simp⟩) (λm hm=>?_) (λb u e=>?_) I.bare
 .let⟨u,es,ep,ho,r⟩:=hm
  exact⟨u,es,ep,k _ u (λhb=>(hf _ hb).2.1 Y) ho,r⟩
 .refine (I.aF b u e).dG (λc v hc q=>k c v ?_ q) (λc q=>q) λc xs q=>q
  rcases hc with z|z
  .rw[z];exact k9 b u e
  .calc k9 c _ z
end
noncomputable def tX(K:xY)(a:O):It :=
 ⟨λi H=>∃xs x,bh K H a xs/\xs[i]?=U x,λi H x H'=>∃T v,x=.ref T/\H T=Z/\H'=upd H T (.tup [.int (i:Nat),v])/\∀xs,bh K H a xs->xs[i]?=U v,λi H=>∃xs,bh K H a xs/\↑xs<=i⟩
theorem Ik{P:n}{w:ω}{K:xY}{elts:-M}{x1}{tp:y}(a e it:O)(fh:e≠it):
  Turn P w K (.Tuple elts x1 tp) (tX K a) [e,it] e (λi h=>(∃old,IsEnum h e it (i:Nat) old)/\h.IsListIter it a i) where
 mem:=by simp
 obj:=λi h st b hb=>by
  let⟨⟨old,he⟩,o,hi,hc,hd⟩:=st;rcases My.mp hb with rfl|hb
  .exact⟨_,he,λv z=>by cases z⟩
  .let z:b=it:=by simpa using hb
   subst z;exact⟨o,hi,λv z=>by rw[hd] at z;cases z⟩
 keep:=λi h h' st k=>by
  let⟨⟨old,he⟩,hi⟩:=st;exact⟨⟨old,k e (by simp) _ he⟩,hi.at λo q=>k it (by simp) o q⟩
 item:=by
  ext X hP hw hK hc i pins s σ H E I hf st hg;subst hP hw hK;let⟨⟨old,he⟩,hi⟩:=st;let⟨xs,x,hq,hx⟩:=hg;let⟨ah,rv,p,hz⟩:=I.list hq;let⟨u,hu,ru⟩:=rv.get hx;calc wpAny_pyNext_enum_item he hi p.isList (x:=u) hu⁻¹ fh λh1 mP vG vH hsz hk=>⟨_,Y,?_⟩;calc q4A mP λh2 x6 dZ=>?_;let hT:⇑s≠e:=q1B (Qj he);let lr:h2.get? ⇑s=U {cls:=.type "tuple",data:=.seq #[.int i s.toks,u]}:=(dZ.2 _ hT).trans vH
  let k2:∀b o,b∉[e,it]->s.heap.get? b=U o->h2.get? b=U o:=λb o hb q=>by
   let om:b≠e:=λz=>hb (by simp[z]);let fM:b≠it:=λz=>hb (by simp[z]);exact(dZ.2 _ om).trans (hk b o om fM q)
  let hn:H ⇑s=Z:=I.aF.fresh (BA _);refine⟨.ref ⇑s,upd H ⇑s (.tup [.int i,x]),I.fQ (ch:=[e,it]) (t':=s.toks+1) hf k2 (BA _) ?_,Y,⟨_,x,Y,hn,Y,λys hy=>by rw[I.fO hy hq];calc hx⟩,⟨⟨u,?_⟩,?_⟩,λb hb=>?_⟩
  .exact⟨by show 2<=sizeLine;decide,[.int i s.toks,u],.cons ⟨_,Y⟩ (.cons ru .nil),_,lr,Y,_,Y⟩
  .let e3:((i:Int)+1)=(((i+1:Nat)):Int):=by symm
   rw[e3] at x6;exact x6
  .exact vG.at λo q=>(dZ.2 _ (q1L fh)).trans q
  .let:b<⇑s:=by
    let⟨o,q,_⟩:=hi;rcases My.mp hb with rfl|hb
    .exact Qj he
    .let z:b=it:=by simpa using hb
     subst z;exact Qj q
   rw[aA (ZN this)];exact(hf b hb).1
 done:=by
  ext X hP hw hK hc i pins s σ H E I hf st hg;subst hP hw hK;let⟨⟨old,he⟩,hi⟩:=st;let⟨xs,hq,hx⟩:=hg;let⟨ah,rv,p,hz⟩:=I.list hq;let hl:=↑rv;calc wpAny_pyNext_enum_end (I.ok.hd hc) he hi p.isList (by simp;symm) λh1 eb=>⟨Y,?_⟩;let⟨f0,f1,f2,f3,f4,f5⟩:=hf it (by simp);exact I.turned (t':=s.toks) (λb o hb q=>eb b o hb q) f0 f1 f3 f4 f5
 self:=λA i s Q E st h=>by
  let⟨⟨old,he⟩,hi⟩:=st;let hT:s.TypeIs (.ref e) "enumerate" := ⟨_,he,Y⟩;calc q2g he h
section
variable{X:Cx}{elts:-M}{x1:Nat}{tp:y}
def QF(K:xY)(ta:TA):TI:=fun σ H R=>ta σ H λvs H1=>∃a,vs=[.ref a]/\(∃xs,bh K H1 a xs)/\R (tX K a) H1
theorem Il:bootBuiltins "enumerate" = U (.type "enumerate"):=by decide +kernel
theorem QG:bootBuiltins "zip" = U (.type "zip"):=by decide +kernel
theorem QH{a:M}{ta:TA}{p pos:y}(hg:Gl X "enumerate")(hm:X.mg "enumerate" = Z)(ha:JA X [a] ta)(hs:starEach [a] X.env=[(ι,eval a X.env)]:=by rfl):
  JI X (.Tuple elts x1 tp) (.Call (.Name "enumerate" p) [a] [] pos) (QF X.K ta):=by
 calc⟨?_⟩;ext pins s σ H R I h;calc Call_ (nW I hg hm Il (q1C (a_ (ha pos pins s σ H _ I h) λus s1 h0_=>el5 h0_ λvs H1 I1 r1 q1=>?_) hs Y));let⟨l,e,⟨xs,hq⟩,q⟩:=q1;subst e
 cases r1 with
 |cons r rr =>
  cases rr
  cases r
  let⟨ah,rv,p,hz⟩:=I1.list hq;calc q50 p.isList λh' he hi hsz hk=>?_;let I2:Inv X pins σ H1 {s1 with heap:=h'}:=I1.kept (t':=s1.toks) hk;calc q2g he ?_;refine⟨_,_,_,_,H1,Y,I2,Ik l (⇑s1+1) ⇑s1 (q44 _),⟨⟨_,he⟩,hi⟩,λb hb=>?_,q⟩
  let hb':⇑s1<=b:=by
   rcases My.mp hb with rfl|hb
   .exact q38 _
   .let z:b=⇑s1:=by simpa using hb
    rw[z];exact BA _
  calc I1.gH hb' (I1.aF.fresh hb')
end
section
variable{X:Cx}{nm:R}{tp:y}
end
end L2
namespace L2
open PySem PySem.Spec PyProof.Rows PySem.W
open Builtin Builtin.ObjectAttr
section
variable{prog:n}{w:Q}{A:q}{E:aJ}{s:L}{K:Frag}{x D:O}{ox:u}{mY:Option u}{name:R}
theorem QI:builtinKind "BaseException.__getattribute__" = U .slot:=by decide +kernel
theorem QJ:splitId "BaseException.__getattribute__" = U ("BaseException", "__getattribute__"):=by decide +kernel
theorem QK:plainId "BaseException.__getattribute__" = θ:=q45.ga.plain
theorem QL{tk:Tok}{Q:Unit->L->Prop}(X:K.In s.heap)(I:InstAt s.heap x ox D mY)(hb:mroIn K D (.type "BaseException")=U θ)(q:Q () s):
  G (g prog w) A (checkBuiltinCall "BaseException.__getattribute__" ⟨[.ref x,.str name tk],[]⟩) Q E s:=by
 let sub:Looks (g prog w) s.heap (isInstance (.ref x) (.type "BaseException")) θ:=(I.type (M:=g prog w)).andThen (looks_mroIn X hb);calc @check_slot (g prog w) A E s "BaseException.__getattribute__" "BaseException" "__getattribute__" (.ref x) [.str name tk] [] Q QI QJ sub (PySem.F.args_bexc_ga (.ref x) (.str name tk)) q
theorem QM{tk:Tok}{Q:aJ}(X:K.In s.heap)(I:InstAt s.heap x ox D mY)(hb:mroIn K D (.type "BaseException")=U θ)
  (h:G (g prog w) A.in1 (Builtin.«object.__getattribute__» ⟨[.ref x,.str name tk],[]⟩) (λfin s'=>∃v,fin=.done (.ret v)/\Q v s') E s) :
  G (g prog w) A (call (.builtin "BaseException.__getattribute__") [.ref x,.str name tk]) Q E s:=by
 calc q3v (q26 QK PySem.F.entry_bexc_ga ?_);calc QL X I hb ?_;calc q1v h (λfin s' hf=>?_) λ_ _ z=>z;let⟨v,rfl,q⟩:=hf;calc q
theorem Im{fill expr:Bool}{tk:Tok}{Q:aJ}(X:K.In s.heap)(I:InstAt s.heap x ox D mY)(vI:findIn K (.ref D) "__getattribute__" = U (U (.builtin "BaseException.__getattribute__")))
  (vJ:findIn K (.ref D) "__getattr__" = U Z) (hb:mroIn K D (.type "BaseException")=U θ)
  (h:G (g prog w) A.in1 (Builtin.«object.__getattribute__» ⟨[.ref x,.str name tk],[]⟩) (λfin s'=>∃v,fin=.done (.ret v)/\handedIn v=θ/\Q v s') (λ_ _=>False) s) :
  G (g prog w) A (getAttrBy (.ref x) (.str name tk) fill expr) Q E s:=by
 let L0:=I.type (M:=g prog w);let L1:=looks_findIn (M:=g prog w) X vI;let L2:=looks_findIn (M:=g prog w) X vJ
 let z9:(onTheHeap (q0w D)&&(q3l "BaseException.__getattribute__" == q3l "object.__getattribute__"))=ι:=by
  rw[show(q3l "BaseException.__getattribute__" == q3l "object.__getattribute__")=ι by decide +kernel];rfl
 let QN:(expr&&onTheHeap (q3l "BaseException.__getattribute__"))=ι:=by cases expr<;>rfl
 let QO:=q45.ga.bind (.ref x)
 let main:G (g prog w) A (callGetattribute (.ref x) (.str name tk) (.builtin "BaseException.__getattribute__") expr) (λv s'=>handedIn v=θ/\Q v s') (λ_ _=>False) s:=by
  unfold callGetattribute;rw[QN,ZJ q0b];unfold boundAndCalled;rw[QO];calc oj (vw ?_);exact QM (Q:=λv s'=>handedIn v=θ/\Q v s') X I hb h
 unfold getAttrBy;calc q0B (oj (L0.here (oj (L1.here ?_))));dsimp only;rw[z9,ZJ q0b];unfold getAttrByItsOwn;calc oj (L2.here (oj (q2U (q0B (q1v main (λv s' hf=>?_) λ_ _ z=>z.elim)))));dsimp only;rw[handedOut_of hf.1];calc vw hf.2
theorem QP{tk:Tok}{v:B}{Q:Fin->L->Prop}(X:K.In s.heap)(I:InstAt s.heap x ox D mY)(hf:findObj K D mY name=U (.value v))(h:Q (.done (.ret v)) s):
  G (g prog w) A (Builtin.«object.__getattribute__» ⟨[.ref x,.str name tk],[]⟩) Q E s:=by
 let L0:=I.type (M:=g prog w);let L1:=looks_find (M:=g prog w) X I hf;calc oj (vw ?_);dsimp only;calc oj (vw (oj (L0.here (oj (L1.here ?_)))));calc vw h
theorem QQ{expr:Bool}{v:B}{Q:aJ}(X:K.In s.heap)(I:InstAt s.heap x ox D mY)(vI:findIn K (.ref D) "__getattribute__" = U (U (.builtin "BaseException.__getattribute__")))
  (vJ:findIn K (.ref D) "__getattr__" = U Z) (hb:mroIn K D (.type "BaseException")=U θ) (hf:findObj K D mY name=U (.value v)) (hv:handedIn v=θ) (h:Q v {s with toks:=s.toks+1}) :
  G (g prog w) A (getAttr (.ref x) name expr) Q E s:=by
 unfold getAttr;calc oj (wpAny_mkText ?_);calc Im (s:={s with toks:=s.toks+1}) X I vI vJ hb (QP (s:={s with toks:=s.toks+1}) X I hf ⟨v,Y,hv,h⟩)
theorem QR{Q:Option B->L->Prop}(X:K.In s.heap)(I:InstAt s.heap x ox D mY)(vI:findIn K (.ref D) "__getattribute__" = U (U (.builtin "BaseException.__getattribute__")))
  (vJ:findIn K (.ref D) "__getattr__" = U Z) (hb:mroIn K D (.type "BaseException")=U θ) (hm:mroIn K D (.type "object")=U θ)
  (hf:findObj K D mY "__class__" = U (.bind (.builtin "getset_descriptor.__get__") (.builtin "object.__class__"))) (h:Q (U (.ref D)) {s with toks:=s.toks+1}) :
  G (g prog w) A (getAttr? (.ref x) "__class__") Q E s:=by
 unfold getAttr? getAttrBy?;calc oj (wpAny_mkText (oj (q2U ?_)));calc Im (s:={s with toks:=s.toks+1}) X I vI vJ hb ?_;let L0:=I.type (M:=g prog w);let L1:=looks_find (M:=g prog w) X I hf;calc oj (vw ?_);dsimp only;calc oj (vw (oj (Looks.here (s:={s with toks:=s.toks+1}) L0 (oj (Looks.here (s:={s with toks:=s.toks+1}) L1 ?_)))));show G _ _ (holding [q3l "object.__class__"] (call (.builtin "getset_descriptor.__get__") [.builtin "object.__class__",.ref x,.ref D]) >>= ret) _ _ _;refine oj (q0B (q3v (class_get (s:={s with toks:=s.toks+1}) (ox:=ox) (od:=mY) X I hm ?_)))
 calc vw ⟨.ref D,Y,Y,vw h⟩
noncomputable def d9:-B->Bool
 |.ref _::r=>d9 r
 |l=>l==[.type "ValueError",.type "Exception",.type "BaseException",.type "object"]
theorem Io(self:B):∀{l:-B},d9 l=θ->refuseLoop self "__setattr__" l=pure ()
 |.ref c::r,e=>by rw[refuseLoop_ref];exact Io self (l:=r) (by unfold d9 at e;calc e)
 |[],e=>by
  unfold d9 at e;rw[q0m e];exact q4V.passes self
 |.type n::r,e=>by
  unfold d9 at e;rw[q0m e];exact q4V.passes self
 |.none::r,e=>by unfold d9 at e;cases q0m e
 |.bool _::r,e=>by unfold d9 at e;cases q0m e
 |.int _ _::r,e=>by unfold d9 at e;cases q0m e
 |.float _ _::r,e=>by unfold d9 at e;cases q0m e
 |.str _ _::r,e=>by unfold d9 at e;cases q0m e
 |.bytes _ _::r,e=>by unfold d9 at e;cases q0m e
 |.builtin _::r,e=>by unfold d9 at e;cases q0m e
 |.notImplemented::r,e=>by unfold d9 at e;cases q0m e
 |.ellipsis::r,e=>by unfold d9 at e;cases q0m e
theorem vK:∀{l:-B},d9 l=θ->l.contains (.type "object")=θ/\l.contains (.type "BaseException")=θ/\l.isEmpty=ι
 |.ref c::r,e=>by
  let ih:=vK (l:=r) (by unfold d9 at e;calc e);exact⟨by rw[q3y,ih.1,q5c],by rw[q3y,ih.2.1,q5c],Y⟩
 |[],e=>by
  unfold d9 at e;rw[q0m e];decide +kernel
 |.type n::r,e=>by
  unfold d9 at e;rw[q0m e];decide +kernel
 |.none::r,e=>by unfold d9 at e;cases q0m e
 |.bool _::r,e=>by unfold d9 at e;cases q0m e
 |.int _ _::r,e=>by unfold d9 at e;cases q0m e
 |.float _ _::r,e=>by unfold d9 at e;cases q0m e
 |.str _ _::r,e=>by unfold d9 at e;cases q0m e
 |.bytes _ _::r,e=>by unfold d9 at e;cases q0m e
 |.builtin _::r,e=>by unfold d9 at e;cases q0m e
 |.notImplemented::r,e=>by unfold d9 at e;cases q0m e
 |.ellipsis::r,e=>by unfold d9 at e;cases q0m e
structure bo(K:Frag)(C:O):Prop where
 cd:∃cd,clsIn K C=U cd/\d9 cd.mro=θ/\cd.hasDict=θ
 ga:findIn K (.ref C) "__getattribute__" = U (U (.builtin "BaseException.__getattribute__"))
 gh:findIn K (.ref C) "__getattr__" = U Z
 sa:findIn K (.ref C) "__setattr__" = U (U (.builtin "object.__setattr__"))
 cl:findIn K (.ref C) "__class__" = U (U (.builtin "object.__class__"))
 hn:specialIn K (.builtin "object.__class__") "__get__" = U (U (.builtin "getset_descriptor.__get__"))
 tk:takesIn K (.builtin "object.__class__")=U θ
theorem bo.base{C:O}(c:bo K C):mroIn K C (.type "BaseException")=U θ:=by
 let⟨cd,h1,h2,_⟩:=c.cd;unfold mroIn;rw[h1,q2G,ZJ (by rw[(vK h2).2.2];decide),(vK h2).2.1]
theorem bo.obj{C:O}(c:bo K C):mroIn K C (.type "object")=U θ:=by
 let⟨cd,h1,h2,_⟩:=c.cd;unfold mroIn;rw[h1,q2G,ZJ (by rw[(vK h2).2.2];decide),(vK h2).1]
theorem QS{C:O}{v:B}{vs:Array B}{Q:Unit->L->Prop}(X:K.In s.heap)(hx:s.heap.get? x=U ⟨.ref C,Z,.fields vs,#[]⟩)(c:bo K C)(QT:findIn K (.ref C) name=U Z)
  (h:∀h' mM,h'.get? x=U ⟨.ref C,U ⇑s,.fields vs,#[]⟩->h'.Ns1 ⇑s (λy=>if y=name then U v else Z)->(∀b o,b≠x->s.heap.get? b=U o->h'.get? b=U o)->Q () {s with heap:=h',toks:=mM}) :
  G (g prog w) A (setAttr (.ref x) name v) Q E s:=by
 let I:InstAt s.heap x ⟨.ref C,Z,.fields vs,#[]⟩ C Z:=⟨hx,Y,Y,trivial⟩;let⟨cd,e7,hm,eU⟩:=c.cd;calc set_plain X I c.sa ?_;let SF:=PySem.F.store_object;let sub:Looks (g prog w) s.heap (isInstance (.ref x) (.type "object")) θ:=I.type.andThen (looks_mroIn X c.obj);calc q26 SF.slot.plain SF.entry (@check_slot (g prog w) _ _ {s with toks:=s.toks+1} "object.__setattr__" "object" "__setattr__" (.ref x) [.str name s.toks,v] [] _ SF.kind SF.split sub (SF.args (.ref x) (.str name s.toks) v) ?_);let vL:Looks (g prog w) s.heap (mroOf (.ref C)) cd.mro:=(looks_clsIn X e7).andThen .now
 rw[osa_eq,refuse_eq];calc oj (oj (Looks.here (s:={s with toks:=s.toks+1}) I.type (oj (Looks.here (s:={s with toks:=s.toks+1}) vL ?_))));rw[Io _ hm];calc vw (oj (Looks.here (s:={s with toks:=s.toks+1}) I.type (oj (Looks.here (s:={s with toks:=s.toks+1}) (looks_findIn X QT) (oj (vw ?_))))));show G _ _ (storeInOwnDict (.ref x) (.ref C) (.str name s.toks) name v ι) _ _ _;unfold storeInOwnDict;calc oj (vw (oj ?_));show G _ _ (instanceDict x θ) _ _ _;unfold instanceDict;calc oj (q72 (s:={s with toks:=s.toks+1}) hx ?_);refine oj (Looks.here (s:={s with toks:=s.toks+1}) (looks_clsIn X e7) ?_)
 rw[eU];show G _ _ (alloc {cls:=.type "dict",data:=.dict #[]} >>= λd=>update x (λo=>{o with dict:=U d}) >>= λ_=>dictMade (.ref C) x d) _ _ _;let Ip:(s.heap.push {cls:=.type "dict",data:=.dict #[]}).get? x=U ⟨.ref C,Z,.fields vs,#[]⟩:=rM _ hx;let x8:x≠⇑s:=ZN (Qj hx);calc oj (wpAny_alloc' ?_);calc oj (wpAny_update' Ip ?_);refine vw ?_
 let QU:((s.heap.push {cls:=.type "dict",data:=.dict #[]}).update x λo=>{cls:=o.cls,dict:=U ⇑s,data:=o.data,slots:=o.slots}).get? ⇑s
   = U {cls:=.type "dict",data:=.dict #[]}:=(q4n _ _ _ _ x8.symm).trans (q6T Y Y)
 let QV:((s.heap.push {cls:=.type "dict",data:=.dict #[]}).update x λo=>{cls:=o.cls,dict:=U ⇑s,data:=o.data,slots:=o.slots}).Ns ⇑s (λ_=>Z) :=
  ⟨_,#[],_,QU,Y,λe he=>absurd he (by simp),λ_=>Y⟩
 show G _ _ (storeInDict ⇑s (.str name s.toks) name v) _ _ _;unfold storeInDict newKeyGuard;calc oj (vw (oj (wpAny_nsSet1 (Heap.Ns1.of_empty QV) λh' kQ hs=>?_)));let⟨oD,ZQ,ZR,QW,QX,lz⟩:=kQ.count (Within.cons name v Within.nil);calc oj (wpAny_lookBehind QW (by rw[QX];calc pastItsLine_dict (q0Q lz (by rw[HY,q1n,q09];symm))) ?_);let jr:h'.get? x=U ⟨.ref C,U ⇑s,.fields vs,#[]⟩:=(hs.2 x x8).trans (q0E _ Ip Y);calc vw (h h' _ jr kQ λb ob QY hb=>(hs.2 b (ZN (Qj hb))).trans ((q4n _ _ _ _ QY).trans (rM _ hb)))
theorem QZ{C:O}{cd:ClassData}{od:Option u}{nm:R}{g a:B}(hc:clsIn K C=U cd)(ha:findIn K (.ref C) nm=U (U a))(hn:specialIn K a "__get__" = U (U g))(xQ:takesIn K a=U θ):
  findObj K C od nm=U (.bind g a):=by
 unfold findObj;rw[hc,q2G,ha,q2G];dsimp only;rw[hn,q2G];dsimp only;rw[xQ,q2G]
theorem Q0{C:O}(c:bo K C):KitX K (.ref x) (.ref C) (λh=>∃ox od,InstAt h x ox C od) where
 ty:=λ_ _ _ I=>by let⟨_,_,I⟩:=I;exact I.type
 it:=λ_ _ X _=>by
  let⟨Iq,lz,_⟩:=c.cd;unfold clsIn at lz;split at lz
  .rename_i c' d' Q1 mS ho
   ext A' Q' E' s' k q;unfold isType loadHead;exact oj (q72 (k _ _ (X _ _ ho)) (vw q))
  .cases lz
 ne:=λh tp dd ah n sl X Q2=>by
  let⟨Iq,lz,_⟩:=c.cd;calc Bool.eq_false_iff.mpr λq=>?_;let e:C=tp:=Value.ref.inj (beq_iff_eq.mp q);subst e;unfold clsIn at lz;split at lz
  .rename_i c' d' Q1 mS ho
   let z:=(X _ _ ho).symm.trans Q2;cases z
  .cases lz
 ca:=λX I k=>by
  let⟨ox,od,I⟩:=I;let⟨Iq,lz,_⟩:=c.cd;calc QR X I c.ga c.gh c.base c.obj (QZ lz c.cl c.hn c.tk) k
variable{h:I}{g:Array GenState}{d:Drawn}{t:Nat}{os:OsState}{nm q:R}{C N:O}{bs bm x9:-ν}{eU:Bool}{sn:-R}{sub:-ν}{ab:Bool}{col:Option Bool}{dd:Option O}{k0 k1 k2 k3 k5:Option ν}{B newId lA:String}
theorem Q3(F:ExcBaseFacts B newId lA x9)(T:OwnTail h x9 bm){mN:R->Option ν}{rest:-ν}{fI:O}{oI:u}{Q:Fin->L->Prop}
  (hC:h.get? C=U (excClassObj nm q C N bs bm eU sn sub ab col dd k0 k1 k2 k3 k5 newId)) (hn:h.Ns N mN) (hi:mN "__init__" = U (.ref fI))
  (BM:h.get? fI=U oI) (BN:oI.cls=.type "function")
  (hq:∀h' e,q5J h h' e (.ref C) rest →
   G (ς prog w) A (call (.ref fI) (.ref e::rest)) (λr s'=>r=.none/\Q (.done (.ret (.ref e))) s') E ⟨h',g,d,t,os⟩) (hrest:↑rest<=sizeLine:=by size_fits) :
  G (ς prog w) A (Builtin.«type.__call__» ⟨.ref C::rest,[]⟩) Q E ⟨h,g,d,t,os⟩:=by
 repeat(first|with_reducible refine q2Z hC ?_|with_reducible refine wpAny_madeBy_exc hC ?_|wp_step)
 calc codeAny_call_builtin_code (q3w _ F.quiet) (wpAny_check_new_subT F T hC ?_);calc codeAny_exc_new_subT F T hC ?_ hrest;show G _ _ _ _ _ _
 let Ir:=rM {cls:=.ref C,data:=.fields #[.ref h.objs.size,.none,.none,.none,.bool ι,.none]}
  (rM {cls:=.type "tuple",data:=.seq rest.toArray} hC)
 let BO:=rM {cls:=.ref C,data:=.fields #[.ref h.objs.size,.none,.none,.none,.bool ι,.none]}
  (rM {cls:=.type "tuple",data:=.seq rest.toArray} BM)
 let Q4:((h.push {cls:=.type "tuple",data:=.seq rest.toArray}).push {cls:=.ref C,data:=.fields #[.ref h.objs.size,.none,.none,.none,.bool ι,.none]}).Ns N mN :=
  let⟨o,es,ep,e,r⟩:=hn;⟨o,es,ep,rM _ (rM _ e),r⟩
 let vM:((h.push {cls:=.type "tuple",data:=.seq rest.toArray}).push
   {cls:=.ref C,data:=.fields #[.ref h.objs.size,.none,.none,.none,.bool ι,.none]}).get? (h.objs.size+1)=U
   {cls:=.ref C,data:=.fields #[.ref h.objs.size,.none,.none,.none,.bool ι,.none]}:=by heap_get
 let Q5:(q0w C::bm).contains (.ref C)=θ:=by simp
 let T₁:=T.keeps (h':=(h.push {cls:=.type "tuple",data:=.seq rest.toArray}).push {cls:=.ref C,data:=.fields #[.ref h.objs.size,.none,.none,.none,.bool ι,.none]})
  λb o e=>rM _ (rM _ e)
 unfold isInstance
 repeat(first|with_reducible refine q2Z vM ?_|(with_reducible calc q51 Ir ?_;rw[Q5])|wp_step)
 show G _ _ (typeLookup (.ref C) _) _ _ _;calc wpAny_typeLookup_tail Ir Q4 T₁ F.mroIs F.init.lookup ?_;rw[hi];calc q0B (oj ?_);unfold bindSpecial;calc oj (q2M (T:="function") ⟨_,BO,BN⟩ ?_);rw[ZK (by decide)];refine vw (oj (q1v (hq _ (h.objs.size+1) ⟨λb o hb=>rM _ (rM _ hb),q28 (q38 _),h.objs.size,vM,q28 (BA _),?_⟩) (λr s' hr=>?_) λ_ _ x=>x))
 .exact rM _ (q6T Y Y)
 .let⟨rfl,hQ⟩:=hr
  wp_walk
  calc hQ
theorem Q6(F:ExcBaseFacts B newId lA x9)(T:OwnTail h x9 bm){mN:R->Option ν}{rest:-ν}{fI:O}{oI:u}{Q:aJ}
  (hC:h.get? C=U (excClassObj nm q C N bs bm eU sn sub ab col dd k0 k1 k2 k3 k5 newId)) (hn:h.Ns N mN) (hi:mN "__init__" = U (.ref fI))
  (BM:h.get? fI=U oI) (BN:oI.cls=.type "function")
  (hq:∀h' e,q5J h h' e (.ref C) rest →
   G (ς prog w) (A.under (.builtin "type.__call__" ⟨.ref C::rest,[]⟩)) (call (.ref fI) (.ref e::rest)) (λr s'=>r=.none/\Q (.ref e) s') E ⟨h',g,d,t,os⟩) (hrest:↑rest<=sizeLine:=by size_fits) :
  G (ς prog w) A (call (.ref C) rest) Q E ⟨h,g,d,t,os⟩:=by
 let f1:=tc_lookup;let f2:=tc_bind (.ref C);let hT:(⟨h,g,d,t,os⟩:L).TypeIs (.ref C) "type" := ⟨_,hC,Y⟩;calc q3v (q4a ?_);show G _ _ (callAny (.ref C) _) _ _ _
 repeat(any_goals (first|assumption|with_reducible refine q2Z hC ?_|wp_step))
 calc⟨Y,?_⟩;calc codeAny_call_builtin_at (q3w _ (by decide +kernel)) entry_typeCall (wpAny_check_type_call_sub hC (Q3 (hrest:=hrest) F T hC hn hi BM BN λh' e hm=>?_));calc hq h' e hm
end
end L2
namespace L2
open PySem PySem.Spec PyProof.Rows
noncomputable def bS(a C:O)(dx:Option O):HO:=.ext λh=>∃t,h.get? a=U ⟨.ref C,dx,.fields #[.ref t,.none,.none,.none,.bool ι,.none],#[]⟩
theorem Iu{P:n}{w:Q}{H:Hp}{h:I}{a C t:O}{dx:Option O}(e:h.get? a=U ⟨.ref C,dx,.fields #[.ref t,.none,.none,.none,.bool ι,.none],#[]⟩):az P w H h a (bS a C dx) :=
 ⟨⟨t,e⟩,⟨_,e⟩,λh1 h2 ⟨t',e1⟩ k↦⟨t',k _ e1⟩⟩
theorem Iv{P:n}{w:Q}{H:Hp}{h:I}{a C:O}{dx:Option O}(x:az P w H h a (bS a C dx)):∃t,h.get? a=U ⟨.ref C,dx,.fields #[.ref t,.none,.none,.none,.bool ι,.none],#[]⟩:=x.1
def vN(K:xY)(N:O)(name:R)(r:Option B):Prop:=∃oc od es ep sl,K.lookup N=U ⟨oc,od,.dict es ep,sl⟩/\(es.all λe=>match e.key with|.str _ _=>θ|_=>ι)=θ/\nsFind es name=r
theorem vN.ns{K:xY}{N:O}{name:R}{r:Option B}(x:vN K N name r){h:I}(k:K.In h):∃m,h.Ns N m/\m name=r:=by
 let⟨oc,od,es,ep,sl,l,hk,e⟩:=x;calc⟨λn=>nsFind es n,⟨_,es,ep,k _ _ l,Y,λen Q7=>?_,λ_=>Y⟩,e⟩;let:=(Array.all_eq_true'.mp hk) en Q7;split at this
 .rename_i s t q;exact⟨s,t,q⟩
 .cases this
noncomputable abbrev oo:-B:=[.type "ValueError",.type "Exception",.type "BaseException",.type "object"]
inductive b9 (K:xY):-B->Prop
 |base:b9 K oo
 |own {A:O} {c0:B} {dd:Option O} {cd:ClassData} {sl:Array (Option B)} {tl:-B}:K.lookup A=U ⟨c0,dd,.cls cd,sl⟩->vN K cd.ns "__init__" Z->b9 K tl->b9 K (.ref A::tl)
theorem b9.tail{K:xY}{l:-B}(x:b9 K l){h:I}(k:K.In h):OwnTail h oo l:=by
 induction x with
 |base=>exact .base
 |own l n _ ih =>
  let⟨m,hn,e⟩:=n.ns k;calc .own (k _ _ l) hn e ih
structure qi(K:xY)(C:O)(lB:Option B):Prop where
 BP:∃(nm q:R)(N:O)(bs bm:-B)(eU:Bool)(sn:-R)(sub:-B)(ab:Bool)(col:Option Bool)(dd:Option O)(k0 k1 k2 k3 k5:Option B),
  K.lookup C=U (excClassObj nm q C N bs bm eU sn sub ab col dd k0 k1 k2 k3 k5 "ValueError.__new__")/\b9 K bm/\vN K N "__init__" lB
 kp:q08 K (.ref C)=θ
section
variable{X:Cx}{pins:au}{σ:St}{H:Hp}{s:L}{C f:O}{CX:jM}{k:Nat}{fd:FuncData}{ps:-R}{sp:Sp}{E:XK}{x:R}{p pos pos':y}{e o value:M}{es:-M}{ta tv:TE}{t:TA}
theorem Iw{P:ψ}{w:Q}{H:Hp}{h:I}{a:O}{o:HO}(x:az P w H h a o):∃ob,h.get? a=U ob:=by
 cases o with
 |lst xs=>let⟨_,_,_,_,e⟩:=x;exact⟨_,e⟩
 |tup xs=>let⟨_,_,_,p⟩:=x;let⟨o,e,_⟩:=p;exact⟨_,e⟩
 |dK aq=>let⟨_,_,_,_,o,_,_,e,_⟩:=x;exact⟨_,e⟩
 |dT aq=>let⟨_,_,_,_,o,_,_,e,_⟩:=x;exact⟨_,e⟩
 |set S n=>let⟨o,_,_,_,e,_⟩:=x;exact⟨_,e⟩
 |ins C dx fs=>let⟨_,_,_,e,_⟩:=x;exact⟨_,e⟩
 |own y=>exact x
 |xd fs=>let⟨_,⟨_,_,_,e,_⟩,_⟩:=x;exact⟨_,e⟩
 |rng lo hi=>let⟨_,_,_,e⟩:=x;exact⟨_,e⟩
 |frz ob u=>let⟨e,_⟩:=x;exact⟨_,e⟩
 |tbl ps=>exact⟨_,(show h.get? a=U _ from x)⟩
 |met f y=>exact⟨_,(show h.get? a=U _ from x)⟩
 |ext φ=>let⟨_,e,_⟩:=x;calc e
theorem Inv.qj{a:O}(I:Inv X pins σ H s)(hn:s.heap.get? a=Z):H a=Z:=by
 cases q:H a with
 |none=>rfl
 |some u =>
  let⟨o,ho⟩:=Iw (I.aF a u q);rw[hn] at ho;cases ho
theorem Inv.vO{h':Α}{a:O}{u:HO}{t':Nat}(I:Inv X pins σ H s)(k:∀b u,s.heap.get? b=U u->h'.get? b=U u)(hn:s.heap.get? a=Z)(new:az X.prog X.w (upd H a u) h' a u):
  Inv X pins σ (upd H a u) {s with heap:=h',toks:=t'}:=by
 let hf:=I.qj hn;let ne:∀b ob,s.heap.get? b=U ob->b≠a:=λb ob e z=>by rw[z,hn] at e;cases e
 refine I.un ⟨λb o q _ _ _=>k b o q,λb o q _ _ _=>⟨o.slots,k b o q⟩,λb o q n _=>by rw[aA (ne b o q)];calc n,λb o q _=>⟨o,k b o q⟩,λb xs q=>by rw[aA (bR q hf)];calc q,λb o xs q=>by rw[aA (bR q hf)];calc q,λb ps q=>⟨#[],by rw[aA (bR q hf),q];simp⟩⟩ λb o q=>?_
 by_cases hb:b=a
 .subst hb;rw[bj] at q;cases q;exact new
 .rw[aA hb] at q
  calc(I.aF b o q).dG (λc v _ z=>k c v z) (λc z=>by rw[aA (bR z hf)];calc z) λc xs z=>by rw[aA (bR z hf)];calc z
theorem Inv.ju{h':Α}{a:O}{us:-B}(I:Inv X pins σ H s)(m:q5J s.heap h' a (.ref C) us):H a=Z/\Inv X pins σ (upd H a (bS a C Z)) {s with heap:=h'}:=by
 let⟨t,ht,_,_⟩:=m.there;calc⟨I.qj m.new,I.vO (t':=s.toks) m.keeps m.new (Iu ht)⟩
def BQ(C:O)(t:TA):TE:=fun σ H Q=>t σ H λvs H1=>↑vs<=sizeLine/\∀a,H1 a=Z->Q (.ref a) (upd H1 a (bS a C Z))
theorem Q8(M:qi X.K C Z)(hg:Gl X x)(hm:X.mg x=U (.ref C))(ha:JA X (e::es) t)(cS:bx x:=by decide)
  (he:dI X e es:=by rfl) (cU:eS X pos es:=by rfl) :
  JE X (.Call (.Name x p) (e::es) [] pos) (BQ C t):=by
 calc⟨?_⟩;ext pins s σ H Q I h;calc q2l (uW I hg hm ?_ cS);calc q4w (h₀:=X.base) I.ok.mod.mQ M.kp (a_ (ha pos pins s σ H _ I h) λus s1 ⟨vs,H1,I1,r,hz,q⟩=>⟨I1.dz,?_⟩) he cU;let⟨nm,q',N,bs,bm,eU,sn,sub,ab,col,dd,k0,k1,k2,k3,k5,l,T,n⟩:=M.BP;let⟨mN,hN,hi⟩:=n.ns I1.dz;let⟨hp,g,d,tk,os⟩:=s1;calc wpAny_call_exc_subT q4B (T.tail I1.dz) (I1.dz _ _ l) hN hi (λh' a hm=>?_) (by rw[q4f,<-↑r];calc hz);let⟨hf,I2⟩:=I1.ju hm;calc⟨.ref a,_,I2,Y,q a hf⟩
def Q9(C:O)(sp:Sp)(E:XK)(t:TA):TE:=fun σ H Q=>t σ H λvs H1=>↑vs<=sizeLine/\∀a,H1 a=Z->sp (.ref a::vs) (upd H1 a (bS a C Z)) (λv H2=>v=.non/\Q (.ref a) H2) E
theorem Q_(M:qi X.K C (U (.ref f)))(jK:q5d X.K (.ref f)=θ)(F:bK X.prog X.w X.K X.mg X.base CX k f fd ps sp)(hr:aX (k+1) X.A)(hb:Binds X.K fd ps [])(hx:p_ CX X E)(hg:Gl X x)(hm:X.mg x=U (.ref C))(ha:JA X (e::es) t)(cS:bx x:=by decide)
  (he:dI X e es:=by rfl) (cU:eS X pos es:=by rfl) :
  JE X (.Call (.Name x p) (e::es) [] pos) (Q9 C sp E t):=by
 calc⟨?_⟩;ext pins s σ H Q I h;calc q2l (uW I hg hm ?_ cS);calc q4w (h₀:=X.base) I.ok.mod.mQ M.kp (a_ (ha pos pins s σ H _ I h) λus s1 ⟨vs,H1,I1,r,hz,q⟩=>⟨I1.dz,?_⟩) he cU;let⟨nm,q',N,bs,bm,eU,sn,sub,ab,col,dd,k0,k1,k2,k3,k5,l,T,n⟩:=M.BP;let⟨mN,hN,hi⟩:=n.ns I1.dz;let⟨oI,lI,hc⟩:=ZM.mp (beq_iff_eq.mp jK);let⟨hp,g,d,tk,os⟩:=s1;calc Q6 q4B (T.tail I1.dz) (I1.dz _ _ l) hN hi (I1.dz _ _ lI) hc (λh' a hm=>?_) (by rw[q4f,<-↑r];calc hz);let⟨hf,I2⟩:=I1.ju hm;let hq:=q a hf;let r2:Vals (V.ref a::vs) (q0w a::us):=.cons Y r
 let hl:↑(q0w a::us++[])=↑ps:=by
  rw[q2h];let e:=↑r2;rw[F.len _ _ _ _ hq] at e;exact e.symm
 let bd:=hb _ (q0w a::us) I2.dz hl;rw[q2h] at bd;refine q3v (q2L (F.run _ X.stack _ _ ⟨q0w a::us,[]⟩ (q0w a::us) _ _ E (hr.make C us []) (I2.rF.make C us []) bd r2 hq) λr s' qk=>?_)
 cases r with
 |error e=>exact hx pins σ _ _ e s' I2 qk
 |ok fl =>
  cases fl with
  |ret u =>
   let⟨v,H',I3,rv,ev,q3⟩:=I2.after qk;subst ev;exact⟨rv,⟨V.ref a,H',I3,Y,q3⟩⟩
  |next=>exact q1i qk
  |brk=>exact q1i qk
  |cont=>calc q1i qk
def Ra(K:xY)(ta tv:TE)(f:R):TS:=λD σ H=>tv σ H λy H1=>ta σ H1 λx H2=>∃a C,x=.ref a/\H2 a=U (bS a C Z)/\bo K C/\tO K C f ∧
 ∀d,H2 d=Z->D.nx σ (upd (upd H2 d (.xd [(f,y)])) a (bS a C (U d)))
theorem Iy{fn:R}(ha:JE X o ta)(hv:JE X value tv)(hs:swapsWith value (U (.Attribute o fn pos')) pos.line X.env=pure ι):JS X (.Assign [.Attribute o fn pos'] value pos) (Ra X.K ta tv fn):=by
 calc⟨?_⟩;ext pins s σ H D I h;calc plainObj_wpAny_Assign_Attribute (a_ (hv pins s σ H _ I h) λu s1 h0_=>el5 h0_ λy H1 I1 ry q =>a_ (ha pins s1 σ H1 _ I1 q) λov s2 ⟨x,H2,I2,rx,a,C,ex,ea,c,n,q2⟩=>?_) hs;subst ex;obtain rfl:ov=q0w a:=rx;let⟨t,ht⟩:=Iv (I2.aF a _ ea);let rR:H2 ⇑s2=Z:=I2.fresh;let ZS:a≠⇑s2:=bR ea rR;refine QS I2.dz ht c n λh' mM jr kQ hk=>?_
 let new:∀H':Hp,az X.prog X.w H' h' ⇑s2 (.xd [(fn,y)]):=λH'=>⟨_,kQ,λg=>by
  by_cases e:g=fn
  .subst e
   rw[ZK Y];erw[q0z,q43];exact ry
  .rw[ZJ e]
   let:(g==fn)=ι:=by simpa using e
   erw[q0z,this,List.lookup_nil]
   trivial⟩
 let nm:¬ rh (U (HO.tup [])):=λz=>z;let BR:rh (H2 a):=by rw[ea];exact trivial
 let k2:∀b ob,b≠a->s2.heap.get? b=U ob->h'.get? b=U ob:=hk;refine⟨σ,_,I2.un (h':=h') (t':=mM) ⟨λb ob q n' _ _=>k2 b ob (λz=>by rw[z,ea] at n';cases n') q,λb ob q n' _ _=>⟨ob.slots,k2 b ob (λz=>by rw[z,ea] at n';cases n') q⟩,λb ob q n' _=>?_,λb ob q _=>?_,λb xs q=>?_,λb ob xs q=>?_,λb ZT q=>⟨#[],?_⟩⟩ λb ob q=>?_,q2 _ rR⟩
 .let h1:b≠a:=λz=>by rw[z,ea] at n';cases n'
  let h2:b≠⇑s2:=ZN (Qj q);rw[aA h1,aA h2];exact n'
 .by_cases z:b=a
  .subst z;exact⟨_,jr⟩
  .exact⟨ob,k2 b ob z q⟩
 .rw[aA (pV q ea (by unfold bS;ext z;cases z)),aA (bR q rR)];exact q
 .rw[aA (pV q ea (by unfold bS;ext z;cases z)),aA (bR q rR)];exact q
 .rw[aA (pV q ea (by unfold bS;ext z;cases z)),aA (bR q rR),q];simp
 .by_cases hb:b=a
  .subst hb;rw[bj] at q;cases q;exact Iu jr
  .rw[aA hb] at q
   by_cases Iz:b=⇑s2
   .subst Iz;rw[bj] at q;cases q;exact new _
   .rw[aA Iz] at q
    let own:∀c,H2 c=U (.own b)->c≠a:=λc z e=>by rw[e,ea] at z;unfold bS at z;cases z
    refine(I2.aF b ob q).dG (λc v hc z=>k2 c v ?_ z) (λc z=>by rw[aA (own c z),aA (bR z rR)];calc z) λc xs z=>by rw[aA (pV z ea (by unfold bS;ext y;cases y)),aA (bR z rR)];exact z
    rcases hc with e|e
    .rw[e];exact hb
    .calc own c e
end
section
variable{X:Cx}
noncomputable def oq:V->Option B
 |.ty n=>U (.type n)
 |.ref a=>U (.ref a)
 |_=>Z
theorem IA{y:V}{u c:B}(r:RelV y u)(e:oq y=U c):u=c:=by
 cases y with
 |ty n=>cases e;exact r
 |ref a=>cases e;exact r
 |_=>cases e
theorem Rb:g9 X (.builtin "isinstance") (λxs H Q=>∃x y c t b,xs=[x,y]/\oq y=U c/\d5 X.K H x t/\q0r X.K t c=U b/\Q (.bl b) H):=by
 ext pins s σ H xs us Q I rv h;let⟨x,y,c,t,b,rfl,hc,ty,e,q⟩:=h;let⟨u,w',rfl,rx,ry⟩:=rv.two;rw[IA ry hc];calc Pr I rx ty e λtk=>⟨.bl b,H,I.tok tk,Y,q⟩
theorem IB{x:V}:∀{xs:-V}{us:-B},Vals xs us->xs.all jq=θ->us.countP (qf x)=xs.countP λy=>fP y x
 |_,_,.nil,_=>Y
 |y::xs,u::us,.cons r t,f=>by
  rw[q2W,q0k] at f;rw[q18,q18,IB t f.2,Bp r f.1]
theorem IsList.parts{h:I}{l:O}{items:Array B}(x:h.IsList l items):∃dd n sl,h.get? l=U {cls:=.type "list",dict:=dd,data:=.seq items n,slots:=sl}:=by
 let⟨⟨cls,dd,data,sl⟩,ho,hc,n,hd⟩:=x;simp only at hc hd;subst hc hd;calc⟨dd,n,sl,ho⟩
def IC(K:xY):V->-V->Hp->VK->Prop:=λx vs H Q=>∃l xs y,x=.ref l/\vs=[y]/\bh K H l xs/\jq y=θ/\xs.all jq=θ/\Q (.int (xs.countP λz=>fP z y:Nat)) H
theorem BS:vx X "list.count" (IC X.K):=by
 ext pins s σ H x vs v us Q I rx rv h;let⟨l,xs,y,rfl,rfl,hq,fy,fs,q⟩:=h;cases rx
 let⟨u,rfl,ru⟩:=rv.one;let⟨ah,r,pl,hz⟩:=I.list hq;let⟨dd,n,sl,e⟩:=IsList.parts pl.isList;calc q32 F.slot_list_count ⟨_,e,Y⟩ F.entry_list_count (F.args_list_count_2 _ _) (SeqAt.list_countAt l ah.toArray n dd sl u (qf y)) ⟨e,λw hw=>Bq ru fy r fs w hw⁻¹,?_⟩;calc⟨.int _,H,I.tok _,⟨_,Y⟩,?_⟩;let e2:ah.toArray.toList.countP (qf y)=xs.countP λz=>fP z y:=by rw[q52];exact IB r fs
 rw[e2];calc q
def Rc(K:xY):V->-V->Hp->VK->Prop:=λx vs H Q=>∃l xs y j,x=.ref l/\vs=[y]/\bh K H l xs/\jq y=θ/\xs.all jq=θ/\j<↑xs/\(∀z,xs[j]?=U z->fP z y=θ)/\(∀m z,m<j->xs[m]?=U z->fP z y=ι)/\Q (.int (j:Nat)) H
theorem Rf{x:V}{xs:-V}{us:-B}(r:Vals xs us)(f:xs.all jq=θ){j:Nat}{u:B}(hu:us[j]?=U u):∃z,xs[j]?=U z/\qf x u=fP z x:=by
 let hl:=↑r;let hj:j<↑us:=(tU.mp hu).1;let hz:xs[j]?=U (xs[j]'⋯):=rN _;let⟨u',e,ru⟩:=r.get hz;rw[hu] at e;cases e;calc⟨_,hz,Bp ru ((q0T.mp f) _ (q1W _))⟩
theorem Rg:vx X "list.index" (Rc X.K):=by
 ext pins s σ H x vs v us Q I rx rv h;let⟨l,xs,y,j,rfl,rfl,hq,fy,fs,hj,h1,h2,q⟩:=h;cases rx
 let⟨u,rfl,ru⟩:=rv.one;let⟨ah,r,pl,hz⟩:=I.list hq;let⟨dd,n,sl,e⟩:=IsList.parts pl.isList;let hl:=↑r;let line:=rD;let at_:∀(m:Nat)(hm:m<ah.toArray.size),∃z,xs[m]?=U z/\qf y ah.toArray[m]=fP z y:=λm hm=>Rf r fs (by simp[rN (show m<↑ah by simpa using hm)]);refine q32 F.slot_list_index ⟨_,e,Y⟩ F.entry_list_index (F.args_list_index_2 _ _) (SeqAt.list_indexAt l ah.toArray n dd sl u (qf y) j (by simp;symm) ⋯ ?_ ?_) ⟨e,λw hw=>Bq ru fy r fs w hw⁻¹,?_⟩
 .let⟨z,e1,e2⟩:=at_ j (by simp;symm)
  rw[e2];exact h1 z e1
 .ext m hm Rh
  let⟨z,e1,e2⟩:=at_ m hm;rw[e2];exact h2 m z Rh e1
 .calc⟨.int _,H,I.tok _,⟨_,Y⟩,q⟩
end
theorem Ri{K:xY}{a:O}{xs:-V}{g:TG}{tb:TS}{D:Ends}{σ:St}{H:Hp}(Pv:Nat->St->Hp->Prop)(h0:Pv 0 σ H)(hl:∀i σ H,i<=↑xs->Pv i σ H->bh K H a xs)
  (hs:∀i x T σ H,xs[i]?=U x->Pv i σ H->H T=Z->g (.ref T) σ (upd H T (.tup [.int (i:Nat),x])) fun σ2 H2=>tb {D with nx:=Pv (i+1),ct:=Pv (i+1),bk:=D.nx} σ2 H2) (hd:∀σ H,Pv ↑xs σ H->D.nx σ H) :
  ∃W:Nat->Nat->St->Hp->Prop,(∃m,W 0 m σ H)/\∀i m σ H,W i m σ H →
   ((tX K a).stop i H/\D.nx σ H)\/((tX K a).go i H/\∃N:St->Hp->Prop,(∀σ' H',N σ' H'->∃m',m'<m/\W (i+1) m' σ' H')/\∀x H',(tX K a).tN i H x H'->g x σ H' fun σ2 H2=>tb {D with nx:=N,ct:=N,bk:=D.nx} σ2 H2):=by
 calc⟨λi m σ H=>m=↑xs-i/\i<=↑xs/\Pv i σ H,⟨↑xs,by simp,q0u _,h0⟩,?_⟩;ext i m σ H ⟨rfl,hi,p⟩;let q:=hl i σ H hi p
 by_cases cq:i<↑xs
 .refine .inr ⟨⟨xs,xs[i],q,by simp[cq]⟩,Pv (i+1),fun σ' H' p'=>⟨↑xs-(i+1),⋯,Y,cq,p'⟩,λx H' y=>?_⟩
  let⟨T,v,rfl,hT,rfl,y⟩:=y;exact hs i v T σ H (y xs q) p hT
 .let e:i=↑xs:=by symm
  subst e;calc .inl ⟨⟨xs,q,BA _⟩,hd σ H p⟩
section
variable{g:TG}{tf:TT}{te:TE}{l:O}{τ0:St}{H0:Hp}{Q:VK}
end
section
variable{X:Cx}{es:-M}{te:TE}{t:TA}
theorem iV{c j p}(ha:JE X (.Constant c j p) te)(hr:JA X es t):JA X (.Constant c j p::es) (jl te t):=jm ha hr Y
theorem jT{x p}(ha:JE X (.Name x p) te)(hr:JA X es t):JA X (.Name x p::es) (jl te t):=jm ha hr Y
theorem jU{f a k p}(ha:JE X (.Call f a k p) te)(hr:JA X es t):JA X (.Call f a k p::es) (jl te t):=jm ha hr Y
theorem BU{a p}(ha:JE X (.List a p) te)(hr:JA X es t):JA X (.List a p::es) (jl te t):=jm ha hr Y
theorem BV{a k p}(ha:JE X (.Tuple a k p) te)(hr:JA X es t):JA X (.Tuple a k p::es) (jl te t):=jm ha hr Y
theorem rS{a k p}(ha:JE X (.Subscript a k p) te)(hr:JA X es t):JA X (.Subscript a k p::es) (jl te t):=jm ha hr Y
theorem BW{a k p}(ha:JE X (.Attribute a k p) te)(hr:JA X es t):JA X (.Attribute a k p::es) (jl te t):=jm ha hr Y
end
inductive D where
 |non|bl (b:Bool)|int (i:Int)|str (x:R)|tup (xs:-D)|lst (xs:-D)
mutual
def Is (H:Hp):D->V->Prop
 |.non,v=>v=.non
 |.bl b,v=>v=.bl b
 |.int i,v=>v=.int i
 |.str x,v=>v=.str x
 |.tup ds,v=>∃a vs,v=.ref a/\H a=U (.tup vs)/\ae H ds vs
 |.lst ds,v=>∃a vs,v=.ref a/\H a=U (.lst vs)/\ae H ds vs
def ae (H:Hp):-D->-V->Prop
 |[],vs=>vs=[]
 |d::ds,vs=>∃v r,vs=v::r/\Is H d v/\ae H ds r
end
mutual
theorem Is.same {H H':Hp} (s:av H H'):∀{d:D}{v:V},Is H d v->Is H' d v
 |.non,_,h=>h
 |.bl _,_,h=>h
 |.int _,_,h=>h
 |.str _,_,h=>h
 |.tup _,_,h=>by
  erw[Is] at h ⊢;let⟨a,vs,e,h1,h2⟩:=h;exact⟨a,vs,e,s _ _ h1,ae.same s h2⟩
 |.lst _,_,h=>by
  erw[Is] at h ⊢;let⟨a,vs,e,h1,h2⟩:=h;calc⟨a,vs,e,s _ _ h1,ae.same s h2⟩
theorem ae.same {H H':Hp} (s:av H H'):∀{d:-D}{v:-V},ae H d v->ae H' d v
 |[],_,h=>h
 |_::_,_,h=>by
  erw[ae] at h ⊢;let⟨v,r,e,h1,h2⟩:=h;calc⟨v,r,e,Is.same s h1,ae.same s h2⟩
end
theorem ae.length{H:Hp}:∀{ds:-D}{vs:-V},ae H ds vs->↑vs=↑ds
 |[],_,h=>by erw[ae] at h;rw[h];rfl
 |_::_,_,h=>by
  erw[ae] at h;let⟨v,r,rfl,_,h2⟩:=h;rw[HY,HY,ae.length h2]
theorem ae.get{H:Hp}:∀{ds:-D}{vs:-V}{i:Nat}{v:V},ae H ds vs->vs[i]?=U v->∃d,ds[i]?=U d/\Is H d v
 |[],_,i,v,h,e=>by erw[ae] at h;rw[h] at e;simp at e
 |d::ds,_,i,v,h,e=>by
  erw[ae] at h;let⟨v',r,rfl,h1,h2⟩:=h
  cases i with
  |zero=>simp at e;subst e;exact⟨d,Y,h1⟩
  |succ i=>simp at e;simpa using ae.get h2 e
theorem ae.nil{H:Hp}:ae H [] []:=by erw[ae]
theorem ae.cons{H:Hp}{d:D}{ds:-D}{v:V}{vs:-V}(h:Is H d v)(r:ae H ds vs):ae H (d::ds) (v::vs):=by
 erw[ae];calc⟨v,vs,Y,h,r⟩
theorem ae.snoc{H:Hp}{d:D}{v:V}:∀{ds:-D}{vs:-V},ae H ds vs->Is H d v->ae H (ds++[d]) (vs++[v])
 |[],_,h,q=>by erw[ae] at h;subst h;exact .cons q .nil
 |_::_,_,h,q=>by
  erw[ae] at h;let⟨v',r,rfl,h1,h2⟩:=h;exact .cons h1 (ae.snoc h2 q)
mutual
noncomputable def dep:D->Nat
 |.tup ds=>aZ ds+1
 |.lst ds=>aZ ds+1
 |_=>0
noncomputable def aZ:-D->Nat
 |[]=>0
 |d::ds=>max (dep d) (aZ ds)
end
theorem BX:∀{ds:-D}{i:Nat}{d:D},ds[i]?=U d->dep d<=aZ ds
 |[],i,d,e=>by simp at e
 |d'::ds,0,d,e=>by simp at e;subst e;erw[aZ];exact Nat.le_max_left _ _
 |d'::ds,i+1,d,e=>by simp at e;erw[aZ];calc q0Q (BX e) (Nat.le_max_right _ _)
noncomputable def bA:D->String
 |.non=>"NoneType" | .bl _=>"bool" | .int _=>"int" | .str _=>"str" | .tup _=>"tuple" | .lst _=>"list"
theorem Is.ty{K:xY}{H:Hp}:∀{d:D}{v:V},Is H d v->d5 K H v (.type (bA d))
 |.non,_,h=>by cases(show _=_ from h);exact .non
 |.bl b,_,h=>by cases(show _=_ from h);exact .bl b
 |.int i,_,h=>by cases(show _=_ from h);exact .int i
 |.str x,_,h=>by cases(show _=_ from h);exact .str x
 |.tup _,_,h=>by
  erw[Is] at h;let⟨a,vs,rfl,h1,_⟩:=h;exact .tup h1
 |.lst _,_,h=>by
  erw[Is] at h;let⟨a,vs,rfl,h1,_⟩:=h;calc .lst h1
noncomputable def aH(T c:String):Bool:=T==c||(T=="bool" && c=="int")
section
variable{K:xY}
theorem Rj:∀T∈["NoneType", "bool", "int", "str", "tuple", "list"],q0r K (.type T) (.type "bool")=U (aH T "bool"):=by
 ext T hT;erw[My,q0j,q1q] at hT;rcases hT with rfl|rfl|rfl|rfl|rfl|rfl<;>kernel_rfl
theorem Rk:∀T∈["NoneType", "bool", "int", "str", "tuple", "list"],q0r K (.type T) (.type "int")=U (aH T "int"):=by
 ext T hT;erw[My,q0j,q1q] at hT;rcases hT with rfl|rfl|rfl|rfl|rfl|rfl<;>kernel_rfl
theorem Rl:∀T∈["NoneType", "bool", "int", "str", "tuple", "list"],q0r K (.type T) (.type "str")=U (aH T "str"):=by
 ext T hT;erw[My,q0j,q1q] at hT;rcases hT with rfl|rfl|rfl|rfl|rfl|rfl<;>kernel_rfl
theorem kit_tuple:∀T∈["NoneType", "bool", "int", "str", "tuple", "list"],q0r K (.type T) (.type "tuple")=U (aH T "tuple"):=by
 ext T hT;erw[My,q0j,q1q] at hT;rcases hT with rfl|rfl|rfl|rfl|rfl|rfl<;>kernel_rfl
theorem Rm:∀T∈["NoneType", "bool", "int", "str", "tuple", "list"],q0r K (.type T) (.type "list")=U (aH T "list"):=by
 ext T hT;erw[My,q0j,q1q] at hT;rcases hT with rfl|rfl|rfl|rfl|rfl|rfl<;>kernel_rfl
theorem vP(d:D):bA d∈["NoneType", "bool", "int", "str", "tuple", "list"]:=by cases d<;>simp[bA]
end
section
variable{X:Cx}
noncomputable def strE:M->Option R
 |.Constant (.str x) _ _=>U x
 |_=>Z
noncomputable def strsOf:-M->Option (-R)
 |[]=>U []
 |e::r=>(strE e).bind λx=>(strsOf r).map (x :: ·)
theorem ID:∀{es:-M}{ss:-R},strsOf es=U ss->JA X es (λ_ H Q=>Q (ss.map V.str) H)
 |[],ss,h=>by
  cases h
  exact⟨λpos pins s σ H Q I h=>aY pos pins s σ H Q I h⟩
 |e::r,ss,h=>by
  have h:(strE e).bind (λx=>(strsOf r).map (x :: ·))=U ss:=h
  cases e with
  |Constant c j p=>
   cases c with
   |str x=>
    let⟨s2,h2,rfl⟩:=ZM.mp (show(strsOf r).map (x :: ·)=U ss from h);let ih:=ID h2;exact⟨λpos pins s σ H Q I h=>iV (uV (j:=j) (pos:=p)) ih pos pins s σ H Q I h⟩
   |_=>cases h
  |_=>cases h
theorem Rn{es:-M}{ss:-R}{pos:y}(h:strsOf es=U ss)(hz:↑ss<=sizeLine):JE X (.List es pos) (λ_ H Q=>∀p,H p=Z->Q (.ref p) (upd H p (.lst (ss.map V.str)))):=by
 calc⟨?_⟩;ext pins s σ H Q I hq;calc n6 (ID h) pins s σ H Q I ⟨by rw[rO];calc hz,hq⟩
theorem JE.weak{e:M}{t t':TE}(h:JE X e t)(k:∀σ H Q,t' σ H Q->t σ H Q):JE X e t':=⟨λpins s σ H Q I q=>h pins s σ H Q I (k σ H Q q)⟩
theorem JT.weak{e:M}{t t':TT}(h:JT X e t)(k:∀σ H Q,t' σ H Q->t σ H Q):JT X e t':=⟨λpins s σ H Q I q=>h pins s σ H Q I (k σ H Q q)⟩
theorem JA.weak{es:-M}{t t':TA}(h:JA X es t)(k:∀σ H Q,t' σ H Q->t σ H Q):JA X es t':=⟨λpos pins s σ H Q I q=>h pos pins s σ H Q I (k σ H Q q)⟩
theorem JS.weak{st:o}{t t':TS}(h:JS X st t)(k:∀D σ H,t' D σ H->t D σ H):JS X st t':=⟨λpins s σ H D I q=>h pins s σ H D I (k D σ H q)⟩
theorem cj.weak{st:-o}{t t':TS}(h:cj X st t)(k:∀D σ H,t' D σ H->t D σ H):cj X st t':=⟨λpins s σ H D I q=>h pins s σ H D I (k D σ H q)⟩
theorem IE{i:Nat}{x:R}{es:-M}{te:TE}{pos' p pos:y}(hN:X.N.Nodup)(hi:X.N[i]?=U x)(hx:Loc X.env.scope x)(he:JE X (.List es p) te)(hf:fq X x):JS X (.Assign [.Name x pos'] (.List es p) pos) (dJ te (jj i)):=rq hN hi hx he Y hf
theorem x_{i:Nat}{x:R}{a b:M}{op:Operator}{te:TE}{pos' p pos:y}(hN:X.N.Nodup)(hi:X.N[i]?=U x)(hx:Loc X.env.scope x)(he:JE X (.BinOp a op b p) te)(hf:fq X x):JS X (.Assign [.Name x pos'] (.BinOp a op b p) pos) (dJ te (jj i)):=rq hN hi hx he Y hf
theorem Ro{i:Nat}{x:R}{f:M}{as:-M}{ks:-Keyword}{te:TE}{pos' p pos:y}(hN:X.N.Nodup)(hi:X.N[i]?=U x)(hx:Loc X.env.scope x)(he:JE X (.Call f as ks p) te)(hf:fq X x):JS X (.Assign [.Name x pos'] (.Call f as ks p) pos) (dJ te (jj i)):=rq hN hi hx he Y hf
theorem Rq{c A B:Prop}[Decidable c](hc:¬ c)(h:A):if(!J c)=θ then A else B:=by
 rw[q0e hc];calc h
theorem ql{L:-o}{k:Nat}{d:o}{t u:TS}(hk:k<↑L)(h:JS X (L.getD k d) t)(r:cj X (L.drop (k+1)) u):cj X (L.drop k) (uZ t u):=by
 let e:L.drop k=L.getD k d::L.drop (k+1):=by
  rw[q0V hk,HX,rN hk];rfl
 rw[e];calc tM h r
theorem Rr{L:-o}{k:Nat}{d:o}{t:TS}(hk:↑L=k+1)(h:JS X (L.getD k d) t):cj X (L.drop k) t:=by
 let g_:k<↑L:=by symm
 let e:L.drop k=[L.getD k d]:=by
  rw[q0V g_,HX,rN g_,q3O ⋯];rfl
 rw[e];calc nX h
theorem Rt{L:-o}{t:TS}(h:cj X (L.drop 0) t):cj X L t:=h
theorem iu{n:Nat}(h:n<=20):n<=sizeLine:=q1t (qg (q0Q h (by decide)))
end
section
variable{κ:Type}[DecidableEq κ]
noncomputable def d_(aq:-(κ×V))(k:κ):Option V:=(aq.find? λkv=>J (kv.1=k)).map (·.2)
noncomputable def putK(aq:-(κ×V))(k:κ)(v:V):-(κ×V) :=
 if(aq.any λkv=>J (kv.1=k))=θ then aq.map (λkv=>if kv.1=k then(kv.1,v) else kv) else aq++[(k,v)]
theorem ya{p:κ×V}{r:-(κ×V)}{k:κ}(e:p.1=k):d_ (p::r) k=U p.2:=by simp[d_,q2S,e]
theorem yb{p:κ×V}{r:-(κ×V)}{k:κ}(e:¬ p.1=k):d_ (p::r) k=d_ r k:=by simp[d_,q2S,e]
theorem IF(k:κ):∀aq:-(κ×V),(aq.any λkv=>J (kv.1=k))=(d_ aq k).isSome
 |[]=>Y
 |p::r=>by
  rw[q2i]
  by_cases e:p.1=k
  .erw[ya e,q0c e,q5e,q6p]
  .rw[yb e,q0e e,Bool.false_or];calc IF k r
theorem IG(aq:-(κ×V))(k:κ)(v:V):↑(putK aq k v)<=↑aq+1:=by
 unfold putK;split
 .rw[rO];symm
 .rw[Ql,HY,q1n];symm
theorem fN.eV{o:Option V}{u:Option B}(r:fN o u):o.isSome=u.isSome:=by
 cases o with
 |none=>cases u with
  |none=>rfl
  |some _=>exact(show False from r).elim
 |some _=>cases u with
  |none=>exact(show False from r).elim
  |some _=>rfl
theorem KV.val{aq:-(κ×V)}{vs:-(κ×B)}(r:KV aq vs)(k:κ):fN (d_ aq k) (valueAt vs k):=by
 unfold KV at r
 induction r with
 |nil=>exact q29
 | @cons p q ps qs h t ih =>
  let⟨h1,h2⟩:=h
  by_cases e:p.1=k
  .let e':q.1=k:=h1.symm.trans e
   let b:valueAt (q::qs) k=U q.2:=by simp[valueAt,q2S,e']
   rw[ya e,b];exact h2
  .let e':¬ q.1=k:=λz=>e (h1.trans z)
   let b:valueAt (q::qs) k=valueAt qs k:=by simp[valueAt,q2S,e']
   rw[yb e,b];calc ih
theorem KV.any{aq:-(κ×V)}{vs:-(κ×B)}(r:KV aq vs)(k:κ):(aq.any λkv=>J (kv.1=k))=vs.any λkv=>J (kv.1=k):=by
 unfold KV at r
 induction r with
 |nil=>rfl
 |cons h t ih=>rw[q2i,q2i,ih,h.1]
theorem KV.iW{aq:-(κ×V)}{vs:-(κ×B)}(r:KV aq vs)(k:κ){y:V}{u:B}(ry:RelV y u):
  KV (aq.map λkv=>if kv.1=k then(kv.1,y) else kv) (vs.map λkv=>if kv.1=k then(kv.1,u) else kv):=by
 unfold KV at r ⊢
 induction r with
 |nil=>exact .nil
 | @cons p q ps qs h t ih =>
  rw[q0o,q0o];calc .cons ?_ ih;let⟨h1,h2⟩:=h
  by_cases e:p.1=k
  .rw[ZK e,ZK (h1.symm.trans e)];exact⟨h1,ry⟩
  .rw[ZJ e,ZJ (λz=>e (h1.trans z))];calc⟨h1,h2⟩
theorem KV.put{aq:-(κ×V)}{vs:-(κ×B)}(r:KV aq vs)(k:κ){y:V}{u:B}(ry:RelV y u):KV (putK aq k y) (stored vs k u):=by
 unfold putK stored;rw[r.any k]
 by_cases e:(vs.any λkv=>J (kv.1=k))=θ
 .rw[ZK e,ZK e];exact r.iW k ry
 .rw[ZJ e,ZJ e];calc Paired.snoc r ⟨Y,ry⟩
theorem KV.length{aq:-(κ×V)}{vs:-(κ×B)}(r:KV aq vs):↑aq=↑vs:=q6b r
end
theorem BY{P:n}{w:Q}{k:Key}{u:B}(r:RelV (kV k) u):(jJ P w).is k u=θ:=by
 cases k with
 |inl i=>let⟨t,e⟩:=(show ∃t,u=q1l i t from r);subst e;exact Ou P w i t
 |inr x=>let⟨t,e⟩:=(show ∃t,u=q5P x t from r);subst e;calc Ov P w x t
theorem IH{P:n}{w:Q}:∀{ks:-Key}{us:-B},Vals (ks.map kV) us->ItemsAre (jJ P w) ks us
 |[],_,r=>by rw[q2b] at r;cases r;exact .nil
 |k::ks,_,r=>by
  rw[q0o] at r
  cases r with
  |cons h t=>calc .cons (BY h) (IH t)
abbrev KT(H:Hp):-(-Key×V)->-(-Key×O×B)->Prop:=Paired λp q=>p.1=q.1/\H q.2.1=U (.tup (p.1.map kV))/\RelV p.2 q.2.2
theorem KT.val{H:Hp}{aq:-(-Key×V)}{xs:-(-Key×O×B)}(r:KT H aq xs)(k:-Key):fN (d_ aq k) ((atKey xs k).map (·.2)):=by
 induction r with
 |nil=>exact q29
 | @cons p q ps qs h t ih =>
  let⟨h1,_,h2⟩:=h
  by_cases e:p.1=k
  .let e':q.1=k:=h1.symm.trans e
   let b:atKey (q::qs) k=U q.2:=by simp[atKey,q2S,e']
   rw[ya e,b];exact h2
  .let e':¬ q.1=k:=λz=>e (h1.trans z)
   let b:atKey (q::qs) k=atKey qs k:=by simp[atKey,q2S,e']
   rw[yb e,b];calc ih
theorem KT.iW{H:Hp}{aq:-(-Key×V)}{xs:-(-Key×O×B)}(r:KT H aq xs)(k:-Key){y:V}{u:B}(ry:RelV y u):
  KT H (aq.map λkv=>if kv.1=k then(kv.1,y) else kv) (xs.map (putAt k u)):=by
 induction r with
 |nil=>exact .nil
 | @cons p q ps qs h t ih =>
  rw[q0o,q0o];calc .cons ?_ ih;let⟨h1,h2,h3⟩:=h;unfold putAt
  by_cases e:p.1=k
  .rw[ZK e,ZK (h1.symm.trans e)];exact⟨h1,h2,ry⟩
  .rw[ZJ e,ZJ (λz=>e (h1.trans z))];calc⟨h1,h2,h3⟩
theorem KT.put{H:Hp}{aq:-(-Key×V)}{xs:-(-Key×O×B)}(r:KT H aq xs)(k:-Key){b:O}{y:V}{u:B}(hb:H b=U (.tup (k.map kV)))(ry:RelV y u):
  KT H (putK aq k y) (storedH xs k b u):=by
 let e:(aq.any λkv=>J (kv.1=k))=(atKey xs k).isSome:=by
  rw[IF,(r.val k).eV,q6U]
 unfold putK storedH;rw[e]
 by_cases q:(atKey xs k).isSome=θ
 .rw[ZK q,ZK q];exact r.iW k ry
 .rw[ZJ q,ZJ q];calc Paired.snoc r ⟨Y,hb,ry⟩
theorem KT.keeps{H H':Hp}{aq:-(-Key×V)}{xs:-(-Key×O×B)}(r:KT H aq xs)(ht:∀b ys,H b=U (.tup ys)->H' b=U (.tup ys)):KT H' aq xs :=
 Paired.q_ r λ_ _ z=>⟨z.1,ht _ _ z.2.1,z.2.2⟩
section
variable{P:n}{w:Q}{H:Hp}{h:I}{a:O}
theorem II{u:HO}(ok:cI P w H h)(e:Rd H a u):az P w H h a u:=e.ok ok
theorem IJ{aq:-(Key×V)}(ok:cI P w H h)(e:Rd H a (.dK aq)):↑aq<=sizeLine/\(a==sysModules)=ι/\∃vs,KV aq vs/\h.DictOf (jJ P w) a vs :=
 show az P w H h a (.dK aq) from II ok e
theorem Ru{aq:-(Key×V)}(ok:cI P w H h)(e:H a=U (.dK aq)):↑aq<=sizeLine/\(a==sysModules)=ι/\∃vs,KV aq vs/\h.DictOf (jJ P w) a vs:=IJ ok (.inl e)
theorem BZ{ks:-Key}(ok:cI P w H h)(e:H a=U (.tup (ks.map kV))):(tupleKind (jJ P w)).is h ks a:=by
 let⟨_,ah,r,o,h1,h2,n,h3⟩:=(show az P w H h a (.tup (ks.map kV)) from ok a _ e);calc⟨o,ah.toArray,n,h1,h2,h3,by simpa using IH r⟩
theorem IK{aq:-(-Key×V)}(ok:cI P w H h)(e:Rd H a (.dT aq)):↑aq<=sizeLine/\(a==sysModules)=ι ∧
  ∃xs,KT H aq xs/\h.DictOfH (tupleKind (jJ P w)) a xs:=by
 let⟨z,y,xs,r,o,es,ep,h1,h2,h3,h4,h5⟩:=(show az P w H h a (.dT aq) from II ok e);refine⟨z,y,xs,r,o,es,ep,h1,h2,h3,h4,λx hx=>?_,h5⟩
 let all:∀{l:-(-Key×V)}{m:-(-Key×O×B)},KT H l m->∀x∈m,(tupleKind (jJ P w)).is h x.1 x.2.1:=by
  ext l m q
  induction q with
  |nil=>ext x hx;exact nomatch hx
  | @cons p q ps qs hq t ih =>
   ext x hx;rcases My.mp hx with e|hx
   .subst e
    exact BZ ok (by rw[<-hq.1];calc hq.2.1)
   .exact ih x hx
 calc all r x hx
theorem Rv{aq:-(-Key×V)}(ok:cI P w H h)(e:H a=U (.dT aq)):↑aq<=sizeLine/\(a==sysModules)=ι ∧
  ∃xs,KT H aq xs/\h.DictOfH (tupleKind (jJ P w)) a xs:=IK ok (.inl e)
end
def jV(H:Hp)(a:O)(y:V)(r:Option V):Prop :=
 (∃aq k,Rd H a (.dK aq)/\y=kV k/\r=d_ aq k)\/∃aq k b,Rd H a (.dT aq)/\y=.ref b/\H b=U (.tup (k.map kV))/\r=d_ aq k
def lC(H:Hp)(a:O)(y v:V)(H':Hp):Prop :=
 (∃aq k,H a=U (.dK aq)/\y=kV k/\↑aq<sizeLine/\H'=upd H a (.dK (putK aq k v))) ∨
 ∃aq k b,H a=U (.dT aq)/\y=.ref b/\H b=U (.tup (k.map kV))/\↑aq<sizeLine/\H'=upd H a (.dT (putK aq k v))
theorem jV.k{H:Hp}{a:O}{aq:-(Key×V)}{k:Key}(e:H a=U (.dK aq)):jV H a (kV k) (d_ aq k):=.inl ⟨aq,k,.inl e,Y,Y⟩
theorem lC.k{H:Hp}{a:O}{aq:-(Key×V)}{k:Key}{v:V}(e:H a=U (.dK aq))(hl:↑aq<sizeLine):lC H a (kV k) v (upd H a (.dK (putK aq k v))):=.inl ⟨aq,k,e,Y,hl,Y⟩
section
variable{X:Cx}{pins:au}{σ:St}{H:Hp}{s:L}{a:O}{y v:V}{u r:B}{o:Option V}{A:q}{E:aJ}
theorem Inv.big(I:Inv X pins σ H s):sysModules<⇑s:=by
 let h:mainGlobals<⇑s:=(I.mod.glob.keeps I.bk).lt;calc q4_ (by decide) h
theorem B0{Q:aJ}(hu:A.units+1<cLine)(I:Inv X pins σ H s)(g:jV H a y o)(ry:RelV y u)(h:∀s',Inv X pins σ H s'->Q (.bool o.isSome) s'):
  G (ς X.prog X.w) A (compareOp .In u (.ref a)) Q E s:=by
 rcases g with⟨aq,k,e,ey,l⟩|⟨aq,k,b,e,ey,eb,l⟩
 .subst ey
  let⟨z,hd,vs,rel,dd⟩:=IJ I.aF e;calc wpAny_in_of (BY ry) hd dd.mapOf ?_;rw[<-(rel.val k).eV,<-l];exact h _ (I.tok _)
 .subst ey
  cases(show u=q0w b from ry)
  let⟨z,hd,xs,rel,dd⟩:=IK I.aF e;calc wpAny_in_heap (q6q hu) (BZ I.aF eb) hd dd ?_;let q:=(rel.val k).eV;rw[q6U] at q;rw[<-q,<-l];calc h _ (I.tok _)
theorem IL{h':Α}{t':Nat}{ob:HO}(I:Inv X pins σ H s)(mu:rh (H a))(hs:q2J a s.heap h')(he:∃q,h'.get? a=U q)(new:az X.prog X.w (upd H a ob) h' a ob):
  Inv X pins σ (upd H a ob) {s with heap:=h',toks:=t'} :=
 I.write (x:=a) (e:=a) mu (.inl Y) (λb q hb z=>(hs.2 b hb).trans z) he new
theorem Rw{P:n}{w:Q}{H':Hp}{h':I}{aq:-(Key×V)}{vs:-(Key×B)}(z:↑aq<=sizeLine)(hd:(a==sysModules)=ι)(rel:KV aq vs)(dd:h'.DictOf (jJ P w) a vs):
  az P w H' h' a (.dK aq):=⟨z,hd,vs,rel,dd⟩
theorem Rx{H':Hp}{Q:Unit->L->Prop}(hu:A.units+1<cLine)(I:Inv X pins σ H s)(g:lC H a y v H')(ry:RelV y u)(rv:RelV v r)(h:∀s',Inv X pins σ H' s'->Q () s'):
  G (ς X.prog X.w) A (setItem (.ref a) u r) Q E s:=by
 rcases g with⟨aq,k,e,ey,l,eH⟩|⟨aq,k,b,e,ey,eb,l,eH⟩
 .subst ey eH
  let⟨z,hd,vs,rel,dd⟩:=Ru I.aF e;let hz:↑vs<=sizeLine:=by rw[<-↑rel];exact z
  let hl:↑(putK aq k v)<=sizeLine:=by let:=IG aq k v;symm
  calc wpAny_setItem_pairs (hsz:=hz) (BY ry) dd λh' yc hs=>h _ ?_;let he:∃q,h'.get? a=U q:=let⟨q,_,_,hq,_⟩:=yc;⟨q,hq⟩;exact IL I (by rw[e];calc q29) hs he (Rw hl hd (rel.put k rv) yc)
 .subst ey eH
  cases(show u=q0w b from ry)
  let⟨z,hd,xs,rel,dd⟩:=Rv I.aF e;let hz:↑xs<=sizeLine:=by rw[<-q6b rel];exact z
  let hl:↑(putK aq k v)<=sizeLine:=by let:=IG aq k v;symm
  calc wpAny_setItem_heap (hsz:=hz) (q6q hu) (BZ I.aF eb) dd λh' yc hs=>h _ ?_;let⟨q,es,ep,hq,h2,h3,h4,_,h5⟩:=yc;calc IL I (by rw[e];calc q29) hs ⟨q,hq⟩ ⟨hl,hd,_,(rel.put k eb rv).keeps λc ys ec=>?_,q,es,ep,hq,h2,h3,h4,h5⟩;rw[aA (pV ec e (λz=>nomatch z))];calc ec
end
section
variable{X:Cx}{pins:au}{σ:St}{H:Hp}{s:L}{a:O}{aq:-(Key×V)}{k:Key}{u:B}{A:q}{E:aJ}
end
def vQ(ty td:TE):TE:=fun σ H Q=>ty σ H λy H1=>td σ H1 λx H2=>∃a o,x=.ref a/\jV H2 a y o/\Q (.bl o.isSome) H2
def Ry(td ty tv:TE):TS:=λD σ H=>tv σ H λv H1=>td σ H1 λx H2=>ty σ H2 λy H3=>∃a H4,x=.ref a/\lC H3 a y v H4/\D.nx σ H4
section
variable{X:Cx}{o i e value:M}{pos pos' A7:y}{td ty tv:TE}
theorem Rz(hu:X.A.units+1<cLine)(hi:JE X i ty)(ho:JE X o td):JC X .In i o (vQ ty td):=by
 calc⟨?_⟩;ext pins s σ H Q I h;calc a_ (hi pins s σ H _ I h) λiv s1 h0_=>el5 h0_ λy H1 I1 ry q1 =>a_ (ho pins s1 σ H1 _ I1 q1) λu s2 ⟨x,H2,I2,rx,a,ov,ex,g,q2⟩=>?_;subst ex;obtain rfl:u=q0w a:=rx;calc B0 hu I2 g ry λs3 I3=>⟨.bl ov.isSome,H2,I3,Y,q2⟩
theorem RA(hu:X.A.units+1<cLine)(ho:JE X o td)(hi:JE X i ty)(hv:JE X value tv)(hs:swapsWith value (U (.Subscript o i pos')) pos.line X.env=pure ι):
  JS X (.Assign [.Subscript o i pos'] value pos) (Ry td ty tv):=by
 calc⟨?_⟩;ext pins s σ H D I h;calc wpAny_Assign_Subscript (a_ (hv pins s σ H _ I h) λr s1 h0_=>el5 h0_ λv H1 I1 rv q1 =>a_ (ho pins s1 σ H1 _ I1 q1) λu s2 h0_=>el5 h0_ λx H2 I2 rx q2 =>a_ (hi pins s2 σ H2 _ I2 q2) λiv s3 ⟨y,H3,I3,ry,a,H4,ex,g,q3⟩=>?_) hs;subst ex;obtain rfl:u=q0w a:=rx;calc Rx hu I3 g ry rv λs4 I4=>⟨σ,H4,I4,q3⟩
end
theorem RB{P:n}{w:Q}{H:Hp}(h:I)(hb:sysModules<h.objs.size):az P w H (h.push {cls:=.type "dict",data:=.dict #[]}) h.objs.size (.dK []) :=
 ⟨q0u _,beq_eq_false_iff_ne.mpr (q1L (ZN hb)),[],.nil,Heap.DictOf.new h⟩
def RC:TE:=λ_ H Q=>∀p,H p=Z->Q (.ref p) (upd H p (.dK []))
section
variable{X:Cx}{pos:y}
theorem lD:JE X (.Dict [] [] pos) RC:=⟨λpins s σ H Q I h =>
 wpAny_Dict_empty ⟨.ref ⇑s,_,I.laid (a:=s.heap.objs.size) (o:=.dK []) (t':=s.toks) (λ_ _ q=>rM _ q) (BA _) (RB s.heap I.big),Y,h _ (I.aF.fresh (BA _))⟩⟩
end
section
variable{X:Cx}{pins:au}{σ:St}{H:Hp}{s:L}{a:O}{y d:V}{u r:B}{o:Option V}{A:q}{E:aJ}
end
section
variable{X:Cx}{o e f:M}{apos ip:y}{td ty tx:TE}
end
section
variable{X:Cx}{pins:au}{σ:St}{H:Hp}{s:L}{a:O}{aq:-(Key×V)}{A:q}{E:aJ}
end
section
variable{X:Cx}{pins:au}{σ:St}{H:Hp}{s:L}{a:O}{y:V}{u:B}{A:q}{E:aJ}
end
end L2
namespace L2
section
variable{κ:Type}[DecidableEq κ]
end
end L2
namespace L2
open PySem PySem.Spec PyProof.Rows
end L2
namespace LJS
open PySem
noncomputable def hp(i j:Int):Int:=reduceHash (Builtin.Tuple.tupleHashOf [hashInt i,hashInt j])
theorem IM{prog:n}{w:Q}(i j:Int):hT prog w [i,j]=hp i j:=rfl
noncomputable def yd:-(Int×Int):=(q0s 12).flatMap λj=>(q0s j).map λi:Nat=>(q7e i,q7e j)
theorem RD:∀a∈yd,∀b∈yd,hp a.1 a.2=hp b.1 b.2->a=b:=by decide +kernel
theorem IP{i j:Int}(h0:0<=i)(h1:i<j)(h2:j<12):(i,j)∈yd:=by
 let⟨a,rfl⟩:∃a:Nat,i=a:=⟨i.toNat,⋯⟩;let⟨b,rfl⟩:∃b:Nat,j=b:=⟨j.toNat,⋯⟩;unfold yd;calc List.mem_flatMap.mpr ⟨b,q0G.mpr ⋯,q0t.mpr ⟨a,q0G.mpr ⋯,Y⟩⟩
end LJS
namespace L2
open PySem PySem.Spec PyProof.Rows
noncomputable def lE(S:O)(n:Nat):HO:=.ext λh=>∃hs:-Int,↑hs=n/\LJS.kR h S hs
theorem RE{P:ψ}{w:Q}{H:Hp}{h:I}{S:O}{hs:-Int}{n:Nat}(e:LJS.kR h S hs)(hn:↑hs=n):az P w H h S (lE S n) :=
 ⟨⟨hs,hn,e⟩,let⟨o,_,_,_,ho,_⟩:=e;⟨o,ho⟩,λh1 h2 ⟨ye,en,e1⟩ k↦⟨ye,en,LJS.NX e1 λo eo=>k o eo⟩⟩
section
variable{X:Cx}
theorem IQ:∀{ps:-O}{ah:-B},Vals (ps.map V.ref) ah->ah=ps.map q0w
 |[],_,.nil=>Y
 |_::_,_,.cons r rs=>by cases r;rw[IQ rs];rfl
theorem RF:g9 X (.builtin "len") (λxs H Q=>∃(p:O)(n:Nat),xs=[.ref p]/\H p=U (lE p n)/\n<1000/\Q (.int n) H):=by
 ext pins s σ H xs us Q I r h;let⟨p,n,rfl,hp,hn,q⟩:=h;let⟨u,rfl,rx⟩:=vals1 r;cases rx
 let⟨⟨hs,hl,o,es,ep,t,ho,hex,hd,T⟩,_⟩:=I.aF p _ hp;let e:es.size=n:=by rw[T.num,hl]
 calc call_len_set ho hex hd T.fits ⋯ ⟨.int n,H,I.tok _,⟨_,by rw[e]⟩,q⟩
theorem IS:∀{bs:-Bool}{ah:-B},Vals (bs.map V.bl) ah->ah=bs.map q27
 |[],_,.nil=>Y
 |_::_,_,.cons r rs=>by cases r;rw[IS rs];rfl
theorem all_range(bs:-Bool):(q0s bs.length).all (λi=>bs.getD i θ)=bs.all id:=by
 rw[q3r,q0T,q0T]
 constructor
 .ext h b hb
  let⟨i,hi⟩:=q0i.mp hb;let hl:=(tU.mp hi).1;let:=h i (q0G.mpr hl);rw[HX,hi] at this;exact this
 .ext h i hi
  let hl:=q0G.mp hi;rw[HX,rN hl];calc h _ (q1W hl)
theorem RG(hc:X.calm=θ):g9 X (.builtin "all") (λxs H Q=>∃(l:O)(bs:-Bool),xs=[.ref l]/\bh X.K H l (bs.map V.bl)/\Q (.bl (bs.all id)) H):=by
 ext pins s σ H xs us Q I r h;let⟨l,bs,rfl,hq,q⟩:=h;let⟨u,rfl,rx⟩:=vals1 r;cases rx
 let⟨ah,r',pl,_⟩:=I.list hq;obtain rfl:=IS r';let hL:=pl.isList;let ll:l<⇑s:=by let⟨o,e,_⟩:=hL;exact Qj e
 let nI:l≠⇑s:=ZN ll;calc call_all_walk (q2w hL ?_);refine⟨⇑s,_,_,_,_,_,λi=>bs.getD i θ,Y,q6m (by rw[q2O];calc I.ok.hd hc) ⇑s l nI _,⟨⟨_,ZI _ Y,Y,Y⟩,hL.push _⟩,λi v s' Q' E' hv yf=>?_,λh' tk kp=>?_⟩
 .let hv:(bs.map q27).toArray[i]?=U v:=hv
  let yf:Q' (bs.getD i θ) s':=yf;rw[q1M,Qi] at hv;let⟨b,eb,rfl⟩:=ZM.mp hv;rw[HX,eb] at yf;exact q2d yf
 .refine⟨.bl (bs.all id),H,I.kept (t':=tk) λb o e=>kp b o (λz=>?_) (rM _ e),?_,q⟩
  .let:=Qj e
   rw[q0l.mp z] at this;exact q2a _ this
  .show q27 _=q27 _
   rw[HW,rO,all_range]
end
end L2
namespace LJ
open PySem L2
structure Fn(P:n)(w:Q)(K:xY)(mg:R->Option B)(base:I)(k:Nat)(x:R)(ps:-R)(sp:Sp)(f:O)(fd:FuncData):Prop where
 ok:bK P w K mg base fJ k f fd ps sp
 yg:mg x=U (.ref f)
 kp:q08 K (.ref f)=θ
 bd:Binds K fd ps []
theorem vR:bootBuiltins "bool" = U (.type "bool"):=by decide +kernel
theorem yh:bootBuiltins "int" = U (.type "int"):=by decide +kernel
theorem IT:bootBuiltins "str" = U (.type "str"):=by decide +kernel
theorem tY:bootBuiltins "tuple" = U (.type "tuple"):=by decide +kernel
theorem tZ:bootBuiltins "list" = U (.type "list"):=by decide +kernel
theorem IU:bootBuiltins "set" = U (.type "set"):=by decide +kernel
theorem RH:bootBuiltins "all" = U (.builtin "all"):=by decide +kernel
section
variable{K:xY}
end
structure gK(many:Int)(ys:-(Int×Int×Int)):Prop where
 m1:1<=many
 mZ:many<=12
 kr:↑ys<=30
 ends:∀y∈ys,0<=y.1/\y.1<y.2.1/\y.2.1<many/\0<=y.2.2/\y.2.2<=1000000000
 unlike:(ys.map λy=>(y.1,y.2.1)).Nodup
end LJ
namespace L2
open PySem PySem.Spec PyProof.Rows
section
variable{X:Cx}
end
end L2
namespace LJ
open PySem L2
noncomputable def jw:Nat->-(Int×Int)
 |0=>[]
 |n+1=>jw n++(q0s n).map λa:Nat=>(q7e a,q7e n)
theorem B2:∀{n:Nat}{k:Int×Int},k∈jw n->0<=k.1/\k.1<k.2/\k.2<n
 |0,_,h=>nomatch h
 |n+1,k,h=>by
  rcases q0U.mp h with h|h
  .let:=B2 h;symm
  .let⟨a,ha,rfl⟩:=q0t.mp h
   let:=q0G.mp ha;refine⟨q6r a,?_,?_⟩
   .show (a:Int)<(n:Int);symm
   .show (n:Int)<((n+1:Nat):Int);symm
theorem IV:∀n:Nat,(jw n).Nodup
 |0=>q25
 |n+1=>by
  refine q1p.mpr ⟨IV n,?_,λk h1 k' h2 e=>?_⟩
  .refine q3G.mpr (q3V.imp λ{a b} ne e=>ne ?_)
   exact q4W (congrArg q94 e)
  .subst e
   let⟨a,ha,rfl⟩:=q0t.mp h2;let:=(B2 h1).2.2;let:(n:Int)<(n:Int):=this;symm
theorem IW:∀n:Nat,n<=12->↑(jw n)<=66:=by
 ext n h;rcases n with _|_|_|_|_|_|_|_|_|_|_|_|_|n
 all_goals first|decide|symm
end LJ
namespace LJ
open PySem
theorem IX{j n:Nat}(h:j<n):seqIndex? (j:Int) n=U j:=by
 unfold seqIndex?
 first|(simp;symm)|skip
end LJ
namespace L2
open PySem PySem.Spec PyProof.Rows
section
variable{X:Cx}
theorem IY:g9 X (.type "range") (λxs H Q=>∃j:Int,xs=[.int j]/\∀r,H r=Z->Q (.ref r) (upd H r (.rng 0 j))):=by
 ext pins s σ H xs us Q I r h;let⟨j,rfl,q⟩:=h;let⟨u,rfl,t,rfl⟩:=vals1 r;calc call_range_1 ⟨.ref ⇑s,_,I.laid (t':=s.toks+1+1) (o:=.rng 0 j) (λb o e=>rM _ e) (BA _) ?_,Y,q _ (I.aF.fresh (BA _))⟩;calc⟨_,_,_,ZI _ Y⟩
noncomputable def bY(n:Nat):-Int:=(q0s n).map λa:Nat=>(a:Int)
theorem IZ:∀{ns:-Int}{us:-B},↑us=ns.length->(∀(i:Nat)(u:B),us[i]?=U u->∃t,u=.int (ns.getD i 0) t)->Vals (ns.map V.int) us
 |[],[],_,_=>.nil
 |[],_::_,h,_=>by simp at h
 |_::_,[],h,_=>by simp at h
 |n::ns,u::us,h,g=>by
  let⟨t,e⟩:=g 0 u Y;calc .cons ⟨t,e⟩ (IZ h⁻¹ λi v e2=>?_);let⟨t,e⟩:=g (i+1) v e2⁻¹;calc⟨t,by simpa using e⟩
theorem I0(hc:X.calm=θ):g9 X (.type "list") (λxs H Q=>∃(r:O)(n:Nat),xs=[.ref r]/\H r=U (.rng 0 (n:Int))/\n<=1000/\∀l,H l=Z->Q (.ref l) (upd H l (.lst ((bY n).map V.int)))):=by
 ext pins s σ H xs us Q I r h;let⟨a,n,rfl,ha,hn,q⟩:=h;let⟨u,rfl,rx⟩:=vals1 r;cases rx
 let⟨t,u,v,e⟩:=(show ∃t u v,s.heap.get? a=U {cls:=.type "range",data:=.fields #[.int 0 t,.int (n:Int) u,.int 1 v]} from I.aF a _ ha);let hs:q41 0 (n:Int) 1=n:=by rw[q8n];split<;>symm
 calc call_list_range (n:=n) (I.ok.hd hc) e (small_one ⋯ ⋯ ⋯ ⋯) hs ⋯ λh' tk acc c' kp e' it=>?_;calc⟨.ref ⇑s,_,I.laid (t':=tk) (o:=.lst ((bY n).map V.int)) kp (BA _) ?_,Y,q _ (I.aF.fresh (BA _))⟩;calc⟨q1t (qg (by rw[rO,bY,rO,q0Z];calc hn)),acc.toList,c',?_,by simpa using e'⟩;refine IZ ?_ λi u e=>?_
 .rw[HZ,it.1,bY,rO,q0Z]
 .rw[q0p] at e
  let⟨t',e2⟩:=it.2 i u e;let hi:i<n:=by rw[<-it.1];exact(q07.mp e).1
  calc⟨t',e2.trans ?_⟩;rw[bY,HX,Qi,q1a hi];show q1l (0+(i:Int)*1) t'=q1l (i:Int) t';rw[q82,q9W]
theorem B3:∀{us:-B}{ns:-Int},IntsAre us ns->Vals (ns.map V.int) us
 |_,_,.nil=>.nil
 |_,_,.cons n t r=>.cons ⟨t,Y⟩ (B3 r)
theorem RI:g9 X (.builtin "sorted") (λxs H Q=>∃(l:O)(ns:-Int),xs=[.ref l]/\bh X.K H l (ns.map V.int)/\ns.length<64/\∀(r:O)(eO:-Int),eO.Perm ns->eO.Pairwise (· <= ·)->H r=Z->Q (.ref r) (upd H r (.lst (eO.map V.int)))):=by
 ext pins s σ H xs us Q I r h;let⟨l,ns,rfl,hq,iK,q⟩:=h;let⟨u,rfl,rx⟩:=vals1 r;cases rx
 let⟨ah,r',pl,_⟩:=I.list hq;let hl:=↑r';rw[rO] at hl;calc sorted_ints pl.isList (intsAre_of r')⁻¹ ⋯ λout eO hI pm pw=>?_;let hf:H (⇑s+1)=Z:=I.aF.fresh (q38 _);let⟨e,he⟩:=sortedAll_at s.heap ah out;calc⟨.ref (⇑s+1),_,I.laid (t':=s.toks) (o:=.lst (eO.map V.int)) (λb o e=>sortedAll_old e) (q38 _) ?_,Y,q _ eO pm pw hf⟩;calc⟨q1t (qg (by rw[rO,pm.length_eq];symm)),out.toList,e,B3 hI,?_⟩;simpa[seqObj] using he
theorem I_{prog:n}{w:ω}{A:q}{E:aJ}{I l:O}{items:Array B}(W:Walks prog w A I [I,l] [I] items.size (λi v=>items[i]?=U v) (λi h=>h.IsListIter I l i/\h.IsList l items)):
  ∀(k i:Nat)(s:L)(Q:-B->L->Prop),i+k<=items.size->(s.heap.IsListIter I l i/\s.heap.IsList l items) →
   (∀h' tk,(h'.IsListIter I l (i+k)/\h'.IsList l items)->(∀b o,b∉[I]->s.heap.get? b=U o->h'.get? b=U o)->Q ((items.toList.drop i).take k) {s with heap:=h',toks:=tk})->G (ς prog w) A (draw (.ref I) k) Q E s
 |0,i,s,Q,_,st,g=>by
  show G _ _ (pure []) Q E s;calc vw ?_;let:=g s.heap s.toks st λ_ _ _ e=>e;rw[q4C] at this;exact this
 |k+1,i,s,Q,hk,st,g=>by
  let hi:i<items.size:=by symm
  show G _ _ (pyNext (.ref I) >>= _) Q E s;calc oj (W.item i s _ _ hi st λv h1 lF hv iP t6=>?_);refine oj (q0B (I_ W k (i+1) _ _ ⋯ iP λh2 B4 jf qY=>vw ?_))
  let e:items.toList.drop i=v::items.toList.drop (i+1):=by
   rw[q0V (by rw[HZ];calc hi)];congr 1;let Ja:items[i]?=U v:=hv;rw[ZL hi] at Ja;simpa using Ja
  let:=g h2 B4 (by rw[show i+(k+1)=i+1+k by symm];calc jf) λb o hb e=>qY b o hb (t6 b o hb e);rw[e,q53] at this;calc this
theorem RJ{prog:n}{w:ω}{A:q}{E:aJ}{s:L}{l:O}{items:Array B}{Q:-B->L->Prop}(hh:A.handled=Z)(hl:s.heap.IsList l items)
  (g:∀h' tk,(∀b o,b≠⇑s->s.heap.get? b=U o->h'.get? b=U o)->Q items.toList {s with heap:=h',toks:=tk}):G (ς prog w) A (unpackItems (.ref l) items.size Z) Q E s:=by
 let ll:l<⇑s:=by let⟨o,e,_⟩:=hl;exact Qj e
 let W:=q6m (prog:=prog) (w:=w) hh ⇑s l (ZN ll) items;unfold unpackItems;calc oj ?_;unfold notIterableAtAll;calc oj (q5k hl.typeIs slot_list_iter.lookup (vw ?_));erw[q0a,q0X];calc oj (q0B (q2w hl ?_));calc oj (q0B (I_ W items.size 0 _ _ ⋯ ⟨⟨_,ZI _ Y,Y,Y⟩,hl.push _⟩ λh1 lF iP t6=>?_));rw[q3F,q04 (by rw[HZ];calc BA _),ZJ (by rw[HZ];calc q2a _)];rw[q0J] at iP;calc oj (q0B (W.done _ _ _ iP λh2 B4 qY=>?_));erw[Option.isSome_none,q0a,q0X];calc vw (g h2 B4 λb o hb e=>qY b o hb⁻¹ (t6 b o hb⁻¹ (rM _ e)))
def RK(K:xY)(n:Nat)(t:kB):TG:=λv σ H Q=>∃a xs,v=.ref a/\bh K H a xs/\↑xs=n/\t xs σ H Q
theorem RL{es:-M}{k:Nat}{t:kB}{n:Nat}{pos:y}(hc:X.calm=θ)(h:ji X es t)
  (hn:↑(assignEach es X.env)=n:=by rfl) (g8:(assignEach es X.env).findIdx? (·.1)=Z:=by rfl):JG X (.Tuple es k pos) (RK X.K n t):=by
 calc⟨?_⟩;ext pins s σ H v u Q I r hw;let⟨a,xs,e1,hq,hl,hw⟩:=hw;subst e1;cases r
 let⟨ah,rv,ht,hz⟩:=I.list hq;let hlen:=↑rv;rw[assign_Tuple];calc oj (q2V ?_);unfold unpack;rw[g8,show↑(assignEach es X.env)=ah.toArray.size by rw[hn,<-hl,hlen];simp];calc oj (q0B (RJ (I.ok.hd hc) ht.isList λh' tk kp=>?_));let I1:Inv X pins σ H {s with heap:=h',toks:=tk}:=I.kept λb o e=>kp b o (ZN (Qj e)) e;calc h pins _ σ H xs _ Q I1 rv⁻¹ hw
end
theorem RM(ah:-B):slicePick ah.toArray Z Z (U (-1))=ah.reverse.toArray:=by
 unfold slicePick;congr 1
 let e:sliceBounds Z Z (U (-1)) ah.toArray.size=((↑ah:Int)-1,-1,-1):=by
  unfold sliceBounds;simp
 rw[e];unfold sliceRange;simp only
 let ec:(if(-1:Int)>0 then(if(↑ah:Int)-1 < -1 then(-1-((↑ah:Int)-1) + -1-1) / -1 else 0) else(if(↑ah:Int)-1 > -1 then((↑ah:Int)-1 - -1 - -1-1) / (-( -1:Int)) else 0))=(↑ah:Int):=by
  rw[ZJ (by decide)];split
  .rw[show(-( -1:Int):Int)=1 by decide,q6O];symm
  .omega
 rw[ec,q0x];rw[q4s]
 let hc:∀(n:Nat),(∀k∈q0s n,k<↑ah)->(q0s n).filterMap ((λk:Nat=>ah.toArray[k]?)∘λk:Nat=>((↑ah:Int)-1 + -1*(k:Int)).toNat)=(q0s n).map λk=>ah.getD (↑ah-1-k) .none:=by
  ext n hn;generalize hr:q0s n=l at hn;clear hr
  induction l with
  |nil=>rfl
  |cons k l ih =>
   let hk:=hn k (Qk ..);let e1:((↑ah:Int)-1 + -1*(k:Int)).toNat=↑ah-1-k:=by symm
   let hl:↑ah-1-k<↑ah:=by symm
   rw[List.filterMap_cons_some (b:=ah.getD (↑ah-1-k) .none),q0o,ih λx hx=>hn x (Qm _ hx)];show ah.toArray[((↑ah:Int)-1 + -1*(k:Int)).toNat]?=_;rw[e1,q1M,rN hl,HX,rN hl];rfl
 rw[hc ↑ah λk hk=>q0G.mp hk];calc List.ext_getElem (by simp) λi h1 h2=>?_;rw[q3e,List.getElem_range,List.getElem_reverse];let hi:i<↑ah:=by simpa using h1
 rw[HX,rN ⋯];rfl
section
variable{X:Cx}{e:M}{te:TE}{pos p2 p3 p4:y}
theorem B5:∀{xs:-V}{us:-B},Vals xs us->Vals xs.reverse us.reverse
 |[],_,.nil=>.nil
 |x::xs,_,.cons r rs=>by
  rw[q3P,q3P];calc Vals.append (B5 rs) (.cons r .nil)
end
inductive DV where
 |p (d:D)|o (k:Nat)|t (d:D) (k:Nat)
inductive OV where
 |lst (ds:-D)|dct (aq:-(Key×D))|dtt (aq:-(-Int×Int))
structure ay where
 sl:-(Option DV)
 mu:-(Option OV)
def fS(F:Hp):-(Key×D)->-(Key×V)->Prop
 |[],ws=>ws=[]
 |kd::r,ws=>∃v t,ws=(kd.1,v)::t/\Is F kd.2 v/\fS F r t
def fY(F:Hp):OV->HO->Prop
 |.lst ds,o=>∃vs,o=.lst vs/\ae F ds vs
 |.dct aq,o=>∃ws,o=.dK ws/\fS F aq ws
 |.dtt aq,o=>o=.dT (aq.map λp=>(p.1.map q4L,V.int p.2))
theorem fS.same{F F':Hp}(s:av F F'):∀{gn:-(Key×D)}{ws:-(Key×V)},fS F gn ws->fS F' gn ws
 |[],_,h=>h
 |_::_,_,⟨v,t,e,h1,h2⟩=>⟨v,t,e,h1.same s,fS.same s h2⟩
theorem fY.same{F F':Hp}(s:av F F'):∀{ov:OV}{o:HO},fY F ov o->fY F' ov o
 |.lst _,_,⟨vs,e,h⟩=>⟨vs,e,h.same s⟩
 |.dct _,_,⟨ws,e,h⟩=>⟨ws,e,h.same s⟩
 |.dtt _,_,e=>e
def eg(F:Hp)(ad:-O):DV->V->Prop
 |.p d,v=>Is F d v
 |.o k,v=>∃a,ad[k]?=U a/\v=.ref a
 |.t d k,v=>∃a b u,v=.ref a/\F a=U (.tup [u,.ref b])/\Is F d u/\ad[k]?=U b
def Lv(ad:-O)(mu:-(Option OV))(a:O):Prop:=∃(k:Nat)(ov:OV),ad[k]?=U a/\mu[k]?=U (U ov)
class aC where
 ad:-O
 ok:Hp->Prop
 same:∀{H H':Hp},ok H->av H H'->ok H'
 put:∀{H:Hp}{a:O}{o o':HO},ok H->H a=U o->((∃vs,o=.lst vs)\/(∃ws,o=.dK ws)\/∃ws,o=.dT ws)->ok (upd H a o')
 tb:∀{H:Hp}{a:O},ok H->a∈ad->∃ps,H a=U (.tbl ps)
theorem fY.kind{F:Hp}:∀{ov:OV}{o:HO},fY F ov o->(∃vs,o=.lst vs)\/(∃ws,o=.dK ws)\/∃ws,o=.dT ws
 |.lst _,_,⟨vs,e,_⟩=>.inl ⟨vs,e⟩
 |.dct _,_,⟨ws,e,_⟩=>.inr (.inl ⟨ws,e⟩)
 |.dtt _,_,e=>.inr (.inr ⟨_,e⟩)
variable[aC]
structure SR(F:Hp)(ad:-O)(δ:ay)(σ:St)(H:Hp):Prop where
 sub:av F H
 off:∀a,Lv ad δ.mu a->F a=Z
 cJ:↑ad=↑δ.mu
 inj:∀(k l:Nat)(a:O)(ov ow:OV),ad[k]?=U a->ad[l]?=U a->δ.mu[k]?=U (U ov)->δ.mu[l]?=U (U ow)->k=l
 mu:∀(k:Nat)(ov:OV),δ.mu[k]?=U (U ov)->∃a o,ad[k]?=U a/\H a=U o/\fY F ov o
 sl:∀(i:Nat)(x:DV),δ.sl[i]?=U (U x)->∃v,σ[i]?=U (U v)/\eg F ad x v
 len:↑σ=↑δ.sl
 tab:aC.ok H
 nt:∀a∈aC.ad,F a=Z
structure Ext(F:Hp)(ad:-O)(mu:-(Option OV))(H:Hp)(F':Hp)(ax:-O)(dh:-(Option OV))(H':Hp):Prop where
 same:av F F'
 new:∀a o,F' a=U o->F a=U o\/H a=Z\/Lv ad mu a
 keep:∀a o,H a=U o->¬ Lv ad mu a->a∉aC.ad->H' a=U o
 pre:∀(k:Nat)(a:O),ad[k]?=U a->ax[k]?=U a
 b8:∀a,Lv ax dh a->Lv ad mu a\/H a=Z
 jx:∀a o,H a=U o->∃o',H' a=U o'
section
variable{F F' Jb H H' kF:Hp}{ad ax vS:-O}{mu dh vT:-(Option OV)}{δ:ay}{σ:St}
theorem bL{H:Hp}{a:O}{o:HO}(h:H a=Z):av H (upd H a o):=λb u e=>by rw[aA (bR e h)];calc e
theorem Ext.refl:Ext F ad mu H F ad mu H:=⟨λ_ _ e=>e,λ_ _ e=>.inl e,λ_ _ e _ _=>e,λ_ _ e=>e,λ_ e=>.inl e,λ_ o e=>⟨o,e⟩⟩
theorem Ext.trans(x:Ext F ad mu H F' ax dh H')(y:Ext F' ax dh H' Jb vS vT kF):Ext F ad mu H Jb vS vT kF where
 same:=x.same.trans y.same
 new:=λa o e=>by
  rcases y.new a o e with h|h|h
  .exact x.new a o h
  .refine .inr (.inl ?_)
   cases q:H a with
   |none=>rfl
   |some u=>let⟨u',h'⟩:=x.jx a u q;rw[h] at h';cases h'
  .rcases x.b8 a h with h|h
   .exact .inr (.inr h)
   .exact .inr (.inl h)
 keep:=λa o e n t=>y.keep a o (x.keep a o e n t) (λl=>by
  rcases x.b8 a l with h|h
  .exact n h
  .rw[e] at h;cases h) t
 pre:=λk a e=>y.pre k a (x.pre k a e)
 b8:=λa l=>by
  rcases y.b8 a l with h|h
  .exact x.b8 a h
  .refine .inr ?_
   cases q:H a with
   |none=>rfl
   |some u=>let⟨u',h'⟩:=x.jx a u q;rw[h] at h';cases h'
 jx:=λa o e=>let⟨o1,e1⟩:=x.jx a o e;y.jx a o1 e1
theorem eg.ext{x:DV}{v:V}(h:eg F ad x v)(e:Ext F ad mu H F' ax dh H'):eg F' ax x v:=by
 cases x with
 |p d=>exact Is.same e.same h
 |o k=>let⟨a,h1,h2⟩:=h;exact⟨a,e.pre k a h1,h2⟩
 |t d k=>let⟨a,b,u,h1,h2,h3,h4⟩:=h;calc⟨a,b,u,h1,e.same _ _ h2,h3.same e.same,e.pre k b h4⟩
theorem eg.same{x:DV}{v:V}(h:eg F ad x v)(s:av F F'):eg F' ad x v:=by
 cases x with
 |p d=>exact Is.same s h
 |o k=>exact h
 |t d k=>let⟨a,b,u,h1,h2,h3,h4⟩:=h;calc⟨a,b,u,h1,s _ _ h2,h3.same s,h4⟩
theorem eg.pre{cn:-O}{x:DV}{v:V}(h:eg F ad x v)(s:∀k a,ad[k]?=U a->x=.o k\/(∃d,x=.t d k)->cn[k]?=U a):eg F cn x v:=by
 cases x with
 |p d=>exact h
 |o k=>let⟨a,h1,h2⟩:=h;exact⟨a,s k a h1 (.inl Y),h2⟩
 |t d k=>let⟨a,b,u,h1,h2,h3,h4⟩:=h;calc⟨a,b,u,h1,h2,h3,s k b h4 (.inr ⟨d,Y⟩)⟩
noncomputable def Nw(F H H':Hp):Hp:=λa=>match H a with
 |none=>H' a
 |some _=>F a
theorem Nw.same(s:av F H):av F (Nw F H H'):=λa o e=>by
 unfold Nw;rw[s a o e];calc e
theorem Nw.sub(s:av F H)(k:av H H'):av (Nw F H H') H':=λa o e=>by
 unfold Nw at e
 cases q:H a with
 |none=>rw[q] at e;exact e
 |some u=>rw[q] at e;calc k a o (s a o e)
theorem Nw.upd{p:O}{o:HO}(s:av F H)(hp:H p=Z):Nw F H (upd H p o)=upd F p o:=by
 funext a;unfold Nw L2.upd
 by_cases c:a=p
 .subst c;rw[hp,ZK Y];simp
 .rw[ZJ c,ZJ c]
  cases q:H a with
  |none =>
   cases q2:F a with
   |none=>rfl
   |some u=>rw[s a u q2] at q;cases q
  |some u=>rfl
theorem Nw.refl(s:av F H):Nw F H H=F:=by
 funext a;unfold Nw
 cases q:H a with
 |none =>
  cases q2:F a with
  |none=>rfl
  |some u=>rw[s a u q2] at q;cases q
 |some u=>rfl
theorem SR.al(S:SR F ad δ σ H)(k:av H H'):SR (Nw F H H') ad δ σ H':=by
 let sm:=Nw.same (H':=H') S.sub;refine⟨Nw.sub S.sub k,λa l=>?_,S.cJ,S.inj,λi ov e=>?_,λi x e=>?_,S.len,aC.same S.tab k,λa ha=>by let⟨ps,q⟩:=aC.tb S.tab ha;unfold Nw;rw[q];calc S.nt a ha⟩
 .let⟨i,ov,e1,e2⟩:=l
  let⟨a',o,e3,e4,_⟩:=S.mu i ov e2;rw[e1] at e3;cases e3;unfold Nw;rw[e4];exact S.off a ⟨i,ov,e1,e2⟩
 .let⟨a,o,e1,e2,h⟩:=S.mu i ov e
  exact⟨a,o,e1,k a o e2,h.same sm⟩
 .let⟨v,e1,h⟩:=S.sl i x e
  calc⟨v,e1,h.same sm⟩
theorem Ext.al(S:SR F ad δ σ H)(k:av H H'):Ext F ad δ.mu H (Nw F H H') ad δ.mu H' where
 same:=Nw.same S.sub
 new:=λa o e=>by
  unfold Nw at e
  cases q:H a with
  |none=>exact .inr (.inl Y)
  |some u=>rw[q] at e;exact .inl e
 keep:=λa o e _ _=>k a o e
 pre:=λ_ _ e=>e
 b8:=λ_ l=>.inl l
 jx:=λa o e=>⟨o,k a o e⟩
theorem SR.own{p:O}{o:HO}{ov:OV}(S:SR F ad δ σ H)(hp:H p=Z)(h:fY F ov o):SR F (ad++[p]) ⟨δ.sl,δ.mu++[U ov]⟩ σ (upd H p o):=by
 let old:∀{k:Nat}{w:OV},(δ.mu++[U ov])[k]?=U (U w)->(k<↑δ.mu/\δ.mu[k]?=U (U w))\/(k=↑δ.mu/\w=ov):=λ{k w} e=>by
  by_cases c:k<↑δ.mu
  .rw[q0g c] at e;exact .inl ⟨c,e⟩
  .let hl:=(tU.mp e).1
   rw[Ql,q0F] at hl;let ek:k=↑δ.mu:=by symm
   subst ek;rw[q0h (BA _),q1m] at e;exact .inr ⟨Y,by simpa using e.symm⟩
 let pre:∀{k:Nat},k<↑δ.mu->(ad++[p])[k]?=ad[k]?:=λ{k} c=>q0g (by rw[S.cJ];calc c);let last:(ad++[p])[↑δ.mu]?=U p:=by rw[<-S.cJ,q0h (BA _),q1m];rfl
 let np:∀{k:Nat}{a:O}{w:OV},ad[k]?=U a->δ.mu[k]?=U (U w)->a≠p:=λ{k a w} e1 e2=>by
  let⟨a',u,e3,e4,_⟩:=S.mu k w e2;rw[e1] at e3;cases e3;exact bR e4 hp
 refine⟨λa u e=>?_,λa l=>?_,by rw[Ql,Ql,S.cJ];rfl,λk l a w w' e1 e2 e3 e4=>?_,λk w e=>?_,λi x e=>?_,S.len,aC.same S.tab (bL hp),S.nt⟩
 .let:=S.sub a u e
  rw[aA (bR this hp)];exact this
 .let⟨k,w,e1,e2⟩:=l
  rcases old e2 with⟨c,e3⟩|⟨c,e3⟩
  .rw[pre c] at e1;exact S.off a ⟨k,w,e1,e3⟩
  .subst c;rw[last] at e1;cases e1
   cases q:F p with
   |none=>rfl
   |some u=>rw[S.sub p u q] at hp;cases hp
 .rcases old e3 with⟨c,q⟩|⟨c,q⟩
  .rw[pre c] at e1
   rcases old e4 with⟨c',q'⟩|⟨c',q'⟩
   .rw[pre c'] at e2;exact S.inj k l a w w' e1 e2 q q'
   .subst c';rw[last] at e2;cases e2;exact absurd Y (np e1 q)
  .subst c;rw[last] at e1;cases e1
   rcases old e4 with⟨c',q'⟩|⟨c',q'⟩
   .rw[pre c'] at e2;exact absurd Y (np e2 q')
   .exact c'.symm
 .rcases old e with⟨c,q⟩|⟨c,q⟩
  .let⟨a,u,e1,e2,h'⟩:=S.mu k w q
   exact⟨a,u,by rw[pre c];calc e1,by rw[aA (np e1 q)];calc e2,h'⟩
  .subst c;subst q;exact⟨p,o,last,bj,h⟩
 .let⟨v,e1,h'⟩:=S.sl i x e
  calc⟨v,e1,h'.pre λk a e2 _=>by rw[q0g (tU.mp e2).1];calc e2⟩
theorem Ext.own{p:O}{o:HO}{ov:OV}(S:SR F ad δ σ H)(hp:H p=Z):Ext F ad δ.mu H F (ad++[p]) (δ.mu++[U ov]) (upd H p o) where
 same:=λ_ _ e=>e
 new:=λ_ _ e=>.inl e
 keep:=λa u e _ _=>by rw[aA (bR e hp)];exact e
 pre:=λk a e=>by rw[q0g (tU.mp e).1];exact e
 b8:=λa l=>by
  let⟨k,w,e1,e2⟩:=l
  by_cases c:k<↑δ.mu
  .rw[q0g c] at e2
   rw[q0g (by rw[S.cJ];calc c)] at e1;exact .inl ⟨k,w,e1,e2⟩
  .let hl:=(tU.mp e2).1
   rw[Ql,q0F] at hl;let ek:k=↑ad:=by rw[S.cJ];symm
   subst ek;rw[q0h (BA _),q1m] at e1;let:p=a:=by simpa using e1
   subst this;exact .inr hp
 jx:=λa u e=>⟨u,by rw[aA (bR e hp)];calc e⟩
theorem SR.put{k:Nat}{a:O}{o:HO}{ov ow:OV}(S:SR F ad δ σ H)(hk:δ.mu[k]?=U (U ow))(ha:ad[k]?=U a)(h:fY F ov o):SR F ad ⟨δ.sl,δ.mu.set k (U ov)⟩ σ (upd H a o):=by
 let kl:=(tU.mp hk).1
 let old:∀{l:Nat}{w:OV},(δ.mu.set k (U ov))[l]?=U (U w)->(l≠k/\δ.mu[l]?=U (U w))\/(l=k/\w=ov):=λ{l w} e=>by
  by_cases c:k=l
  .subst c;rw[q0R kl] at e;exact .inr ⟨Y,by simpa using e.symm⟩
  .rw[q0Y c] at e;exact .inl ⟨λz=>c z.symm,e⟩
 let lv:∀{l:Nat}{w:OV}{b:O},ad[l]?=U b->(δ.mu.set k (U ov))[l]?=U (U w)->Lv ad δ.mu b:=λ{l w b} e1 e2=>by
  rcases old e2 with⟨_,q⟩|⟨c,_⟩
  .exact⟨l,w,e1,q⟩
  .subst c;exact⟨l,ow,e1,hk⟩
 let tk:aC.ok (upd H a o):=by
  let⟨a',u,e1,e2,h'⟩:=S.mu k ow hk;rw[ha] at e1;cases e1;exact aC.put S.tab e2 h'.kind
 refine⟨λb u e=>?_,λb l=>?_,by rw[q1G];calc S.cJ,λl l' b w w' e1 e2 e3 e4=>?_,λl w e=>?_,λi x e=>?_,S.len,tk,S.nt⟩
 .let nb:b≠a:=λz=>by
   subst z;rw[S.off b ⟨k,ow,ha,hk⟩] at e;cases e
  rw[aA nb];exact S.sub b u e
 .let⟨l,w,e1,e2⟩:=l
  exact S.off b (lv e1 e2)
 .let h1:∃w,δ.mu[l]?=U (U w):=by
   rcases old e3 with⟨_,q⟩|⟨c,_⟩
   .exact⟨_,q⟩
   .subst c;exact⟨_,hk⟩
  let h2:∃w,δ.mu[l']?=U (U w):=by
   rcases old e4 with⟨_,q⟩|⟨c,_⟩
   .exact⟨_,q⟩
   .subst c;exact⟨_,hk⟩
  let⟨w1,q1⟩:=h1;let⟨w2,q2⟩:=h2;exact S.inj l l' b _ _ e1 e2 q1 q2
 .rcases old e with⟨c,q⟩|⟨c,q⟩
  .let⟨b,u,e1,e2,h'⟩:=S.mu l w q
   let nb:b≠a:=λz=>by subst z;exact c (S.inj l k b _ _ e1 ha q hk)
   exact⟨b,u,e1,by rw[aA nb];calc e2,h'⟩
  .subst c;subst q;exact⟨a,o,ha,bj,h⟩
 .calc S.sl i x e
theorem Ext.put{k:Nat}{a:O}{o:HO}{ov ow:OV}(S:SR F ad δ σ H)(hk:δ.mu[k]?=U (U ow))(ha:ad[k]?=U a):Ext F ad δ.mu H F ad (δ.mu.set k (U ov)) (upd H a o) where
 same:=λ_ _ e=>e
 new:=λ_ _ e=>.inl e
 keep:=λb u e n _=>by rw[aA λz=>n (by subst z;calc⟨k,ow,ha,hk⟩)];exact e
 pre:=λ_ _ e=>e
 b8:=λb l=>by
  let⟨l,w,e1,e2⟩:=l
  by_cases c:k=l
  .subst c;exact .inl ⟨k,ow,e1,hk⟩
  .rw[q0Y c] at e2;exact .inl ⟨l,w,e1,e2⟩
 jx:=λb u e=>by
  by_cases c:b=a
  .subst c;exact⟨o,bj⟩
  .calc⟨u,by rw[aA c];calc e⟩
theorem SR.fix{k:Nat}{a:O}{o:HO}{ow:OV}(S:SR F ad δ σ H)(hk:δ.mu[k]?=U (U ow))(ha:ad[k]?=U a)(ho:H a=U o):SR (upd F a o) ad ⟨δ.sl,δ.mu.set k Z⟩ σ H:=by
 let kl:=(tU.mp hk).1;let fa:=S.off a ⟨k,ow,ha,hk⟩;let sm:av F (upd F a o):=λb u e=>by rw[aA (bR e fa)];exact e
 let old:∀{l:Nat}{w:OV},(δ.mu.set k Z)[l]?=U (U w)->l≠k/\δ.mu[l]?=U (U w):=λ{l w} e=>by
  by_cases c:k=l
  .subst c;rw[q0R kl] at e;cases e
  .rw[q0Y c] at e;exact⟨λz=>c z.symm,e⟩
 refine⟨λb u e=>?_,λb l=>?_,by rw[q1G];calc S.cJ,λl l' b w w' e1 e2 e3 e4=>S.inj l l' b w w' e1 e2 (old e3).2 (old e4).2,λl w e=>?_,λi x e=>?_,S.len,S.tab,λb hb=>?_⟩
 .by_cases c:b=a
  .subst c;rw[bj] at e;cases e;exact ho
  .rw[aA c] at e;exact S.sub b u e
 .let⟨l,w,e1,e2⟩:=l
  let⟨c,q⟩:=old e2;let nb:b≠a:=λz=>by subst z;exact c (S.inj l k b _ _ e1 ha q hk)
  rw[aA nb];exact S.off b ⟨l,w,e1,q⟩
 .let⟨b,u,e1,e2,h'⟩:=S.mu l w (old e).2
  exact⟨b,u,e1,e2,h'.same sm⟩
 .let⟨v,e1,h'⟩:=S.sl i x e
  exact⟨v,e1,h'.same sm⟩
 .let⟨ps,q⟩:=aC.tb S.tab hb
  let nb:b≠a:=λz=>by
   subst z;let⟨a',u,e1,e2,h'⟩:=S.mu k ow hk;rw[ha] at e1;cases e1;rw[q] at e2;cases e2;rcases h'.kind with⟨_,z⟩|⟨_,z⟩|⟨_,z⟩<;>cases z
  rw[aA nb];calc S.nt b hb
theorem Ext.fix{k:Nat}{a:O}{o:HO}{ow:OV}(S:SR F ad δ σ H)(hk:δ.mu[k]?=U (U ow))(ha:ad[k]?=U a):Ext F ad δ.mu H (upd F a o) ad (δ.mu.set k Z) H where
 same:=λb u e=>by rw[aA (bR e (S.off a ⟨k,ow,ha,hk⟩))];exact e
 new:=λb u e=>by
  by_cases c:b=a
  .subst c;exact .inr (.inr ⟨k,ow,ha,hk⟩)
  .rw[aA c] at e;exact .inl e
 keep:=λb u e _ _=>e
 pre:=λ_ _ e=>e
 b8:=λb l=>by
  let⟨l,w,e1,e2⟩:=l
  by_cases c:k=l
  .subst c;rw[q0R (tU.mp hk).1] at e2;cases e2
  .rw[q0Y c] at e2;exact .inl ⟨l,w,e1,e2⟩
 jx:=λb u e=>⟨u,e⟩
theorem SR.set{i:Nat}{x:DV}{v:V}(S:SR F ad δ σ H)(h:eg F ad x v):SR F ad ⟨δ.sl.set i (U x),δ.mu⟩ (σ.set i (U v)) H:=by
 refine⟨S.sub,S.off,S.cJ,S.inj,S.mu,λj y e=>?_,by rw[q1G,q1G];calc S.len,S.tab,S.nt⟩
 by_cases c:i=j
 .subst c
  let hl:=(tU.mp e).1;rw[q1G] at hl;rw[q0R hl] at e;cases e
  exact⟨v,q0R (by rw[S.len];calc hl),h⟩
 .rw[q0Y c] at e
  let⟨w,e1,h1⟩:=S.sl j y e;calc⟨w,by rw[q0Y c];calc e1,h1⟩
end
abbrev WE:=ay->(DV->ay->Prop)->Prop
abbrev WA:=ay->(-DV->ay->Prop)->Prop
abbrev WT:=ay->(Bool->ay->Prop)->Prop
def dO(F:Hp)(ad:-O):-DV->-V->Prop
 |[],vs=>vs=[]
 |x::xs,vs=>∃v r,vs=v::r/\eg F ad x v/\dO F ad xs r
theorem dO.ext{F F' H H':Hp}{ad ax:-O}{mu dh:-(Option OV)}(e:Ext F ad mu H F' ax dh H'):∀{xs:-DV}{vs:-V},dO F ad xs vs->dO F' ax xs vs
 |[],_,h=>h
 |_::_,_,⟨v,r,q,h1,h2⟩=>⟨v,r,q,h1.ext e,dO.ext e h2⟩
def tD(f:WE):TE:=fun σ H Q=>∃F ad δ K,SR F ad δ σ H/\f δ K/\∀x δ',K x δ'->∀v F' ax H',Ext F ad δ.mu H F' ax δ'.mu H'->SR F' ax δ' σ H'->eg F' ax x v->Q v H'
def bM(f:WA):TA:=fun σ H Q=>∃F ad δ K,SR F ad δ σ H/\f δ K/\∀xs δ',K xs δ'->∀vs F' ax H',Ext F ad δ.mu H F' ax δ'.mu H'->SR F' ax δ' σ H'->dO F' ax xs vs->Q vs H'
def cO(f:WT):TT:=fun σ H Q=>∃F ad δ K,SR F ad δ σ H/\f δ K/\∀b δ',K b δ'->∀F' ax H',Ext F ad δ.mu H F' ax δ'.mu H'->SR F' ax δ' σ H'->Q b H'
def gA(F H:Hp):D->V->Prop
 |.lst ds,v=>∃a vs,v=.ref a/\H a=U (.lst vs)/\ae F ds vs
 |d,v=>Is F d v
def fw(x:DV)(δ:ay)(K:D->Prop):Prop:=match x with
 |.p d=>K d
 |.o k=>match δ.mu[k]? with
  |some (some (.lst ds))=>K (.lst ds)
  |_=>False
 |.t _ _=>False
theorem gA.of{F H:Hp}(s:av F H):∀{d:D}{v:V},Is F d v->gA F H d v
 |.lst _,_,h=>by
  erw[Is] at h;let⟨a,vs,e,h1,h2⟩:=h;exact⟨a,vs,e,s _ _ h1,h2⟩
 |.tup _,_,h=>h
 |.non,_,h=>h
 |.bl _,_,h=>h
 |.int _,_,h=>h
 |.str _,_,h=>h
theorem gA.is{F H:Hp}(s:av F H):∀{d:D}{v:V},gA F H d v->Is H d v
 |.lst _,_,h=>by
  let⟨a,vs,e,h1,h2⟩:=h;erw[Is];exact⟨a,vs,e,h1,h2.same s⟩
 |.tup _,_,h=>Is.same s h
 |.non,_,h=>Is.same s h
 |.bl _,_,h=>Is.same s h
 |.int _,_,h=>Is.same s h
 |.str _,_,h=>Is.same s h
theorem iw{F H:Hp}{ad:-O}{δ:ay}{σ:St}{x:DV}{v:V}{K:D->Prop}(S:SR F ad δ σ H)(hv:eg F ad x v)(h:fw x δ K):∃d,K d/\gA F H d v:=by
 cases x with
 |p d=>exact⟨d,h,gA.of S.sub hv⟩
 |o k =>
  unfold fw at h;dsimp only at h;split at h
  .rename_i ds e
   let⟨a,e1,rfl⟩:=hv;let⟨a',o,e2,e3,vs,rfl,h4⟩:=S.mu k _ e;rw[e1] at e2;cases e2;exact⟨_,h,a,vs,Y,e3,h4⟩
  .exact h.elim
 |t _ _=>calc h.elim
def jW:-DV->ay->(-D->Prop)->Prop
 |[],_,K=>K []
 |x::xs,δ,K=>fw x δ λd=>jW xs δ λds=>K (d::ds)
def iX(F H:Hp):-D->-V->Prop
 |[],vs=>vs=[]
 |d::ds,vs=>∃v r,vs=v::r/\gA F H d v/\iX F H ds r
theorem vU{F H:Hp}{ad:-O}{δ:ay}{σ:St}(S:SR F ad δ σ H):∀{xs:-DV}{vs:-V}{K:-D->Prop},dO F ad xs vs->jW xs δ K->∃ds,K ds/\iX F H ds vs
 |[],_,_,hv,h=>⟨[],h,hv⟩
 |x::xs,_,_,⟨v,r,rfl,h1,h2⟩,h=>by
  let⟨d,h',rd⟩:=iw S h1 h;let⟨ds,t7,lG⟩:=vU S h2 h';calc⟨d::ds,t7,v,r,Y,rd,lG⟩
abbrev Made(F H:Hp)(K:D->Prop)(Q:VK):Prop:=∀z v H',K z->av H H'->Is (Nw F H H') z v->Q v H'
def e8(X:Cx)(f:B->B->Sem B)(g:D->D->(D->Prop)->Prop):Prop :=
 dA X f λx y H Q=>∃F d e K,av F H/\gA F H d x/\gA F H e y/\g d e K/\Made F H K Q
def Jc(X:Cx)(g:D->D->(D->Prop)->Prop):Prop :=
 vp X λx y H Q=>∃F d e K,av F H/\gA F H d x/\gA F H e y/\g d e K/\Made F H K Q
def cW(X:Cx)(f:B)(g:-D->(D->Prop)->Prop):Prop :=
 g9 X f λxs H Q=>∃F ds K,av F H/\iX F H ds xs/\g ds K/\Made F H K Q
def d2(f g:WE)(op:D->D->(D->Prop)->Prop):WE:=fun δ K=>f δ λx δ1=>g δ1 λy δ2=>fw x δ2 λd=>fw y δ2 λe=>op d e λz=>K (.p z) δ2
def d1(f:WE)(op:D->(D->Prop)->Prop):WE:=fun δ K=>f δ λx δ1=>fw x δ1 λd=>op d λz=>K (.p z) δ1
def dN(f:WA)(op:-D->(D->Prop)->Prop):WE:=fun δ K=>f δ λxs δ1=>jW xs δ1 λds=>op ds λz=>K (.p z) δ1
def dC(d:D):WE:=fun δ K=>K (.p d) δ
def aa(i:Nat):WE:=fun δ K=>match δ.sl[i]? with
 |some (some x)=>K x δ
 |_=>False
def af:WA:=fun δ K=>K [] δ
def ag(f:WE)(g:WA):WA:=fun δ K=>f δ λx δ1=>g δ1 λxs δ2=>K (x::xs) δ2
section
variable{X:Cx}{a b c:M}{f g h:WE}{fa:WA}{pos:y}
theorem vV{e:M}{d:D}{v:V}(h:JE X e (tC v))(hi:∀F,Is F d v):JE X e (tD (dC d)):=h.weak fun σ H Q h0_=>el7 h0_ λF ad δ K S q k =>k _ _ q _ _ _ _ .refl S (hi F)
theorem dB{i j pos}:JE X (.Constant (.int i) j pos) (tD (dC (.int i))):=vV k_ λ_=>Y
theorem t8{i j pos}:JE X (.Constant (.bool i) j pos) (tD (dC (.bl i))):=vV AD λ_=>Y
theorem vW{j pos}:JE X (.Constant .none j pos) (tD (dC .non)):=vV OB λ_=>Y
theorem yi{x j pos}:JE X (.Constant (.str x) j pos) (tD (dC (.str x))):=vV uV λ_=>Y
theorem RN{x:R}{i:Int}{u:B}{pos:y}(hg:Gl X x)(hm:X.mg x=U u)(r:RelV (.int i) u)(hd:bx x:=by decide):JE X (.Name x pos) (tD (dC (.int i))):=vV (AE hg hm r hd) λ_=>Y
theorem dv(i:Nat){x:R}{pos:y}(hN:X.N[i]?=U x:=by rfl)(hv:tL X.env.scope x:=by first|exact q3C Y|exact q65 (q3C Y)|calc q65 (q65 Y))
  (hd:bx x:=by decide) (e7:(x==("__classdict__" : R))=ι:=by decide):JE X (.Name x pos) (tD (aa i)) :=
 (Hc hN hv hd e7).weak fun σ H Q h0_=>el7 h0_ λF ad δ K S q k =>by
  unfold aa at q;split at q
  .rename_i x e
   let⟨v,e1,h1⟩:=S.sl i x e;exact⟨v,e1,k _ _ q _ _ _ _ .refl S h1⟩
  .calc q.elim
theorem yj{r:R2}{ta tb:TE}{op:D->D->(D->Prop)->Prop}(hr:∀x y H Q,(∃F d e K,av F H/\gA F H d x/\gA F H e y/\op d e K/\Made F H K Q)->r x y H Q):∀σ H Q,tD (d2 f g op) σ H Q->vb r (tD f) (tD g) σ H Q:=by
 ext σ H Q ⟨F,ad,δ,K,S,q,k⟩;calc⟨F,ad,δ,_,S,q,λx δ1 h1 v1 F1 aN H1 E1 S1 V1=>⟨F1,aN,δ1,_,S1,h1,λy δ2 h2 v2 F2 cn H2 E2 S2 V2=>hr _ _ _ _ ?_⟩⟩;let⟨d,h3,rd⟩:=iw S2 (V1.ext E2) h2;let⟨e,h4,re⟩:=iw S2 V2 h3;calc⟨F2,d,e,_,S2.sub,rd,re,h4,λz v H' hz sm is=>k _ _ hz _ _ _ _ ((E1.trans E2).trans (Ext.al S2 sm)) (S2.al sm) is⟩
theorem fZ{op:Operator}{o:D->D->(D->Prop)->Prop}(ho:e8 X (binaryOp op) o)(ha:JE X a (tD f))(hb:JE X b (tD g)):JE X (.BinOp a op b pos) (tD (d2 f g o)) :=
 (rB ho ha hb).weak (yj (ta:=tD f) (tb:=tD g) λ_ _ _ _ h=>h)
theorem ot{op:CmpOp}{o:D->D->(D->Prop)->Prop}(ho:e8 X (compareOp op) o)(ha:JE X a (tD f))(hb:JE X b (tD g))(hm:behindInMarks op b=ι):JE X (.Compare a [op] [b] pos) (tD (d2 f g o)) :=
 (Pg ho ha hb hm).weak (yj (ta:=tD f) (tb:=tD g) λ_ _ _ _ h=>h)
theorem lH{o:D->D->(D->Prop)->Prop}(ho:Jc X o)(ha:JE X a (tD f))(hb:JE X b (tD g))(hs:HI b):JE X (.Subscript a b pos) (tD (d2 f g o)) :=
 (xV ho ha hb hs).weak (yj (ta:=tD f) (tb:=tD g) λ_ _ _ _ h=>h)
theorem dP:JA X [] (bM af):=aY.weak fun σ H Q h0_=>el7 h0_ λF ad δ K S q k =>k _ _ q _ _ _ _ .refl S Y
theorem rT:∀σ H Q,bM (ag f fa) σ H Q->jl (tD f) (bM fa) σ H Q:=by
 ext σ H Q ⟨F,ad,δ,K,S,q,k⟩;calc⟨F,ad,δ,_,S,q,λx δ1 h1 v1 F1 aN H1 E1 S1 V1=>⟨F1,aN,δ1,_,S1,h1,λxs δ2 h2 vs F2 cn H2 E2 S2 V2=>k _ _ h2 _ _ _ _ (E1.trans E2) S2 ⟨v1,vs,Y,V1.ext E2,V2⟩⟩⟩
theorem jy{e:M}{es:-M}(ha:JE X e (tD f))(hr:JA X es (bM fa))(hs:dI X e es:=by rfl):JA X (e::es) (bM (ag f fa)):=(jm ha hr hs).weak rT
theorem dQ{es:-M}{c j p}(ha:JE X (.Constant c j p) (tD f))(hr:JA X es (bM fa)):JA X (.Constant c j p::es) (bM (ag f fa)):=(iV ha hr).weak rT
theorem bT{es:-M}{x p}(ha:JE X (.Name x p) (tD f))(hr:JA X es (bM fa)):JA X (.Name x p::es) (bM (ag f fa)):=(jT ha hr).weak rT
theorem lJ{es:-M}{x y k p}(ha:JE X (.Call x y k p) (tD f))(hr:JA X es (bM fa)):JA X (.Call x y k p::es) (bM (ag f fa)):=(jU ha hr).weak rT
theorem ou{es:-M}{x p}(ha:JE X (.List x p) (tD f))(hr:JA X es (bM fa)):JA X (.List x p::es) (bM (ag f fa)):=(BU ha hr).weak rT
theorem oy{es:-M}{x k p}(ha:JE X (.Tuple x k p) (tD f))(hr:JA X es (bM fa)):JA X (.Tuple x k p::es) (bM (ag f fa)):=(BV ha hr).weak rT
theorem gM{es:-M}{x k p}(ha:JE X (.Subscript x k p) (tD f))(hr:JA X es (bM fa)):JA X (.Subscript x k p::es) (bM (ag f fa)):=(rS ha hr).weak rT
theorem Jd{r:-V->Hp->VK->Prop}{op:-D->(D->Prop)->Prop}(hr:∀xs H Q,(∃F ds K,av F H/\iX F H ds xs/\op ds K/\Made F H K Q)->r xs H Q):∀σ H Q,tD (dN fa op) σ H Q->xS r (bM fa) σ H Q:=by
 ext σ H Q ⟨F,ad,δ,K,S,q,k⟩;calc⟨F,ad,δ,_,S,q,λxs δ1 h1 vs F1 aN H1 E1 S1 V1=>hr _ _ _ ?_⟩;let⟨ds,h2,lG⟩:=vU S1 V1 h1;calc⟨F1,ds,_,S1.sub,lG,h2,λz v H' hz sm is=>k _ _ hz _ _ _ _ (E1.trans (Ext.al S1 sm)) (S1.al sm) is⟩
theorem oz{x:R}{p:y}{e:M}{es:-M}{id:String}{o:-D->(D->Prop)->Prop}(hc:cW X (.builtin id) o)(hg:Gl X x)(hm:X.mg x=Z)(hv:bootBuiltins x=U (.builtin id))(ha:JA X (e::es) (bM fa))(hn:x≠"__name__" := by decide)(cS:bx x:=by decide)
  (he:dI X e es:=by rfl) (cU:eS X pos es:=by rfl):JE X (.Call (.Name x p) (e::es) [] pos) (tD (dN fa o)) :=
 (vi hc hg hm hv ha hn cS he cU).weak (Jd λ_ _ _ h=>h)
theorem B6{x:R}{p:y}{e:M}{es:-M}{T:String}{o:-D->(D->Prop)->Prop}(hc:cW X (.type T) o)(hg:Gl X x)(hm:X.mg x=Z)(hv:bootBuiltins x=U (.type T))(ha:JA X (e::es) (bM fa))(hn:x≠"__name__" := by decide)(cS:bx x:=by decide)
  (he:dI X e es:=by rfl) (cU:eS X pos es:=by rfl):JE X (.Call (.Name x p) (e::es) [] pos) (tD (dN fa o)) :=
 (qa hc hg hm hv ha hn cS he cU).weak (Jd λ_ _ _ h=>h)
end
noncomputable def Je(k:Nat)(ds:-D):Option DV->Option DV
 |some (.o j)=>if j=k then U (.p (.lst ds)) else U (.o j)
 |some (.t d j)=>if j=k then Z else U (.t d j)
 |s=>s
noncomputable def ay.fix(δ:ay)(k:Nat)(ds:-D):ay:=⟨δ.sl.map (Je k ds),δ.mu.set k Z⟩
def oA(x:DV)(δ:ay)(K:D->ay->Prop):Prop:=match x with
 |.p d=>K d δ
 |.o k=>match δ.mu[k]? with
  |some (some (.lst ds))=>K (.lst ds) (δ.fix k ds)
  |_=>False
 |.t _ _=>False
def jX:-DV->ay->(-D->ay->Prop)->Prop
 |[],δ,K=>K [] δ
 |x::xs,δ,K=>oA x δ λd δ1=>jX xs δ1 λds δ2=>K (d::ds) δ2
section
variable{F F' H H':Hp}{ad ax:-O}{δ δ':ay}{σ σ':St}
theorem SR.fixed{k:Nat}{a:O}{vs:-V}{ds:-D}(S:SR F ad δ σ H)(hk:δ.mu[k]?=U (U (.lst ds)))(ha:ad[k]?=U a)(ho:H a=U (.lst vs))(hi:ae F ds vs):SR (upd F a (.lst vs)) ad (δ.fix k ds) σ H:=by
 let S1:=S.fix hk ha ho;let sm:av F (upd F a (.lst vs)):=(Ext.fix (o:=.lst vs) S hk ha).same;calc⟨S1.sub,S1.off,S1.cJ,S1.inj,S1.mu,λi x e=>?_,by rw[S.len];unfold ay.fix;rw[rO],S1.tab,S1.nt⟩;unfold ay.fix at e;rw[Qi] at e;let⟨s,e1,e2⟩:=ZM.mp e
 match s,e2 with
 |none,e2=>cases e2
 |some (.p d),e2 =>
  cases(show U (DV.p d)=U x from e2)
  exact S1.sl i _ e1
 |some (.t d j),e2 =>
  let e3:(if j=k then Z else U (DV.t d j))=U x:=e2
  by_cases c:j=k
  .rw[ZK c] at e3;cases e3
  .rw[ZJ c] at e3;cases e3;exact S1.sl i _ e1
 |some (.o j),e2 =>
  let e3:(if j=k then U (DV.p (.lst ds)) else U (DV.o j))=U x:=e2;clear e2;let⟨v,h1,a',h2,h3⟩:=S.sl i _ e1
  by_cases c:j=k
  .rw[ZK c] at e3
   subst c;cases e3
   rw[ha] at h2;cases h2;calc⟨v,h1,?_⟩;show Is _ (.lst ds) v;erw[Is];exact⟨a,vs,h3,bj,hi.same sm⟩
  .rw[ZJ c] at e3
   cases e3
   calc⟨v,h1,a',h2,h3⟩
theorem vX{x:DV}{v:V}{K:D->ay->Prop}(S:SR F ad δ σ H)(hv:eg F ad x v)(h:oA x δ K):∃d δ' F',K d δ'/\Ext F ad δ.mu H F' ad δ'.mu H/\SR F' ad δ' σ H/\Is F' d v:=by
 cases x with
 |p d=>exact⟨d,δ,F,h,.refl,S,hv⟩
 |o k =>
  unfold oA at h;dsimp only at h;split at h
  .rename_i ds e
   let⟨a,e1,rfl⟩:=hv;let⟨a',o,e2,e3,vs,rfl,h4⟩:=S.mu k _ e;rw[e1] at e2;cases e2;calc⟨_,_,_,h,Ext.fix S e e1,S.fixed e e1 e3 h4,?_⟩;erw[Is];exact⟨a,vs,Y,bj,h4.same (Ext.fix (o:=.lst vs) S e e1).same⟩
  .exact h.elim
 |t _ _=>calc h.elim
theorem yk:∀{xs:-DV}{vs:-V}{δ:ay}{F:Hp}{K:-D->ay->Prop},SR F ad δ σ H->dO F ad xs vs->jX xs δ K->∃ds δ' F',K ds δ'/\Ext F ad δ.mu H F' ad δ'.mu H/\SR F' ad δ' σ H/\ae F' ds vs
 |[],_,δ,F,_,S,hv,h=>⟨[],δ,F,h,.refl,S,by erw[ae];calc hv⟩
 |x::xs,_,δ,F,_,S,⟨v,r,e,h1,h2⟩,h=>by
  subst e;let⟨d,δ1,F1,h',E1,S1,i1⟩:=vX S h1 h;let⟨ds,δ2,F2,t7,E2,S2,i2⟩:=yk S1 (h2.ext E1) h';calc⟨d::ds,δ2,F2,t7,E1.trans E2,S2,.cons (i1.same E2.same) i2⟩
end
def cx(fa:WA):WE:=fun δ K=>fa δ λxs δ1=>jX xs δ1 λds δ2=>↑ds<=1000/\K (.p (.tup ds)) δ2
def bt(fa:WA):WE:=fun δ K=>fa δ λxs δ1=>jX xs δ1 λds δ2=>↑ds<=1000/\K (.p (.lst ds)) δ2
def rV(fa:WA):WE:=fun δ K=>fa δ λxs δ1=>jX xs δ1 λds δ2=>↑ds<=1000/\K (.o ↑δ2.mu) ⟨δ2.sl,δ2.mu++[U (.lst ds)]⟩
section
variable{X:Cx}{a b c:M}{es:-M}{f g h:WE}{fa:WA}{t u:WT}{pos:y}
theorem lK{n:Nat}(h:n<=1000):n<=sizeLine:=q1t (qg h)
theorem qm{x1}(ha:JA X es (bM fa)):JE X (.Tuple es x1 pos) (tD (cx fa)):=(Pw ha).weak fun σ H Q h0_=>el7 h0_ λF ad δ K S q k =>
 ⟨F,ad,δ,_,S,q,λxs δ1 h1 vs F1 aN H1 E1 S1 V1=>by
  let⟨ds,δ2,F2,⟨hl,h2⟩,E2,S2,i2⟩:=yk S1 V1 h1;calc⟨lK (by rw[↑i2];calc hl),λp hp=>?_⟩;let sm:av H1 (upd H1 p (.tup vs)):=bL hp;calc k _ _ h2 _ _ _ _ ((E1.trans E2).trans (Ext.al S2 sm)) (S2.al sm) ?_;show Is _ (.tup ds) _;erw[Is];rw[Nw.upd S2.sub hp];refine⟨p,vs,Y,bj,i2.same λb o e=>?_⟩
  rw[aA (bR (S2.sub b o e) hp)];calc e⟩
theorem oB(ha:JA X es (bM fa)):JE X (.List es pos) (tD (bt fa)):=(n6 ha).weak fun σ H Q h0_=>el7 h0_ λF ad δ K S q k =>
 ⟨F,ad,δ,_,S,q,λxs δ1 h1 vs F1 aN H1 E1 S1 V1=>by
  let⟨ds,δ2,F2,⟨hl,h2⟩,E2,S2,i2⟩:=yk S1 V1 h1;calc⟨lK (by rw[↑i2];calc hl),λp hp=>?_⟩;let sm:av H1 (upd H1 p (.lst vs)):=bL hp;calc k _ _ h2 _ _ _ _ ((E1.trans E2).trans (Ext.al S2 sm)) (S2.al sm) ?_;show Is _ (.lst ds) _;erw[Is];rw[Nw.upd S2.sub hp];refine⟨p,vs,Y,bj,i2.same λb o e=>?_⟩
  rw[aA (bR (S2.sub b o e) hp)];calc e⟩
theorem RO(ha:JA X es (bM fa)):JE X (.List es pos) (tD (rV fa)):=(n6 ha).weak fun σ H Q h0_=>el7 h0_ λF ad δ K S q k =>
 ⟨F,ad,δ,_,S,q,λxs δ1 h1 vs F1 aN H1 E1 S1 V1=>by
  let⟨ds,δ2,F2,⟨hl,h2⟩,E2,S2,i2⟩:=yk S1 V1 h1;calc⟨lK (by rw[↑i2];calc hl),λp hp=>?_⟩;let oi:fY F2 (.lst ds) (.lst vs):=⟨vs,Y,i2⟩;refine k _ _ h2 _ _ _ _ ((E1.trans E2).trans (Ext.own S2 hp)) (S2.own hp oi) ⟨p,?_,Y⟩
  rw[<-S2.cJ,q0h (BA _),q1m];rfl⟩
def rW(x:DV)(P:Bool->Prop):Prop:=match x with
 |.p (.bl b)=>P b
 |_=>False
def dT(f:WE):WT:=fun δ K=>f δ λx δ1=>rW x λb=>K b δ1
def iy(t u:WT):WT:=fun δ K=>t δ λb δ1=>if b=θ then u δ1 K else K ι δ1
def iY(t u:WT):WT:=fun δ K=>t δ λb δ1=>if b=θ then K θ δ1 else u δ1 K
def cy(t:WT):WT:=fun δ K=>t δ λb δ1=>K (!b) δ1
def qo(t:WT)(f g:WE):WE:=fun δ K=>t δ λb δ1=>if b=θ then f δ1 K else g δ1 K
def jz(f g:WE):WE:=fun δ K=>f δ λx δ1=>rW x λb=>if b=θ then g δ1 K else K (.p (.bl ι)) δ1
def ym(f:WE):WE:=fun δ K=>f δ λx δ1=>rW x λb=>K (.p (.bl (!b))) δ1
theorem vY{F:Hp}{ad:-O}{x:DV}{v:V}{P:Bool->Prop}(hv:eg F ad x v)(h:rW x P):∃b,v=.bl b/\P b:=by
 unfold rW at h;split at h
 .rename_i b
  exact⟨b,hv,h⟩
 .calc h.elim
theorem qq(ha:JE X a (tD f))(he:∀whole,isTrue a X.env whole=(do let v <- whole;standAt a.pos;holding [v] (truthy v)):=by ext _;rfl):JT X a (cO (dT f)) :=
 (AF ha he).weak fun σ H Q h0_=>el7 h0_ λF ad δ K S q k =>⟨F,ad,δ,_,S,q,λx δ1 h1 v F1 aN H1 E1 S1 V1=>by
  let⟨b,rfl,h2⟩:=vY V1 h1
  calc⟨b,Y,k _ _ h2 _ _ _ E1 S1⟩⟩
theorem iZ{op:CmpOp}{o:D->D->(D->Prop)->Prop}(ho:e8 X (compareOp op) o)(ha:JE X a (tD f))(hb:JE X b (tD g))(hm:behindInMarks op b=ι):JT X (.Compare a [op] [b] pos) (cO (dT (d2 f g o))) :=
 (A3 ho ha hb hm).weak fun σ H Q h0_=>el7 h0_ λF ad δ K S q k =>yj (ta:=tD f) (tb:=tD g) (λ_ _ _ _ h=>h) σ H _ ⟨F,ad,δ,_,S,q,λx δ1 h1 v F1 aN H1 E1 S1 V1=>by
  let⟨b,rfl,h2⟩:=vY V1 h1
  calc⟨b,Y,k _ _ h2 _ _ _ E1 S1⟩⟩
theorem RP(ha:JT X a (cO t)):JT X (.UnaryOp .Not a pos) (cO (cy t)):=(AI ha).weak fun σ H Q h0_=>el7 h0_ λF ad δ K S q k =>⟨F,ad,δ,_,S,q,λb δ1 h1 F1 aN H1 E1 S1=>k _ _ h1 _ _ _ E1 S1⟩
theorem RQ:∀σ H Q,cO (iy t u) σ H Q->uY (cO t) (cO u) σ H Q:=fun σ H Q h0_=>el7 h0_ λF ad δ K S q k =>⟨F,ad,δ,_,S,q,λb δ1 h1 F1 aN H1 E1 S1=>by
 cases b with
 |true =>
  rw[ZK Y] at h1 ⊢;exact⟨F1,aN,δ1,_,S1,h1,λb δ2 h2 F2 cn H2 E2 S2=>k _ _ h2 _ _ _ (E1.trans E2) S2⟩
 |false =>
  rw[ZJ q0b] at h1 ⊢
  calc k _ _ h1 _ _ _ E1 S1⟩
theorem RR:∀σ H Q,cO (iY t u) σ H Q->Hf (cO t) (cO u) σ H Q:=fun σ H Q h0_=>el7 h0_ λF ad δ K S q k =>⟨F,ad,δ,_,S,q,λb δ1 h1 F1 aN H1 E1 S1=>by
 cases b with
 |false =>
  rw[ZJ q0b] at h1 ⊢;exact⟨F1,aN,δ1,_,S1,h1,λb δ2 h2 F2 cn H2 E2 S2=>k _ _ h2 _ _ _ (E1.trans E2) S2⟩
 |true =>
  rw[ZK Y] at h1 ⊢
  calc k _ _ h1 _ _ _ E1 S1⟩
theorem JW.weak{e:M}{t t':TT}(h:JW X e t)(k:∀σ H Q,t' σ H Q->t σ H Q):JW X e t':=⟨λwh pins s σ H Q I q=>h wh pins s σ H Q I (k σ H Q q)⟩
theorem Jf(ha:JT X a (cO t)):JW X (.BoolOp .And [a] pos) (cO t):=OE ha
theorem B7(ha:JT X a (cO t)):JW X (.BoolOp .Or [a] pos) (cO t):=Hg ha
theorem vZ{rest:-M}(ha:JT X a (cO t))(hb:JW X (.BoolOp .And (b::rest) pos) (cO u)):JW X (.BoolOp .And (a::b::rest) pos) (cO (iy t u)):=(OF ha hb).weak RQ
theorem yn{rest:-M}(ha:JT X a (cO t))(hb:JW X (.BoolOp .Or (b::rest) pos) (cO u)):JW X (.BoolOp .Or (a::b::rest) pos) (cO (iY t u)):=(AH ha hb).weak RR
theorem yo{op}(ha:JE X a (tD f)):JE X (.BoolOp op [a] pos) (tD f):=OI ha
theorem v3{rest:-M}(ha:JE X a (tD f))(hb:JE X (.BoolOp .And (b::rest) pos) (tD g)):JE X (.BoolOp .And (a::b::rest) pos) (tD (jz f g)) :=
 (OJ ha hb).weak fun σ H Q h0_=>el7 h0_ λF ad δ K S q k =>⟨F,ad,δ,_,S,q,λx δ1 h1 v F1 aN H1 E1 S1 V1=>by
  let⟨b,rfl,h2⟩:=vY V1 h1;refine⟨b,Y,?_⟩
  cases b with
  |true =>
   rw[ZK Y] at h2 ⊢;exact⟨F1,aN,δ1,_,S1,h2,λx δ2 h3 v F2 cn H2 E2 S2 V2=>k _ _ h3 _ _ _ _ (E1.trans E2) S2 V2⟩
  |false =>
   rw[ZJ q0b] at h2 ⊢
   calc k _ _ h2 _ _ _ _ E1 S1 Y⟩
theorem RS(ha:JE X a (tD f)):JE X (.UnaryOp .Not a pos) (tD (ym f)) :=
 (OK ha).weak fun σ H Q h0_=>el7 h0_ λF ad δ K S q k =>⟨F,ad,δ,_,S,q,λx δ1 h1 v F1 aN H1 E1 S1 V1=>by
  let⟨b,rfl,h2⟩:=vY V1 h1
  calc⟨b,Y,k _ _ h2 _ _ _ _ E1 S1 Y⟩⟩
theorem Jg(hc:JT X c (cO t))(ha:JE X a (tD f))(hb:JE X b (tD g)):JE X (.IfExp c a b pos) (tD (qo t f g)) :=
 (AJ hc ha hb).weak fun σ H Q h0_=>el7 h0_ λF ad δ K S q k =>⟨F,ad,δ,_,S,q,λb δ1 h1 F1 aN H1 E1 S1=>by
  cases b with
  |true =>
   rw[ZK Y] at h1 ⊢;exact⟨F1,aN,δ1,_,S1,h1,λx δ2 h3 v F2 cn H2 E2 S2 V2=>k _ _ h3 _ _ _ _ (E1.trans E2) S2 V2⟩
  |false =>
   rw[ZJ q0b] at h1 ⊢
   calc⟨F1,aN,δ1,_,S1,h1,λx δ2 h3 v F2 cn H2 E2 S2 V2=>k _ _ h3 _ _ _ _ (E1.trans E2) S2 V2⟩⟩
end
structure KS where
 nx:ay->Prop
 rt:DV->ay->Prop
 bk:ay->Prop:=λ_=>False
 ct:ay->Prop:=λ_=>False
abbrev WS:=KS->ay->Prop
def Cn(F:Hp)(ad:-O)(mu:-(Option OV))(H:Hp)(P:ay->Prop)(R:St->Hp->Prop):Prop:=∀δ',P δ'->∀F' ax σ' H',Ext F ad mu H F' ax δ'.mu H'->SR F' ax δ' σ' H'->R σ' H'
class bU where
 ok:Nat->Int->Prop
 kp:-O->-(Option OV)->Hp->Prop
 st:∀{F ad mu H F' ax dh H'},Ext F ad mu H F' ax dh H'->kp ad mu H->kp ax dh H'
instance (priority:=low) RT:bU:=⟨λ_ _=>False,λ_ _ _=>True,λ_ _=>trivial⟩
section
variable[bU]
structure t9(F:Hp)(ad:-O)(mu:-(Option OV))(H:Hp)(K:KS)(D:Ends):Prop where
 nx:Cn F ad mu H K.nx D.nx
 bk:Cn F ad mu H K.bk D.bk
 ct:Cn F ad mu H K.ct D.ct
 rt:∀x δ',K.rt x δ'->∀v F' ax σ' H',Ext F ad mu H F' ax δ'.mu H'->SR F' ax δ' σ' H'->eg F' ax x v->D.rt v H'
 kp:bU.kp ad mu H
theorem Cn.ext{F F' H H':Hp}{ad ax:-O}{mu dh:-(Option OV)}{P:ay->Prop}{R:St->Hp->Prop}(c:Cn F ad mu H P R)(e:Ext F ad mu H F' ax dh H'):Cn F' ax dh H' P R:=fun δ' h _ _ _ _ E S=>c δ' h _ _ _ _ (e.trans E) S
theorem t9.ext{F F' H H':Hp}{ad ax:-O}{mu dh:-(Option OV)}{K:KS}{D:Ends}(c:t9 F ad mu H K D)(e:Ext F ad mu H F' ax dh H'):t9 F' ax dh H' K D :=
 ⟨c.nx.ext e,c.bk.ext e,c.ct.ext e,λx δ' h _ _ _ _ _ E S V=>c.rt x δ' h _ _ _ _ _ (e.trans E) S V,bU.st e c.kp⟩
def cX(G:WS):TS:=λD σ H=>∃F ad δ K,SR F ad δ σ H/\G K δ/\t9 F ad δ.mu H K D
def ak(G G':WS):WS:=λK δ=>G {K with nx:=G' K} δ
def cE:WS:=λK δ=>K.nx δ
def aD(i:Nat)(f:WE):WS:=λK δ=>f δ λx δ1=>K.nx ⟨δ1.sl.set i (U x),δ1.mu⟩
def lM(f:WE):WS:=λK δ=>f δ λ_ δ1=>K.nx δ1
def aE(f:WE):WS:=λK δ=>f δ λx δ1=>K.rt x δ1
def bc(t:WT)(G G':WS):WS:=λK δ=>t δ λb δ1=>if b=θ then G K δ1 else G' K δ1
section
variable{X:Cx}{e c:M}{st:o}{rest:-o}{f:WE}{t:WT}{G G':WS}{pos:y}
theorem m8:cj X [] (cX cE):=jh.weak λD σ H h0_=>el7 h0_ λF ad δ K S q k =>k.nx _ q _ _ _ _ .refl S
theorem jA(h:JS X st (cX G)):cj X [st] (cX G):=nX h
theorem hJ(h:JS X st (cX G))(r:cj X rest (cX G')):cj X (st::rest) (cX (ak G G')) :=
 (tM h r).weak λD σ H h0_=>el7 h0_ λF ad δ K S q k =>⟨F,ad,δ,_,S,q,⟨fun δ' h _ _ _ _ E S'=>⟨_,_,δ',K,S',h,k.ext E⟩,k.bk,k.ct,k.rt,k.kp⟩⟩
theorem RU{i:Nat}:∀D σ H,cX (aD i f) D σ H->dJ (tD f) (jj i) D σ H:=λD σ H h0_=>el7 h0_ λF ad δ K S q k =>⟨F,ad,δ,_,S,q,λx δ1 h1 v F1 aN H1 E1 S1 V1=>k.nx _ h1 _ _ _ _ E1 (S1.set V1)⟩
theorem oC{i:Nat}{x:R}{pos':y}(hN:X.N.Nodup)(hi:X.N[i]?=U x)(hx:Loc X.env.scope x)(he:JE X e (tD f))(hs:swapsWith e (U (.Name x pos')) pos.line X.env=pure ι:=by rfl)
  (hf:fq X x:=by first|exact .inl Y|exact .inr Y|assumption):JS X (.Assign [.Name x pos'] e pos) (cX (aD i f)):=(rq hN hi hx he hs hf).weak RU
theorem RW(he:JE X e (tD f))(hs:swapsWith e Z pos.line X.env=pure ι:=by rfl):JS X (.Expr e pos) (cX (lM f)) :=
 (Hi he hs).weak λD σ H h0_=>el7 h0_ λF ad δ K S q k =>⟨F,ad,δ,_,S,q,λx δ1 h1 v F1 aN H1 E1 S1 V1=>k.nx _ h1 _ _ _ _ E1 S1⟩
theorem jY(he:JE X e (tD f)):JS X (.Return (U e) pos) (cX (aE f)) :=
 (u4 he).weak λD σ H h0_=>el7 h0_ λF ad δ K S q k =>⟨F,ad,δ,_,S,q,λx δ1 h1 v F1 aN H1 E1 S1 V1=>k.rt _ _ h1 _ _ _ _ _ E1 S1 V1⟩
theorem m9{a b:-o}(hc:JT X c (cO t))(ha:cj X a (cX G))(hb:cj X b (cX G')):JS X (.If c a b pos) (cX (bc t G G')) :=
 (Hj hc ha hb).weak λD σ H h0_=>el7 h0_ λF ad δ K S q k =>⟨F,ad,δ,_,S,q,λb δ1 h1 F1 aN H1 E1 S1=>by
  cases b with
  |true =>
   rw[ZK Y] at h1 ⊢;exact⟨F1,aN,δ1,K,S1,h1,k.ext E1⟩
  |false =>
   rw[ZJ q0b] at h1 ⊢
   calc⟨F1,aN,δ1,K,S1,h1,k.ext E1⟩⟩
abbrev WG:=DV->ay->(ay->Prop)->Prop
def jB(g:WG):TG:=λv σ H Q=>∃F ad δ x K,SR F ad δ σ H/\eg F ad x v/\g x δ K/\Cn F ad δ.mu H K Q
abbrev rX:=-D->ay->(ay->Prop)->Prop
def oE(g:rX):kB:=λvs σ H Q=>∃F ad δ ds K,SR F ad δ σ H/\ae F ds vs/\g ds δ K/\Cn F ad δ.mu H K Q
def br(i:Nat):WG:=λx δ K=>K ⟨δ.sl.set i (U x),δ.mu⟩
def hU:rX:=λds δ K=>match ds with
 |[]=>K δ
 |_=>False
def eA(g:WG)(g':rX):rX:=λds δ K=>match ds with
 |d::r=>g (.p d) δ fun δ1=>g' r δ1 K
 |[]=>False
theorem JG.weak{tg:M}{t t':TG}(h:JG X tg t)(k:∀v σ H Q,t' v σ H Q->t v σ H Q):JG X tg t':=⟨λpins s σ H v u Q I r q=>h pins s σ H v u Q I r (k v σ H Q q)⟩
theorem ji.weak{ts:-M}{t t':kB}(h:ji X ts t)(k:∀v σ H Q,t' v σ H Q->t v σ H Q):ji X ts t':=⟨λpins s σ H v u Q I r q=>h pins s σ H v u Q I r (k v σ H Q q)⟩
theorem yp{i:Nat}{x:R}(hN:X.N.Nodup)(hi:X.N[i]?=U x)(hx:Loc X.env.scope x)(hf:fq X x:=by first|exact .inl Y|exact .inr Y|assumption):JG X (.Name x pos) (jB (br i)) :=
 (AM hN hi hx hf).weak λv σ H Q ⟨F,ad,δ,x,K,S,V,q,k⟩↦k _ q _ _ _ _ .refl (S.set V)
theorem Jh:ji X [] (oE hU):=jk.weak λvs σ H Q ⟨F,ad,δ,ds,K,S,V,q,k⟩↦by
 unfold hU at q;split at q
 .erw[ae] at V
  exact⟨V,k _ q _ _ _ _ .refl S⟩
 .calc q.elim
theorem B8{es:-M}{g:WG}{g':rX}(h1:JG X e (jB g))(h2:ji X es (oE g'))(hs:(assignEach (e::es) X.env).map (·.2)=assign e X.env::(assignEach es X.env).map (·.2):=by rfl):ji X (e::es) (oE (eA g g')) :=
 (AO h1 h2 hs).weak λvs σ H Q ⟨F,ad,δ,ds,K,S,V,q,k⟩↦by
  unfold eA at q;split at q
  .rename_i d r
   erw[ae] at V;let⟨v,r',e,i1,i2⟩:=V;exact⟨v,r',e,F,ad,δ,.p d,_,S,i1,q,fun δ' h _ _ _ _ E S'=>⟨_,_,δ',r,K,S',i2.same E.same,h,k.ext E⟩⟩
  .calc q.elim
def iz(n:Nat)(g:rX):WG:=λx δ K=>fw x δ λd=>match d with
 |.tup ds=>↑ds=n/\g ds δ K
 |.lst ds=>↑ds=n/\g ds δ K
 |_=>False
theorem JG.or{tg:M}{t t':TG}(h:JG X tg t)(h':JG X tg t'):JG X tg (λv σ H Q=>t v σ H Q\/t' v σ H Q):=⟨λpins s σ H v u Q I r q=>q.elim (λq=>h pins s σ H v u Q I r q) λq=>h' pins s σ H v u Q I r q⟩
theorem Ji{es:-M}{k:Nat}{g:rX}{n:Nat}(hc:X.calm=θ)(h:ji X es (oE g))(hn:↑(assignEach es X.env)=n:=by rfl)(g8:(assignEach es X.env).findIdx? (·.1)=Z:=by rfl):JG X (.Tuple es k pos) (jB (iz n g)) :=
 ((Hk hc h hn g8).or (RL hc h hn g8)).weak λv σ H Q ⟨F,ad,δ,x,K,S,V,q,k⟩↦by
  let⟨d,q,rd⟩:=iw S V q;split at q
  .rename_i ds
   let yq:Is F (.tup ds) v:=rd;erw[Is] at yq;let⟨a,vs,e,h1,h2⟩:=yq;exact .inl ⟨a,vs,e,bz.of (S.sub _ _ h1),by rw[↑h2];calc q.1,F,ad,δ,ds,K,S,h2,q.2,k⟩
  .rename_i ds
   let⟨a,vs,e,h1,h2⟩:=rd;exact .inr ⟨a,vs,e,bh.of h1,by rw[↑h2];calc q.1,F,ad,δ,ds,K,S,h2,q.2,k⟩
  .calc q.elim
def i5(f:WE)(g:WG):WS:=λK δ=>f δ λx δ1=>g x δ1 K.nx
theorem RX{tg:M}{g:WG}(he:JE X e (tD f))(hg:JG X tg (jB g))(hs:swapsWithSole [tg] e pos.line X.env=pure ι:=by rfl)(hw:swappedStores [tg] e X.env=pure Z:=by rfl)
  (h1:(assignEach [tg] X.env).map (·.2)=[assign tg X.env]:=by rfl):JS X (.Assign [tg] e pos) (cX (i5 f g)) :=
 (AR he hg hs hw h1).weak λD σ H h0_=>el7 h0_ λF ad δ K S q k =>⟨F,ad,δ,_,S,q,λx δ1 h1 v F1 aN H1 E1 S1 V1=>⟨F1,aN,δ1,x,K.nx,S1,V1,h1,k.nx.ext E1⟩⟩
end
end
structure qr where
 items:-D
 bw:ay->Prop
abbrev WI:=ay->(qr->ay->Prop)->Prop
def rY(F:Hp)(ad:-O)(it:qr)(J:It):Prop:=∀(F':Hp)(ax:-O)(δ:ay)(σ:St)(H:Hp),av F F'->(∀(k:Nat)(a:O),ad[k]?=U a->ax[k]?=U a)->SR F' ax δ σ H->it.bw δ →
 J.stop ↑it.items H/\∀(i:Nat)(d:D),it.items[i]?=U d->J.go i H/\∀x H',J.tN i H x H'->av H H'/\Is (Nw F' H H') d x
def jC(w:WI):TI:=fun σ H R=>∃F ad δ K,SR F ad δ σ H/\w δ K/\∀it δ',K it δ'->∀J F' ax H',Ext F ad δ.mu H F' ax δ'.mu H'->SR F' ax δ' σ H'->rY F' ax it J->R J H'
noncomputable def yr(n:Nat):Option DV->Option DV->Option DV
 |none,_=>Z
 |some _,some (.o k)=>if k<n then U (.o k) else Z
 |some _,some (.t d k)=>if k<n then U (.t d k) else Z
 |some _,s=>s
noncomputable def gq(n:Nat):-(Option DV)->-(Option DV)->-(Option DV)
 |s0::r0,s::r=>yr n s0 s::gq n r0 r
 |[],_::r=>Z::gq n [] r
 |_,[]=>[]
noncomputable def ay.trim(δ0 δ:ay):ay:=⟨gq ↑δ0.mu δ0.sl δ.sl,δ.mu.take ↑δ0.mu⟩
theorem B9{n:Nat}:∀(l0 l:-(Option DV)),↑(gq n l0 l)=↑l
 |_::r0,_::r=>by rw[gq,HY,HY,B9 r0 r]
 |[],_::r=>by rw[gq,HY,HY,B9 [] r]
 |[],[]=>Y
 |_::_,[]=>Y
theorem B_{n:Nat}:∀{l0 l:-(Option DV)}{i:Nat}{x:DV},(gq n l0 l)[i]?=U (U x)->l[i]?=U (U x)/\∀k,x=.o k\/(∃d,x=.t d k)->k<n
 |s0::r0,s::r,0,x,h=>by
  let h:yr n s0 s=U x:=by simpa[gq] using h
  match s0,s,h with
  |none,_,h=>cases h
  |some _,none,h=>cases h
  |some _,some (.p d),h=>cases(show U (DV.p d)=U x from h);exact⟨Y,λk e=>by rcases e with e|⟨_,e⟩<;>cases e⟩
  |some _,some (.t d k),h =>
   let h:(if k<n then U (DV.t d k) else Z)=U x:=h
   by_cases c:k<n
   .rw[ZK c] at h;cases h;exact⟨Y,λk' e=>by rcases e with e|⟨_,e⟩<;>cases e;calc c⟩
   .rw[ZJ c] at h;cases h
  |some _,some (.o k),h =>
   let h:(if k<n then U (DV.o k) else Z)=U x:=h
   by_cases c:k<n
   .rw[ZK c] at h;cases h;exact⟨Y,λk' e=>by rcases e with e|⟨_,e⟩<;>cases e;calc c⟩
   .rw[ZJ c] at h;cases h
 |s0::r0,s::r,i+1,x,h=>by
  let h:(gq n r0 r)[i]?=U (U x):=by simpa[gq] using h
  simpa using B_ h
 |[],s::r,0,x,h=>by simp[gq] at h
 |[],s::r,i+1,x,h=>by
  let h:(gq n [] r)[i]?=U (U x):=by simpa[gq] using h
  simpa using B_ h
 |[],[],i,x,h=>by simp[gq] at h
 |_::_,[],i,x,h=>by simp[gq] at h
section
variable{F F' H H':Hp}{ad ax:-O}{δ δ' δ0:ay}{σ σ' τ:St}{mu dh:-(Option OV)}{l:O}{o:HO}
theorem Lv.take{n:Nat}{a:O}(h:Lv (ad.take n) (mu.take n) a):Lv ad mu a:=by
 let⟨k,ov,e1,e2⟩:=h
 let hk:k<n:=by
  let:=(tU.mp e1).1;rw[q0y] at this;symm
 rw[q05 hk] at e1 e2;calc⟨k,ov,e1,e2⟩
theorem SR.trim(S:SR F ad δ σ H):SR F (ad.take ↑δ0.mu) (δ0.trim δ) σ H:=by
 let tk:∀{k:Nat}{a:O},(ad.take ↑δ0.mu)[k]?=U a->k<↑δ0.mu/\ad[k]?=U a:=λ{k a} e=>by
  let hk:k<↑δ0.mu:=by
   let:=(tU.mp e).1;rw[q0y] at this;symm
  rw[q05 hk] at e;exact⟨hk,e⟩
 let tm:∀{k:Nat}{w:Option OV},(δ.mu.take ↑δ0.mu)[k]?=U w->k<↑δ0.mu/\δ.mu[k]?=U w:=λ{k w} e=>by
  let hk:k<↑δ0.mu:=by
   let:=(tU.mp e).1;rw[q0y] at this;symm
  rw[q05 hk] at e;exact⟨hk,e⟩
 refine⟨S.sub,λa x=>S.off a x.take,?_,λk l a w w' e1 e2 e3 e4=>S.inj k l a w w' (tk e1).2 (tk e2).2 (tm e3).2 (tm e4).2,λk ov e=>?_,λi x e=>?_,?_,S.tab,S.nt⟩
 .show ↑(ad.take _)=↑(δ.mu.take _)
  rw[q0y,q0y,S.cJ]
 .let⟨a,o,e1,e2,h⟩:=S.mu k ov (tm e).2
  exact⟨a,o,by rw[q05 (tm e).1];calc e1,e2,h⟩
 .let⟨e1,e2⟩:=B_ e
  let⟨v,h1,h2⟩:=S.sl i x e1;exact⟨v,h1,h2.pre λk a h3 z=>by rw[q05 (e2 k z)];calc h3⟩
 .show ↑σ=↑(gq _ _ _)
  rw[B9];calc S.len
theorem Ext.trim{n:Nat}(e:Ext F ad mu H F' ax dh H')(hn:↑ad=n):Ext F ad mu H F' (ax.take n) (dh.take n) H' :=
 ⟨e.same,e.new,e.keep,λk a h=>by rw[q05 (by rw[<-hn];calc(tU.mp h).1)];calc e.pre k a h,λa x=>e.b8 a x.take,e.jx⟩
theorem SR.other(S:SR F ad δ σ H)(hf:F l=Z)(hl:¬ Lv ad δ.mu l)(tk:aC.ok (upd H l o)):SR F ad δ σ (upd H l o):=by
 refine⟨λa u e=>?_,S.off,S.cJ,S.inj,λk ov e=>?_,S.sl,S.len,tk,S.nt⟩
 .rw[aA (bR e hf)];exact S.sub a u e
 .let⟨a,u,e1,e2,h⟩:=S.mu k ov e
  calc⟨a,u,e1,by rw[aA λz=>hl (by subst z;calc⟨k,ov,e1,e⟩)];calc e2,h⟩
theorem Ext.other(e:Ext F ad mu H F' ax dh H')(hl:H l=Z):Ext F ad mu H F' ax dh (upd H' l o) :=
 ⟨e.same,e.new,λa u h n t=>by rw[aA (bR h hl)];calc e.keep a u h n t,e.pre,e.b8,λa u h=>by rw[aA (bR h hl)];calc e.jx a u h⟩
theorem SR.adopt(S:SR F ad δ σ H)(hf:F l=Z)(ho:H l=U o)(hl:¬ Lv ad δ.mu l)(no:∀ps,o≠.tbl ps:=by ext _ z;cases z):SR (upd F l o) ad δ σ H:=by
 let sm:av F (upd F l o):=bL hf
 refine⟨λa u e=>?_,λa x=>?_,S.cJ,S.inj,λk ov e=>?_,λi x e=>?_,S.len,S.tab,λa ha=>by
  let⟨ps,q⟩:=aC.tb S.tab ha;rw[aA λz=>by subst z;rw[ho] at q;calc no ps (q0A q)]
  calc S.nt a ha⟩
 .by_cases c:a=l
  .subst c;rw[bj] at e;cases e;exact ho
  .rw[aA c] at e;exact S.sub a u e
 .rw[aA λz=>hl (by subst z;calc x)];exact S.off a x
 .let⟨a,u,e1,e2,h⟩:=S.mu k ov e
  exact⟨a,u,e1,e2,h.same sm⟩
 .let⟨v,e1,h⟩:=S.sl i x e
  calc⟨v,e1,h.same sm⟩
theorem Ext.adopt(e:Ext F ad mu H F' ax dh H')(hl:H l=Z)(hf:F' l=Z):Ext F ad mu H (upd F' l o) ax dh H' :=
 ⟨e.same.trans (bL hf),λa u h=>by
  by_cases c:a=l
  .subst c;exact .inr (.inl hl)
  .rw[aA c] at h;calc e.new a u h,e.keep,e.pre,e.b8,e.jx⟩
theorem SR.eB{ov:OV}(S:SR F ad δ σ H)(hf:F l=Z)(ho:H l=U o)(hl:¬ Lv ad δ.mu l)(h:fY F ov o):SR F (ad++[l]) ⟨δ.sl,δ.mu++[U ov]⟩ σ H:=by
 let old:∀{k:Nat}{w:OV},(δ.mu++[U ov])[k]?=U (U w)->(k<↑δ.mu/\δ.mu[k]?=U (U w))\/(k=↑δ.mu/\w=ov):=λ{k w} e=>by
  by_cases c:k<↑δ.mu
  .rw[q0g c] at e;exact .inl ⟨c,e⟩
  .let hl:=(tU.mp e).1
   rw[Ql,q0F] at hl;let ek:k=↑δ.mu:=by symm
   subst ek;rw[q0h (BA _),q1m] at e;exact .inr ⟨Y,by simpa using e.symm⟩
 let pre:∀{k:Nat},k<↑δ.mu->(ad++[l])[k]?=ad[k]?:=λ{k} c=>q0g (by rw[S.cJ];calc c);let last:(ad++[l])[↑δ.mu]?=U l:=by rw[<-S.cJ,q0h (BA _),q1m];rfl
 refine⟨S.sub,λa x=>?_,by rw[Ql,Ql,S.cJ];rfl,λk k' a w w' e1 e2 e3 e4=>?_,λk w e=>?_,λi x e=>?_,S.len,S.tab,S.nt⟩
 .let⟨k,w,e1,e2⟩:=x
  rcases old e2 with⟨c,e3⟩|⟨c,e3⟩
  .rw[pre c] at e1;exact S.off a ⟨k,w,e1,e3⟩
  .subst c;rw[last] at e1;cases e1;exact hf
 .rcases old e3 with⟨c,q⟩|⟨c,q⟩
  .rw[pre c] at e1
   rcases old e4 with⟨c',q'⟩|⟨c',q'⟩
   .rw[pre c'] at e2;exact S.inj k k' a w w' e1 e2 q q'
   .subst c';rw[last] at e2;cases e2;exact absurd ⟨k,w,e1,q⟩ hl
  .subst c;rw[last] at e1;cases e1
   rcases old e4 with⟨c',q'⟩|⟨c',q'⟩
   .rw[pre c'] at e2;exact absurd ⟨k',w',e2,q'⟩ hl
   .exact c'.symm
 .rcases old e with⟨c,q⟩|⟨c,q⟩
  .let⟨a,u,e1,e2,h'⟩:=S.mu k w q
   exact⟨a,u,by rw[pre c];calc e1,e2,h'⟩
  .subst c;subst q;exact⟨l,o,last,ho,h⟩
 .let⟨v,e1,h'⟩:=S.sl i x e
  calc⟨v,e1,h'.pre λk a e2 _=>by rw[q0g (tU.mp e2).1];calc e2⟩
theorem Ext.eB{ov:OV}(e:Ext F ad mu H F' ax dh H')(hl:H l=Z)(hm:↑ax=↑dh):Ext F ad mu H F' (ax++[l]) (dh++[U ov]) H' :=
 ⟨e.same,e.new,e.keep,λk a h=>by rw[q0g (tU.mp (e.pre k a h)).1];calc e.pre k a h,λa x=>by
  let⟨k,w,e1,e2⟩:=x
  by_cases c:k<↑dh
  .rw[q0g c] at e2
   rw[q0g (by rw[hm];calc c)] at e1;exact e.b8 a ⟨k,w,e1,e2⟩
  .let gN:=(tU.mp e2).1
   rw[Ql,q0F] at gN;let ek:k=↑ax:=by rw[hm];symm
   subst ek;rw[q0h (BA _),q1m] at e1;let:l=a:=by simpa using e1
   subst this;calc .inr hl,e.jx⟩
theorem SR.back{sl:-(Option DV)}(S0:SR F ad δ σ H)(e:Ext F ad δ.mu H F' ax dh H')(S:SR F' ax ⟨sl,dh⟩ τ H'):SR F' ax ⟨δ.sl,dh⟩ σ H' :=
 ⟨S.sub,S.off,S.cJ,S.inj,S.mu,λi x q=>let⟨v,h1,h2⟩:=S0.sl i x q;⟨v,h1,h2.ext e⟩,S0.len,S.tab,S.nt⟩
noncomputable def cY(cp:-(Option Nat))(sl:-(Option DV)):-(Option DV):=cp.map λo=>match o with
 |some i=>(sl[i]?).join
 |none=>Z
theorem SR.v5{cp:-(Option Nat)}(S:SR F ad δ σ H):SR F ad ⟨cY cp δ.sl,δ.mu⟩ (iJ cp σ) H:=by
 calc⟨S.sub,S.off,S.cJ,S.inj,S.mu,λj x e=>?_,by unfold iJ cY;rw[rO,rO],S.tab,S.nt⟩;unfold cY at e;rw[Qi] at e;let⟨o,e1,e2⟩:=ZM.mp e
 match o,e2 with
 |none,e2=>cases e2
 |some i,e2 =>
  let e2:(δ.sl[i]?).join=U x:=e2
  cases q:δ.sl[i]? with
  |none=>rw[q] at e2;cases e2
  |some z =>
   rw[q] at e2;let e3:z=U x:=e2;subst e3;let⟨v,h1,h2⟩:=S.sl i x q;calc⟨v,?_,h2⟩;unfold iJ;rw[Qi,e1];show U ((σ[i]?).join)=U (U v);rw[h1];rfl
end
def lN(δ0:ay)(bw:ay->Prop)(g:WG)(b:WS)(K:KS):-D->ay->Prop
 |[],δ=>bw δ/\K.nx δ
 |d::r,δ=>bw δ/\g (.p d) δ fun δ1=>b {nx:=fun δ2=>lN δ0 bw g b K r (δ0.trim δ2),ct:=fun δ2=>lN δ0 bw g b K r (δ0.trim δ2),bk:=K.nx,rt:=K.rt} δ1
def cK(w:WI)(g:WG)(b:WS):WS:=λK δ=>w δ λit δ1=>lN δ1 it.bw g b K it.items δ1
def jD(δ0:ay)(bw:ay->Prop)(g:WG)(t:WT)(f:WE)(K:-D->ay->Prop):-D->-D->ay->Prop
 |[],acc,δ=>bw δ/\K acc δ
 |d::r,acc,δ=>bw δ/\g (.p d) δ fun δ1=>t δ1 λb δ2=>if b=θ then f δ2 λx δ3=>oA x δ3 λe δ4=>↑acc<1000/\jD δ0 bw g t f K r (acc++[e]) (δ0.trim δ4) else jD δ0 bw g t f K r acc (δ0.trim δ2)
def e_(w:WI)(cp:-(Option Nat))(g:WG)(t:WT)(f:WE):WE:=fun δ K=>w δ λit δ1=>jD ⟨cY cp δ1.sl,δ1.mu⟩ it.bw g t f (λacc δ'=>K (.p (.lst acc)) ⟨δ1.sl,δ'.mu⟩) it.items [] ⟨cY cp δ1.sl,δ1.mu⟩
def qt(w:WI)(cp:-(Option Nat))(g:WG)(t:WT)(f:WE):WE:=fun δ K=>w δ λit δ1=>jD ⟨cY cp δ1.sl,δ1.mu⟩ it.bw g t f (λacc δ'=>K (.o ↑δ'.mu) ⟨δ1.sl,δ'.mu++[U (.lst acc)]⟩) it.items [] ⟨cY cp δ1.sl,δ1.mu⟩
section
variable{X:Cx}{tg iter elt:M}{body:-o}{w:WI}{g:WG}{b:WS}{pos:y}{ifs:-M}{t:WT}{f:WE}{scope:S}
theorem Jj[bU](hp:PassesOwn (ς X.prog X.w) X.A X.env X.xe)(hc:X.calm=θ)(hi:JI X tg iter (jC w))(hg:JG X tg (jB g))(hb:cj X body (cX b))(hs:∀x,foldedSetIterable iter X.env x=pure x:=by ext _;rfl):
  JS X (.For tg iter body [] pos) (cX (cK w g b)):=(Hq hp hc hi hg hb hs).weak λD σ H h0_=>el7 h0_ λF ad δ K S q k =>by
 calc⟨F,ad,δ,_,S,q,λit δ1 h1 J F1 aN H1 E1 S1 I1=>?_⟩;let k1:=k.ext E1;calc⟨λi m σ' H'=>∃F' ax δ',i+m=↑it.items/\Ext F1 aN δ1.mu H1 F' ax δ'.mu H'/\SR F' ax δ' σ' H'/\lN δ1 it.bw g b K (it.items.drop i) δ',⟨↑it.items,F1,aN,δ1,⋯,.refl,S1,h1⟩,?_⟩;ext i m σ' H' ⟨F',ax,δ',hm,E',S',h⟩
 by_cases cq:i<↑it.items
 .rw[q0V cq] at h
  let⟨ck,h⟩:=h;let⟨go,yl⟩:=(I1 F' ax δ' σ' H' E'.same E'.pre S' ck).2 i _ (rN cq);calc .inr ⟨go,fun σ2 H2=>∃F2 cn δ2,Ext F1 aN δ1.mu H1 F2 cn δ2.mu H2/\SR F2 cn δ2 σ2 H2/\lN δ1 it.bw g b K (it.items.drop (i+1)) δ2,fun σ2 H2 ⟨F2,cn,δ2,e1,e2,e3⟩↦⟨m-1,⋯,F2,cn,δ2,⋯,e1,e2,e3⟩,λx H2 y=>?_⟩;let⟨sm,is⟩:=yl x H2 y;let E2:=E'.trans (Ext.al S' sm);calc⟨_,ax,δ',.p _,_,S'.al sm,is,h,fun δ3 h3 F3 t_ σ3 H3 E3 S3=>?_⟩;let v7:=E2.trans E3;refine⟨F3,t_,δ3,_,S3,h3,⟨fun δ4 h4 F4 yt σ4 H4 E4 S4=>⟨F4,_,_,(v7.trans E4).trim S1.cJ,S4.trim,h4⟩,k1.nx.ext v7,fun δ4 h4 F4 yt σ4 H4 E4 S4=>⟨F4,_,_,(v7.trans E4).trim S1.cJ,S4.trim,h4⟩,(k1.ext v7).rt,(k1.ext v7).kp⟩⟩
 .let ei:i=↑it.items:=by symm
  subst ei;rw[q3O (BA _)] at h;let⟨ck,h⟩:=h;calc .inl ⟨(I1 F' ax δ' σ' H' E'.same E'.pre S' ck).1,k1.nx _ h _ _ _ _ E' S'⟩
def cF:WT:=fun δ K=>K θ δ
theorem JF.weak{ifs:-M}{t t':TT}(h:JF X ifs t)(k:∀σ H Q,t' σ H Q->t σ H Q):JF X ifs t':=⟨λpins s σ H Q I q=>h pins s σ H Q I (k σ H Q q)⟩
theorem Ca:JF X [] (cO cF):=rQ.weak fun σ H Q h0_=>el7 h0_ λF ad δ K S q k =>k _ _ q _ _ _ .refl S
theorem RY{c:M}(h:JT X c (cO t)):JF X [c] (cO t):=Qp h
theorem Jk{J:It}{l:O}{F1:Hp}{aN:-O}{δ1:ay}{σ:St}{H1:Hp}{it:qr}{cp:-(Option Nat)}{Q:VK}{K:-D->ay->Prop}(S1:SR F1 aN δ1 σ H1)(I1:rY F1 aN it J)(hl:H1 l=Z)
  (h:jD ⟨cY cp δ1.sl,δ1.mu⟩ it.bw g t f K it.items [] ⟨cY cp δ1.sl,δ1.mu⟩)
  (fin:∀acc δ' F' ax τ H' ys,K acc δ'->Ext F1 aN δ1.mu H1 F' ax δ'.mu H'->SR F' ax δ' τ H'->H' l=U (.lst ys)->F' l=Z->¬ Lv ax δ'.mu l->ae F' acc ys->Q (.ref l) H') :
  Ib J (jB g) (cO t) (tD f) l (iJ cp σ) (upd H1 l (.lst [])) Q:=by
 let f1:F1 l=Z:=by
  cases q:F1 l with
  |none=>rfl
  |some u=>rw[S1.sub l u q] at hl;cases hl
 let nl:∀{ad mu},(∀a,Lv ad mu a->Lv aN δ1.mu a\/H1 a=Z)->True:=λ_=>trivial
 let l1:¬ Lv aN δ1.mu l:=λ⟨k,ov,e1,e2⟩↦by
  let⟨a,o,e3,e4,_⟩:=S1.mu k ov e2;rw[e1] at e3;cases e3;rw[hl] at e4;cases e4
 let S0:SR F1 aN ⟨cY cp δ1.sl,δ1.mu⟩ (iJ cp σ) (upd H1 l (.lst [])):=S1.v5.other f1 l1 (aC.same S1.tab (bL hl));calc⟨λi m τ H'=>∃F' ax δ' acc ys,i+m=↑it.items/\Ext F1 aN δ1.mu H1 F' ax δ'.mu H'/\SR F' ax δ' τ H'/\H' l=U (.lst ys)/\F' l=Z/\¬ Lv ax δ'.mu l/\ae F' acc ys/\jD ⟨cY cp δ1.sl,δ1.mu⟩ it.bw g t f K (it.items.drop i) acc δ',⟨↑it.items,F1,aN,_,[],[],⋯,Ext.refl.other hl,S0,bj,f1,l1,.nil,h⟩,?_⟩;ext i m τ H' ⟨F',ax,δ',acc,ys,hm,E',S',gN,oF,qu,ia,h⟩
 by_cases cq:i<↑it.items
 .rw[q0V cq] at h
  let⟨ck,h⟩:=h;let⟨go,yl⟩:=(I1 F' ax δ' τ H' E'.same E'.pre S' ck).2 i _ (rN cq)
  let step:∀{F2:Hp}{cn:-O}{Cb:-(Option OV)}{H2:Hp},Ext F' ax δ'.mu H' F2 cn Cb H2->H2 l=U (.lst ys)/\F2 l=Z/\¬ Lv cn Cb l/\ae F2 acc ys:=λ{F2 cn Cb H2} e=>by
   refine⟨e.keep _ _ gN qu (λz=>by let⟨ps,q⟩:=aC.tb S1.tab z;rw[hl] at q;cases q),?_,λz=>?_,ia.same e.same⟩
   .cases q:F2 l with
    |none=>rfl
    |some u =>
     rcases e.new l u q with z|z|z
     .rw[oF] at z;cases z
     .rw[gN] at z;cases z
     .exact absurd z qu
   .rcases e.b8 l z with z|z
    .exact qu z
    .rw[gN] at z;cases z
  refine .inr ⟨go,fun τ2 H2=>∃F2 cn δ2 oG yu,Ext F1 aN δ1.mu H1 F2 cn δ2.mu H2/\SR F2 cn δ2 τ2 H2/\H2 l=U (.lst yu)/\F2 l=Z/\¬ Lv cn δ2.mu l/\ae F2 oG yu/\jD ⟨cY cp δ1.sl,δ1.mu⟩ it.bw g t f K (it.items.drop (i+1)) oG δ2,
   fun τ2 H2 ⟨F2,cn,δ2,oG,yu,r⟩↦⟨m-1,⋯,F2,cn,δ2,oG,yu,⋯,r⟩,λx H2 y=>?_⟩
  let⟨sm,is⟩:=yl x H2 y;let X2:=Ext.al S' sm;calc⟨_,ax,δ',.p _,_,S'.al sm,is,h,fun δ3 h3 F3 t_ σ3 H3 X3 S3=>?_⟩;calc⟨F3,t_,δ3,_,S3,h3,λbb δ4 h4 F4 yt H4 X4 S4=>?_⟩;let Cc:=(X2.trans X3).trans X4
  cases bb with
  |false =>
   dsimp only at h4 ⊢;rw[ZJ q0b] at h4 ⊢;let⟨a1,a2,a3,a4⟩:=step Cc;exact⟨F4,_,_,acc,ys,(E'.trans Cc).trim S1.cJ,S4.trim (δ0:=⟨cY cp δ1.sl,δ1.mu⟩),a1,a2,λz=>a3 z.take,a4,h4⟩
  |true =>
   dsimp only at h4 ⊢;rw[ZK Y] at h4 ⊢;calc⟨F4,yt,δ4,_,S4,h4,λy δ5 h5 v F5 ZU H5 X5 S5 V5=>?_⟩;let⟨e,δ6,F6,⟨hlen,h6⟩,X6,S6,i6⟩:=vX S5 V5 h5;let Jl:=(Cc.trans X5).trans X6;let⟨a1,a2,a3,a4⟩:=step Jl;calc⟨ys,a1,qg (by rw[↑a4];symm),F6,_,_,acc++[e],ys++[v],?_,(S6.other a2 a3 (aC.put S6.tab a1 (.inl ⟨_,Y⟩))).trim (δ0:=⟨cY cp δ1.sl,δ1.mu⟩),bj,a2,λz=>a3 z.take,a4.snoc i6,h6⟩;exact((E'.trans Jl).other hl).trim S1.cJ
 .let ei:i=↑it.items:=by symm
  subst ei;rw[q3O (BA _)] at h;let⟨ck,h⟩:=h;calc .inl ⟨(I1 F' ax δ' τ H' E'.same E'.pre S' ck).1,fin _ _ _ _ _ _ _ h E' S' gN oF qu ia⟩
theorem Jm{cp:-(Option Nat)}:∀σ H Q,tD (e_ w cp g t f) σ H Q->vB (jC w) cp (λ_=>jB g) (λ_=>cO t) (λ_=>tD f) σ H Q:=fun σ H Q h0_=>el7 h0_ λF ad δ K S q k =>by
 calc⟨F,ad,δ,_,S,q,λit δ1 h1 J F1 aN H1 E1 S1 I1=>λd l hl=>?_⟩;calc Jk S1 I1 hl h1 λacc δ' F' ax τ H' ys hk E' S' gN oF qu ia=>?_;let sm:av F' (upd F' l (.lst ys)):=bL oF;calc k _ _ hk _ _ _ _ (E1.trans (E'.adopt hl oF)) (SR.back (sl:=δ'.sl) S1 (E'.adopt hl oF) (S'.adopt oF gN qu)) ?_;show Is _ (.lst acc) _;erw[Is];calc⟨l,ys,Y,bj,ia.same sm⟩
theorem RZ{cp:-(Option Nat)}:∀σ H Q,tD (qt w cp g t f) σ H Q->vB (jC w) cp (λ_=>jB g) (λ_=>cO t) (λ_=>tD f) σ H Q:=fun σ H Q h0_=>el7 h0_ λF ad δ K S q k =>by
 calc⟨F,ad,δ,_,S,q,λit δ1 h1 J F1 aN H1 E1 S1 I1=>λd l hl=>?_⟩;calc Jk S1 I1 hl h1 λacc δ' F' ax τ H' ys hk E' S' gN oF qu ia=>?_;let S2:=S'.eB (ov:=.lst acc) oF gN qu ⟨ys,Y,ia⟩;let E2:=E'.eB (ov:=.lst acc) hl S'.cJ;calc k _ _ hk _ _ _ _ (E1.trans E2) (SR.back (sl:=δ'.sl) S1 E2 S2) ⟨l,?_,Y⟩;rw[<-S'.cJ,q0h (BA _),q1m];rfl
theorem Cd(cp:-(Option Nat))(Nb:-R)(hc:X.calm=θ)(hi:JI X tg iter (jC w))(hg:∀d,JG (cm X scope Nb d) tg (jB g))(hf:∀d,JF (cm X scope Nb d) ifs (cO t))(he:∀d,JE (cm X scope Nb d) elt (tD f))
  (hk:scope.kind=.function:=by rfl) (ho:lq X.N X.env.scope scope Nb cp=θ:=by first|rfl|kernel_rfl) (hs:∀x,foldedSetIterable iter X.env x=pure x:=by ext _;rfl) :
  JE X (.ListComp elt [⟨tg,iter,ifs,0⟩] scope pos) (tD (e_ w cp g t f)):=(Ij cp Nb hc hi hg hf he hk ho hs).weak Jm
theorem R0(cp:-(Option Nat))(Nb:-R)(hc:X.calm=θ)(hi:JI X tg iter (jC w))(hg:∀d,JG (cm X scope Nb d) tg (jB g))(hf:∀d,JF (cm X scope Nb d) ifs (cO t))(he:∀d,JE (cm X scope Nb d) elt (tD f))
  (hk:scope.kind=.function:=by rfl) (ho:lq X.N X.env.scope scope Nb cp=θ:=by first|rfl|kernel_rfl) (hs:∀x,foldedSetIterable iter X.env x=pure x:=by ext _;rfl) :
  JE X (.ListComp elt [⟨tg,iter,ifs,0⟩] scope pos) (tD (qt w cp g t f)):=(Ij cp Nb hc hi hg hf he hk ho hs).weak RZ
theorem R1[bU](cp:-(Option Nat))(Nb:-R){i:Nat}{x:R}{pos' ir:y}(hN:X.N.Nodup)(hi:X.N[i]?=U x)(hx:Loc X.env.scope x)(hc:X.calm=θ)(hit:JI X tg iter (jC w))(hg:∀d,JG (cm X scope Nb d) tg (jB g))(hf:∀d,JF (cm X scope Nb d) ifs (cO t))(he:∀d,JE (cm X scope Nb d) elt (tD f))
  (hk:scope.kind=.function:=by rfl) (ho:lq X.N X.env.scope scope Nb cp=θ:=by first|rfl|kernel_rfl) (hs:∀x,foldedSetIterable iter X.env x=pure x:=by ext _;rfl)
  (vF:swapsWith (.ListComp elt [⟨tg,iter,ifs,0⟩] scope pos) (U (.Name x pos')) ir.line X.env=pure θ:=by rfl)
  (jK:fq X x:=by first|exact .inl Y|exact .inr Y|assumption) :
  JS X (.Assign [.Name x pos'] (.ListComp elt [⟨tg,iter,ifs,0⟩] scope pos) ir) (cX (aD i (e_ w cp g t f))) :=
 (QD cp Nb hN hi hx hc hit hg hf he hk ho hs vF jK).weak λD σ H h0_=>el7 h0_ λF ad δ K S q k =>Jm σ H _ ⟨F,ad,δ,_,S,q,λx δ1 h1 v F1 aN H1 E1 S1 V1=>k.nx _ h1 _ _ _ _ E1 (S1.set V1)⟩
end
inductive RV where
 |p (d:D)|n (ds:-D)|a (j:Nat)|t (d:D) (ds:-D)
def rZ(F' H H':Hp)(d:D)(ds:-D)(v:V):Prop:=∃a b u vs,v=.ref a/\F' a=U (.tup [u,.ref b])/\Is F' d u/\H b=Z/\H' b=U (.lst vs)/\F' b=Z/\ae F' ds vs
abbrev GD:=-DV->-OV->(RV->-OV->Prop)->Prop
structure Ce(F:Hp)(ad:-O)(H:Hp)(r:RV)(ows:-OV)(v:V)(F' H':Hp):Prop where
 sub:av F' H'
 same:av F F'
 new:∀a o,F' a=U o->F a=U o\/H a=Z
 keep:∀a o,H a=U o->a∉ad->a∉aC.ad->H' a=U o
 tab:aC.ok H'
 nt:∀a∈aC.ad,F' a=Z
 len:↑ows=↑ad
 own:∀(j:Nat)(ow:OV),ows[j]?=U ow->∃a o,ad[j]?=U a/\H' a=U o/\fY F' ow o
 off:∀a∈ad,F' a=Z
 res:match r with
  |.p d=>Is F' d v
  |.n ds=>∃a vs,v=.ref a/\H a=Z/\H' a=U (.lst vs)/\F' a=Z/\ae F' ds vs
  |.a j=>∃a,ad[j]?=U a/\v=.ref a
  |.t d ds=>rZ F' H H' d ds v
def m_(G:GD)(n:Nat):Sp:=λvs H Q _=>↑vs=n/\∃F ad ys ovs K,SR F ad ⟨ys.map U,ovs.map U⟩ (vs.map U) H/\G ys ovs K/\∀r ows,K r ows->∀v F' H',Ce F ad H r ows v F' H'->Q v H'
def gr(n:Nat)(K:RV->-OV->Prop)(x:DV)(δ:ay):Prop:=∃ows,δ.mu.take n=ows.map U/\↑ows=n/\match x with
 |.p d=>K (.p d) ows
 |.o k=>if k<n then K (.a k) ows else match δ.mu[k]? with
  |some (some (.lst ds))=>K (.n ds) ows\/K (.p (.lst ds)) ows
  |_=>False
 |.t d k=>n<=k/\match δ.mu[k]? with
  |some (some (.lst ds))=>K (.t d ds) ows
  |_=>False
noncomputable def gO(n:Nat)(K:RV->-OV->Prop):KS where
 nx:=gr n K (.p .non)
 rt:=gr n K
section
variable{F F' H H':Hp}{ad ax:-O}{σ σ':St}
theorem Jn{α:Type}{l:-α}{i:Nat}{x:α}(h:(l.map U)[i]?=U (U x)):l[i]?=U x:=by
 rw[Qi] at h;let⟨y,e,q⟩:=ZM.mp h;cases q;calc e
theorem R3{α:Type}{l:-α}{i:Nat}{x:α}(h:l[i]?=U x):(l.map U)[i]?=U (U x):=by
 rw[Qi,h];rfl
theorem SR.start{ys:-DV}{mu:-(Option OV)}{vs:-V}{N:-R}(S:SR F ad ⟨ys.map U,mu⟩ (vs.map U) H):SR F ad ⟨ys.map U++q0d (↑N-↑vs) Z,mu⟩ (start N vs) H:=by
 let hl:↑vs=↑ys:=by
  let:=S.len;rw[rO] at this;rw[this];rw[rO]
 refine⟨S.sub,S.off,S.cJ,S.inj,S.mu,λi x e=>?_,?_,S.tab,S.nt⟩
 .let hi:i<↑ys:=by
   by_cases c:i<↑ys
   .exact c
   .rw[q0h (by rw[rO];symm),q2E] at e
    split at e
    .cases e
    .cases e
  rw[q0g (by rw[rO];calc hi)] at e;let⟨v,h1,h2⟩:=S.sl i x e;exact⟨v,by unfold L2.start;rw[q0g (by rw[rO,hl];calc hi)];calc h1,h2⟩
 .unfold L2.start
  rw[Ql,Ql,q1z,q1z,rO,rO,hl]
theorem ua{ovs:-OV}{δ:ay}{x:DV}{v:V}{K:RV->-OV->Prop}{Q:VK}{sl:-(Option DV)}{τ:St}(S0:SR F ad ⟨sl,ovs.map U⟩ τ H)(E:Ext F ad (ovs.map U) H F' ax δ.mu H')(S:SR F' ax δ σ' H')(V:eg F' ax x v)
  (h:gr ↑ovs K x δ) (k:∀r ows,K r ows->∀v F' H',Ce F ad H r ows v F' H'->Q v H'):Q v H':=by
 let⟨ows,tk,hl,h⟩:=h;let al:↑ad=↑ovs:=by let:=S0.cJ;rwa [rO] at this
 let lv:∀(j:Nat)(a:O),ad[j]?=U a->∃ow,ows[j]?=U ow/\δ.mu[j]?=U (U ow)/\Lv ax δ.mu a:=λj a e=>by
  let hj:j<↑ovs:=by rw[<-al];exact(tU.mp e).1
  let h1:(δ.mu.take ↑ovs)[j]?=U (U (ows[j]'(by rw[hl];calc hj))):=by
   rw[tk,Qi,rN (by rw[hl];calc hj)];rfl
  rw[q05 hj] at h1;exact⟨_,rN (by rw[hl];calc hj),h1,j,_,E.pre j a e,h1⟩
 let jZ:∀a∈ad,F' a=Z:=λa ha=>by
  let⟨j,e⟩:=q0i.mp ha;let⟨_,_,_,l⟩:=lv j a e;exact S.off a l
 let base:∀{F2:Hp},av F' F2->av F2 H'->(∀a o,F2 a=U o->F' a=U o\/(H a=Z/\¬ a∈ad))->(∀a∈ad,F2 a=Z)->(∀a∈aC.ad,F2 a=Z)->∀{r:RV},(match r with
   |.p d=>Is F2 d v
   |.n ds=>∃a vs,v=.ref a/\H a=Z/\H' a=U (.lst vs)/\F2 a=Z/\ae F2 ds vs
   |.a j=>∃a,ad[j]?=U a/\v=.ref a
   |.t d ds=>rZ F2 H H' d ds v)->Ce F ad H r ows v F2 H':=λ{F2} s1 s2 n2 o2 R4 {r} res=>by
  refine⟨s2,E.same.trans s1,λa o e=>?_,λa o e n t=>?_,S.tab,R4,by rw[hl,al],λj ow e=>?_,o2,res⟩
  .rcases n2 a o e with e|⟨e,_⟩
   .rcases E.new a o e with z|z|⟨j,ov,z,_⟩
    .exact .inl z
    .exact .inr z
    .rw[jZ a (q0i.mpr ⟨j,z⟩)] at e;cases e
   .exact .inr e
  .exact E.keep a o e (λ⟨j,ov,z,_⟩↦n (q0i.mpr ⟨j,z⟩)) t
  .let hj:j<↑ad:=by rw[al,<-hl];exact(tU.mp e).1
   let⟨Cf,e1,e2,_⟩:=lv j _ (rN hj);rw[e] at e1;cases e1;let⟨a,o,e3,e4,h5⟩:=S.mu j _ e2;rw[E.pre j _ (rN hj)] at e3;cases e3
   exact⟨_,o,rN hj,e4,h5.same s1⟩
 let fresh:∀{i:Nat}{ds:-D}{a:O},¬ i<↑ovs->ax[i]?=U a->δ.mu[i]?=U (U (.lst ds))->∃vs,H' a=U (.lst vs)/\ae F' ds vs/\a∉ad/\F' a=Z/\H a=Z:=λ{i ds a} c e1 em=>by
  let⟨a',o,e2,e3,vs,rfl,h4⟩:=S.mu i _ em;rw[e1] at e2;cases e2
  let na:a∉ad:=λz=>by
   let⟨j,e⟩:=q0i.mp z;let⟨ow,_,e5,_⟩:=lv j a e;let:i=j:=S.inj i j a _ _ e1 (E.pre j a e) em e5;subst this;exact c (by rw[<-al];calc(tU.mp e).1)
  calc⟨vs,e3,h4,na,S.off a ⟨i,_,e1,em⟩,?_⟩;rcases E.b8 a ⟨i,_,e1,em⟩ with⟨j,ov,z,_⟩|z
  .exact absurd (q0i.mpr ⟨j,z⟩) na
  .exact z
 cases x with
 |p d=>exact k _ _ h _ _ _ (base (F2:=F') (λ_ _ e=>e) S.sub (λ_ _ e=>.inl e) jZ S.nt V)
 |t d i =>
  let⟨a,b,u,rfl,e0,e2,e1⟩:=V;let⟨c,h⟩:=h;split at h
  .rename_i ds em
   let⟨vs,e3,h4,na,fa,ha⟩:=fresh ⋯ e1 em;exact k _ _ h _ _ _ (base (F2:=F') (λ_ _ e=>e) S.sub (λ_ _ e=>.inl e) jZ S.nt ⟨a,b,u,vs,Y,e0,e2,ha,e3,fa,h4⟩)
  .exact h.elim
 |o i =>
  dsimp only at h;let⟨a,e1,rfl⟩:=V
  by_cases c:i<↑ovs
  .rw[ZK c] at h
   let ei:ad[i]?=U a:=by
    let:=E.pre i _ (rN (by rw[al];calc c));rw[e1] at this;rw[rN (by rw[al];calc c)];exact this.symm
   exact k _ _ h _ _ _ (base (F2:=F') (λ_ _ e=>e) S.sub (λ_ _ e=>.inl e) jZ S.nt ⟨a,ei,Y⟩)
  .rw[ZJ c] at h
   split at h
   .rename_i ds em
    let⟨vs,e3,h4,na,fa,ha⟩:=fresh c e1 em;rcases h with h|h
    .exact k _ _ h _ _ _ (base (F2:=F') (λ_ _ e=>e) S.sub (λ_ _ e=>.inl e) jZ S.nt ⟨a,vs,Y,ha,e3,fa,h4⟩)
    .refine k _ _ h _ _ _ (base (F2:=upd F' a (.lst vs)) (bL fa) (λb o e=>?_) (λb o e=>?_) (λb hb=>?_) (λb hb=>?_) ?_)
     .by_cases z:b=a
      .subst z;rw[bj] at e;cases e;exact e3
      .rw[aA z] at e;exact S.sub b o e
     .by_cases z:b=a
      .subst z;exact .inr ⟨ha,na⟩
      .rw[aA z] at e;exact .inl e
     .rw[aA λz=>na (by subst z;calc hb)];exact jZ b hb
     .let⟨ps,q⟩:=aC.tb S.tab hb
      rw[aA λz=>by subst z;rw[e3] at q;cases q];exact S.nt b hb
     .show Is _ (.lst ds) _
      exact⟨a,vs,Y,bj,h4.same (bL fa)⟩
   .calc h.elim
end
theorem gm.R5{P:n}{w:ω}{K:xY}{mg:R->Option ν}{base:I}{x qual:R}{st:o}{f:O}{fd:FuncData}{N ps:-R}{k:Nat}{G:GD}(F:gm K x qual st f fd)(S:mT N ps (cw st))
  (d6:∀(aO:ν)(A:q)(outer:-t)(s:L)(H:Hp)(E:XK),aX k (A.deeper (envOfC qual (cw st) ⇑s f aO)) →
   ∃B:WS,cj (aS fJ P w K mg base N qual (cw st) f aO A outer s H E).lh (d8 st) (cX B)/\∀ys ovs K',↑ys=↑ps->G ys ovs K'->B (gO ↑ovs K') ⟨ys.map U++q0d (↑N-↑ps) Z,ovs.map U⟩) :
  bK P w K mg base fJ (k+1) f fd ps (m_ G ↑ps) :=
 F.tV S (λvs H Q E h=>h.1) λaO A outer s H vs Q E hr h=>by
  let⟨hl,Fz,ad,ys,ovs,K',S0,g,kk⟩:=h;let⟨B,jb,hb⟩:=d6 aO A outer s H E hr
  let hy:↑ys=↑ps:=by
   let:=S0.len;rw[rO] at this;rw[<-hl,this];rw[rO]
  refine⟨_,jb,Fz,ad,⟨ys.map U++q0d (↑N-↑ps) Z,ovs.map U⟩,gO ↑ovs K',by rw[<-hl];calc S0.start,hb ys ovs K' hy g,⟨fun δ' h F' ax σ' H' E' S'=>?_,fun δ' h=>h.elim,fun δ' h=>h.elim,λy δ' h v F' ax σ' H' E' S' V=>?_,trivial⟩⟩
  .exact ua (σ':=σ') S0 E' S' (x:=.p .non) (v:=.non) Y h kk
  .calc ua (σ':=σ') S0 E' S' V h kk
noncomputable def passes(mu:-(Option OV)):-DV->Nat->Option (-DV×-(Nat×OV))
 |[],_=>U ([],[])
 |.p d::xs,j=>match passes mu xs j with
  |some r=>U (.p d::r.1,r.2)
  |none=>Z
 |.o k::xs,j=>match mu[k]? with
  |some (some ov)=>match passes mu xs (j+1) with
   |some r=>U (.o j::r.1,(k,ov)::r.2)
   |none=>Z
  |_=>Z
 |.t _ _::_,_=>Z
noncomputable def fK(mu:-(Option OV)):-(Nat×OV)->-OV->-(Option OV)
 |(k,_)::r,ow::ows=>fK (mu.set k (U ow)) r ows
 |_,_=>mu
noncomputable def lO:-(Nat×OV)->Bool
 |[]=>θ
 |(k,_)::r => !(r.any λe=>e.1==k)&&lO r
def lP(δ:ay)(gu:-(Nat×OV))(K:DV->ay->Prop)(r:RV)(ows:-OV):Prop:=match r with
 |.p d=>K (.p d) ⟨δ.sl,fK δ.mu gu ows⟩
 |.n ds=>K (.p (.lst ds)) ⟨δ.sl,fK δ.mu gu ows⟩
 |.t d ds=>K (.p (.tup [d,.lst ds])) ⟨δ.sl,fK δ.mu gu ows⟩
 |.a j=>match gu[j]? with
  |some ko=>K (.o ko.1) ⟨δ.sl,fK δ.mu gu ows⟩
  |none=>False
def v8(δ:ay)(gu:-(Nat×OV))(K:DV->ay->Prop)(r:RV)(ows:-OV):Prop:=match r with
 |.n ds=>K (.o ↑(fK δ.mu gu ows)) ⟨δ.sl,fK δ.mu gu ows++[U (.lst ds)]⟩
 |_=>False
def ar(n:Nat)(G:GD)(fa:WA):WE:=fun δ K=>fa δ λxs δ1=>match passes δ1.mu xs 0 with
 |some r=>(lO r.2=θ/\↑r.1=n)/\G r.1 (r.2.map (·.2)) (lP δ1 r.2 K)
 |none=>False
def v9(n:Nat)(G:GD)(fa:WA):WE:=fun δ K=>fa δ λxs δ1=>match passes δ1.mu xs 0 with
 |some r=>(lO r.2=θ/\↑r.1=n)/\G r.1 (r.2.map (·.2)) (v8 δ1 r.2 K)
 |none=>False
section
variable{F F' H H':Hp}{ad ax:-O}{δ:ay}{σ σ':St}
theorem yw{mu:-(Option OV)}(hm:∀(k:Nat) (ov:OV),mu[k]?=U (U ov)->∃a o,ad[k]?=U a/\H a=U o/\fY F ov o):∀{xs:-DV}{vs:-V}{j:Nat}{r:-DV×-(Nat×OV)},passes mu xs j=U r->dO F ad xs vs →
  ∃as:-O,↑as=↑r.2/\(∀(i:Nat)(ko:Nat×OV),r.2[i]?=U ko->mu[ko.1]?=U (U ko.2)/\∃a o,as[i]?=U a/\ad[ko.1]?=U a/\H a=U o/\fY F ko.2 o) ∧
   ∀(pre:-O),pre.length=j->∃_u:Unit,↑vs=↑r.1/\∀(i:Nat)(y:DV),r.1[i]?=U y->∃v,vs[i]?=U v/\eg F (pre++as) y v
 |[],vs,j,r,h,hv=>by
  cases h
  let:vs=[]:=hv;subst this;exact⟨[],Y,λi ko e=>by simp at e,λpre _=>⟨(),Y,λi y e=>by simp at e⟩⟩
 |.p d::xs,_,j,r,h,⟨v,t,e,h1,h2⟩=>by
  subst e;unfold passes at h;split at h
  .rename_i r' hr
   cases h
   let⟨as,l,b,c⟩:=yw hm hr h2;refine⟨as,l,b,λpre hp=>⟨(),?_,λi y e=>?_⟩⟩
   .let⟨_,c1,_⟩:=c pre hp
    rw[HY,HY,c1]
   .let⟨_,_,c2⟩:=c pre hp
    cases i with
    |zero=>cases(show U (DV.p d)=U y by simpa using e);exact⟨v,Y,h1⟩
    |succ i=>simpa using c2 i y e⁻¹
  .cases h
 |.o k::xs,_,j,r,h,⟨v,t,e,h1,h2⟩=>by
  subst e;unfold passes at h;split at h
  .rename_i ov hk
   split at h
   .rename_i r' hr
    cases h
    let⟨as,l,b,c⟩:=yw hm hr h2;let⟨a,e1,rfl⟩:=h1;let⟨a',o,e2,e3,e4⟩:=hm k ov hk;rw[e1] at e2;cases e2;refine⟨a::as,by rw[HY,HY,l],λi ko e=>?_,λpre hp=>⟨(),?_,λi y e=>?_⟩⟩
    .cases i with
     |zero=>cases(show U (k,ov)=U ko by simpa using e);exact⟨hk,a,o,Y,e1,e3,e4⟩
     |succ i=>simpa using b i ko e⁻¹
    .let⟨_,c1,_⟩:=c (pre++[a]) (by rw[Ql,hp];rfl)
     rw[HY,HY,c1]
    .let⟨_,_,c2⟩:=c (pre++[a]) (by rw[Ql,hp];rfl)
     cases i with
     |zero =>
      cases(show U (DV.o j)=U y by simpa using e)
      calc⟨_,Y,a,?_,Y⟩;rw[q0h ⋯,hp,q1m];rfl
     |succ i =>
      let⟨v',c3,c4⟩:=c2 i y e⁻¹;exact⟨v',by simpa using c3,by rw[q1K] at c4;calc c4⟩
   .cases h
  .cases h
theorem Jo:∀{gu:-(Nat×OV)},lO gu=θ->∀(i j:Nat)(k:Nat)(a b:OV),gu[i]?=U (k,a)->gu[j]?=U (k,b)->i=j
 |[],_,i,j,k,a,b,e,_=>by simp at e
 |(k',ov)::r,h,i,j,k,a,b,e1,e2=>by
  unfold lO at h;erw[q0k,q3Q] at h
  let no:∀(m:Nat)(c:OV),r[m]?=U (k',c)->False:=λm c e=>by
   let:=q2e.mp h.1 _ (q0i.mpr ⟨m,e⟩);exact this (by simp)
  cases i with
  |zero =>
   cases(show U (k',ov)=U (k,a) by simpa using e1)
   cases j with
   |zero=>rfl
   |succ j=>exact(no j b e2⁻¹).elim
  |succ i =>
   cases j with
   |zero=>cases(show U (k',ov)=U (k,b) by simpa using e2);exact(no i a e1⁻¹).elim
   |succ j=>rw[Jo h.2 i j k a b e1⁻¹ e2⁻¹]
theorem Jp:∀(gu:-(Nat×OV))(ows:-OV)(mu:-(Option OV)),↑(fK mu gu ows)=↑mu
 |(k,_)::r,ow::ows,mu=>by rw[fK,Jp r ows,q1G]
 |[],_,_=>Y
 |_::_,[],_=>Y
theorem yx:∀(gu:-(Nat×OV))(ows:-OV)(mu:-(Option OV))(l:Nat),(∀ko∈gu,ko.1≠l)->(fK mu gu ows)[l]?=mu[l]?
 |(k,_)::r,ow::ows,mu,l,h=>by
  rw[fK,yx r ows _ l λko hk=>h ko (Qm _ hk),q0Y (h _ Qk)]
 |[],_,_,_,_=>Y
 |_::_,[],_,_,_=>Y
theorem Jq:∀{gu:-(Nat×OV)}{ows:-OV}{mu:-(Option OV)}{i:Nat}{ko:Nat×OV}{ow:OV},lO gu=θ->gu[i]?=U ko->ows[i]?=U ow->ko.1<↑mu->(fK mu gu ows)[ko.1]?=U (U ow)
 |(k,ov)::r,Cf::ows,mu,0,ko,ow,h,e1,e2,hl=>by
  cases(show U (k,ov)=U ko by simpa using e1)
  cases(show U Cf=U ow by simpa using e2)
  unfold lO at h;erw[q0k,q3Q] at h;rw[fK,yx r ows _ k λko hk z=>absurd z⁻¹ (q2e.mp h.1 ko hk),q0R hl]
 |(k,ov)::r,Cf::ows,mu,i+1,ko,ow,h,e1,e2,hl=>by
  unfold lO at h;erw[q0k,q3Q] at h;rw[fK];exact Jq h.2 e1⁻¹ e2⁻¹ (by rw[q1G];calc hl)
 |[],_,_,i,_,_,_,e1,_,_=>by simp at e1
 |_::_,[],_,i,_,_,_,_,e2,_=>by simp at e2
theorem Jr{xs:-DV}{vs:-V}{r:-DV×-(Nat×OV)}{G:GD}{n:Nat}{Q:VK}{E:XK}{K:RV->-OV->Prop}(S:SR F ad δ σ H)(V:dO F ad xs vs)(hn:↑vs=n)(hp:passes δ.mu xs 0=U r)(nd:lO r.2=θ)(g:G r.1 (r.2.map (·.2)) K)
  (fin:∀res ows v F' H',K res ows->Ext F ad δ.mu H F' ad (fK δ.mu r.2 ows) H'->SR F' ad ⟨δ.sl,fK δ.mu r.2 ows⟩ σ H'->(match res with
   |.p d=>Is F' d v
   |.n ds=>∃a vs,v=.ref a/\H a=Z/\H' a=U (.lst vs)/\F' a=Z/\ae F' ds vs
   |.a j=>∃ko a,r.2[j]?=U ko/\ad[ko.1]?=U a/\v=.ref a
   |.t d ds=>rZ F' H H' d ds v)->Q v H'):m_ G n vs H Q E:=by
 let⟨as,al,b,c⟩:=yw S.mu hp V;let⟨_,c1,c2⟩:=c [] Y
 let ub:∀(i:Nat)(a:O),as[i]?=U a->Lv ad δ.mu a/\∃ko,r.2[i]?=U ko/\ad[ko.1]?=U a/\δ.mu[ko.1]?=U (U ko.2):=λi a e=>by
  let hi:i<↑r.2:=by rw[<-al];exact(tU.mp e).1
  let⟨m1,a',o,e1,e2,_,_⟩:=b i _ (rN hi);rw[e] at e1;cases e1;exact⟨⟨_,_,e2,m1⟩,_,rN hi,e2,m1⟩
 refine⟨hn,F,as,r.1,r.2.map (·.2),K,⟨S.sub,λa ⟨i,ov,e1,e2⟩↦S.off a (ub i a e1).1,by rw[al];rw[rO,rO],λi j a ov ow e1 e2 _ _=>?_,λi ov e=>?_,λi y e=>?_,?_,S.tab,S.nt⟩,g,λres ows hk v F' H' P=>?_⟩
 .let⟨_,ko,k1,k2,k3⟩:=ub i a e1
  let⟨_,kp,p1,p2,p3⟩:=ub j a e2;let:ko.1=kp.1:=S.inj _ _ a _ _ k2 p2 k3 p3;exact Jo nd i j ko.1 ko.2 kp.2 k1 (by rw[this];calc p1)
 .let e:=Jn e
  rw[Qi] at e;let⟨ko,e1,rfl⟩:=ZM.mp e;let⟨_,a,o,e2,_,e4,e5⟩:=b i ko e1;exact⟨a,o,e2,e4,e5⟩
 .let⟨v,e1,e2⟩:=c2 i y (Jn e)
  exact⟨v,R3 e1,by simpa using e2⟩
 .show ↑(vs.map U)=↑(r.1.map U)
  rw[rO,rO,c1]
 .let ol:↑ows=↑r.2:=by rw[P.len,al]
  let mQ:∀(l:Nat)(ow:OV),(fK δ.mu r.2 ows)[l]?=U (U ow)->(∃(i:Nat)(ko:Nat×OV),r.2[i]?=U ko/\ko.1=l/\ows[i]?=U ow)\/((∀ko∈r.2,ko.1≠l)/\δ.mu[l]?=U (U ow)):=λl ow e=>by
   by_cases z:∃ko∈r.2,ko.1=l
   .let⟨ko,hk,rfl⟩:=z
    let⟨i,hi⟩:=q0i.mp hk;let r_:i<↑ows:=by rw[ol];exact(tU.mp hi).1
    let:=Jq (mu:=δ.mu) nd hi (rN r_) (tU.mp (b i ko hi).1).1;rw[e] at this;cases this
    exact .inl ⟨i,ko,hi,Y,rN r_⟩
   .let z':∀ko∈r.2,ko.1≠l:=λko hk q=>z ⟨ko,hk,q⟩
    rw[yx _ _ _ _ z'] at e;exact .inr ⟨z',e⟩
  let Js:∀(l:Nat)(ow:OV)(a:O),ad[l]?=U a->(fK δ.mu r.2 ows)[l]?=U (U ow)->Lv ad δ.mu a:=λl ow a e1 e2=>by
   rcases mQ l ow e2 with⟨i,ko,hi,rfl,_⟩|⟨_,q⟩
   .exact⟨_,_,e1,(b i ko hi).1⟩
   .exact⟨_,_,e1,q⟩
  let R6:∀a,a∈as->Lv ad δ.mu a:=λa ha=>by
   let⟨i,e⟩:=q0i.mp ha;exact(ub i a e).1
  let ex:Ext F ad δ.mu H F' ad (fK δ.mu r.2 ows) H':=by
   refine⟨P.same,λa o e=>?_,λa o e n t=>P.keep a o e (λz=>n (R6 a z)) t,λ_ _ e=>e,λa ⟨l,ow,e1,e2⟩↦.inl (Js l ow a e1 e2),λa o e=>?_⟩
   .rcases P.new a o e with z|z
    .exact .inl z
    .exact .inr (.inl z)
   .by_cases z:a∈as
    .let⟨i,e1⟩:=q0i.mp z
     let hi:i<↑ows:=by rw[P.len];exact(tU.mp e1).1
     let⟨a',o',e2,e3,_⟩:=P.own i _ (rN hi);rw[e1] at e2;cases e2;exact⟨o',e3⟩
    .by_cases t:a∈aC.ad
     .let⟨ps,q⟩:=aC.tb P.tab t
      exact⟨_,q⟩
     .exact⟨o,P.keep a o e z t⟩
  let Cg:∀a,Lv ad δ.mu a->F' a=Z:=λa l=>by
   by_cases z:a∈as
   .exact P.off a z
   .cases q:F' a with
    |none=>rfl
    |some u =>
     rcases P.new a u q with y|y
     .rw[S.off a l] at y;cases y
     .let⟨k,ov,e1,e2⟩:=l
      let⟨a',o,e3,e4,_⟩:=S.mu k ov e2;rw[e1] at e3;cases e3;rw[y] at e4;cases e4
  let sr:SR F' ad ⟨δ.sl,fK δ.mu r.2 ows⟩ σ H':=by
   refine⟨P.sub,λa ⟨l,ow,e1,e2⟩↦Cg a (Js l ow a e1 e2),by rw[S.cJ];calc(Jp _ _ _).symm,λk l a ov ow e1 e2 e3 e4=>?_,λl ow e=>?_,λi y e=>?_,S.len,P.tab,P.nt⟩
   .let h3:∃w,δ.mu[k]?=U (U w):=by
     rcases mQ k ov e3 with⟨i,ko,hi,rfl,_⟩|⟨_,q⟩
     .exact⟨_,(b i ko hi).1⟩
     .exact⟨_,q⟩
    let h4:∃w,δ.mu[l]?=U (U w):=by
     rcases mQ l ow e4 with⟨i,ko,hi,rfl,_⟩|⟨_,q⟩
     .exact⟨_,(b i ko hi).1⟩
     .exact⟨_,q⟩
    let⟨_,h3⟩:=h3;let⟨_,h4⟩:=h4;exact S.inj k l a _ _ e1 e2 h3 h4
   .rcases mQ l ow e with⟨i,ko,hi,rfl,ho⟩|⟨z,q⟩
    .let⟨_,a,o,e1,e2,_,_⟩:=b i ko hi
     let⟨a',o',e3,e4,h5⟩:=P.own i ow ho;rw[e1] at e3;cases e3;exact⟨a,o',e2,e4,h5⟩
    .let⟨a,o,e1,e2,h⟩:=S.mu l ow q
     refine⟨a,o,e1,P.keep a o e2 (λy=>?_) (λt=>?_),h.same P.same⟩
     .let⟨i,e3⟩:=q0i.mp y
      let⟨_,ko,k1,k2,k3⟩:=ub i a e3;exact z ko (q0i.mpr ⟨i,k1⟩) (S.inj _ _ a _ _ k2 e1 k3 q)
     .let⟨ps,q2⟩:=aC.tb S.tab t
      rw[e2] at q2;cases q2
      rcases h.kind with⟨_,z⟩|⟨_,z⟩|⟨_,z⟩<;>cases z
   .let⟨v,e1,h⟩:=S.sl i y e
    exact⟨v,e1,h.ext ex⟩
  calc fin res ows v F' H' hk ex sr ?_;let oH:=P.res
  cases res with
  |p d=>exact oH
  |n ds=>exact oH
  |t d ds=>exact oH
  |a j =>
   let⟨a,e1,e2⟩:=oH;let⟨_,ko,k1,k2,_⟩:=ub j a e1;calc⟨ko,a,k1,k2,e2⟩
end
section
variable{X:Cx}{fa:WA}{G:GD}{pos:y}
theorem Ci{F1 F2 H1 H2:Hp}{aN:-O}{δ1:ay}{σ:St}{xs:-DV}{vs:-V}{r:-DV×-(Nat×OV)}{ows:-OV}{a:O}(S1:SR F1 aN δ1 σ H1)(V1:dO F1 aN xs vs)(hp:passes δ1.mu xs 0=U r)(n1:H1 a=Z):¬ Lv aN (fK δ1.mu r.2 ows) a:=λ⟨k,ov,e1,e2⟩↦by
 let c:∃ov,δ1.mu[k]?=U (U ov):=by
  by_cases y:∃ko∈r.2,ko.1=k
  .let⟨ko,g_,rfl⟩:=y
   let⟨as,_,b,_⟩:=yw S1.mu hp V1;let⟨i,hi⟩:=q0i.mp g_;exact⟨_,(b i ko hi).1⟩
  .rw[yx _ _ _ _ λko g_ q=>y ⟨ko,g_,q⟩] at e2
   exact⟨_,e2⟩
 let⟨R7,c⟩:=c;let⟨a',o,e3,e4,_⟩:=S1.mu k R7 c;rw[e1] at e3;cases e3;rw[n1] at e4;cases e4
theorem dO.length{F:Hp}{ad:-O}:∀{xs:-DV}{vs:-V},dO F ad xs vs->↑vs=↑xs
 |[],vs,h=>by let h:vs=[]:=h;rw[h];rfl
 |x::xs,vs,⟨v,r,e,_,h2⟩=>by rw[e,HY,HY,dO.length h2]
theorem yy{mu:-(Option OV)}:∀{xs:-DV}{j:Nat}{r:-DV×-(Nat×OV)},passes mu xs j=U r->↑r.1=↑xs
 |[],j,r,h=>by cases h;rfl
 |.p d::xs,j,r,h=>by
  unfold passes at h;split at h
  .rename_i r' hr;cases h;rw[HY,HY,yy hr]
  .cases h
 |.o k::xs,j,r,h=>by
  unfold passes at h;split at h
  .split at h
   .rename_i r' hr;cases h;rw[HY,HY,yy hr]
   .cases h
  .cases h
section
variable{k:Nat}{f:O}{fd:FuncData}{ps:-R}{x:R}{p:y}{e:M}{es:-M}{n:Nat}
theorem Jt{E:XK}{F F1 H H1:Hp}{ad aN:-O}{δ δ1:ay}{σ:St}{K:DV->ay->Prop}{Q:VK}{xs:-DV}{vs:-V}(kk:∀x δ',K x δ'->∀v F' ax H',Ext F ad δ.mu H F' ax δ'.mu H'->SR F' ax δ' σ H'->eg F' ax x v->Q v H')(h1:match passes δ1.mu xs 0 with
 |some r=>(lO r.2=θ/\↑r.1=n)/\G r.1 (r.2.map (·.2)) (lP δ1 r.2 K)
 |none=>False)(E1:Ext F ad δ.mu H F1 aN δ1.mu H1)(S1:SR F1 aN δ1 σ H1)(V1:dO F1 aN xs vs):m_ G n (vs++[]) H1 Q E:=by
 split at h1
 .rename_i r hp
  let⟨⟨nd,hn⟩,h1⟩:=h1;rw[q2h];calc Jr S1 V1 (by rw[↑V1,<-yy hp,hn]) hp nd h1 λres ows v F2 H2 hk E2 S2 j2=>?_;unfold lP at hk
  cases res with
  |p d=>exact kk _ _ hk _ _ _ _ (E1.trans E2) S2 j2
  |n ds =>
   let⟨a,us,rfl,n1,n2,n3,n4⟩:=j2;calc kk _ _ hk _ _ _ _ (E1.trans (E2.adopt (o:=.lst us) n1 n3)) (S2.adopt n3 n2 (Ci (F2:=F2) (H2:=H2) S1 V1 hp n1)) ?_;show Is _ (.lst ds) _;exact⟨a,us,Y,bj,n4.same (bL n3)⟩
  |t d ds =>
   let⟨a,b,u,us,rfl,m1,m2,n1,n2,n3,n4⟩:=j2;calc kk _ _ hk _ _ _ _ (E1.trans (E2.adopt (o:=.lst us) n1 n3)) (S2.adopt n3 n2 (Ci (F2:=F2) (H2:=H2) S1 V1 hp n1)) ?_;show Is _ (.tup [d,.lst ds]) _;let sm:av F2 (upd F2 b (.lst us)):=bL n3;exact⟨a,_,Y,sm _ _ m1,u,_,Y,m2.same sm,.ref b,_,Y,⟨b,us,Y,bj,n4.same sm⟩,Y⟩
  |a j =>
   let⟨ko,a,h1,h2,h3⟩:=j2;dsimp only at hk;rw[h1] at hk;exact kk _ _ hk _ _ _ _ (E1.trans E2) S2 ⟨a,h2,h3⟩
 .calc h1.elim
theorem R8{E:XK}:∀σ H Q,tD (ar n G fa) σ H Q->tP (m_ G n) [] E (bM fa) σ H Q:=fun σ H Q h0_=>el7 h0_ λF ad δ K S q kk =>
 ⟨F,ad,δ,_,S,q,λxs δ1 h1 vs F1 aN H1 E1 S1 V1=>Jt kk h1 E1 S1 V1⟩
theorem R9{E:XK}:∀σ H Q,tD (v9 n G fa) σ H Q->tP (m_ G n) [] E (bM fa) σ H Q:=fun σ H Q h0_=>el7 h0_ λF ad δ K S q kk =>by
 calc⟨F,ad,δ,_,S,q,λxs δ1 h1 vs F1 aN H1 E1 S1 V1=>?_⟩;split at h1
 .rename_i r hp
  let⟨⟨nd,hn⟩,h1⟩:=h1;rw[q2h];refine Jr S1 V1 (by rw[↑V1,<-yy hp,hn]) hp nd h1 λres ows v F2 H2 hk E2 S2 j2=>?_
  cases res with
  |p d=>exact hk.elim
  |n ds =>
   let⟨a,us,rfl,n1,n2,n3,n4⟩:=j2;let oi:fY F2 (.lst ds) (.lst us):=⟨us,Y,n4⟩;calc kk _ _ hk _ _ _ _ (E1.trans (E2.eB (ov:=.lst ds) n1 S2.cJ)) (S2.eB n3 n2 (Ci (F2:=F2) (H2:=H2) S1 V1 hp n1) oi) ⟨a,?_,Y⟩;let:↑aN=↑(fK δ1.mu r.2 ows):=S2.cJ;rw[<-this,q0h (BA _),q1m];rfl
  |a j=>exact hk.elim
  |t d ds=>exact hk.elim
 .calc h1.elim
theorem R_(Fn:bK X.prog X.w X.K X.mg X.base fJ k f fd ps (m_ G n))(hr:aX k X.A)(hg:Gl X x)(hm:X.mg x=U (.ref f))(hk:q08 X.K (.ref f)=θ)(hb:Binds X.K fd ps [])
  (ha:JA X (e::es) (bM fa)) (cS:bx x:=by decide) (he:dI X e es:=by rfl) (cU:eS X pos es:=by rfl) :
  JE X (.Call (.Name x p) (e::es) [] pos) (tD (ar n G fa)):=(vg Fn hr hg hm hk hb .nil vz ha cS he cU).weak R8
theorem Sa(Fn:bK X.prog X.w X.K X.mg X.base fJ k f fd ps (m_ G n))(hr:aX k X.A)(hg:Gl X x)(hm:X.mg x=U (.ref f))(hk:q08 X.K (.ref f)=θ)(hb:Binds X.K fd ps [])
  (ha:JA X (e::es) (bM fa)) (cS:bx x:=by decide) (he:dI X e es:=by rfl) (cU:eS X pos es:=by rfl) :
  JE X (.Call (.Name x p) (e::es) [] pos) (tD (v9 n G fa)):=(vg Fn hr hg hm hk hb .nil vz ha cS he cU).weak R9
end
end
end L2
namespace PySem
open Sem (wp)
open AutoSeq1 (wpAny_loadPart')
theorem Sb(l:O)(items:Array B)(n:Nat)(dct:Option O)(sl:Array (Option B)):
  Meets (Builtin.«enumerate.__new__» ⟨[.type "enumerate",.ref l],[]⟩) (λ_ R s=>s.heap.get? l=U {cls:=.type "tuple",dict:=dct,data:=.seq items n,slots:=sl} ∧
   R (.ok (.ret (.ref (s.heap.push {cls:=.type "tuple_iterator",data:=.fields #[.ref l,.int 0 0]}).objs.size)))
    {s with heap:=(s.heap.push {cls:=.type "tuple_iterator",data:=.fields #[.ref l,.int 0 0]}).push {cls:=.type "enumerate",data:=.fields #[.none,.bool ι,.ref ⇑s,rawInt 0,.none,.none]}}) :=
 .of_wp λprog w A R s h=>by
  let⟨hp,g,d,tk,os⟩:=s;let⟨hl,h⟩:=h;let Cj:=sub_enumerate;let hL:Heap.IsTuple (q7r ⟨hp,g,d,tk,os⟩) l items:=⟨_,hl,Y,n,Y⟩
  wp_walk using q1S hl
  calc wpAny_stack_any λst=>vw ?_;split
  .rename_i c _ _ _ _ _
   cases(c==q2k "enumerate")
   .wp_walk using q1S hl,q2P hL
    exact⟨_,Y,h⟩
   .wp_walk using q1S hl,q2P hL
    exact⟨_,Y,h⟩
  .wp_walk using q1S hl,q2P hL
   calc⟨_,Y,h⟩
section
variable{prog:n}{w:Q}{A:q}{E:aJ}{s:L}
theorem Sd{l:O}{items:Array B}{Q:aJ}(hL:s.heap.IsTuple l items)
  (h:∀h',IsEnum h' (⇑s+1) ⇑s 0 .none->h'.IsTupleIter ⇑s l 0->h'.objs.size=⇑s+2 →
   (∀b o,s.heap.get? b=U o->h'.get? b=U o)->Q (.ref (⇑s+1)) {s with heap:=h'}) :
  G (g prog w) A (call (.type "enumerate") [.ref l]) Q E s:=by
 let⟨⟨c,dct,dt,sl⟩,hl,hc,n,hd⟩:=hL;subst hc hd
 refine callType_new F.called_enumerate (by decide) (F.typeCall_enumerate_1 _) (F.newCall_enumerate_1 _) (λobj=>F.args_object_init_2 obj _) F.entry_enumerate_new
  (Sb l items n dct sl) ⟨hl,?_⟩
 let hz:(s.heap.push {cls:=.type "tuple_iterator",data:=.fields #[.ref l,.int 0 0]}).objs.size=⇑s+1:=q1w ..;rw[hz]
 let he:IsEnum ((s.heap.push {cls:=.type "tuple_iterator",data:=.fields #[.ref l,.int 0 0]}).push
   {cls:=.type "enumerate",data:=.fields #[.none,.bool ι,.ref ⇑s,rawInt 0,.none,.none]}) (⇑s+1) ⇑s 0 .none:=by
  let:=ZI (s.heap.push {cls:=.type "tuple_iterator",data:=.fields #[.ref l,.int 0 0]})
   (o:={cls:=.type "enumerate",data:=.fields #[.none,.bool ι,.ref ⇑s,rawInt 0,.none,.none]}) Y
  rw[hz] at this;exact this
 calc⟨⟨_,he,Y⟩,h _ he ⟨_,rM _ (ZI _ Y),Y,Y⟩ (by rw[q1w,hz]) λb o x=>rM _ (rM _ x)⟩
theorem Se{it l:O}{i:Nat}{items:Array B}{x:B}{Q:aJ}(hit:s.heap.IsTupleIter it l i)(hl:s.heap.IsTuple l items)(hx:items[i]?=U x)
  (hQ:∀h',h'.IsTupleIter it l (i+1)->q2J it s.heap h'->Q x {s with heap:=h'}):G (g prog w) A (q1J (.ref it)) Q E s:=by
 let⟨o,ho,hc,hd⟩:=id hit;let⟨ol,Cm,_,nl,Co⟩:=hl;let nn:¬ ((q0w l==q0n)=θ):=q0b;calc oj (q0_ (name:=q0O "__next__") hit.typeIs q2n (q1e q2n hit.typeIs q4p ?_ (q4g _)));show G _ _ (field (.ref it) 0 >>= _) _ _ s;calc oj (q1h ho hd (x:=.ref l) Y ?_);calc oj (q1h ho hd (x:=.int i 0) Y ?_);calc oj (q12 Cm Co ?_);erw[q0x,hx];calc oj (q2D ho hd (by simp) (vw ⟨x,Y,vw (hQ _ ⟨_,q0E _ ho (q2r (q1F hd _)),(q4K ..).trans hc,?_⟩ (q0L ..))⟩));rw[q1F hd];simp[rawInt]
theorem Sf{it l:O}{i:Nat}{items:Array B}{Q:aJ}(hh:A.handled=Z)(hit:s.heap.IsTupleIter it l i)(hl:s.heap.IsTuple l items)(hx:items[i]?=Z)
  (hE:∀h' e,Heap.ExtBut it s.heap h'->(∃o,h'.get? e=U o/\o.cls=.type "StopIteration")->E (.ref e) {s with heap:=h'}):G (g prog w) A (q1J (.ref it)) Q E s:=by
 let⟨o,ho,hc,hd⟩:=id hit;let⟨ol,Cm,_,nl,Co⟩:=hl;let nn:¬ ((q0w l==q0n)=θ):=q0b;calc oj (q0_ (name:=q0O "__next__") hit.typeIs q2n (q1e q2n hit.typeIs q4p ?_ (q4g _)));show G _ _ (field (.ref it) 0 >>= _) _ _ s;calc oj (q1h ho hd (x:=.ref l) Y ?_);calc oj (q1h ho hd (x:=.int i 0) Y ?_);calc oj (q12 Cm Co ?_);erw[q0x,hx];calc oj (q3Y (oj (q2D ho hd (by simp) ?_)));calc oj ?_;calc oj (m:=firstArgMember _ _) (q7m (a:=q0n) (by first|rfl|(erw[firstArgMember];rfl)) (q01 ?_ (by size_fits)));refine oj (q8j ?_)
 first|rw[show A.in1.handled=Z from hh]|rw[hh]
 calc oj (vw (wpAny_throw (hE _ _ (((q0L ..).extBut.push _).push _) ⟨_,ZI _ Y,Y⟩)))
theorem Cp(hh:A.handled=Z)(it l:O)(fh:l≠it)(items:Array B):Draws prog w A it [it,l] items.size (λi v=>items[i]?=U v) (λi h=>h.IsTupleIter it l i/\h.IsTuple l items) where
 live:=λ_ _ st=>let⟨o,ho,_⟩:=st.1;⟨o,ho⟩
 frame:=λ_ _ _ st hk=>⟨st.1.at λo e=>hk it (by simp) o e,st.2.at λo e=>hk l (by simp) o e⟩
 item:=λi s Q E hi st hQ=>Se st.1 st.2 (x:=items[i]) (by simp[hi]) λh' Cq ye=>hQ _ h' s.toks (by simp[hi]) ⟨Cq,st.2.extBut ye.extBut fh⟩ ye
 done:=λs Q E st hE=>Sf hh st.1 st.2 (by simp) hE
end
end PySem
namespace L2
open PySem PySem.Spec PyProof.Rows
noncomputable def v_(K:xY)(a:O):It :=
 ⟨λi H=>∃xs x,bz K H a xs/\xs[i]?=U x,λi H x H'=>∃T v,x=.ref T/\H T=Z/\H'=upd H T (.tup [.int (i:Nat),v])/\∀xs,bz K H a xs->xs[i]?=U v,λi H=>∃xs,bz K H a xs/\↑xs=i⟩
theorem Sg{P:n}{w:ω}{K:xY}{elts:-M}{x1}{tp:Ε}(a e it:O)(fh:e≠it)(Sh:a≠e)(Ju:a≠it):
  Turn P w K (.Tuple elts x1 tp) (v_ K a) [e,it] e (λi h=>(∃old,IsEnum h e it (i:Nat) old)/\h.IsTupleIter it a i) where
 mem:=by simp
 obj:=λi h st b hb=>by
  let⟨⟨old,he⟩,o,hi,hc,hd⟩:=st;rcases My.mp hb with rfl|hb
  .exact⟨_,he,λv z=>by cases z⟩
  .let z:b=it:=by simpa using hb
   subst z;exact⟨o,hi,λv z=>by rw[hd] at z;cases z⟩
 keep:=λi h h' st k=>by
  let⟨⟨old,he⟩,hi⟩:=st;exact⟨⟨old,k e (by simp) _ he⟩,hi.at λo q=>k it (by simp) o q⟩
 item:=by
  ext X hP hw hK hc i pins s σ H E I hf st hg;subst hP hw hK;let⟨⟨old,he⟩,hi⟩:=st;let⟨xs,x,hq,hx⟩:=hg;let⟨ah,rv,p,hz⟩:=I.tuple hq;let⟨u,hu,ru⟩:=rv.get hx;let D:=Cp (prog:=X.prog) (w:=X.w) (A:=X.A.in1) (by rw[q2O];calc I.ok.hd hc) it a Ju ah.toArray;let r_:i<ah.toArray.size:=by rw[HW];exact(tU.mp hu).1
  refine wpAny_pyNext_enum_itemD D he ⟨hi,p⟩ r_ fh (by simp[fh,q1L Sh]) λy h1 tk py mP vG vH hsz hk=>⟨_,Y,?_⟩
  let ey:y=u:=by
   rw[q1M,hu] at py;cases py;rfl
  subst ey;calc q4A mP λh2 x6 dZ=>?_;let hT:⇑s≠e:=q1B (Qj he);let lr:h2.get? ⇑s=U {cls:=.type "tuple",data:=.seq #[.int i tk,y]}:=(dZ.2 _ hT).trans vH
  let k2:∀b o,b∉[e,it]->s.heap.get? b=U o->h2.get? b=U o:=λb o hb q=>by
   let om:b≠e:=λz=>hb (by simp[z]);let fM:b≠it:=λz=>hb (by simp[z]);exact(dZ.2 _ om).trans (hk b o om fM q)
  let hn:H ⇑s=Z:=I.aF.fresh (BA _);refine⟨.ref ⇑s,upd H ⇑s (.tup [.int i,x]),I.fQ (ch:=[e,it]) (t':=tk+1) hf k2 (BA _) ?_,Y,⟨_,x,Y,hn,Y,λys hy=>by rw[I.eT hy hq];calc hx⟩,⟨⟨y,?_⟩,?_⟩,λb hb=>?_⟩
  .exact⟨by show 2<=sizeLine;decide,[.int i tk,y],.cons ⟨_,Y⟩ (.cons ru .nil),_,lr,Y,_,Y⟩
  .let e3:((i:Int)+1)=(((i+1:Nat)):Int):=by symm
   exact x6
  .exact vG.1.at λo q=>(dZ.2 _ (q1L fh)).trans q
  .let:b<⇑s:=by
    let⟨o,q,_⟩:=hi;rcases My.mp hb with rfl|hb
    .exact Qj he
    .let z:b=it:=by simpa using hb
     subst z;exact Qj q
   rw[aA (ZN this)];exact(hf b hb).1
 done:=by
  ext X hP hw hK hc i pins s σ H E I hf st hg;subst hP hw hK;let⟨⟨old,he⟩,hi⟩:=st;let⟨xs,hq,hx⟩:=hg;let⟨ah,rv,p,hz⟩:=I.tuple hq;let D:=Cp (prog:=X.prog) (w:=X.w) (A:=X.A.in1) (by rw[q2O];calc I.ok.hd hc) it a Ju ah.toArray;let r_:ah.toArray.size=i:=by rw[HW,<-↑rv];exact hx
  calc wpAny_pyNext_enum_endD D he (by rw[r_];calc⟨hi,p⟩) λh1 eb=>⟨Y,?_⟩;let⟨f0,f1,f2,f3,f4,f5⟩:=hf it (by simp);exact I.turned (t':=s.toks) (λb o hb q=>eb b o hb q) f0 f1 f3 f4 f5
 self:=λA i s Q E st h=>by
  let⟨⟨old,he⟩,hi⟩:=st;calc q2g he h
section
variable{X:Cx}{elts:-M}{x1:Nat}{tp:y}{tg:M}
def Si(K:xY)(ta:TA):TI:=fun σ H R=>ta σ H λvs H1=>∃a,vs=[.ref a]/\(((∃xs,bh K H1 a xs)/\R (tX K a) H1)\/((∃xs,bz K H1 a xs)/\R (v_ K a) H1))
theorem Sj{a:M}{ta:TA}{p pos:y}(hg:Gl X "enumerate")(hm:X.mg "enumerate" = Z)(ha:JA X [a] ta)(hs:starEach [a] X.env=[(ι,eval a X.env)]:=by rfl):
  JI X (.Tuple elts x1 tp) (.Call (.Name "enumerate" p) [a] [] pos) (Si X.K ta):=by
 calc⟨?_⟩;ext pins s σ H R I h;calc Call_ (nW I hg hm Il (q1C (a_ (ha pos pins s σ H _ I h) λus s1 h0_=>el5 h0_ λvs H1 I1 r1 q1=>?_) hs Y));let⟨l,e,q⟩:=q1;subst e;let⟨u,rfl,rx⟩:=vals1 r1;cases rx
 let fp:∀b∈[⇑s1+1,⇑s1],bq X pins H1 b:=λb hb=>by
  let hb':⇑s1<=b:=by
   rcases My.mp hb with rfl|hb
   .exact q38 _
   .let z:b=⇑s1:=by simpa using hb
    rw[z];exact BA _
  exact I1.gH hb' (I1.aF.fresh hb')
 rcases q with⟨⟨xs,hq⟩,q⟩|⟨⟨xs,hq⟩,q⟩
 .let⟨ah,rv,p,hz⟩:=I1.list hq
  calc q50 p.isList λh' he hi hsz hk=>?_;let I2:Inv X pins σ H1 {s1 with heap:=h'}:=I1.kept (t':=s1.toks) hk;calc q2g he ?_;exact⟨_,_,_,_,H1,Y,I2,Ik l (⇑s1+1) ⇑s1 (q44 _),⟨⟨_,he⟩,hi⟩,fp,q⟩
 .let⟨ah,rv,p,hz⟩:=I1.tuple hq
  let Jv:l<⇑s1:=by let⟨o,e,_⟩:=p;exact Qj e
  calc Sd p λh' he hi hsz hk=>?_;let I2:Inv X pins σ H1 {s1 with heap:=h'}:=I1.kept (t':=s1.toks) hk;calc q2g he ?_;calc⟨_,_,_,_,H1,Y,I2,Sg l (⇑s1+1) ⇑s1 (q44 _) (ZN (q00 Jv)) (ZN Jv),⟨⟨_,he⟩,hi⟩,fp,q⟩
def Cr(K:xY)(tl:TE):TI:=fun σ H R=>tl σ H λx H1=>∃a,x=.ref a/\(((∃xs,bh K H1 a xs)/\R (Hm K a) H1)\/((∃xs,bz K H1 a xs)/\R (Hn K a) H1))
theorem Sk{l:M}{tl:TE}(hl:JE X l tl):JI X tg l (Cr X.K tl):=by
 calc⟨?_⟩;ext pins s σ H R I h;calc a_ (hl pins s σ H _ I h) λv s1 h0_=>el5 h0_ λx H1 I1 r1 q1=>?_;let⟨a,e,q⟩:=q1;subst e;cases r1
 let fp:∀b∈[⇑s1],bq X pins H1 b:=λb hb=>by
  let e:b=⇑s1:=by simpa using hb
  subst e;exact I1.gH (BA _) (I1.aF.fresh (BA _))
 rcases q with⟨⟨xs,hq⟩,q⟩|⟨⟨xs,hq⟩,q⟩
 .let⟨ah,rv,p,hz⟩:=I1.list hq
  exact q2w p.isList ⟨⇑s1,[⇑s1],_,_,H1,Y,I1.kept (t':=s1.toks) λb o e=>rM _ e,OO a _,⟨_,ZI _ Y,Y,Y⟩,fp,q⟩
 .let⟨ah,rv,p,hz⟩:=I1.tuple hq
  calc q2P (show s1.heap.IsTuple a ah.toArray from p) ⟨⇑s1,[⇑s1],_,_,H1,Y,I1.kept (t':=s1.toks) λb o e=>rM _ e,OQ a _,⟨_,ZI _ Y,Y,Y⟩,fp,q⟩
end
variable[aC]
noncomputable def cz(lo:Int)(n:Nat):-D:=(q0s n).map λi:Nat=>D.int (lo+i)
noncomputable def jE:Nat->-D->-D
 |_,[]=>[]
 |i,d::r=>.tup [.int i,d]::jE (i+1) r
noncomputable def cG:-D->-D->-D
 |a::r,b::s=>.tup [a,b]::cG r s
 |_,_=>[]
def lQ(x:DV)(δ:ay)(K:qr->Prop):Prop:=match x with
 |.p (.lst ds)=>K ⟨ds,λ_=>True⟩
 |.p (.tup ds)=>K ⟨ds,λ_=>True⟩
 |.o k=>match δ.mu[k]? with
  |some (some (.lst ds))=>K ⟨ds,fun δ'=>δ'.mu[k]?=U (U (.lst ds))⟩
  |_=>False
 |_=>False
def bN(f:WE):WI:=fun δ K=>f δ λx δ1=>lQ x δ1 λit=>K it δ1
def lR(fa:WA):WI:=fun δ K=>fa δ λxs δ1=>match xs with
 |[.p (.int j)]=>(-(2 ^ 62)<=j/\j<2 ^ 62)/\K ⟨cz 0 j.toNat,λ_=>True⟩ δ1
 |_=>False
def Cu(fa:WA):WI:=fun δ K=>fa δ λxs δ1=>match xs with
 |[.p (.int i),.p (.int j)]=>(-(2 ^ 62)<=i/\i<2 ^ 62 /\ -(2 ^ 62)<=j/\j<2 ^ 62)/\K ⟨cz i (j-i).toNat,λ_=>True⟩ δ1
 |_=>False
def gP(fa:WA):WI:=fun δ K=>fa δ λxs δ1=>match xs with
 |[x]=>lQ x δ1 λit=>K ⟨jE 0 it.items,it.bw⟩ δ1
 |_=>False
def Cv(x:DV)(δ:ay)(K:qr->Prop):Prop:=match x with
 |.p (.lst ds)=>K ⟨ds,λ_=>True⟩
 |.o k=>match δ.mu[k]? with
  |some (some (.lst ds))=>K ⟨ds,fun δ'=>δ'.mu[k]?=U (U (.lst ds))⟩
  |_=>False
 |_=>False
theorem nh{lo:Int}{n i:Nat}{d:D}(h:(cz lo n)[i]?=U d):i<n/\d=.int (lo+i):=by
 unfold cz at h;rw[Qi] at h;let⟨j,e,rfl⟩:=ZM.mp h;let hj:=(tU.mp e).1;rw[q0Z] at hj;rw[q1a hj] at e;cases e
 calc⟨hj,Y⟩
theorem lT(lo:Int)(n:Nat):↑(cz lo n)=n:=by unfold cz;rw[rO,q0Z]
theorem ni:∀(ds:-D)(i:Nat),↑(jE i ds)=↑ds
 |[],_=>Y
 |d::r,i=>by rw[jE,HY,HY,ni r]
theorem oJ:∀{ds:-D}{k i:Nat}{d:D},(jE k ds)[i]?=U d->∃e,ds[i]?=U e/\d=.tup [.int ((k+i:Nat):Int),e]
 |[],k,i,d,h=>by simp[jE] at h
 |e::r,k,0,d,h=>by
  cases(show U (D.tup [.int (k:Nat),e])=U d by simpa[jE] using h)
  exact⟨e,Y,Y⟩
 |e::r,k,i+1,d,h=>by
  let⟨e',h1,h2⟩:=oJ (ds:=r) (k:=k+1) (i:=i) (d:=d) (by simpa[jE] using h);calc⟨e',by simpa using h1,by rw[h2];congr 4;symm⟩
theorem Jw:∀{as bs:-D}{i:Nat}{d:D},(cG as bs)[i]?=U d->∃a b,as[i]?=U a/\bs[i]?=U b/\d=.tup [a,b]
 |[],_,i,d,h=>by simp[cG] at h
 |_::_,[],i,d,h=>by simp[cG] at h
 |a::r,b::s,0,d,h=>by
  cases(show U (D.tup [a,b])=U d by simpa[cG] using h)
  exact⟨a,b,Y,Y,Y⟩
 |a::r,b::s,i+1,d,h=>by
  let⟨x,y,h1,h2,h3⟩:=Jw (as:=r) (bs:=s) (i:=i) (d:=d) (by simpa[cG] using h);calc⟨x,y,by simpa using h1,by simpa using h2,h3⟩
theorem yz:∀(as bs:-D),↑(cG as bs)=min ↑as bs.length
 |[],_=>by simp[cG]
 |_::_,[]=>by simp[cG]
 |a::r,b::s=>by rw[cG,HY,HY,HY,yz r s];symm
section
variable{X:Cx}{tg l a b:M}{f:WE}{fa:WA}{F H:Hp}{ad:-O}{δ:ay}{σ:St}
theorem JI.weak{iter:M}{w w':TI}(h:JI X tg iter w)(k:∀σ H R,w' σ H R->w σ H R):JI X tg iter w':=⟨λpins s σ H R I q=>h pins s σ H R I (k σ H R q)⟩
theorem qv{ds:-D}{vs:-V}(h:ae F ds vs){i:Nat}{d:D}(e:ds[i]?=U d):∃v,vs[i]?=U v/\Is F d v:=by
 let hl:=↑h;let hi:i<↑vs:=by rw[hl];exact(tU.mp e).1
 let⟨d',e1,h1⟩:=h.get (rN hi);rw[e] at e1;cases e1;calc⟨_,rN hi,h1⟩
theorem Jx{x:DV}{v:V}{K:qr->Prop}(S:SR F ad δ σ H)(V1:eg F ad x v)(h:Cv x δ K):∃a it,v=.ref a/\K it/\(∃vs,H a=U (.lst vs)) ∧
  ∀(F':Hp)(ax:-O)(δ':ay)(σ':St)(H':Hp),av F F'->(∀(k:Nat)(a:O),ad[k]?=U a->ax[k]?=U a)->SR F' ax δ' σ' H'->it.bw δ'->∃vs,H' a=U (.lst vs)/\ae F' it.items vs:=by
 unfold Cv at h;split at h
 .rename_i ds
  let V2:Is F (.lst ds) v:=V1;erw[Is] at V2;let⟨a,vs,rfl,h1,h2⟩:=V2;exact⟨a,_,Y,h,⟨vs,S.sub _ _ h1⟩,λF' ax δ' σ' H' s _ S' _=>⟨vs,S'.sub _ _ (s _ _ h1),h2.same s⟩⟩
 .rename_i k
  split at h
  .rename_i ds e
   let⟨a,e1,rfl⟩:=V1;let⟨a',o,e2,e3,vs,rfl,h4⟩:=S.mu k _ e;rw[e1] at e2;cases e2;calc⟨a,_,Y,h,⟨vs,e3⟩,λF' ax δ' σ' H' _ pre S' ck=>?_⟩;let⟨ZV,o,e5,e6,ws,rfl,h7⟩:=S'.mu k _ ck;rw[pre k a e1] at e5;cases e5;exact⟨ws,e6,h7⟩
  .exact h.elim
 .calc h.elim
theorem Cw{x:DV}{v:V}{K:qr->Prop}(S:SR F ad δ σ H)(V1:eg F ad x v)(h:lQ x δ K):∃a it,v=.ref a/\K it ∧
  (((∃vs,H a=U (.lst vs))/\∀(F':Hp)(ax:-O)(δ':ay)(σ':St)(H':Hp),av F F'->(∀(k:Nat)(a:O),ad[k]?=U a->ax[k]?=U a)->SR F' ax δ' σ' H'->it.bw δ'->∃vs,H' a=U (.lst vs)/\ae F' it.items vs) ∨
  ((∃vs,H a=U (.tup vs))/\∀(F':Hp)(ax:-O)(δ':ay)(σ':St)(H':Hp),av F F'->(∀(k:Nat)(a:O),ad[k]?=U a->ax[k]?=U a)->SR F' ax δ' σ' H'->it.bw δ'->∃vs,H' a=U (.tup vs)/\ae F' it.items vs)):=by
 unfold lQ at h;split at h
 .rename_i ds
  let⟨a,it,e,k,r⟩:=Jx (x:=.p (.lst ds)) S V1 h;exact⟨a,it,e,k,.inl r⟩
 .rename_i ds
  let V2:Is F (.tup ds) v:=V1;erw[Is] at V2;let⟨a,vs,rfl,h1,h2⟩:=V2;exact⟨a,_,Y,h,.inr ⟨⟨vs,S.sub _ _ h1⟩,λF' ax δ' σ' H' s _ S' _=>⟨vs,S'.sub _ _ (s _ _ h1),h2.same s⟩⟩⟩
 .rename_i k
  let⟨a,it,e,k,r⟩:=Jx (x:=.o k) S V1 h;exact⟨a,it,e,k,.inl r⟩
 .calc h.elim
theorem Jy(hl:JE X l (tD f)):JI X tg l (jC (bN f)):=(Sk hl).weak fun σ H R h0_=>el7 h0_ λF ad δ K S q k =>⟨F,ad,δ,_,S,q,λx δ1 h1 v F1 aN H1 E1 S1 V1=>by
 let⟨a,it,rfl,hk,r⟩:=Cw S1 V1 h1;calc⟨a,Y,?_⟩;rcases r with⟨⟨vs,e⟩,r⟩|⟨⟨vs,e⟩,r⟩
 .refine .inl ⟨⟨vs,bh.of e⟩,k _ _ hk _ _ _ _ E1 S1 λF' ax δ' σ' H' s pre S' ck=>?_⟩
  let⟨ws,e1,e2⟩:=r F' ax δ' σ' H' s pre S' ck;calc⟨⟨ws,bh.of e1,by rw[↑e2];calc BA _⟩,λi d ed=>?_⟩;let⟨w,e3,e4⟩:=qv e2 ed;calc⟨⟨ws,w,bh.of e1,e3⟩,λy kF ⟨eh,hy⟩=>?_⟩;subst eh;calc⟨λ_ _ e=>e,?_⟩;let:=hy ws (bh.of e1);rw[e3] at this;cases this;rw[Nw.refl S'.sub];exact e4
 .refine .inr ⟨⟨vs,bz.of e⟩,k _ _ hk _ _ _ _ E1 S1 λF' ax δ' σ' H' s pre S' ck=>?_⟩
  let⟨ws,e1,e2⟩:=r F' ax δ' σ' H' s pre S' ck;calc⟨⟨ws,bz.of e1,by rw[↑e2];calc BA _⟩,λi d ed=>?_⟩;let⟨w,e3,e4⟩:=qv e2 ed;calc⟨⟨ws,w,bz.of e1,e3⟩,λy kF ⟨eh,hy⟩=>?_⟩;subst eh;calc⟨λ_ _ e=>e,?_⟩;let:=hy ws (bz.of e1);rw[e3] at this;cases this
  rw[Nw.refl S'.sub];calc e4⟩
theorem Cy{F H:Hp}{T:O}{d e:D}{x y:V}(s:av F H)(hT:H T=Z)(h1:Is F d x)(h2:Is F e y):Is (Nw F H (upd H T (.tup [x,y]))) (.tup [d,e]) (.ref T):=by
 rw[Nw.upd s hT]
 let hF:F T=Z:=by
  cases q:F T with
  |none=>rfl
  |some u=>rw[s T u q] at hT;cases hT
 let sm:av F (upd F T (.tup [x,y])):=bL hF;erw[Is];calc⟨T,_,Y,bj,.cons (h1.same sm) (.cons (h2.same sm) .nil)⟩
theorem Sl{elts:-M}{x1:Nat}{tp p pos:Ε}(hg:Gl X "enumerate")(hm:X.mg "enumerate" = Z)(ha:JA X [a] (bM fa))(hs:starEach [a] X.env=[(ι,eval a X.env)]:=by rfl):
  JI X (.Tuple elts x1 tp) (.Call (.Name "enumerate" p) [a] [] pos) (jC (gP fa)):=(Sj hg hm ha hs).weak fun σ H R h0_=>el7 h0_ λF ad δ K S q k =>⟨F,ad,δ,_,S,q,λxs δ1 h1 vs F1 aN H1 E1 S1 V1=>by
 match xs,h1,V1 with
 |[x],g1,⟨v,r,e,W1,W2⟩ =>
  subst e;let W3:r=[]:=W2;subst W3;let⟨a,it,rfl,hk,r⟩:=Cw S1 W1 g1;calc⟨a,Y,?_⟩;rcases r with⟨⟨vs,e⟩,r⟩|⟨⟨vs,e⟩,r⟩
  .refine .inl ⟨⟨vs,bh.of e⟩,k _ _ hk _ _ _ _ E1 S1 λF' ax δ' σ' H' s pre S' ck=>?_⟩
   let⟨ws,e1,e2⟩:=r F' ax δ' σ' H' s pre S' ck;calc⟨⟨ws,bh.of e1,by rw[↑e2,ni];calc BA _⟩,λi d ed=>?_⟩;let⟨d',Cz,rfl⟩:=oJ ed;let⟨w,e3,e4⟩:=qv e2 Cz;calc⟨⟨ws,w,bh.of e1,e3⟩,λy kF ⟨T,v,ey,hT,eh,hy⟩=>?_⟩;subst eh ey;let:=hy ws (bh.of e1);rw[e3] at this;cases this;calc⟨bL hT,?_⟩;rw[q0J];exact Cy S'.sub hT Y e4
  .refine .inr ⟨⟨vs,bz.of e⟩,k _ _ hk _ _ _ _ E1 S1 λF' ax δ' σ' H' s pre S' ck=>?_⟩
   let⟨ws,e1,e2⟩:=r F' ax δ' σ' H' s pre S' ck;calc⟨⟨ws,bz.of e1,by rw[↑e2,ni]⟩,λi d ed=>?_⟩;let⟨d',Cz,rfl⟩:=oJ ed;let⟨w,e3,e4⟩:=qv e2 Cz;calc⟨⟨ws,w,bz.of e1,e3⟩,λy kF ⟨T,v,ey,hT,eh,hy⟩=>?_⟩;subst eh ey;let:=hy ws (bz.of e1);rw[e3] at this;cases this;calc⟨bL hT,?_⟩;rw[q0J];exact Cy S'.sub hT Y e4
 |[],h1,_=>exact h1.elim
 |_::_::_,h1,_=>calc h1.elim⟩
theorem Jz{F1:Hp}{aN:-O}{lo:Int}{n:Nat}:rY F1 aN ⟨cz lo n,λ_=>True⟩ (u9 lo n):=λF' ax δ' σ' H' s pre S' _=>by
 calc⟨by show n<=↑(cz lo n);rw[lT];calc BA _,λi d ed=>?_⟩;let⟨hi,rfl⟩:=nh ed;calc⟨hi,λx kF ⟨eh,ex⟩=>?_⟩;subst eh ex;calc⟨λ_ _ e=>e,Y⟩
theorem Sm{p pos:y}(hg:Gl X "range")(hm:X.mg "range" = Z)(ha:JA X [a] (bM fa))(hs:starEach [a] X.env=[(ι,eval a X.env)]:=by rfl):JI X tg (.Call (.Name "range" p) [a] [] pos) (jC (lR fa)) :=
 (OU hg hm ha hs).weak fun σ H R h0_=>el7 h0_ λF ad δ K S q k =>⟨F,ad,δ,_,S,q,λxs δ1 h1 vs F1 aN H1 E1 S1 V1=>by
  split at h1
  .rename_i j
   let⟨v,r,e,V1,V2⟩:=V1;let V2:r=[]:=V2;let V1:v=.int j:=V1;subst V2 V1 e;exact⟨j,Y,h1.1.1,h1.1.2,k _ _ h1.2 _ _ _ _ E1 S1 Jz⟩
  .calc h1.elim⟩
theorem Sn{p pos:y}(hg:Gl X "range")(hm:X.mg "range" = Z)(ha:JA X [a,b] (bM fa))(hs:starEach [a,b] X.env=[(ι,eval a X.env),(ι,eval b X.env)]:=by rfl)(dZ:starEach [b] X.env=[(ι,eval b X.env)]:=by rfl):
  JI X tg (.Call (.Name "range" p) [a,b] [] pos) (jC (Cu fa)) :=
 (OW hg hm ha hs dZ).weak fun σ H R h0_=>el7 h0_ λF ad δ K S q k =>⟨F,ad,δ,_,S,q,λxs δ1 h1 vs F1 aN H1 E1 S1 V1=>by
  split at h1
  .rename_i i j
   let⟨v,r,e,V1,w,r2,e2,V2,V3⟩:=V1;let V3:r2=[]:=V3;let V1:v=.int i:=V1;let V2:w=.int j:=V2;subst V3 V1 V2 e2 e;exact⟨i,j,Y,h1.1,k _ _ h1.2 _ _ _ _ E1 S1 Jz⟩
  .calc h1.elim⟩
end
end L2
namespace L2
open PySem PySem.Spec PyProof.Rows
mutual
noncomputable def aw:D->D->Bool
 |.non,.non=>θ
 |.bl a,.bl b=>a==b
 |.bl a,.int b=>(if a then 1 else 0)==b
 |.int a,.bl b=>a==(if b then 1 else 0)
 |.int a,.int b=>a==b
 |.str a,.str b=>a==b
 |.tup a,.tup b=>dq a b
 |.lst a,.lst b=>dq a b
 |_,_=>ι
noncomputable def dq:-D->-D->Bool
 |[],[]=>θ
 |a::r,b::s=>aw a b&&dq r s
 |_,_=>ι
end
mutual
theorem f6:∀d:D,aw d d=θ
 |.non=>by simp[aw]
 |.bl a=>by simp[aw]
 |.int a=>by simp[aw]
 |.str a=>by simp[aw]
 |.tup a=>by erw[aw];exact CA a
 |.lst a=>by erw[aw];calc CA a
theorem CA:∀ds:-D,dq ds ds=θ
 |[]=>by simp[dq]
 |d::r=>by erw[dq,f6 d,CA r,q6f]
end
mutual
theorem Is.inj {H:Hp}:∀{d e:D}{v:V},Is H d v->Is H e v->d=e
 |.non,e,v,h,q=>by cases e<;>erw[Is] at h q<;>first|rfl|(subst h;first|(let⟨_,_,z,_⟩:=q;cases z;done)|(cases q;done)|(cases q;rfl))
 |.bl a,e,v,h,q=>by cases e<;>erw[Is] at h q<;>(subst h;first|(let⟨_,_,z,_⟩:=q;cases z;done)|(cases q;done)|(cases q;rfl))
 |.int a,e,v,h,q=>by cases e<;>erw[Is] at h q<;>(subst h;first|(let⟨_,_,z,_⟩:=q;cases z;done)|(cases q;done)|(cases q;rfl))
 |.str a,e,v,h,q=>by cases e<;>erw[Is] at h q<;>(subst h;first|(let⟨_,_,z,_⟩:=q;cases z;done)|(cases q;done)|(cases q;rfl))
 |.tup a,e,v,h,q=>by
  erw[Is] at h;let⟨p,vs,rfl,h1,h2⟩:=h
  cases e with
  |tup b =>
   erw[Is] at q;let⟨p',ws,z,q1,q2⟩:=q;cases z
   rw[h1] at q1;cases q1;rw[ae.inj h2 q2]
  |lst b =>
   erw[Is] at q;let⟨p',ws,z,q1,q2⟩:=q;cases z
   rw[h1] at q1;cases q1
  |non=>erw[Is] at q;cases q
  |bl _=>erw[Is] at q;cases q
  |int _=>erw[Is] at q;cases q
  |str _=>erw[Is] at q;cases q
 |.lst a,e,v,h,q=>by
  erw[Is] at h;let⟨p,vs,rfl,h1,h2⟩:=h
  cases e with
  |lst b =>
   erw[Is] at q;let⟨p',ws,z,q1,q2⟩:=q;cases z
   rw[h1] at q1;cases q1;rw[ae.inj h2 q2]
  |tup b =>
   erw[Is] at q;let⟨p',ws,z,q1,q2⟩:=q;cases z
   rw[h1] at q1;cases q1
  |non=>erw[Is] at q;cases q
  |bl _=>erw[Is] at q;cases q
  |int _=>erw[Is] at q;cases q
  |str _=>erw[Is] at q;cases q
theorem ae.inj {H:Hp}:∀{ds es:-D}{vs:-V},ae H ds vs->ae H es vs->ds=es
 |[],es,vs,h,q=>by
  erw[ae] at h;subst h
  cases es with
  |nil=>rfl
  |cons _ _=>erw[ae] at q;let⟨_,_,z,_⟩:=q;cases z
 |d::ds,es,vs,h,q=>by
  erw[ae] at h;let⟨v,r,rfl,h1,h2⟩:=h
  cases es with
  |nil=>erw[ae] at q;cases q
  |cons e es =>
   erw[ae] at q;let⟨v',r',z,q1,q2⟩:=q;cases z
   rw[Is.inj h1 q1,ae.inj h2 q2]
end
theorem wa:∀{ds es:-D},↑ds≠↑es->dq ds es=ι
 |[],[],h=>absurd Y h
 |[],_::_,_=>by simp[dq]
 |_::_,[],_=>by simp[dq]
 |d::r,e::s,h=>by erw[dq];rw[wa (λz=>h (by rw[HY,HY,z])),q3N]
noncomputable def sd(ds es:-D)(j:Nat):Bool:=match ds[j]?,es[j]? with
 |some a,some b=>aw a b
 |_,_=>θ
theorem wb:∀{ds es:-D},↑ds=↑es->(q0s ↑ds).all (sd ds es)=dq ds es
 |[],[],_=>by simp[dq]
 |[],_::_,h=>by simp at h
 |_::_,[],h=>by simp at h
 |d::r,e::s,h=>by
  let ih:=wb (ds:=r) (es:=s) h⁻¹;rw[HY,List.range_succ_eq_map,q2W,q84];erw[dq];rw[<-ih];rfl
section
variable{X:Cx}{pins:au}{σ:St}{H:Hp}{s:L}
theorem wc{vs:-V}{ah:-B}(r:Vals vs ah){j:Nat}(h:j<ah.toArray.size):∃v,vs[j]?=U v/\RelV v ah.toArray[j]:=by
 let hj:j<↑ah:=by simpa using h
 let hv:j<↑vs:=by rw[↑r];exact hj
 let⟨u,e,ru⟩:=r.get (rN hv)
 let:ah.toArray[j]=u:=by
  let:=(tU.mp e).2;simpa using this
 rw[this];calc⟨_,rN hv,ru⟩
theorem dr(I:Inv X pins σ H s){a:O}{vs:-V}(h:H a=U (.lst vs)):∃ah:-B,Vals vs ah/\s.heap.IsList a ah.toArray:=by
 let⟨ah,r,p,_⟩:=I.list (bh.of h);calc⟨ah,r,p.isList⟩
theorem du(I:Inv X pins σ H s){a:O}{vs:-V}(h:H a=U (.tup vs)):∃ah:-B,Vals vs ah/\s.heap.IsTuple a ah.toArray:=by
 let⟨ah,r,p,_⟩:=I.tuple (bz.of h);calc⟨ah,r,p⟩
theorem in1_units(A:q):A.in1.units=A.units+1:=rfl
theorem CB(I:Inv X pins σ H s):∀(n:Nat){A:q}{d e:D}{v u:V}{x y:B},dep d<=n->A.units+n<cLine->Is H d v->Is H e u->RelV v x->RelV u y->q30 A s x y (aw d e)/\q73 A s x y (aw d e):=by
 ext n
 induction n with
 |zero =>
  ext A d e v u x y hd hu hv hw rv ru;let nz:A.units<cLine:=by symm
  cases d with
  |tup ds=>simp[dep] at hd
  |lst ds=>simp[dep] at hd
  |non =>
   cases(show v=.non from hv);cases rv
   cases e with
   |non=>cases(show u=.non from hw);cases ru;erw[aw];exact⟨q4e _,SeqAt.RcAt.none_none⟩
   |bl b=>cases(show u=.bl b from hw);cases ru;erw[aw];exact⟨q5F _,SeqAt.RcAt.none_bool _⟩
   |int b=>cases(show u=.int b from hw);let⟨t,rfl⟩:=ru;erw[aw];exact⟨q5S _ _,SeqAt.RcAt.none_int _ _⟩
   |str b=>cases(show u=.str b from hw);let⟨t,rfl⟩:=ru;erw[aw];exact⟨q5T _ _,SeqAt.RcAt.none_str _ _⟩
   |tup es=>erw[Is] at hw;let⟨a,vs,rfl,h1,_⟩:=hw;cases ru;let⟨_,_,p⟩:=du I h1;erw[aw];exact⟨SeqAt.EqAt.none_tuple p nz,SeqAt.RcAt.none_tuple p nz⟩
   |lst es=>erw[Is] at hw;let⟨a,vs,rfl,h1,_⟩:=hw;cases ru;let⟨_,_,p⟩:=dr I h1;erw[aw];exact⟨SeqAt.EqAt.none_list p nz,SeqAt.RcAt.none_list p nz⟩
  |bl b0 =>
   cases(show v=.bl b0 from hv);cases rv
   cases e with
   |non=>cases(show u=.non from hw);cases ru;erw[aw];exact⟨q5G _,SeqAt.RcAt.bool_none _⟩
   |bl b=>cases(show u=.bl b from hw);cases ru;erw[aw];exact⟨q5H _ _,SeqAt.RcAt.bool_bool _ _⟩
   |int b=>cases(show u=.int b from hw);let⟨t,rfl⟩:=ru;erw[aw];exact⟨q5U _ _ _,SeqAt.RcAt.bool_int _ _ _⟩
   |str b=>cases(show u=.str b from hw);let⟨t,rfl⟩:=ru;erw[aw];exact⟨q5V _ _ _,SeqAt.RcAt.bool_str _ _ _⟩
   |tup es=>erw[Is] at hw;let⟨a,vs,rfl,h1,_⟩:=hw;cases ru;let⟨_,_,p⟩:=du I h1;erw[aw];exact⟨SeqAt.EqAt.bool_tuple _ p nz,SeqAt.RcAt.bool_tuple _ p nz⟩
   |lst es=>erw[Is] at hw;let⟨a,vs,rfl,h1,_⟩:=hw;cases ru;let⟨_,_,p⟩:=dr I h1;erw[aw];exact⟨SeqAt.EqAt.bool_list _ p nz,SeqAt.RcAt.bool_list _ p nz⟩
  |int b0 =>
   cases(show v=.int b0 from hv);let⟨t0,rfl⟩:=rv
   cases e with
   |non=>cases(show u=.non from hw);cases ru;erw[aw];exact⟨q5W _ _,SeqAt.RcAt.int_none _ _⟩
   |bl b=>cases(show u=.bl b from hw);cases ru;erw[aw];exact⟨q5X _ _ _,SeqAt.RcAt.int_bool _ _ _⟩
   |int b=>cases(show u=.int b from hw);let⟨t,rfl⟩:=ru;erw[aw];exact⟨q4x _ _ _ _,SeqAt.RcAt.int_int _ _ _ _⟩
   |str b=>cases(show u=.str b from hw);let⟨t,rfl⟩:=ru;erw[aw];exact⟨q4t _ _ _ _,SeqAt.RcAt.int_str _ _ _ _⟩
   |tup es=>erw[Is] at hw;let⟨a,vs,rfl,h1,_⟩:=hw;cases ru;let⟨_,_,p⟩:=du I h1;erw[aw];exact⟨SeqAt.EqAt.int_tuple _ _ p nz,SeqAt.RcAt.int_tuple _ _ p nz⟩
   |lst es=>erw[Is] at hw;let⟨a,vs,rfl,h1,_⟩:=hw;cases ru;let⟨_,_,p⟩:=dr I h1;erw[aw];exact⟨SeqAt.EqAt.int_list _ _ p nz,SeqAt.RcAt.int_list _ _ p nz⟩
  |str b0 =>
   cases(show v=.str b0 from hv);let⟨t0,rfl⟩:=rv
   cases e with
   |non=>cases(show u=.non from hw);cases ru;erw[aw];exact⟨q5Y _ _,SeqAt.RcAt.str_none _ _⟩
   |bl b=>cases(show u=.bl b from hw);cases ru;erw[aw];exact⟨q5Z _ _ _,SeqAt.RcAt.str_bool _ _ _⟩
   |int b=>cases(show u=.int b from hw);let⟨t,rfl⟩:=ru;erw[aw];exact⟨q4u _ _ _ _,SeqAt.RcAt.str_int _ _ _ _⟩
   |str b=>cases(show u=.str b from hw);let⟨t,rfl⟩:=ru;erw[aw];exact⟨q6o _ _ _ _,SeqAt.RcAt.str_str _ _ _ _⟩
   |tup es=>erw[Is] at hw;let⟨a,vs,rfl,h1,_⟩:=hw;cases ru;let⟨_,_,p⟩:=du I h1;erw[aw];exact⟨SeqAt.EqAt.str_tuple _ _ p nz,SeqAt.RcAt.str_tuple _ _ p nz⟩
   |lst es=>erw[Is] at hw;let⟨a,vs,rfl,h1,_⟩:=hw;cases ru;let⟨_,_,p⟩:=dr I h1;erw[aw];exact⟨SeqAt.EqAt.str_list _ _ p nz,SeqAt.RcAt.str_list _ _ p nz⟩
 |succ n ih =>
  ext A d e v u x y hd hu hv hw rv ru;let nz:A.units<cLine:=by symm
  let step:∀{ds es:-D}{vs us:-V}{ah bf:-B}(r1:Vals vs ah)(r2:Vals us bf),aZ ds<=n->ae H ds vs->ae H es us →
    ∀(j:Nat)(h1:j<ah.toArray.size)(h2:j<bf.toArray.size),q30 A.in1 s ah.toArray[j] bf.toArray[j] (sd ds es j):=λ{ds es vs us ah bf} r1 r2 hl i1 i2 j h1 h2=>by
   let⟨v1,e1,q1⟩:=wc r1 h1;let⟨v2,e2,q2⟩:=wc r2 h2;let⟨d1,f1,g1⟩:=i1.get e1;let⟨d2,f2,g2⟩:=i2.get e2;unfold sd;rw[f1,f2];exact(ih (q0Q (BX f1) hl) (by rw[in1_units];symm) g1 g2 q1 q2).1
  cases d with
  |tup ds =>
   let hl:aZ ds<=n:=by erw[dep] at hd;symm
   let CC:=hv;erw[Is] at hv;let⟨a,vs,rfl,h1,i1⟩:=hv;cases rv
   let⟨ah,r1,p1⟩:=du I h1
   cases e with
   |tup es =>
    let CD:=hw;erw[Is] at hw;let⟨b,us,rfl,h2,i2⟩:=hw;cases ru
    let⟨bf,r2,p2⟩:=du I h2
    let rc:q73 A s (.ref a) (.ref b) (aw (.tup ds) (.tup es)):=by
     let:=SeqAt.RcAt.tuples p1 p2 nz (step r1 r2 hl i1 i2);let l1:ah.toArray.size=↑ds:=by rw[HW,<-↑r1,↑i1]
     let l2:bf.toArray.size=↑es:=by rw[HW,<-↑r2,↑i2]
     rw[l1,l2] at this
     let eb:((q0s (min ↑ds ↑es)).all (sd ds es)&&↑ds==↑es)=aw (.tup ds) (.tup es):=by
      erw[aw]
      by_cases c:↑ds=↑es
      .rw[<-c,q6V,wb c];simp
      .rw[wa c];simp[c]
     rw[eb] at this;exact this
    refine⟨?_,rc⟩
    by_cases c:a=b
    .subst c
     let:=Is.inj CC CD;rw[this,f6];exact q4e _
    .exact q6s c rc
   |lst es =>
    erw[Is] at hw;let⟨b,us,rfl,h2,i2⟩:=hw;cases ru
    let⟨bf,r2,p2⟩:=dr I h2;erw[aw];exact⟨SeqAt.EqAt.tuple_list p1 p2 nz,SeqAt.RcAt.tuple_list p1 p2 nz⟩
   |non=>cases(show u=.non from hw);cases ru;erw[aw];exact⟨SeqAt.EqAt.tuple_none p1 nz,SeqAt.RcAt.tuple_none p1 nz⟩
   |bl b=>cases(show u=.bl b from hw);cases ru;erw[aw];exact⟨SeqAt.EqAt.tuple_bool _ p1 nz,SeqAt.RcAt.tuple_bool _ p1 nz⟩
   |int b=>cases(show u=.int b from hw);let⟨t,rfl⟩:=ru;erw[aw];exact⟨SeqAt.EqAt.tuple_int _ _ p1 nz,SeqAt.RcAt.tuple_int _ _ p1 nz⟩
   |str b=>cases(show u=.str b from hw);let⟨t,rfl⟩:=ru;erw[aw];exact⟨SeqAt.EqAt.tuple_str _ _ p1 nz,SeqAt.RcAt.tuple_str _ _ p1 nz⟩
  |lst ds =>
   let hl:aZ ds<=n:=by erw[dep] at hd;symm
   let CC:=hv;erw[Is] at hv;let⟨a,vs,rfl,h1,i1⟩:=hv;cases rv
   let⟨ah,r1,p1⟩:=dr I h1
   cases e with
   |lst es =>
    let CD:=hw;erw[Is] at hw;let⟨b,us,rfl,h2,i2⟩:=hw;cases ru
    let⟨bf,r2,p2⟩:=dr I h2;let l1:ah.toArray.size=↑ds:=by rw[HW,<-↑r1,↑i1]
    let l2:bf.toArray.size=↑es:=by rw[HW,<-↑r2,↑i2]
    let rc:q73 A s (.ref a) (.ref b) (aw (.lst ds) (.lst es)):=by
     by_cases c:↑ds=↑es
     .let:=SeqAt.RcAt.lists p1 p2 (by rw[l1,l2];calc c) nz (step r1 r2 hl i1 i2)
      rw[l1,wb c] at this;erw[aw];exact this
     .erw[aw];rw[wa c]
      exact SeqAt.RcAt.lists_lengths p1 p2 (by rw[l1,l2];simpa using c) nz
    refine⟨?_,rc⟩
    by_cases c:a=b
    .subst c
     let:=Is.inj CC CD;rw[this,f6];exact q4e _
    .exact q6s c rc
   |tup es =>
    erw[Is] at hw;let⟨b,us,rfl,h2,i2⟩:=hw;cases ru
    let⟨bf,r2,p2⟩:=du I h2;erw[aw];exact⟨SeqAt.EqAt.list_tuple p1 p2 nz,SeqAt.RcAt.list_tuple p1 p2 nz⟩
   |non=>cases(show u=.non from hw);cases ru;erw[aw];exact⟨SeqAt.EqAt.list_none p1 nz,SeqAt.RcAt.list_none p1 nz⟩
   |bl b=>cases(show u=.bl b from hw);cases ru;erw[aw];exact⟨SeqAt.EqAt.list_bool _ p1 nz,SeqAt.RcAt.list_bool _ p1 nz⟩
   |int b=>cases(show u=.int b from hw);let⟨t,rfl⟩:=ru;erw[aw];exact⟨SeqAt.EqAt.list_int _ _ p1 nz,SeqAt.RcAt.list_int _ _ p1 nz⟩
   |str b=>cases(show u=.str b from hw);let⟨t,rfl⟩:=ru;erw[aw];exact⟨SeqAt.EqAt.list_str _ _ p1 nz,SeqAt.RcAt.list_str _ _ p1 nz⟩
  |non=>exact ih (by simp[dep]) ⋯ hv hw rv ru
  |bl b0=>exact ih (by simp[dep]) ⋯ hv hw rv ru
  |int b0=>exact ih (by simp[dep]) ⋯ hv hw rv ru
  |str b0=>calc ih (by simp[dep]) ⋯ hv hw rv ru
theorem So(I:Inv X pins σ H s){A:q}{d e:D}{v u:V}{x y:B}(hd:dep d<=60)(hu:A.units+61<cLine)(hv:Is H d v)(hw:Is H e u)(rv:RelV v x)(ru:RelV u y):SeqAt.RcNeAt A s x y (!aw d e):=by
 let nz:A.units<cLine:=by symm
 let step:∀{ds es:-D}{vs us:-V}{ah bf:-B}(r1:Vals vs ah)(r2:Vals us bf),aZ ds<=59->ae H ds vs->ae H es us →
   ∀(j:Nat)(h1:j<ah.toArray.size)(h2:j<bf.toArray.size),q30 A.in1 s ah.toArray[j] bf.toArray[j] (sd ds es j):=λ{ds es vs us ah bf} r1 r2 hl i1 i2 j h1 h2=>by
  let⟨v1,e1,q1⟩:=wc r1 h1;let⟨v2,e2,q2⟩:=wc r2 h2;let⟨d1,f1,g1⟩:=i1.get e1;let⟨d2,f2,g2⟩:=i2.get e2;unfold sd;rw[f1,f2];exact(CB I 59 (q0Q (BX f1) hl) (by rw[in1_units];symm) g1 g2 q1 q2).1
 cases d with
 |tup ds =>
  let hl:aZ ds<=59:=by erw[dep] at hd;symm
  erw[Is] at hv;let⟨a,vs,rfl,h1,i1⟩:=hv;cases rv
  let⟨ah,r1,p1⟩:=du I h1
  cases e with
  |tup es =>
   erw[Is] at hw;let⟨b,us,rfl,h2,i2⟩:=hw;cases ru
   let⟨bf,r2,p2⟩:=du I h2;let:=SeqAt.RcNeAt.tuples p1 p2 nz (step r1 r2 hl i1 i2);let l1:ah.toArray.size=↑ds:=by rw[HW,<-↑r1,↑i1]
   let l2:bf.toArray.size=↑es:=by rw[HW,<-↑r2,↑i2]
   rw[l1,l2] at this
   let eb:((q0s (min ↑ds ↑es)).all (sd ds es)&&↑ds==↑es)=aw (.tup ds) (.tup es):=by
    erw[aw]
    by_cases c:↑ds=↑es
    .rw[<-c,q6V,wb c];simp
    .rw[wa c];simp[c]
   rw[eb] at this;exact this
  |lst es=>erw[Is] at hw;let⟨b,us,rfl,h2,i2⟩:=hw;cases ru;let⟨bf,r2,p2⟩:=dr I h2;erw[aw];exact SeqAt.RcNeAt.tuple_list p1 p2 nz
  |non=>cases(show u=.non from hw);cases ru;erw[aw];exact SeqAt.RcNeAt.tuple_none p1 nz
  |bl b=>cases(show u=.bl b from hw);cases ru;erw[aw];exact SeqAt.RcNeAt.tuple_bool _ p1 nz
  |int b=>cases(show u=.int b from hw);let⟨t,rfl⟩:=ru;erw[aw];exact SeqAt.RcNeAt.tuple_int _ _ p1 nz
  |str b=>cases(show u=.str b from hw);let⟨t,rfl⟩:=ru;erw[aw];exact SeqAt.RcNeAt.tuple_str _ _ p1 nz
 |lst ds =>
  let hl:aZ ds<=59:=by erw[dep] at hd;symm
  erw[Is] at hv;let⟨a,vs,rfl,h1,i1⟩:=hv;cases rv
  let⟨ah,r1,p1⟩:=dr I h1
  cases e with
  |lst es =>
   erw[Is] at hw;let⟨b,us,rfl,h2,i2⟩:=hw;cases ru
   let⟨bf,r2,p2⟩:=dr I h2;let l1:ah.toArray.size=↑ds:=by rw[HW,<-↑r1,↑i1]
   let l2:bf.toArray.size=↑es:=by rw[HW,<-↑r2,↑i2]
   by_cases c:↑ds=↑es
   .let:=SeqAt.RcNeAt.lists p1 p2 (by rw[l1,l2];calc c) nz (step r1 r2 hl i1 i2)
    rw[l1,wb c] at this;erw[aw];exact this
   .erw[aw];rw[wa c]
    exact SeqAt.RcNeAt.lists_lengths p1 p2 (by rw[l1,l2];simpa using c) nz
  |tup es=>erw[Is] at hw;let⟨b,us,rfl,h2,i2⟩:=hw;cases ru;let⟨bf,r2,p2⟩:=du I h2;erw[aw];exact SeqAt.RcNeAt.list_tuple p1 p2 nz
  |non=>cases(show u=.non from hw);cases ru;erw[aw];exact SeqAt.RcNeAt.list_none p1 nz
  |bl b=>cases(show u=.bl b from hw);cases ru;erw[aw];exact SeqAt.RcNeAt.list_bool _ p1 nz
  |int b=>cases(show u=.int b from hw);let⟨t,rfl⟩:=ru;erw[aw];exact SeqAt.RcNeAt.list_int _ _ p1 nz
  |str b=>cases(show u=.str b from hw);let⟨t,rfl⟩:=ru;erw[aw];exact SeqAt.RcNeAt.list_str _ _ p1 nz
 |non =>
  cases(show v=.non from hv);cases rv
  cases e with
  |non=>cases(show u=.non from hw);cases ru;erw[aw];exact SeqAt.RcNeAt.none_none
  |bl b=>cases(show u=.bl b from hw);cases ru;erw[aw];exact SeqAt.RcNeAt.none_bool _
  |int b=>cases(show u=.int b from hw);let⟨t,rfl⟩:=ru;erw[aw];exact SeqAt.RcNeAt.none_int _ _
  |str b=>cases(show u=.str b from hw);let⟨t,rfl⟩:=ru;erw[aw];exact SeqAt.RcNeAt.none_str _ _
  |tup es=>erw[Is] at hw;let⟨a,vs,rfl,h1,_⟩:=hw;cases ru;let⟨_,_,p⟩:=du I h1;erw[aw];exact SeqAt.RcNeAt.none_tuple p nz
  |lst es=>erw[Is] at hw;let⟨a,vs,rfl,h1,_⟩:=hw;cases ru;let⟨_,_,p⟩:=dr I h1;erw[aw];exact SeqAt.RcNeAt.none_list p nz
 |bl b0 =>
  cases(show v=.bl b0 from hv);cases rv
  cases e with
  |non=>cases(show u=.non from hw);cases ru;erw[aw];exact SeqAt.RcNeAt.bool_none _
  |bl b=>cases(show u=.bl b from hw);cases ru;erw[aw];exact SeqAt.RcNeAt.bool_bool _ _
  |int b=>cases(show u=.int b from hw);let⟨t,rfl⟩:=ru;erw[aw];exact SeqAt.RcNeAt.bool_int _ _ _
  |str b=>cases(show u=.str b from hw);let⟨t,rfl⟩:=ru;erw[aw];exact SeqAt.RcNeAt.bool_str _ _ _
  |tup es=>erw[Is] at hw;let⟨a,vs,rfl,h1,_⟩:=hw;cases ru;let⟨_,_,p⟩:=du I h1;erw[aw];exact SeqAt.RcNeAt.bool_tuple _ p nz
  |lst es=>erw[Is] at hw;let⟨a,vs,rfl,h1,_⟩:=hw;cases ru;let⟨_,_,p⟩:=dr I h1;erw[aw];exact SeqAt.RcNeAt.bool_list _ p nz
 |int b0 =>
  cases(show v=.int b0 from hv);let⟨t0,rfl⟩:=rv
  cases e with
  |non=>cases(show u=.non from hw);cases ru;erw[aw];exact SeqAt.RcNeAt.int_none _ _
  |bl b=>cases(show u=.bl b from hw);cases ru;erw[aw];exact SeqAt.RcNeAt.int_bool _ _ _
  |int b=>cases(show u=.int b from hw);let⟨t,rfl⟩:=ru;erw[aw];exact SeqAt.RcNeAt.int_int _ _ _ _
  |str b=>cases(show u=.str b from hw);let⟨t,rfl⟩:=ru;erw[aw];exact SeqAt.RcNeAt.int_str _ _ _ _
  |tup es=>erw[Is] at hw;let⟨a,vs,rfl,h1,_⟩:=hw;cases ru;let⟨_,_,p⟩:=du I h1;erw[aw];exact SeqAt.RcNeAt.int_tuple _ _ p nz
  |lst es=>erw[Is] at hw;let⟨a,vs,rfl,h1,_⟩:=hw;cases ru;let⟨_,_,p⟩:=dr I h1;erw[aw];exact SeqAt.RcNeAt.int_list _ _ p nz
 |str b0 =>
  cases(show v=.str b0 from hv);let⟨t0,rfl⟩:=rv
  cases e with
  |non=>cases(show u=.non from hw);cases ru;erw[aw];exact SeqAt.RcNeAt.str_none _ _
  |bl b=>cases(show u=.bl b from hw);cases ru;erw[aw];exact SeqAt.RcNeAt.str_bool _ _ _
  |int b=>cases(show u=.int b from hw);let⟨t,rfl⟩:=ru;erw[aw];exact SeqAt.RcNeAt.str_int _ _ _ _
  |str b=>cases(show u=.str b from hw);let⟨t,rfl⟩:=ru;erw[aw];exact SeqAt.RcNeAt.str_str _ _ _ _
  |tup es=>erw[Is] at hw;let⟨a,vs,rfl,h1,_⟩:=hw;cases ru;let⟨_,_,p⟩:=du I h1;erw[aw];exact SeqAt.RcNeAt.str_tuple _ _ p nz
  |lst es=>erw[Is] at hw;let⟨a,vs,rfl,h1,_⟩:=hw;cases ru;let⟨_,_,p⟩:=dr I h1;erw[aw];calc SeqAt.RcNeAt.str_list _ _ p nz
end
variable[aC]
noncomputable def intsOf:-D->Option (-Int)
 |[]=>U []
 |.int i::r=>match intsOf r with
  |some ns=>U (i::ns)
  |none=>Z
 |_=>Z
theorem JB:∀ns:-Int,intsOf (ns.map D.int)=U ns
 |[]=>Y
 |n::r=>by show(match intsOf (r.map D.int) with|some ns=>U (n::ns)|none=>Z)=_;rw[JB r]
theorem wd:∀{ds:-D}{ns:-Int},intsOf ds=U ns->ds=ns.map D.int
 |[],ns,h=>by cases h;rfl
 |.int i::r,ns,h=>by
  unfold intsOf at h;split at h
  .rename_i ms e;cases h;rw[q0o,wd e]
  .cases h
 |.non::r,ns,h=>by cases h
 |.bl _::r,ns,h=>by cases h
 |.str _::r,ns,h=>by cases h
 |.tup _::r,ns,h=>by cases h
 |.lst _::r,ns,h=>by cases h
theorem sg{F:Hp}:∀{ns:-Int}{vs:-V},ae F (ns.map D.int) vs->vs=ns.map V.int
 |[],vs,h=>by erw[q2b,ae] at h;exact h
 |n::r,vs,h=>by
  erw[q0o,ae] at h;let⟨v,t,rfl,h1,h2⟩:=h;let h1:v=.int n:=h1;rw[sg h2,h1];rfl
theorem uc{F:Hp}:∀{ns:-Int},ae F (ns.map D.int) (ns.map V.int)
 |[]=>.nil
 |n::r=>.cons (show _=_ from Y) uc
theorem ud{F:Hp}:∀{as bs:-D}{us vs:-V},ae F as us->ae F bs vs->ae F (as++bs) (us++vs)
 |[],bs,us,vs,h,q=>by erw[ae] at h;subst h;exact q
 |a::r,bs,us,vs,h,q=>by
  erw[ae] at h;let⟨v,t,rfl,h1,h2⟩:=h;calc .cons h1 (ud h2 q)
theorem JD{F:Hp}:∀{as:-D}{us:-V}(n:Nat),ae F as us->ae F (as.take n) (us.take n)
 |as,us,0,_=>by rw[q4C,q4C];exact .nil
 |[],us,n+1,h=>by erw[ae] at h;subst h;exact .nil
 |a::r,us,n+1,h=>by
  erw[ae] at h;let⟨v,t,rfl,h1,h2⟩:=h;calc .cons h1 (JD n h2)
theorem JH{F:Hp}:∀{as:-D}{us:-V}(n:Nat),ae F as us->ae F (as.drop n) (us.drop n)
 |as,us,0,h=>h
 |[],us,n+1,h=>by erw[ae] at h;subst h;exact .nil
 |a::r,us,n+1,h=>by
  erw[ae] at h;let⟨v,t,rfl,h1,h2⟩:=h;calc JH n h2
theorem CF{F:Hp}:∀{as:-D}{us:-V},ae F as us->ae F as.reverse us.reverse
 |[],us,h=>by erw[ae] at h;subst h;exact .nil
 |a::r,us,h=>by
  erw[ae] at h;let⟨v,t,rfl,h1,h2⟩:=h;rw[q3P,q3P];calc(CF h2).snoc h1
theorem JJ{F:Hp}:∀{as:-D}{us:-V}(n:Nat){d:D}{v:V},ae F as us->Is F d v->ae F (as.set n d) (us.set n v)
 |[],us,n,d,v,h,_=>by erw[ae] at h;subst h;exact .nil
 |a::r,us,0,d,v,h,q=>by
  erw[ae] at h;let⟨w,t,rfl,h1,h2⟩:=h;exact .cons q h2
 |a::r,us,n+1,d,v,h,q=>by
  erw[ae] at h;let⟨w,t,rfl,h1,h2⟩:=h;calc .cons h1 (JJ n h2 q)
theorem JK{F:Hp}:∀{as:-D}{us:-V}(n:Nat),ae F as us->ae F (as.eraseIdx n) (us.eraseIdx n)
 |[],us,n,h=>by erw[ae] at h;subst h;exact .nil
 |a::r,us,0,h=>by
  erw[ae] at h;let⟨w,t,rfl,h1,h2⟩:=h;exact h2
 |a::r,us,n+1,h=>by
  erw[ae] at h;let⟨w,t,rfl,h1,h2⟩:=h;calc .cons h1 (JK n h2)
theorem kG{F H:Hp}{p:O}{ds:-D}{vs:-V}(s:av F H)(hp:H p=Z)(h:ae F ds vs):Is (Nw F H (upd H p (.lst vs))) (.lst ds) (.ref p):=by
 rw[Nw.upd s hp];erw[Is];calc⟨p,vs,Y,bj,h.same (bL (s.free hp))⟩
theorem yA{F H:Hp}{p:O}{ds:-D}{vs:-V}(s:av F H)(hp:H p=Z)(h:ae F ds vs):Is (Nw F H (upd H p (.tup vs))) (.tup ds) (.ref p):=by
 rw[Nw.upd s hp];erw[Is];calc⟨p,vs,Y,bj,h.same (bL (s.free hp))⟩
theorem we{F H:Hp}{d:D}{v:V}(s:av F H)(h:Is F d v):Is (Nw F H H) d v:=by rw[Nw.refl s];calc h
def si:D->D->(D->Prop)->Prop
 |.int i,.int j,K=>K (.int (i+j))
 |.lst a,.lst b,K=>↑a+↑b<=1000/\K (.lst (a++b))
 |.tup a,.tup b,K=>(a≠[]/\↑a+↑b<=1000)/\K (.tup (a++b))
 |.str a,.str b,K=>↑a+↑b<=1000/\K (.str (a++b))
 |_,_,_=>False
def oI(f:Int->Int->D):D->D->(D->Prop)->Prop
 |.int i,.int j,K=>K (f i j)
 |_,_,_=>False
def dy(C:Int->Int->Prop)(f:Int->Int->D):D->D->(D->Prop)->Prop
 |.int i,.int j,K=>C i j/\K (f i j)
 |_,_,_=>False
def fA:D->D->(D->Prop)->Prop
 |.int i,.int j,K=>n5 i j/\K (.int (i*j))
 |.lst a,.int j,K=>(-(2 ^ 63)<=j/\j<2 ^ 63/\↑a*j.toNat<=1000)/\K (.lst (q0d j.toNat a).flatten)
 |_,_,_=>False
section
variable{X:Cx}
theorem yB{f:B->B->Sem B}{g:Int->Int->V}{h:Int->Int->D}(op:dA X f (nY g))(hg:∀F i j,Is F (h i j) (g i j)):e8 X f (oI h):=by
 ext pins s σ H x y v u Q I rx ry ⟨F,d,e,K,sub,rd,re,q,md⟩;unfold oI at q;split at q
 .rename_i i j
  exact op pins s σ H x y v u Q I rx ry ⟨i,j,rd,re,md _ _ _ q (λ_ _ e=>e) (hg _ i j)⟩
 .calc q.elim
theorem CG{f:B->B->Sem B}{C:Int->Int->Prop}{g:Int->Int->V}{h:Int->Int->D}(op:dA X f (rI C g))(hg:∀F i j,Is F (h i j) (g i j)):e8 X f (dy C h):=by
 ext pins s σ H x y v u Q I rx ry ⟨F,d,e,K,sub,rd,re,q,md⟩;unfold dy at q;split at q
 .rename_i i j
  exact op pins s σ H x y v u Q I rx ry ⟨i,j,rd,re,q.1,md _ _ _ q.2 (λ_ _ e=>e) (hg _ i j)⟩
 .calc q.elim
theorem yC:e8 X (binaryOp .Add) si:=by
 ext pins s σ H x y v u Q I rx ry ⟨F,d,e,K,sub,rd,re,q,md⟩;unfold si at q;split at q
 .rename_i i j
  exact Hs pins s σ H x y v u Q I rx ry ⟨i,j,rd,re,md _ _ _ q (λ_ _ e=>e) Y⟩
 .rename_i as bs
  let⟨a,us,rfl,h1,h2⟩:=rd;let⟨b,ws,rfl,h3,h4⟩:=re;refine xX pins s σ H _ _ v u Q I rx ry ⟨a,b,us,ws,Y,Y,h1,h3,lK (by rw[↑h2,↑h4];calc q.1),λp hp=>md _ _ _ q.2 (bL hp) (kG sub hp (ud h2 h4))⟩
 .rename_i as bs
  let cB:Is F (.tup as) x:=rd;let iA:Is F (.tup bs) y:=re;erw[Is] at cB iA;let⟨a,us,rfl,h1,h2⟩:=cB;let⟨b,ws,rfl,h3,h4⟩:=iA;let ne:us≠[]:=λz=>q.1.1 (q2c.mp (by rw[<-↑h2,z];rfl));calc PX pins s σ H _ _ v u Q I rx ry ⟨a,b,us,ws,Y,Y,bz.of (sub _ _ h1),bz.of (sub _ _ h3),ne,lK (by rw[↑h2,↑h4];calc q.1.2),λz=>?_,λz p hp=>md _ _ _ q.2 (bL hp) (yA sub hp (ud h2 h4))⟩;let:bs=[]:=q2c.mp (by rw[<-↑h4,z];rfl);subst this;calc md _ _ _ q.2 (λ_ _ e=>e) (we sub ?_);rw[q2h];exact rd
 .rename_i as bs
  let cB:x=.str as:=rd;let iA:y=.str bs:=re;subst cB iA;exact Pl pins s σ H _ _ v u Q I rx ry ⟨as,bs,Y,Y,lK q.1,md _ _ _ q.2 (λ_ _ e=>e) Y⟩
 .calc q.elim
theorem ue:e8 X (binaryOp .Sub) (oI λi j=>.int (i-j)):=yB OZ λ_ _ _=>Y
theorem Sq:e8 X (binaryOp .Mult) fA:=by
 ext pins s σ H x y v u Q I rx ry ⟨F,d,e,K,sub,rd,re,q,md⟩;unfold fA at q;split at q
 .rename_i i j
  exact O0 pins s σ H x y v u Q I rx ry ⟨i,j,rd,re,q.1,md _ _ _ q.2 (λ_ _ e=>e) Y⟩
 .rename_i as j
  let⟨a,us,rfl,h1,h2⟩:=rd;refine Qf pins s σ H _ _ v u Q I rx ry ⟨a,j,us,Y,re,h1,q.1.1,q.1.2.1,lK (by rw[↑h2];calc q.1.2.2),λp hp=>md _ _ _ q.2 (bL hp) (kG sub hp ?_)⟩
  let:∀k:Nat,ae F (q0d k as).flatten (q0d k us).flatten:=λk=>by
   induction k with
   |zero=>exact .nil
   |succ k ih=>rw[q1c,q1c,q2f,q2f];exact ud h2 ih
  exact this _
 .calc q.elim
theorem Sr:e8 X (binaryOp .FloorDiv) (dy vf λi j=>.int (i.fdiv j)):=CG O1 λ_ _ _=>Y
theorem Ss:e8 X (binaryOp .Mod) (dy (λ_ j=>0<j) λi j=>.int (i%j)):=CG A0 λ_ _ _=>Y
theorem yD:e8 X (binaryOp .Pow) (dy dM λi j=>.int (i ^ j.toNat)):=CG O3 λ_ _ _=>Y
def oEq:D->D->(D->Prop)->Prop:=λd e K=>dep d<=60/\K (.bl (aw d e))
def lU:D->D->(D->Prop)->Prop:=λd e K=>dep d<=60/\K (.bl (!aw d e))
theorem sj(hu:X.A.units+64<cLine):e8 X (compareOp .Eq) oEq:=by
 ext pins s σ H x y v u Q I rx ry ⟨F,d,e,K,sub,rd,re,q,md⟩;calc(CB I 60 q.1 ⋯ (rd.is sub) (re.is sub) rx ry).2 _ _ _ _ ⟨.bl _,H,I,Y,md _ _ _ q.2 (λ_ _ e=>e) Y⟩
theorem wg(hu:X.A.units+64<cLine):e8 X (compareOp .NotEq) lU:=by
 ext pins s σ H x y v u Q I rx ry ⟨F,d,e,K,sub,rd,re,q,md⟩;calc So I q.1 ⋯ (rd.is sub) (re.is sub) rx ry _ _ _ _ ⟨.bl _,H,I,Y,md _ _ _ q.2 (λ_ _ e=>e) Y⟩
def oLt:D->D->(D->Prop)->Prop
 |.int i,.int j,K=>K (.bl (J (i<j)))
 |.tup a,.tup b,K=>match intsOf a,intsOf b with
  |some ns,some ms=>K (.bl (HT.lexLt ns ms))
  |_,_=>False
 |_,_,_=>False
theorem JL(hu:X.A.units+64<cLine):e8 X (compareOp .Lt) oLt:=by
 ext pins s σ H x y v u Q I rx ry ⟨F,d,e,K,sub,rd,re,q,md⟩;unfold oLt at q;split at q
 .rename_i i j
  exact Hu pins s σ H x y v u Q I rx ry ⟨i,j,rd,re,md _ _ _ q (λ_ _ e=>e) Y⟩
 .rename_i as bs
  split at q
  .rename_i ns ms e1 e2
   rw[wd e1] at rd;rw[wd e2] at re;let cB:Is F (.tup (ns.map D.int)) x:=rd;let iA:Is F (.tup (ms.map D.int)) y:=re;erw[Is] at cB iA;let⟨a,us,rfl,h1,h2⟩:=cB;let⟨b,ws,rfl,h3,h4⟩:=iA;rw[sg h2] at h1;rw[sg h4] at h3;exact PV ⋯ pins s σ H _ _ v u Q I rx ry ⟨a,b,ns,ms,Y,Y,bz.of (sub _ _ h1),bz.of (sub _ _ h3),md _ _ _ q (λ_ _ e=>e) Y⟩
  .exact q.elim
 .calc q.elim
theorem JM:e8 X (compareOp .LtE) (oI λi j=>.bl (J (i<=j))):=yB Pa λ_ _ _=>Y
theorem yE:e8 X (compareOp .Gt) (oI λi j=>.bl (J (j<i))):=yB Pb λ_ _ _=>Y
theorem Su:e8 X (compareOp .GtE) (oI λi j=>.bl (J (j<=i))):=yB Pc λ_ _ _=>Y
def j3:D->D->(D->Prop)->Prop
 |.non,.non,K=>K (.bl θ)
 |.bl _,.non,K=>K (.bl ι)
 |.int _,.non,K=>K (.bl ι)
 |.str _,.non,K=>K (.bl ι)
 |.tup _,.non,K=>K (.bl ι)
 |.lst _,.non,K=>K (.bl ι)
 |_,_,_=>False
theorem JN{F H:Hp}{d e:D}{x y:V}{K:D->Prop}(rd:gA F H d x)(re:gA F H e y)(q:j3 d e K):y=.non/\K (.bl (J (x=.non))):=by
 unfold j3 at q;split at q
 .let:x=.non:=rd;let h2:y=.non:=re;subst this;exact⟨h2,q⟩
 .rename_i b;let:x=.bl b:=rd;let h2:y=.non:=re;subst this;exact⟨h2,q⟩
 .rename_i b;let:x=.int b:=rd;let h2:y=.non:=re;subst this;exact⟨h2,q⟩
 .rename_i b;let:x=.str b:=rd;let h2:y=.non:=re;subst this;exact⟨h2,q⟩
 .rename_i b;let rd:Is F (.tup b) x:=rd;erw[Is] at rd;let⟨a,_,rfl,_⟩:=rd;exact⟨re,q⟩
 .rename_i b;let⟨a,_,rfl,_⟩:=rd;exact⟨re,q⟩
 .calc q.elim
def CH:D->D->(D->Prop)->Prop:=λd e K=>j3 d e λz=>match z with
 |.bl b=>K (.bl (!b))
 |_=>False
theorem Sv:e8 X (compareOp .Is) j3:=by
 ext pins s σ H x y v u Q I rx ry ⟨F,d,e,K,sub,rd,re,q,md⟩;let⟨h1,h2⟩:=JN rd re q;calc Pd pins s σ H x y v u Q I rx ry ⟨h1,md _ _ _ h2 (λ_ _ e=>e) Y⟩
theorem Sw:e8 X (compareOp .IsNot) CH:=by
 ext pins s σ H x y v u Q I rx ry ⟨F,d,e,K,sub,rd,re,q,md⟩;let⟨h1,h2⟩:=JN rd re q;calc Pf pins s σ H x y v u Q I rx ry ⟨h1,md _ _ _ h2 (λ_ _ e=>e) Y⟩
def qA(neg:Bool):D->D->(D->Prop)->Prop
 |d,.lst es,K=>aZ es<=55/\K (.bl (if neg then !(es.any λe=>aw e d) else es.any λe=>aw e d))
 |d,.tup es,K=>aZ es<=55/\K (.bl (if neg then !(es.any λe=>aw e d) else es.any λe=>aw e d))
 |_,_,_=>False
noncomputable def iL(H:Hp)(d:D)(u:B):Bool:=by
 classical calc if ∃e v,Is H e v/\RelV v u/\aw e d=θ then θ else ι
theorem JO{H:Hp}{d e:D}{v:V}{u:B}(h:Is H e v)(r:RelV v u):iL H d u=aw e d:=by
 unfold iL;split
 .rename_i z
  let⟨e',v',h',r',q⟩:=z;let:v'=v:=r'.inj r;subst this;rw[Is.inj h h'];exact q.symm
 .rename_i z
  cases q:aw e d with
  |false=>rfl
  |true=>calc absurd ⟨e,v,h,r,q⟩ z
theorem wj{H:Hp}{d:D}:∀{es:-D}{vs:-V}{us:-B},ae H es vs->Vals vs us->us.any (iL H d)=es.any λe=>aw e d
 |[],vs,us,h,r=>by erw[ae] at h;subst h;cases r;rfl
 |e::es,vs,us,h,r=>by
  erw[ae] at h;let⟨v,t,rfl,h1,h2⟩:=h
  cases r with
  |cons r1 r2=>rw[q2i,q2i,JO h1 r1,wj h2 r2]
theorem wk{pins:au}{σ:St}{H:Hp}{s:L}(I:Inv X pins σ H s){A:q}(hu:A.units+60<cLine){d:D}{x:V}{w:B}(hd:Is H d x)(rd:RelV x w):∀{es:-D}{vs:-V}{us:-B},aZ es<=55->ae H es vs->Vals vs us->∀u∈us,q30 A s u w (iL H d u)
 |[],vs,us,_,h,r=>by erw[ae] at h;subst h;cases r;ext u hu;cases hu
 |e::es,vs,us,hp,h,r=>by
  erw[ae] at h;let⟨v,t,rfl,h1,h2⟩:=h;erw[aZ] at hp
  cases r with
  |cons r1 r2 =>
   ext u hu';rcases My.mp hu' with rfl|hu'
   .rw[JO h1 r1];exact(CB I 55 ⋯ ⋯ h1 hd r1 rd).1
   .calc wk I hu hd rd ⋯ h2 r2 u hu'
theorem Sx(hu:X.A.units+64<cLine):e8 X (compareOp .In) (qA ι):=by
 ext pins s σ H x y v u Q I rx ry ⟨F,d,e,K,sub,rd,re,q,md⟩;unfold qA at q;split at q
 .rename_i es
  let⟨a,vs,rfl,h1,h2⟩:=re;cases ry
  let⟨ah,r,p⟩:=dr I h1;let fM:=h2.same sub;calc SeqAt.in_listAt (iL H d) p (λw hw=>wk I (by rw[in1_units];symm) (rd.is sub) rx q.1 fM r w hw⁻¹) ⟨.bl _,H,I,Y,?_⟩;rw[show ah.toArray.any (iL H d)=ah.any (iL H d) by simp,wj fM r];exact md _ _ _ q.2 (λ_ _ e=>e) Y
 .rename_i es
  let iA:Is F (.tup es) y:=re;erw[Is] at iA;let⟨a,vs,rfl,h1,h2⟩:=iA;cases ry
  let⟨ah,r,p⟩:=du I (sub _ _ h1);let fM:=h2.same sub;calc SeqAt.in_tupleAt (iL H d) p (λw hw=>wk I (by rw[in1_units];symm) (rd.is sub) rx q.1 fM r w hw⁻¹) ⟨.bl _,H,I,Y,?_⟩;rw[show ah.toArray.any (iL H d)=ah.any (iL H d) by simp,wj fM r];exact md _ _ _ q.2 (λ_ _ e=>e) Y
 .calc q.elim
theorem Sy(hu:X.A.units+64<cLine):e8 X (compareOp .NotIn) (qA θ):=by
 ext pins s σ H x y v u Q I rx ry ⟨F,d,e,K,sub,rd,re,q,md⟩;unfold qA at q;split at q
 .rename_i es
  let⟨a,vs,rfl,h1,h2⟩:=re;cases ry
  let⟨ah,r,p⟩:=dr I h1;let fM:=h2.same sub;calc SeqAt.notIn_listAt (iL H d) p (λw hw=>wk I (by rw[in1_units];symm) (rd.is sub) rx q.1 fM r w hw⁻¹) ⟨.bl _,H,I,Y,?_⟩;rw[show ah.toArray.any (iL H d)=ah.any (iL H d) by simp,wj fM r];exact md _ _ _ q.2 (λ_ _ e=>e) Y
 .rename_i es
  let iA:Is F (.tup es) y:=re;erw[Is] at iA;let⟨a,vs,rfl,h1,h2⟩:=iA;cases ry
  let⟨ah,r,p⟩:=du I (sub _ _ h1);let fM:=h2.same sub;calc SeqAt.notIn_tupleAt (iL H d) p (λw hw=>wk I (by rw[in1_units];symm) (rd.is sub) rx q.1 fM r w hw⁻¹) ⟨.bl _,H,I,Y,?_⟩;rw[show ah.toArray.any (iL H d)=ah.any (iL H d) by simp,wj fM r];exact md _ _ _ q.2 (λ_ _ e=>e) Y
 .calc q.elim
def aW:D->D->(D->Prop)->Prop
 |.lst ds,.int i,K=>match dm ds i with
  |some d=>K d
  |none=>False
 |.tup ds,.int i,K=>match dm ds i with
  |some d=>K d
  |none=>False
 |.str z,.int i,K=>↑z<=1000/\match dm z.cps.toList i with
  |some c=>K (.str ⟨#[c]⟩)
  |none=>False
 |_,_,_=>False
theorem JP{F:Hp}{ds:-D}{vs:-V}{i:Int}{d:D}(h:ae F ds vs)(e:dm ds i=U d):∃v,dm vs i=U v/\Is F d v:=by
 unfold dm at e ⊢;rw[↑h]
 cases q:jP ↑ds i with
 |none=>rw[q] at e;cases e
 |some j =>
  rw[q] at e;calc qv h (show ds[j]?=U d from e)
theorem lV:Jc X aW:=by
 ext value slice pins s σ H x y v u Q I rx ry ⟨F,d,e,K,sub,rd,re,q,md⟩ hs;unfold aW at q;split at q
 .rename_i ds i
  split at q
  .rename_i d' e1
   let⟨a,vs,rfl,h1,h2⟩:=rd;let⟨w,e2,h3⟩:=JP h2 e1;exact xW value slice pins s σ H _ _ v u Q I rx ry ⟨a,vs,i,w,Y,re,bh.of h1,e2,md _ _ _ q (λ_ _ e=>e) (we sub h3)⟩ hs
  .exact q.elim
 .rename_i ds i
  split at q
  .rename_i d' e1
   let cB:Is F (.tup ds) x:=rd;erw[Is] at cB;let⟨a,vs,rfl,h1,h2⟩:=cB;let⟨w,e2,h3⟩:=JP h2 e1;exact PY value slice pins s σ H _ _ v u Q I rx ry ⟨a,vs,i,w,Y,re,bz.of (sub _ _ h1),e2,md _ _ _ q (λ_ _ e=>e) (we sub h3)⟩ hs
  .exact q.elim
 .rename_i z i
  let⟨hz,q⟩:=q;split at q
  .rename_i c e1
   let cB:x=.str z:=rd;subst cB;exact PZ value slice pins s σ H _ _ v u Q I rx ry ⟨z,i,c,Y,re,lK hz,e1,md _ _ _ q (λ_ _ e=>e) Y⟩ hs
  .exact q.elim
 .calc q.elim
noncomputable def cutD(ds:-D)(lo hi:Option Int):-D:=(ds.drop (HT.aV ↑ds 0 lo)).take (HT.aV ↑ds ↑ds hi-HT.aV ↑ds 0 lo)
theorem JQ{F:Hp}{ds:-D}{vs:-V}(h:ae F ds vs)(lo hi:Option Int):ae F (cutD ds lo hi) (cV vs lo hi):=by
 unfold cutD cV;rw[↑h];calc JD _ (JH _ h)
abbrev WO:=ay->(Option Int->ay->Prop)->Prop
def yF(f:WO):TO:=fun σ H Q=>∃F ad δ K,SR F ad δ σ H/\f δ K/\∀o δ',K o δ'->∀F' ax H',Ext F ad δ.mu H F' ax δ'.mu H'->SR F' ax δ' σ H'->Q o H'
def cZ:WO:=fun δ K=>K Z δ
def iB(f:WE):WO:=fun δ K=>f δ λx δ1=>match x with
 |.p (.int i)=>K (U i) δ1
 |_=>False
theorem uf:PO X Z (yF cZ):=λpins s σ H Q I h0_=>el7 h0_ λF ad δ K S q k =>HF pins s σ H Q I (k _ _ q _ _ _ .refl S)
theorem ug{e:M}{f:WE}(h:JE X e (tD f)):PO X (U e) (yF (iB f)):=λpins s σ H Q I h0_=>el7 h0_ λF ad δ K S q k =>xU h pins s σ H Q I ⟨F,ad,δ,_,S,q,λx δ1 h1 v F1 aN H1 E1 S1 V1=>by
 split at h1
 .rename_i i
  exact⟨i,V1,k _ _ h1 _ _ _ E1 S1⟩
 .calc h1.elim⟩
def iC:D->(D->Prop)->Prop
 |.int i,K=>K (.int (-(i:Int)))
 |_,_=>False
theorem yG{e:M}{f:WE}{pos:y}(he:JE X e (tD f)):JE X (.UnaryOp .USub e pos) (tD (d1 f iC)) :=
 (Hr Ht he).weak fun σ H Q h0_=>el7 h0_ λF ad δ K S q k =>⟨F,ad,δ,_,S,q,λx δ1 h1 v F1 aN H1 E1 S1 V1=>by
  let⟨d,h4,rd⟩:=iw S1 V1 h1;unfold iC at h4;split at h4
  .rename_i i
   exact⟨i,rd,k _ _ h4 _ _ _ _ E1 S1 Y⟩
  .calc h4.elim⟩
def yH(f g h:WE)(o o':D->D->(D->Prop)->Prop):WE:=fun δ K=>f δ λx δ1=>g δ1 λy δ2=>fw x δ2 λd=>fw y δ2 λe=>o d e λz=>match z with
 |.bl true=>h δ2 λw δ3=>fw y δ3 λe'=>fw w δ3 λc=>o' e' c λz'=>K (.p z') δ3
 |.bl false=>K (.p (.bl ι)) δ2
 |_=>False
theorem Sz{a b c:M}{f g h:WE}{op rC:CmpOp}{o o':D->D->(D->Prop)->Prop}{pos:Ε}(ho:e8 X (compareOp op) o)(k6:e8 X (compareOp rC) o')(ha:JE X a (tD f))(hb:JE X b (tD g))(hc:JE X c (tD h))
  (hm:lastMarks [op,rC] [b,c]=ι:=by with_unfolding_all rfl):JE X (.Compare a [op,rC] [b,c] pos) (tD (yH f g h o o')) :=
 (Pk ho k6 ha hb hc hm).weak fun σ H Q h0_=>el7 h0_ λF ad δ K S q k =>by
  calc⟨F,ad,δ,_,S,q,λx δ1 h1 v1 F1 aN H1 E1 S1 V1=>⟨F1,aN,δ1,_,S1,h1,λy δ2 h2 v2 F2 cn H2 E2 S2 V2=>?_⟩⟩;let⟨d,h3,rd⟩:=iw S2 (V1.ext E2) h2;let⟨e,h4,re⟩:=iw S2 V2 h3;calc⟨F2,d,e,_,S2.sub,rd,re,h4,λz v H' hz sm is=>?_⟩;let S3:=S2.al sm;let E3:=Ext.al S2 sm;split at hz
  .refine⟨θ,is,?_⟩
   rw[ZK Y];calc⟨_,cn,δ2,_,S3,hz,λw δ4 h5 v4 F4 yt H4 E4 S4 V4=>?_⟩;let⟨d',h6,yq⟩:=iw S4 ((V2.ext E3).ext E4) h5;let⟨e',h7,SA⟩:=iw S4 V4 h6;exact⟨F4,d',e',_,S4.sub,yq,SA,h7,λz v H' hz sm is=>k _ _ hz _ _ _ _ ((((E1.trans E2).trans E3).trans E4).trans (Ext.al S4 sm)) (S4.al sm) is⟩
  .refine⟨ι,is,?_⟩
   rw[ZJ q0b];exact k _ _ hz _ _ _ _ ((E1.trans E2).trans E3) S3 Y
  .calc hz.elim
end
noncomputable def sortI(ns:-Int):-Int:=ns.mergeSort λa b=>J (a<=b)
theorem sortI_perm(ns:-Int):(sortI ns).Perm ns:=List.mergeSort_perm ns _
theorem SD(ns:-Int):(sortI ns).Pairwise (· <= ·):=by
 let:=List.pairwise_mergeSort (le:=λa b:Int=>J (a<=b)) (λa b c h1 h2=>by simp at *;symm) (λa b=>by simp;symm) ns;calc this.imp λh=>by simpa using h
theorem JR:∀{as bs:-Int},as.Perm bs->as.Pairwise (· <= ·)->bs.Pairwise (· <= ·)->as=bs
 |[],bs,p,_,_=>p.nil_eq
 |a::as,[],p,_,_=>absurd p.length_eq (by simp)
 |a::as,b::bs,p,s,t=>by
  let e:a=b:=by
   let h1:a<=b:=by
    let hb:b∈a::as:=p.mem_iff.mpr (Qk ..);rcases My.mp hb with h|h
    .omega
    .exact (q1U.mp s).1 b h
   let h2:b<=a:=by
    let ha:a∈b::bs:=p.mem_iff.mp (Qk ..);rcases My.mp ha with h|h
    .omega
    .exact (q1U.mp t).1 a h
   symm
  subst e;rw[JR (List.perm_cons a |>.mp p) (q1U.mp s).2 (q1U.mp t).2]
theorem CI{as bs:-Int}(p:as.Perm bs)(s:as.Pairwise (· <= ·)):as=sortI bs:=JR (p.trans (sortI_perm bs).symm) s (SD bs)
theorem SE(ns:-Int):↑(sortI ns)=ns.length:=(sortI_perm ns).length_eq
def bE:-D->(D->Prop)->Prop
 |[.lst ds],K=>K (.int ↑ds)
 |[.tup ds],K=>K (.int ↑ds)
 |[.str z],K=>↑z<=1000/\K (.int ↑z)
 |_,_=>False
def yI:-D->(D->Prop)->Prop
 |[.lst ds],K=>K (.lst ds)
 |[.tup ds],K=>K (.lst ds)
 |_,_=>False
def wm:-D->(D->Prop)->Prop
 |[.lst ds],K=>K (.tup ds)
 |[.tup ds],K=>K (.tup ds)
 |_,_=>False
def wo:-D->(D->Prop)->Prop
 |[.lst ds],K=>match intsOf ds with
  |some ns=>ns.length<64/\K (.lst ((sortI ns).map D.int))
  |none=>False
 |_,_=>False
noncomputable def sk:-D->Option (-Bool)
 |[]=>U []
 |.bl b::r=>match sk r with
  |some bs=>U (b::bs)
  |none=>Z
 |_=>Z
theorem JU:∀bs:-Bool,sk (bs.map D.bl)=U bs
 |[]=>Y
 |n::r=>by show(match sk (r.map D.bl) with|some ns=>U (n::ns)|none=>Z)=_;rw[JU r]
theorem JV:∀{ds:-D}{bs:-Bool},sk ds=U bs->ds=bs.map D.bl
 |[],ns,h=>by cases h;rfl
 |.bl i::r,ns,h=>by
  unfold sk at h;split at h
  .rename_i ms e;cases h;rw[q0o,JV e]
  .cases h
 |.non::r,ns,h=>by cases h
 |.int _::r,ns,h=>by cases h
 |.str _::r,ns,h=>by cases h
 |.tup _::r,ns,h=>by cases h
 |.lst _::r,ns,h=>by cases h
theorem JX{F:Hp}:∀{bs:-Bool}{vs:-V},ae F (bs.map D.bl) vs->vs=bs.map V.bl
 |[],vs,h=>by erw[q2b,ae] at h;exact h
 |n::r,vs,h=>by
  erw[q0o,ae] at h;let⟨v,t,rfl,h1,h2⟩:=h;let h1:v=.bl n:=h1;rw[JX h2,h1];rfl
def oK:-D->(D->Prop)->Prop
 |[.lst ds],K=>match sk ds with
  |some bs=>K (.bl (bs.all id))
  |none=>False
 |_,_=>False
def wq:-D->(D->Prop)->Prop
 |[.int i,.int j],K=>K (.int (min i j))
 |_,_=>False
section
variable{X:Cx}
theorem cB{F H:Hp}{d:D}{xs:-V}(h:iX F H [d] xs):∃v,xs=[v]/\gA F H d v:=by
 let⟨v,r,rfl,h1,h2⟩:=h;let h2:r=[]:=h2;subst h2;calc⟨v,Y,h1⟩
theorem SG{F H:Hp}{d e:D}{xs:-V}(h:iX F H [d,e] xs):∃v w,xs=[v,w]/\gA F H d v/\gA F H e w:=by
 let⟨v,r,rfl,h1,h2⟩:=h;let⟨w,rfl,h3⟩:=cB h2;calc⟨v,w,Y,h1,h3⟩
theorem yJ:cW X (.builtin "len") bE:=by
 ext pins s σ H xs us Q I r ⟨F,ds,K,sub,rd,q,md⟩;unfold bE at q;split at q
 .let⟨v,rfl,a,vs,rfl,h1,h2⟩:=cB rd
  exact HL pins s σ H _ us Q I r ⟨a,vs,Y,.inl (bh.of h1),by rw[↑h2];calc md _ _ _ q (λ_ _ e=>e) Y⟩
 .rename_i es
  let⟨v,rfl,h⟩:=cB rd;let h:Is F (.tup es) v:=h;erw[Is] at h;let⟨a,vs,rfl,h1,h2⟩:=h;exact HL pins s σ H _ us Q I r ⟨a,vs,Y,.inr (bz.of (sub _ _ h1)),by rw[↑h2];calc md _ _ _ q (λ_ _ e=>e) Y⟩
 .rename_i z
  let⟨v,rfl,h⟩:=cB rd;let h:v=.str z:=h;subst h;exact Qa pins s σ H _ us Q I r ⟨z,Y,lK q.1,md _ _ _ q.2 (λ_ _ e=>e) Y⟩
 .calc q.elim
theorem SH:cW X (.type "list") yI:=by
 ext pins s σ H xs us Q I r ⟨F,ds,K,sub,rd,q,md⟩;unfold yI at q;split at q
 .let⟨v,rfl,a,vs,rfl,h1,h2⟩:=cB rd
  exact Br pins s σ H _ us Q I r ⟨a,vs,Y,.inl (bh.of h1),λl hl=>md _ _ _ q (bL hl) (kG sub hl h2)⟩
 .rename_i es
  let⟨v,rfl,h⟩:=cB rd;let h:Is F (.tup es) v:=h;erw[Is] at h;let⟨a,vs,rfl,h1,h2⟩:=h;exact Br pins s σ H _ us Q I r ⟨a,vs,Y,.inr (bz.of (sub _ _ h1)),λl hl=>md _ _ _ q (bL hl) (kG sub hl h2)⟩
 .calc q.elim
theorem SI:cW X (.type "tuple") wm:=by
 ext pins s σ H xs us Q I r ⟨F,ds,K,sub,rd,q,md⟩;unfold wm at q;split at q
 .let⟨v,rfl,a,vs,rfl,h1,h2⟩:=cB rd
  exact HM pins s σ H _ us Q I r ⟨a,vs,Y,.inl ⟨bh.of h1,λl hl=>md _ _ _ q (bL hl) (yA sub hl h2)⟩⟩
 .rename_i es
  let⟨v,rfl,h⟩:=cB rd;let h0:Is F (.tup es) v:=h;let h:Is F (.tup es) v:=h;erw[Is] at h;let⟨a,vs,rfl,h1,h2⟩:=h;exact HM pins s σ H _ us Q I r ⟨a,vs,Y,.inr ⟨bz.of (sub _ _ h1),md _ _ _ q (λ_ _ e=>e) (we sub h0)⟩⟩
 .calc q.elim
theorem SJ:cW X (.builtin "sorted") wo:=by
 ext pins s σ H xs us Q I r ⟨F,ds,K,sub,rd,q,md⟩;unfold wo at q;split at q
 .rename_i es
  split at q
  .rename_i ns e
   let⟨v,rfl,a,vs,rfl,h1,h2⟩:=cB rd;rw[wd e] at h2;rw[sg h2] at h1;calc RI pins s σ H _ us Q I r ⟨a,ns,Y,bh.of h1,q.1,λl eO pm pw hl=>?_⟩;rw[CI pm pw];exact md _ _ _ q.2 (bL hl) (kG sub hl uc)
  .exact q.elim
 .calc q.elim
theorem SK(hc:X.calm=θ):cW X (.builtin "all") oK:=by
 ext pins s σ H xs us Q I r ⟨F,ds,K,sub,rd,q,md⟩;unfold oK at q;split at q
 .rename_i es
  split at q
  .rename_i bs e
   let⟨v,rfl,a,vs,rfl,h1,h2⟩:=cB rd;rw[JV e] at h2;rw[JX h2] at h1;exact RG hc pins s σ H _ us Q I r ⟨a,bs,Y,bh.of h1,md _ _ _ q (λ_ _ e=>e) Y⟩
  .exact q.elim
 .calc q.elim
theorem SM(hc:X.calm=θ):cW X (.builtin "min") wq:=by
 ext pins s σ H xs us Q I r ⟨F,ds,K,sub,rd,q,md⟩;unfold wq at q;split at q
 .rename_i i j
  let⟨v,w,rfl,h1,h2⟩:=SG rd;let h1:v=.int i:=h1;let h2:w=.int j:=h2;subst h1 h2;calc Pn hc pins s σ H _ us Q I r ⟨i,j,Y,?_⟩;let:(if j<i then j else i)=min i j:=by split<;>symm
  rw[this];exact md _ _ _ q (λ_ _ e=>e) Y
 .calc q.elim
def uh(fa:WA):WE:=fun δ K=>fa δ λxs δ1=>match xs with
 |[.p (.int j)]=>(0<=j/\j<=1000)/\K (.p (.lst (cz 0 j.toNat))) δ1
 |_=>False
theorem oM(n:Nat):cz 0 n=(bY n).map D.int:=by
 unfold cz bY;rw[q0D];calc q1d λi _=>?_;show D.int (0+(i:Int))=D.int (i:Int);rw[q82]
theorem SN{a:M}{fa:WA}{p1 p2 q1 q2:y}(hc:X.calm=θ)(so:Gl X "list")(hl:X.mg "list" = Z)(su:bootBuiltins "list" = U (.type "list"))(sv:Gl X "range")(hr:X.mg "range" = Z)(sx:bootBuiltins "range" = U (.type "range"))(ha:JA X [a] (bM fa))
  (he:starEach [a] X.env=[(ι,eval a X.env)]:=by rfl) (sy:starEach [.Call (.Name "range" p2) [a] [] q2] X.env=[(ι,eval (.Call (.Name "range" p2) [a] [] q2) X.env)]:=by rfl):JE X (.Call (.Name "list" p1) [.Call (.Name "range" p2) [a] [] q2] [] q1) (tD (uh fa)) :=
 (qa (I0 hc) so hl su (jU (qa IY sv hr sx ha (he:=he)) aY) (he:=sy)).weak fun σ H Q h0_=>el7 h0_ λF ad δ K S q k =>⟨F,ad,δ,_,S,q,λxs δ1 h1 vs F1 aN H1 E1 S1 V1=>by
  split at h1
  .rename_i j
   let⟨v,r,e,W1,W2⟩:=V1;let W2:r=[]:=W2;let W1:v=.int j:=W1;subst W2 W1 e;calc⟨j,Y,λrr CJ=>⟨rr,j.toNat,Y,by rw[bj,q54 h1.1.1],⋯,λl hl=>?_⟩⟩;let s1:av H1 (upd H1 rr (.rng 0 j)):=bL CJ;let S2:=S1.al s1;let E2:=Ext.al S1 s1;calc k _ _ h1.2 _ _ _ _ ((E1.trans E2).trans (Ext.al S2 (bL hl))) (S2.al (bL hl)) ?_;let:Is (Nw (Nw F1 H1 (upd H1 rr (.rng 0 j))) (upd H1 rr (.rng 0 j)) (upd (upd H1 rr (.rng 0 j)) l (.lst ((bY j.toNat).map V.int)))) (.lst ((bY j.toNat).map D.int)) (.ref l):=kG S2.sub hl uc;rw[oM];exact this
  .calc h1.elim⟩
def bB(T:String):D->(D->Prop)->Prop:=λd K=>K (.bl (aH (bA d) T))
theorem hV{T:String}{t:R}{a:M}{f:WE}{p p2 pos:y}(hk:∀d:D,q0r X.K (.type (bA d)) (.type T)=U (aH (bA d) T))(hg:Gl X "isinstance")(hm:X.mg "isinstance" = Z)(SO:Gl X t)(SQ:X.mg t=Z)(SS:bootBuiltins t=U (.type T))(ha:JE X a (tD f))
  (vH:t≠"__name__" := by decide) (lr:bx t:=by decide) (he:starEach [a,.Name t p2] X.env=(ι,eval a X.env)::starEach [.Name t p2] X.env:=by rfl):JE X (.Call (.Name "isinstance" p) [a,.Name t p2] [] pos) (tD (d1 f (bB T))) :=
 (vi Rb hg hm q4h (jm ha (jT (Hd SO SQ SS (v:=.ty T) Y vH lr) aY) he) (he:=he)).weak fun σ H Q h0_=>el7 h0_ λF ad δ K S q k =>⟨F,ad,δ,_,S,q,λx δ1 h1 v F1 aN H1 E1 S1 V1=>by
  let⟨d,h2,rd⟩:=iw S1 V1 h1
  calc⟨v,.ty T,.type T,.type (bA d),_,Y,Y,Is.ty (rd.is S1.sub),hk d,k _ _ h2 _ _ _ _ E1 S1 Y⟩⟩
theorem CK{K:xY}:∀d:D,q0r K (.type (bA d)) (.type "int")=U (aH (bA d) "int"):=λd=>Rk _ (vP d)
theorem wt{K:xY}:∀d:D,q0r K (.type (bA d)) (.type "bool")=U (aH (bA d) "bool"):=λd=>Rj _ (vP d)
theorem JY{K:xY}:∀d:D,q0r K (.type (bA d)) (.type "str")=U (aH (bA d) "str"):=λd=>Rl _ (vP d)
theorem wu{K:xY}:∀d:D,q0r K (.type (bA d)) (.type "tuple")=U (aH (bA d) "tuple"):=λd=>kit_tuple _ (vP d)
theorem CL{K:xY}:∀d:D,q0r K (.type (bA d)) (.type "list")=U (aH (bA d) "list"):=λd=>Rm _ (vP d)
def gv(x:DV)(δ:ay)(K:Nat->-D->Prop):Prop:=match x with
 |.o k=>match δ.mu[k]? with
  |some (some (.lst ds))=>K k ds
  |_=>False
 |_=>False
theorem sA{F H:Hp}{ad:-O}{δ:ay}{σ:St}{x:DV}{v:V}{K:Nat->-D->Prop}(S:SR F ad δ σ H)(V1:eg F ad x v)(h:gv x δ K):∃k ds a vs,x=.o k/\K k ds/\v=.ref a/\ad[k]?=U a/\H a=U (.lst vs)/\ae F ds vs/\δ.mu[k]?=U (U (.lst ds)):=by
 unfold gv at h;split at h
 .rename_i k
  split at h
  .rename_i ds e
   let⟨a,e1,rfl⟩:=V1;let⟨a',o,e2,e3,vs,rfl,h4⟩:=S.mu k _ e;rw[e1] at e2;cases e2;exact⟨k,ds,a,vs,Y,h,Y,e1,e3,h4,e⟩
  .exact h.elim
 .calc h.elim
def j4(f:WE)(fa:WA):WE:=fun δ K=>f δ λx δ1=>gv x δ1 λ_ _=>fa δ1 λys δ2=>match ys with
 |[y]=>oA y δ2 λd δ3=>gv x δ3 λk ds=>↑ds<1000/\K (.p .non) ⟨δ3.sl,δ3.mu.set k (U (.lst (ds++[d])))⟩
 |_=>False
theorem SU{f:WE}{fa:WA}{K0:xY}:∀σ H Q,tD (j4 f fa) σ H Q->tR K0 "list" HQ (tD f) (bM fa) σ H Q:=fun σ H Q h0_=>el7 h0_ λF ad δ K S q k =>⟨F,ad,δ,_,S,q,λx δ1 h1 v F1 aN H1 E1 S1 V1=>by
 let⟨k0,JZ,a,vs,rfl,h2,rfl,e1,e2,i1,m1⟩:=sA S1 V1 h1;refine⟨.inl ⟨Y,vs,bh.of e2⟩,F1,aN,δ1,_,S1,h2,λys δ2 h3 us F2 cn H2 E2 S2 V2=>?_⟩
 match ys,h3,V2 with
 |[y],g3,⟨u,r,e,W1,W2⟩ =>
  let W3:r=[]:=W2;subst W3 e;let⟨d,δ3,F3,h4,E3,S3,i3⟩:=vX S2 W1 g3;let⟨k1,ds,b,ws,ek,h5,eb,e3,e4,i4,m4⟩:=sA (x:=.o k0) S3 ((V1.ext E2).ext E3) h4;cases ek
  let wx:a=b:=by injection eb
  subst wx;let oi:fY F3 (.lst (ds++[d])) (.lst (ws++[u])):=⟨_,Y,i4.snoc i3⟩;calc⟨a,ws,u,Y,Y,e4,qg (by rw[↑i4];symm),?_⟩;exact k _ _ h5.2 _ _ _ _ (((E1.trans E2).trans E3).trans (Ext.put S3 m4 e3)) (S3.put m4 e3 oi) Y
 |[],g3,_=>exact g3.elim
 |_::_::_,g3,_=>calc g3.elim⟩
def sC(f:WE)(fa:WA):WE:=fun δ K=>f δ λx δ1=>gv x δ1 λ_ _=>fa δ1 λys δ2=>match ys with
 |[.p (.lst es)]=>gv x δ2 λk ds=>↑ds+↑es<=1000/\K (.p .non) ⟨δ2.sl,δ2.mu.set k (U (.lst (ds++es)))⟩
 |_=>False
theorem SV{f:WE}{fa:WA}{K0:xY}:∀σ H Q,tD (sC f fa) σ H Q->tR K0 "list" HS (tD f) (bM fa) σ H Q:=fun σ H Q h0_=>el7 h0_ λF ad δ K S q k =>⟨F,ad,δ,_,S,q,λx δ1 h1 v F1 aN H1 E1 S1 V1=>by
 let⟨k0,JZ,a,vs,rfl,h2,rfl,e1,e2,i1,m1⟩:=sA S1 V1 h1;calc⟨.inl ⟨Y,vs,bh.of e2⟩,F1,aN,δ1,_,S1,h2,λys δ2 h3 us F2 cn H2 E2 S2 V2=>?_⟩;split at h3
 .rename_i es
  let⟨u,r,e,W1,W2⟩:=V2;let W3:r=[]:=W2;let W4:Is F2 (.lst es) u:=W1;erw[Is] at W4;let⟨b,zs,rfl,z1,z2⟩:=W4;subst W3 e;let⟨k1,ds,b',ws,ek,h5,eb,e3,e4,i4,m4⟩:=sA (x:=.o k0) S2 (V1.ext E2) h3;cases ek
  let wx:a=b':=by injection eb
  subst wx;let oi:fY F2 (.lst (ds++es)) (.lst (ws++zs)):=⟨_,Y,ud i4 z2⟩;calc⟨a,b,ws,zs,Y,Y,e4,S2.sub _ _ z1,lK (by rw[↑i4,↑z2];calc h5.1),?_⟩;exact k _ _ h5.2 _ _ _ _ ((E1.trans E2).trans (Ext.put S2 m4 e3)) (S2.put m4 e3 oi) Y
 .calc h3.elim⟩
def yK(f:WE)(fa:WA):WE:=fun δ K=>f δ λx δ1=>gv x δ1 λ_ _=>fa δ1 λys δ2=>match ys with
 |[.p (.int i)]=>gv x δ2 λk ds=>(-(2 ^ 63)<=i/\i<2 ^ 63)/\match seqIndex? i ↑ds with
  |some j=>match ds[j]? with
   |some d=>K (.p d) ⟨δ2.sl,δ2.mu.set k (U (.lst (ds.eraseIdx j)))⟩
   |none=>False
  |none=>False
 |_=>False
theorem SW{f:WE}{fa:WA}{K0:xY}:∀σ H Q,tD (yK f fa) σ H Q->tR K0 "list" HU (tD f) (bM fa) σ H Q:=fun σ H Q h0_=>el7 h0_ λF ad δ K S q k =>⟨F,ad,δ,_,S,q,λx δ1 h1 v F1 aN H1 E1 S1 V1=>by
 let⟨k0,JZ,a,vs,rfl,h2,rfl,e1,e2,i1,m1⟩:=sA S1 V1 h1;calc⟨.inl ⟨Y,vs,bh.of e2⟩,F1,aN,δ1,_,S1,h2,λys δ2 h3 us F2 cn H2 E2 S2 V2=>?_⟩;split at h3
 .rename_i i
  let⟨u,r,e,W1,W2⟩:=V2;let W3:r=[]:=W2;let W4:u=.int i:=W1;subst W3 W4 e;let⟨k1,ds,b',ws,ek,⟨h5,h6⟩,eb,e3,e4,i4,m4⟩:=sA (x:=.o k0) S2 (V1.ext E2) h3;cases ek
  let wx:a=b':=by injection eb
  subst wx;split at h6
  .rename_i j hj
   split at h6
   .rename_i d hd
    let⟨w,g1,g2⟩:=qv i4 hd;let oi:fY F2 (.lst (ds.eraseIdx j)) (.lst (ws.eraseIdx j)):=⟨_,Y,JK j i4⟩;calc⟨a,ws,i,j,w,Y,Y,e4,h5.1,h5.2,by rw[↑i4];calc hj,g1,?_⟩;exact k _ _ h6 _ _ _ _ ((E1.trans E2).trans (Ext.put S2 m4 e3)) (S2.put m4 e3 oi) g2
   .exact h6.elim
  .exact h6.elim
 .calc h3.elim⟩
def sD(f fo fi:WE):WS:=λK δ=>f δ λx δ1=>fo δ1 λo δ2=>fi δ2 λi δ3=>oA x δ3 λd δ4=>gv o δ4 λk ds=>match i with
 |.p (.int j)=>match jP ↑ds j with
  |some m=>K.nx ⟨δ4.sl,δ4.mu.set k (U (.lst (ds.set m d)))⟩
  |none=>False
 |_=>False
theorem SX[bU]{f fo fi:WE}:∀D σ H,cX (sD f fo fi) D σ H->dJ (tD f) (u7 (tD fo) (tD fi) HK) D σ H:=λD σ H h0_=>el7 h0_ λF ad δ K S q k =>⟨F,ad,δ,_,S,q,λx δ1 h1 v F1 aN H1 E1 S1 V1=>⟨F1,aN,δ1,_,S1,h1,λo δ2 h2 ov F2 cn H2 E2 S2 V2=>⟨F2,cn,δ2,_,S2,h2,λi δ3 h3 iv F3 t_ H3 E3 S3 V3=>by
 let⟨d,δ4,F4,h4,E4,S4,i4⟩:=vX S3 ((V1.ext E2).ext E3) h3;let⟨k0,ds,a,vs,rfl,h5,rfl,e1,e2,i1,m1⟩:=sA S4 ((V2.ext E3).ext E4) h4;split at h5
 .rename_i j
  split at h5
  .rename_i m hm
   let V3:iv=.int j:=V3;subst V3;let oi:fY F4 (.lst (ds.set m d)) (.lst (vs.set m v)):=⟨_,Y,JJ m i1 i4⟩;calc⟨a,vs,j,m,Y,Y,e2,by rw[↑i1];calc hm,?_⟩;exact k.nx _ h5 _ _ _ _ ((((E1.trans E2).trans E3).trans E4).trans (Ext.put S4 m1 e1)) (S4.put m1 e1 oi)
  .exact h5.elim
 .calc h5.elim⟩⟩⟩
def bu:D->-D->(D->Prop)->Prop
 |.lst ds,[d],K=>(dE d=θ/\ds.all dE=θ)/\K (.int (ds.countP λe=>aw e d:Nat))
 |_,_,_=>False
where dE:D->Bool
 |.tup _=>ι
 |.lst _=>ι
 |_=>θ
noncomputable def toV:D->V
 |.non=>.non
 |.bl b=>.bl b
 |.int i=>.int i
 |.str x=>.str x
 |_=>.non
theorem J0{F:Hp}{d:D}{v:V}(hf:bu.dE d=θ)(h:Is F d v):v=toV d/\jq v=θ:=by
 cases d with
 |non=>cases(show v=_ from h);exact⟨Y,Y⟩
 |bl _=>cases(show v=_ from h);exact⟨Y,Y⟩
 |int _=>cases(show v=_ from h);exact⟨Y,Y⟩
 |str _=>cases(show v=_ from h);exact⟨Y,Y⟩
 |tup _=>cases hf
 |lst _=>cases hf
theorem SY{d e:D}(hd:bu.dE d=θ)(he:bu.dE e=θ):fP (toV e) (toV d)=aw e d:=by
 cases d<;>cases e<;>first|(cases hd;done)|(cases he;done)|(simp[toV,fP,aw])
theorem count_is{F:Hp}{d:D}(hd:bu.dE d=θ):∀{ds:-D}{vs:-V},ds.all bu.dE=θ->ae F ds vs->vs.all jq=θ/\vs.countP (λz=>fP z (toV d))=ds.countP λe=>aw e d
 |[],vs,_,h=>by erw[ae] at h;subst h;exact⟨Y,Y⟩
 |e::r,vs,ha,h=>by
  erw[ae] at h;let⟨v,t,rfl,h1,h2⟩:=h;erw[q2W,q0k] at ha;let⟨g1,g2⟩:=J0 ha.1 h1;let⟨g3,g4⟩:=count_is hd ha.2 h2;calc⟨by rw[q2W,g2,g3];rfl,?_⟩;rw[q18,q18,g4,g1,SY hd ha.1]
noncomputable def tH:D->Bool
 |.lst _=>θ
 |_=>ι
def i7(f:WE)(fa:WA)(op:D->-D->(D->Prop)->Prop):WE:=fun δ K=>f δ λx δ1=>fw x δ1 λd0=>tH d0=θ/\fa δ1 λxs δ2=>fw x δ2 λd=>jW xs δ2 λds=>op d ds λz=>K (.p z) δ2
theorem S7{f:WE}{fa:WA}{K0:xY}{op:D->-D->(D->Prop)->Prop}{r:V->-V->Hp->VK->Prop}(hr:∀x xs H Q,(∃F d ds K,av F H/\gA F H d x/\iX F H ds xs/\op d ds K/\Made F H K Q)->r x xs H Q):∀σ H Q,tD (i7 f fa op) σ H Q->tR K0 "list" r (tD f) (bM fa) σ H Q:=fun σ H Q h0_=>el7 h0_ λF ad δ K S q k =>
 ⟨F,ad,δ,_,S,q,λx δ1 h1 v F1 aN H1 E1 S1 V1=>by
  let⟨d0,⟨hl,h2⟩,CM⟩:=iw S1 V1 h1
  let ty:Bs K0 "list" v H1:=by
   cases d0 with
   |lst es=>let⟨a,vs,rfl,h3,_⟩:=CM;exact .inl ⟨Y,vs,bh.of h3⟩
   |non=>cases hl
   |bl _=>cases hl
   |int _=>cases hl
   |str _=>cases hl
   |tup _=>cases hl
  calc⟨ty,F1,aN,δ1,_,S1,h2,λxs δ2 h3 vs F2 cn H2 E2 S2 V2=>hr _ _ _ _ ?_⟩;let⟨d,h4,rd⟩:=iw S2 (V1.ext E2) h3;let⟨ds,h5,lG⟩:=vU S2 V2 h4
  calc⟨F2,d,ds,_,S2.sub,rd,lG,h5,λz v H' hz sm is=>k _ _ hz _ _ _ _ ((E1.trans E2).trans (Ext.al S2 sm)) (S2.al sm) is⟩⟩
theorem J7{f:WE}{fa:WA}{K0:xY}:∀σ H Q,tD (i7 f fa bu) σ H Q->tR K0 "list" (IC K0) (tD f) (bM fa) σ H Q:=S7 λx xs H Q ⟨F,d,ds,K,sub,rd,lG,q,md⟩=>by
 unfold bu at q;split at q
 .rename_i es e
  let⟨a,vs,rfl,h1,h2⟩:=rd;let⟨w,rfl,h3⟩:=cB lG
  let h4:Is F e w:=by
   cases e with
   |lst _=>cases q.1.1
   |tup _=>exact h3
   |non=>exact h3
   |bl _=>exact h3
   |int _=>exact h3
   |str _=>exact h3
  let⟨g1,g2⟩:=J0 q.1.1 h4;let⟨g3,g4⟩:=count_is q.1.1 q.1.2 h2;calc⟨a,vs,w,Y,Y,bh.of h1,g2,g3,?_⟩;rw[g1,g4];exact md _ _ _ q.2 (λ_ _ e=>e) Y
 .calc q.elim
end
end L2
namespace L2
open PySem PySem.Spec PyProof.Rows PySem.W
abbrev LK:=-Int
def kle(a b:LK):Prop:=HT.lexLt b a=ι
theorem yL:∀a:LK,HT.lexLt a a=ι
 |[]=>Y
 |x::r=>by rw[HT.mW,ZK Y];calc yL r
theorem yM:∀{a b:LK},HT.lexLt a b=ι->HT.lexLt b a=ι->a=b
 |[],[],_,_=>Y
 |[],_::_,h,_=>by cases h
 |_::_,[],_,h=>by cases h
 |x::r,y::s,h,q=>by
  rw[HT.mW] at h q
  by_cases c:x=y
  .subst c
   rw[ZK Y] at h q;rw[yM h q]
  .rw[ZJ c] at h
   rw[ZJ (λz=>c z.symm)] at q;simp at h q;symm
theorem CN:∀{a b c:LK},HT.lexLt a b=θ->HT.lexLt b c=θ->HT.lexLt a c=θ
 |[],[],_,h,_=>by cases h
 |[],_::_,[],_,q=>by cases q
 |[],_::_,_::_,_,_=>Y
 |_::_,[],_,h,_=>by cases h
 |_::_,_::_,[],_,q=>by cases q
 |x::r,y::s,z::t,h,q=>by
  rw[HT.mW] at h q ⊢
  by_cases c1:x=y
  .subst c1
   rw[ZK Y] at h
   by_cases c2:x=z
   .subst c2
    rw[ZK Y] at q ⊢;exact CN h q
   .rw[ZJ c2] at q ⊢;exact q
  .rw[ZJ c1] at h
   by_cases c2:y=z
   .subst c2
    rw[ZJ c1];exact h
   .rw[ZJ c2] at q
    let h1:x<y:=by simpa using h
    let h2:y<z:=by simpa using q
    rw[ZJ ⋯];simp;symm
theorem kle_refl(a:LK):kle a a:=yL a
theorem yN{a b:LK}(h:HT.lexLt a b=θ):kle a b:=by
 unfold kle
 cases q:HT.lexLt b a with
 |false=>rfl
 |true=>let:=CN h q;rw[yL] at this;cases this
theorem kle_trans{a b c:LK}(h1:kle a b)(h2:kle b c):kle a c:=by
 unfold kle at *
 cases q:HT.lexLt c a with
 |false=>rfl
 |true =>
  cases q2:HT.lexLt a b with
  |true=>let:=CN q q2;rw[h2] at this;cases this
  |false =>
   let e:=yM q2 h1;subst e;rw[h2] at q;cases q
theorem J8{a b:LK}(h1:kle a b)(h2:kle b a):a=b:=yM h2 h1
section
variable{n:Nat}{k:Nat->LK}{I:L->Prop}{cmp:Nat->Nat->(Bool->L->Prop)->L->Prop}
def qB(n:Nat)(k:Nat->LK)(I:L->Prop)(cmp:Nat->Nat->(Bool->L->Prop)->L->Prop):Prop :=
 ∀(i j:Nat)(C:Bool->L->Prop)(s:L),i<n->j<n->I s->(∀s',I s'->C (HT.lexLt (k i) (k j)) s')->cmp i j C s
noncomputable def KA(k:Nat->LK)(p:Array Nat)(i:Nat):LK:=k (p.getD i 0)
structure cL(n:Nat)(p:Array Nat):Prop where
 perm:p.Perm (q0s n).toArray
theorem cL.size{p:Array Nat}(h:cL n p):p.size=n:=by let:=h.perm.size_eq;simpa using this
theorem cL.lt{p:Array Nat}(h:cL n p){i:Nat}(hi:i<n):p.getD i 0<n:=by
 let hs:=h.size;let e:p.getD i 0=p[i]:=by simp[q3x,hs,hi]
 rw[e];let:p[i]∈(q0s n).toArray:=(h.perm.mem_iff).mp (Array.getElem_mem _);simpa using this
theorem wy{p q:Array Nat}{i j:Nat}(h:p[i]?=q[j]?):p.getD i 0=q.getD j 0:=by
 rw[q1k,q1k,h]
theorem yO{p:Array Nat}{i j:Nat}(hj:j<=p.size)(t:Nat):KA k (kas_rev p i j) t=if i<=t/\t<j then KA k p (i+j-1-t) else KA k p t:=by
 let e:=getElem?_mirror_all (xs:=p) (i:=i) hj t;unfold KA kas_rev
 by_cases c:i<=t/\t<j
 .rw[ZK c] at e ⊢;rw[wy e]
 .rw[ZJ c] at e ⊢;rw[wy e]
theorem S8{p:Array Nat}{src d:Nat}(hs:src<p.size)(hd:d<=src)(t:Nat):
  KA k (bubble p src d) t=if t=src-d then KA k p src else if src-d<t/\t<=src then KA k p (t-1) else KA k p t:=by
 let e:=getElem?_bubble hs d hd t;unfold KA
 by_cases c:t=src-d
 .rw[ZK c] at e ⊢;rw[wy e]
 .rw[ZJ c] at e ⊢
  by_cases c2:src-d<t/\t<=src
  .rw[ZK c2] at e ⊢;rw[wy e]
  .rw[ZJ c2] at e ⊢;rw[wy e]
def Up(k:Nat->LK)(p:Array Nat)(m:Nat):Prop:=∀i j,i<=j->j<m->kle (KA k p i) (KA k p j)
def Dn(k:Nat->LK)(p:Array Nat)(m:Nat):Prop:=∀i j,i<=j->j<m->kle (KA k p j) (KA k p i)
theorem Up.snoc{p:Array Nat}{m:Nat}(h:Up k p m)(hm:1<=m)(q:kle (KA k p (m-1)) (KA k p m)):Up k p (m+1):=λi j iM hj=>by
 by_cases c:j<m
 .exact h i j iM c
 .let e:j=m:=by symm
  subst e
  by_cases c2:i=j
  .subst c2;exact kle_refl _
  .calc kle_trans (h i (j-1) ⋯ ⋯) q
theorem Dn.snoc{p:Array Nat}{m:Nat}(h:Dn k p m)(hm:1<=m)(q:kle (KA k p m) (KA k p (m-1))):Dn k p (m+1):=λi j iM hj=>by
 by_cases c:j<m
 .exact h i j iM c
 .let e:j=m:=by symm
  subst e
  by_cases c2:i=j
  .subst c2;exact kle_refl _
  .calc kle_trans q (h i (j-1) ⋯ ⋯)
theorem Up.one{p:Array Nat}:Up k p 1:=λi j iM hj=>by
 let:i=j:=by symm
 subst this;calc kle_refl _
theorem Dn.one{p:Array Nat}:Dn k p 1:=λi j iM hj=>by
 let:i=j:=by symm
 subst this;calc kle_refl _
theorem cL.rev{p:Array Nat}(h:cL n p)(i j:Nat):cL n (kas_rev p i j):=⟨(mirror_perm _ _ _ _).trans h.perm⟩
theorem cL.S9{p:Array Nat}(h:cL n p)(i j:Nat):cL n (bubble p i j):=⟨(bubble_perm _ _ _).trans h.perm⟩
theorem J_(hc:qB n k I cmp){p:Array Nat}(hp:cL n p):∀(f m:Nat)(s:L)(Q:Nat->L->Prop),1<=m->m+f=n->Up k p m->I s →
  (∀m' s',m<=m'->m'<=n->Up k p m'->I s'->Q m' s')->(kas_asc p f m).kasWp cmp Q s
 |0,m,s,Q,h1,h2,up,hi,fin=>fin m s (BA _) ⋯ up hi
 |f+1,m,s,Q,h1,h2,up,hi,fin=>by
  refine hc _ _ _ s (hp.lt ⋯) (hp.lt ⋯) hi λs' bJ=>?_
  cases q:HT.lexLt (k (p.getD m 0)) (k (p.getD (m-1) 0)) with
  |true=>dsimp only;rw[ZK Y];exact fin m s' (BA _) ⋯ up bJ
  |false =>
   calc J_ hc hp f (m+1) s' Q ⋯ ⋯ (up.snoc h1 q) bJ λm' iT a b c d=>fin m' iT ⋯ b c d
def CO(k:Nat->LK)(p:Array Nat)(m q:Nat):Prop:=∀t,m-(q+1)<=t->t<m->KA k p t=KA k p (m-1)
theorem Ka{p:Array Nat}{m q:Nat}(hs:m<=p.size)(hq:q+1<=m)(e:CO k p m q)(t:Nat):KA k (kas_rev p (m-(q+1)) m) t=KA k p t:=by
 rw[yO hs];split
 .rename_i c
  rw[e _ ⋯ ⋯,e t c.1 c.2]
 .rfl
theorem Dn.congr{p p':Array Nat}{m:Nat}(h:Dn k p m)(e:∀t,KA k p' t=KA k p t):Dn k p' m:=λi j a b=>by rw[e,e];calc h i j a b
theorem yP(hc:qB n k I cmp):∀(f:Nat)(p:Array Nat)(m q:Nat)(s:L)(Q:Array Nat×Nat×Nat->L->Prop),cL n p->1<=m->m+f=n->q+1<=m->Dn k p m->CO k p m q->I s →
  (∀p' m' q' s',cL n p'->m<=m'->m'<=n->q'+1<=m'->Dn k p' m'->CO k p' m' q'->I s'->Q (p',m',q') s')->(kas_desc f p m q).kasWp cmp Q s
 |0,p,m,q,s,Q,hp,h1,h2,hq,dn,es,hi,fin=>fin p m q s hp (BA _) ⋯ hq dn es hi
 |f+1,p,m,q,s,Q,hp,h1,h2,hq,dn,es,hi,fin=>by
  calc hc _ _ _ s (hp.lt ⋯) (hp.lt ⋯) hi λs' bJ=>?_;let sz:=hp.size
  cases c1:HT.lexLt (k (p.getD m 0)) (k (p.getD (m-1) 0)) with
  |true =>
   let st:kle (KA k p m) (KA k p (m-1)):=yN c1
   by_cases Kb:q>0
   .rw[ZK Kb]
    let e:=Ka (k:=k) (p:=p) (m:=m) (q:=q) ⋯ hq es;calc yP hc f _ (m+1) 0 s' Q (hp.rev _ _) ⋯ ⋯ ⋯ ((dn.snoc h1 st).congr e) (λt a b=>?_) bJ λp' m' q' iT a b c d e g i=>fin p' m' q' iT a ⋯ c d e g i;let:t=m+1-1:=by symm
    rw[this]
   .rw[ZJ Kb]
    calc yP hc f p (m+1) 0 s' Q hp ⋯ ⋯ ⋯ (dn.snoc h1 st) (λt a b=>?_) bJ λp' m' q' iT a b c d e g i=>fin p' m' q' iT a ⋯ c d e g i;let:t=m+1-1:=by symm
    rw[this]
  |false =>
   refine hc _ _ _ s' (hp.lt ⋯) (hp.lt ⋯) bJ λs2 oN=>?_
   cases c2:HT.lexLt (k (p.getD (m-1) 0)) (k (p.getD m 0)) with
   |true=>dsimp only;rw[ZK Y];exact fin p m q s2 hp (BA _) ⋯ hq dn es oN
   |false =>
    let eq:KA k p m=KA k p (m-1):=yM c1 c2;calc yP hc f p (m+1) (q+1) s2 Q hp ⋯ ⋯ ⋯ (dn.snoc h1 (by rw[eq];calc kle_refl _)) (λt a b=>?_) oN λp' m' q' iT a b c d e g i=>fin p' m' q' iT a ⋯ c d e g i;show KA k p t=KA k p m
    by_cases z:t=m
    .rw[z]
    .rw[es t ⋯ ⋯,eq]
theorem Dn.rev{p:Array Nat}{m:Nat}(h:Dn k p m)(hs:m<=p.size):Up k (kas_rev p 0 m) m:=λi j iM hj=>by
 rw[yO hs,yO hs,ZK ⟨q0u _,⋯⟩,ZK ⟨q0u _,hj⟩];calc h _ _ ⋯ ⋯
theorem Kc(hc:qB n k I cmp){p:Array Nat}(hp:cL n p){m:Nat}{s:L}{Q:Nat×Array Nat->L->Prop}(h1:1<=m)(hm:m<=n)(dn:Dn k p m)(hi:I s)
  (fin:∀p' m' s',cL n p'->1<=m'->m'<=n->Up k p' m'->I s'->Q (m',p') s'):(kas_tail3 m n p).kasWp cmp Q s:=by
 unfold kas_tail3;rw[KasT.kasWp_bind];let sz:=hp.size;calc J_ hc (hp.rev 0 m) (n-m) m s _ h1 ⋯ (dn.rev ⋯) hi λm' s' a b c d=>?_;calc fin _ m' s' (hp.rev 0 m) ⋯ b c d
theorem Kd(hc:qB n k I cmp){p:Array Nat}(hp:cL n p){m:Nat}{s:L}{Q:Nat×Array Nat->L->Prop}(h1:1<=m)(hm:m+1<=n)(dn:Dn k p (m+1))(hi:I s)
  (fin:∀p' m' s',cL n p'->1<=m'->m'<=n->Up k p' m'->I s'->Q (m',p') s'):(kas_descPart m n p).kasWp cmp Q s:=by
 unfold kas_descPart;rw[KasT.kasWp_bind];refine yP hc (n-(m+1)) p (m+1) 0 s _ hp ⋯ ⋯ ⋯ dn (λt a b=>?_) hi λp' m' q' s' a b c d e g i=>?_
 .let:t=m+1-1:=by symm
  rw[this]
 .let sz:=a.size
  dsimp only
  by_cases hq:q'>0
  .rw[ZK hq]
   exact Kc hc (a.rev _ _) ⋯ c (e.congr (Ka ⋯ d g)) i fin
  .rw[ZJ hq]
   calc Kc hc a ⋯ c e i fin
theorem S_(hc:qB n k I cmp){p:Array Nat}(hp:cL n p){s:L}{Q:Nat×Array Nat->L->Prop}(h1:1<=n)(hi:I s)
  (fin:∀p' m' s',cL n p'->1<=m'->m'<=n->Up k p' m'->I s'->Q (m',p') s'):(kas_count n p).kasWp cmp Q s:=by
 unfold kas_count;rw[KasT.kasWp_bind];let sz:=hp.size
 let key:∀(f m:Nat)(s:L)(Q':Nat->L->Prop),1<=m->m+f=n->Up k p m->I s →
   (∀m' s',m<=m'->m'<=n->Up k p m'->(m'<n->HT.lexLt (KA k p m') (KA k p (m'-1))=θ)->I s'->Q' m' s')->(kas_asc p f m).kasWp cmp Q' s:=by
  ext f
  induction f with
  |zero=>ext m s Q' a b up hi fin;exact fin m s (BA _) ⋯ up (λz=>absurd z ⋯) hi
  |succ f ih =>
   ext m s Q' a b up hi fin;refine hc _ _ _ s (hp.lt ⋯) (hp.lt ⋯) hi λs' bJ=>?_
   cases q:HT.lexLt (k (p.getD m 0)) (k (p.getD (m-1) 0)) with
   |true=>dsimp only;rw[ZK Y];exact fin m s' (BA _) ⋯ up (λ_=>q) bJ
   |false =>
    exact ih (m+1) s' Q' ⋯ ⋯ (up.snoc a q) bJ λm' iT a b c d e=>fin m' iT ⋯ b c d e
 refine key (n-1) 1 s _ (BA _) ⋯ Up.one hi λm s' a b up nx bJ=>?_
 by_cases c1:m=n
 .subst c1
  rw[ZK (by simp)];exact fin p m s' hp a (BA _) up bJ
 .rw[ZJ c1⁻¹]
  let cq:m<n:=by symm
  let nx:=nx cq
  by_cases c2:m>1
  .rw[ZK c2]
   refine hc _ _ _ s' (hp.lt ⋯) (hp.lt ⋯) bJ λs2 oN=>?_
   cases q:HT.lexLt (k (p.getD 0 0)) (k (p.getD (m-1) 0)) with
   |true=>dsimp only;exact fin p m s2 hp a b up oN
   |false =>
    let al:∀t,t<m->KA k p t=KA k p (m-1):=λt ht=>by
     refine J8 (up t (m-1) ⋯ ⋯) (kle_trans q (up 0 t (q0u _) ht))
    let e:∀t,KA k (kas_rev p 0 m) t=KA k p t:=λt=>by
     rw[yO ⋯];split
     .rename_i c;rw[al _ ⋯,al t c.2]
     .rfl
    calc Kd hc (hp.rev 0 m) ⋯ ⋯ (Dn.congr (p:=p) ?_ e) oN fin;calc Dn.snoc (λi j iM hj=>?_) ⋯ (yN nx);rw[al i ⋯,al j hj];exact kle_refl _
  .rw[ZJ c2]
   let:m=1:=by symm
   subst this;calc Kd hc hp ⋯ ⋯ (Dn.one.snoc (BA _) (yN nx)) bJ fin
theorem CP(hc:qB n k I cmp){p:Array Nat}(hp:cL n p){t:Nat}(ht:t<n)(up:Up k p t):∀(f l r:Nat)(s:L)(Q:Nat->L->Prop),l<=r->r<=t->r-l<=f →
  (∀i,i<l->kle (KA k p i) (KA k p t))->(∀i,r<=i->i<t->kle (KA k p t) (KA k p i))->I s →
  (∀l' s',l'<=t->(∀i,i<l'->kle (KA k p i) (KA k p t))->(∀i,l'<=i->i<t->kle (KA k p t) (KA k p i))->I s'->Q l' s')->(kas_place p t f l r).kasWp cmp Q s
 |0,l,r,s,Q,h1,h2,h3,lo,ui,hi,fin=>by
  let:l=r:=by symm
  subst this;exact fin l s h2 lo ui hi
 |f+1,l,r,s,Q,h1,h2,h3,lo,ui,hi,fin=>by
  unfold kas_place
  by_cases c:l ≥ r
  .rw[ZK c]
   let:l=r:=by symm
   subst this;exact fin l s h2 lo ui hi
  .rw[ZJ c]
   refine hc _ _ _ s (hp.lt ht) (hp.lt ⋯) hi λs' bJ=>?_
   cases q:HT.lexLt (k (p.getD t 0)) (k (p.getD ((l+r) / 2) 0)) with
   |true =>
    calc CP hc hp ht up f l ((l+r) / 2) s' Q ⋯ ⋯ ⋯ lo (λi a b=>?_) bJ fin;exact kle_trans (yN q) (up _ _ a b)
   |false =>
    calc CP hc hp ht up f ((l+r) / 2+1) r s' Q ⋯ h2 ⋯ (λi a=>?_) ui bJ fin;calc kle_trans (up i ((l+r) / 2) ⋯ ⋯) q
theorem Ke(hc:qB n k I cmp):∀(f:Nat)(p:Array Nat)(t:Nat)(s:L)(Q:Array Nat->L->Prop),cL n p->t+f=n->Up k p t->I s →
  (∀p' s',cL n p'->Up k p' n->I s'->Q p' s')->(kas_bin f p t).kasWp cmp Q s
 |0,p,t,s,Q,hp,h2,up,hi,fin=>by
  let:t=n:=by symm
  subst this;exact fin p s hp up hi
 |f+1,p,t,s,Q,hp,h2,up,hi,fin=>by
  unfold kas_bin;rw[KasT.kasWp_bind];let sz:=hp.size;calc CP hc hp ⋯ up t 0 t s _ (q0u _) (BA _) ⋯ (λi a=>absurd a ⋯) (λi a b=>absurd b ⋯) hi λl s' hl lo ui bJ=>?_;calc Ke hc f _ (t+1) s' Q (hp.S9 _ _) ⋯ (λi j iM hj=>?_) bJ fin;let kb:=λx=>S8 (k:=k) (p:=p) (src:=t) (d:=t-l) ⋯ ⋯ x;let el:t-(t-l)=l:=by symm
  rw[kb i,kb j,el]
  by_cases c1:i=l
  .subst c1
   rw[ZK Y]
   by_cases c2:j=i
   .rw[ZK c2];exact kle_refl _
   .rw[ZJ c2,ZK ⟨⋯,⋯⟩]
    exact ui (j-1) ⋯ ⋯
  .rw[ZJ c1]
   by_cases c2:j=l
   .subst c2
    rw[ZK Y,ZJ ⋯];exact lo i ⋯
   .rw[ZJ c2]
    by_cases c3:l<i/\i<=t
    .rw[ZK c3,ZK ⟨⋯,⋯⟩]
     exact up _ _ ⋯ ⋯
    .rw[ZJ c3]
     by_cases c4:l<j/\j<=t
     .rw[ZK c4];exact up _ _ ⋯ ⋯
     .rw[ZJ c4];calc up _ _ iM ⋯
theorem Kg(hc:qB n k I cmp){s:L}{Q:Array Nat->L->Prop}(h1:1<=n)(hi:I s)(fin:∀p s',cL n p->Up k p n->I s'->Q p s'):(kas_sort n).kasWp cmp Q s:=by
 unfold kas_sort;rw[KasT.kasWp_bind];refine S_ hc ⟨q5o _⟩ h1 hi λp m s' a b c d e=>?_
 by_cases q:m<n
 .rw[ZK q]
  let:max m 1=m:=by symm
  rw[this];exact Ke hc (n-m) p m s' Q a ⋯ d e fin
 .rw[ZJ q]
  let:m=n:=by symm
  subst this;calc fin p s' a d e
end
end L2
namespace L2
open PySem PySem.Spec PyProof.Rows
theorem Kh{δ0:ay}{bw:ay->Prop}{g:WG}{b:WS}{K:KS}(I:Nat->ay->Prop):∀(items:-D)(i:Nat)(δ:ay),I i δ →
  (∀j d δ (L:ay->Prop),items[j]?=U d->I (i+j) δ->(∀δ',I (i+j+1) δ'->L δ')->bw δ/\g (.p d) δ fun δ1=>b {nx:=fun δ2=>L (δ0.trim δ2),ct:=fun δ2=>L (δ0.trim δ2),bk:=K.nx,rt:=K.rt} δ1) →
  (∀δ,I (i+↑items) δ->bw δ/\K.nx δ)->lN δ0 bw g b K items δ
 |[],i,δ,h,_,fin=>fin δ h
 |d::r,i,δ,h,st,fin=>by
  unfold lN;calc st 0 d δ (fun δ'=>lN δ0 bw g b K r δ') Y h fun δ' hi=>?_;refine Kh I r (i+1) _ hi (λj e δ L hj hI hL=>?_) fun δ hI=>?_
  .let e:i+1+j=i+(j+1):=by symm
   rw[e] at hI hL;exact st (j+1) _ δ L hj⁻¹ hI hL
  .exact fin δ (by rw[HY];let e:i+1+↑r=i+(↑r+1):=by symm
                   rw[e] at hI;calc hI)
theorem j5{δ0:ay}{bw:ay->Prop}{g:WG}{b:WS}{K:KS}{items:-D}{δ:ay}(I:Nat->ay->Prop)(h0:I 0 δ)
  (st:∀j d δ (L:ay->Prop),items[j]?=U d->I j δ->(∀δ',I (j+1) δ'->L δ')->bw δ/\g (.p d) δ fun δ1=>b {nx:=fun δ2=>L (δ0.trim δ2),ct:=fun δ2=>L (δ0.trim δ2),bk:=K.nx,rt:=K.rt} δ1)
  (fin:∀δ,I ↑items δ->bw δ/\K.nx δ):lN δ0 bw g b K items δ :=
 Kh I items 0 δ h0 (λj d δ L hj hI hL=>by rw[q0J] at hI hL;calc st j d δ L hj hI hL) fun δ hI=>by rw[q0J] at hI;calc fin δ hI
def wz(δ0:ay)(bw:ay->Prop)(g:WG)(t:WT)(f:WE)(d:D)(acc:-D)(δ:ay)(L:-D->ay->Prop):Prop :=
 bw δ/\g (.p d) δ fun δ1=>t δ1 λb δ2=>if b=θ then f δ2 λx δ3=>oA x δ3 λe δ4=>↑acc<1000/\L (acc++[e]) (δ0.trim δ4) else L acc (δ0.trim δ2)
theorem Ki{δ0:ay}{bw:ay->Prop}{g:WG}{t:WT}{f:WE}{K:-D->ay->Prop}(I:Nat->-D->ay->Prop):∀(items:-D)(i:Nat)(acc:-D)(δ:ay),I i acc δ →
  (∀j d acc δ (L:-D->ay->Prop),items[j]?=U d->I (i+j) acc δ->(∀eR δ',I (i+j+1) eR δ'->L eR δ')->wz δ0 bw g t f d acc δ L) →
  (∀acc δ,I (i+↑items) acc δ->bw δ/\K acc δ)->jD δ0 bw g t f K items acc δ
 |[],i,acc,δ,h,_,fin=>fin acc δ h
 |d::r,i,acc,δ,h,st,fin=>by
  unfold jD;calc st 0 d acc δ (λeR δ'=>jD δ0 bw g t f K r eR δ') Y h λeR δ' hi=>?_;refine Ki I r (i+1) eR _ hi (λj e acc δ L hj hI hL=>?_) λacc δ hI=>?_
  .let e:i+1+j=i+(j+1):=by symm
   rw[e] at hI hL;exact st (j+1) _ acc δ L hj⁻¹ hI hL
  .exact fin acc δ (by rw[HY];let e:i+1+↑r=i+(↑r+1):=by symm
                       rw[e] at hI;calc hI)
theorem CQ{δ0:ay}{bw:ay->Prop}{g:WG}{t:WT}{f:WE}{K:-D->ay->Prop}{items:-D}{δ:ay}(I:Nat->-D->ay->Prop)(h0:I 0 [] δ)
  (st:∀j d acc δ (L:-D->ay->Prop),items[j]?=U d->I j acc δ->(∀eR δ',I (j+1) eR δ'->L eR δ')->wz δ0 bw g t f d acc δ L)
  (fin:∀acc δ,I ↑items acc δ->bw δ/\K acc δ):jD δ0 bw g t f K items [] δ :=
 Ki I items 0 [] δ h0 (λj d acc δ L hj hI hL=>by rw[q0J] at hI hL;calc st j d acc δ L hj hI hL) λacc δ hI=>by rw[q0J] at hI;calc fin acc δ hI
theorem CS{δ0:ay}{bw:ay->Prop}{g:WG}{t:WT}{f:WE}{K:-D->ay->Prop}{items:-D}(p:D->Bool)(fn:D->D)(hl:↑items<=1000)(hc:bw δ0)
  (st:∀d∈items,∀acc (L:-D->ay->Prop),↑acc<1000->(p d=θ->L (acc++[fn d]) δ0)->(p d=ι->L acc δ0)->wz δ0 bw g t f d acc δ0 L)
  (fin:K ((items.filter p).map fn) δ0):jD δ0 bw g t f K items [] δ0:=by
 refine CQ (λi acc δ=>δ=δ0/\acc=((items.take i).filter p).map fn) ⟨Y,Y⟩ ?_ ?_
 .ext j d acc δ L hj ⟨rfl,rfl⟩ hL
  let cq:=(tU.mp hj).1;let hm:d∈items:=q0v hj
  let hn:↑(((items.take j).filter p).map fn)<1000:=by
   rw[rO];let:=List.length_filter_le p (items.take j);rw[q0y] at this;symm
  let e:items.take (j+1)=items.take j++[d]:=by rw[q2o,hj];rfl
  refine st d hm _ L hn (λq=>hL _ _ ⟨Y,?_⟩) (λq=>hL _ _ ⟨Y,?_⟩)
  .rw[e,q6t,q0K];simp[x0s,q]
  .rw[e,q6t,q0K];simp[x0s,q]
 .ext acc δ ⟨rfl,rfl⟩
  rw[q04 (BA _)];calc⟨hc,fin⟩
theorem jF{δ0:ay}{bw:ay->Prop}{g:WG}{t:WT}{f:WE}{K:-D->ay->Prop}{items:-D}(fn:D->D)(hl:↑items<=1000)(hc:bw δ0)
  (st:∀d∈items,∀acc (L:-D->ay->Prop),↑acc<1000->L (acc++[fn d]) δ0->wz δ0 bw g t f d acc δ0 L)
  (fin:K (items.map fn) δ0):jD δ0 bw g t f K items [] δ0 :=
 CS (λ_=>θ) fn hl hc (λd hd acc L ha h _=>st d hd acc L ha (h Y)) (by rw[List.filter_eq_self.mpr λ_ _=>Y];calc fin)
end L2
namespace LJ
open PySem L2
theorem Kj:bootBuiltins "range" = U (.type "range"):=by decide +kernel
theorem Ta:bootBuiltins "min" = U (.builtin "min"):=by decide +kernel
theorem yQ:bootBuiltins "sorted" = U (.builtin "sorted"):=by decide +kernel
structure BT(mg:R->Option B):Prop where
 len:mg "len" = Z
 range:mg "range" = Z
 list:mg "list" = Z
 tuple:mg "tuple" = Z
 set:mg "set" = Z
 sorted:mg "sorted" = Z
 min:mg "min" = Z
 max:mg "max" = Z
 sum:mg "sum" = Z
 all:mg "all" = Z
 any:mg "any" = Z
 enumerate:mg "enumerate" = Z
 zip:mg "zip" = Z
 isinstance:mg "isinstance" = Z
 int:mg "int" = Z
 bool:mg "bool" = Z
 str:mg "str" = Z
 repr:mg "repr" = Z
end LJ
namespace L2
open PySem PySem.Spec PyProof.Rows
variable[aC]
section
variable{X:Cx}{fa:WA}{pos:y}
theorem Kk{F H:Hp}{ad:-O}{δ:ay}{σ:St}{p:O}(S:SR F ad δ σ H):eg F (ad++[p]) (.o ↑δ.mu) (.ref p) :=
 ⟨p,by rw[<-S.cJ,q0h (BA _),q1m];rfl,Y⟩
def CT(fa:WA):WE:=fun δ K=>fa δ λxs δ1=>match xs with
 |[.p (.int j)]=>(0<=j/\j<=1000)/\K (.o ↑δ1.mu) ⟨δ1.sl,δ1.mu++[U (.lst (cz 0 j.toNat))]⟩
 |_=>False
theorem Tb{a:M}{p1 p2 q1 q2:y}(hc:X.calm=θ)(so:Gl X "list")(hl:X.mg "list" = Z)(su:bootBuiltins "list" = U (.type "list"))(sv:Gl X "range")(hr:X.mg "range" = Z)(sx:bootBuiltins "range" = U (.type "range"))(ha:JA X [a] (bM fa))
  (he:starEach [a] X.env=[(ι,eval a X.env)]:=by rfl) (sy:starEach [.Call (.Name "range" p2) [a] [] q2] X.env=[(ι,eval (.Call (.Name "range" p2) [a] [] q2) X.env)]:=by rfl):JE X (.Call (.Name "list" p1) [.Call (.Name "range" p2) [a] [] q2] [] q1) (tD (CT fa)) :=
 (qa (I0 hc) so hl su (jU (qa IY sv hr sx ha (he:=he)) aY) (he:=sy)).weak fun σ H Q h0_=>el7 h0_ λF ad δ K S q k =>⟨F,ad,δ,_,S,q,λxs δ1 h1 vs F1 aN H1 E1 S1 V1=>by
  split at h1
  .rename_i j
   let⟨v,r,e,W1,W2⟩:=V1;let W2:r=[]:=W2;let W1:v=.int j:=W1;subst W2 W1 e;calc⟨j,Y,λrr CJ=>⟨rr,j.toNat,Y,by rw[bj,q54 h1.1.1],⋯,λl hl=>?_⟩⟩;let s1:av H1 (upd H1 rr (.rng 0 j)):=bL CJ;let S2:=S1.al s1;let E2:=Ext.al S1 s1;let oi:fY (Nw F1 H1 (upd H1 rr (.rng 0 j))) (.lst (cz 0 j.toNat)) (.lst ((bY j.toNat).map V.int)):=⟨_,Y,by rw[oM];calc uc⟩;exact k _ _ h1.2 _ _ _ _ ((E1.trans E2).trans (Ext.own S2 hl)) (S2.own hl oi) (Kk S2)
  .calc h1.elim⟩
def CU(f g:WE):WE:=fun δ K=>f δ λx δ1=>g δ1 λy δ2=>fw x δ2 λd=>fw y δ2 λe=>match d,e with
 |.lst a,.lst b=>↑a+↑b<=1000/\K (.o ↑δ2.mu) ⟨δ2.sl,δ2.mu++[U (.lst (a++b))]⟩
 |_,_=>False
theorem Tc{a b:M}{f g:WE}(ha:JE X a (tD f))(hb:JE X b (tD g)):JE X (.BinOp a .Add b pos) (tD (CU f g)) :=
 (rB xX ha hb).weak fun σ H Q h0_=>el7 h0_ λF ad δ K S q k =>⟨F,ad,δ,_,S,q,λx δ1 h1 v1 F1 aN H1 E1 S1 V1=>⟨F1,aN,δ1,_,S1,h1,λy δ2 h2 v2 F2 cn H2 E2 S2 V2=>by
  let⟨d,h3,rd⟩:=iw S2 (V1.ext E2) h2;let⟨e,h4,re⟩:=iw S2 V2 h3;split at h4
  .rename_i as bs
   let⟨a,us,rfl,g1,g2⟩:=rd;let⟨b,ws,rfl,g3,g4⟩:=re;let oi:fY F2 (.lst (as++bs)) (.lst (us++ws)):=⟨_,Y,ud g2 g4⟩;exact⟨a,b,us,ws,Y,Y,g1,g3,lK (by rw[↑g2,↑g4];calc h4.1),λp hp=>k _ _ h4.2 _ _ _ _ ((E1.trans E2).trans (Ext.own S2 hp)) (S2.own hp oi) (Kk S2)⟩
  .calc h4.elim⟩⟩
end
end L2
namespace LJS
open PySem PySem.SetTable PyProof.Rows
section
variable{prog:n}{w:Q}{A:q}{S:O}{ks:-Int}
theorem ints_of:∀{l:-(Int×B)},(∀e∈l,∃k tk,e=(hashInt k,q1l k tk))->IntsAre (l.map (·.2)) (l.map keyOf)
 |[],_=>.nil
 |e::r,h=>by
  let⟨k,tk,rfl⟩:=h e Qk;calc .cons k tk (ints_of λe he=>h e (Qm _ he))
theorem Td{E:aJ}{s:L}{Q:aJ}(hh:A.handled=Z)(hS:eQ s.heap S (ig w) ks)(hn:↑ks<64)
  (h:∀(h':I)(tk:Nat)(r:O)(out:Array B)(eO:-Int)(e:Nat),(∀b ob,s.heap.get? b=U ob->h'.get? b=U ob)->⇑s<=r->h'.get? r=U (seqObj "list" out e)->IntsAre out.toList eO->eO.Perm ks->eO.Pairwise (· <= ·)->Q (.ref r) {s with heap:=h',toks:=tk}) :
  G (g prog w) A (call (.builtin "sorted") [.ref S]) Q E s:=by
 let⟨o,es,ep,t,ho,hex,hd,T⟩:=hS;let hsz:=T.num;let lS:S<⇑s:=Qj ho;calc q4G q7s q6W q6X (args_sorted1 _) ?_;unfold Builtin.«sorted»;calc oj (m:=checkCount "sorted" 1 1 _) (vw ?_);calc oj (Of (by simp[hh]) ho hex hd T ⋯ λh1 lF t6 le=>?_);let allI:∀e∈(g7 w S ep es).toList,∃k tk,e=(hashInt k,q1l k tk):=λe he=>T.xG e ((An w S ep es).mem_iff.mp he);let hI:IntsAre ((g7 w S ep es).toList.map (·.2)) ((g7 w S ep es).toList.map keyOf):=ints_of allI;let hP:((g7 w S ep es).toList.map keyOf).Perm ks:=((An w S ep es).map keyOf).trans T.keys;let hL:↑((g7 w S ep es).toList.map (·.2))=↑ks:=by rw[rO,HZ,xI,hsz]
 generalize(g7 w S ep es).toList.map (·.2)=vs at hI hL ⊢;generalize(g7 w S ep es).toList.map keyOf=ns at hI hP;calc oj (q35 ?_);let kz:(h1.push (seqObj "list" vs.toArray 0)).get? h1.objs.size=U (seqObj "list" vs.toArray 0):=ZI _ Y;calc oj (q0B (q1e (s:={s with heap:=h1.push (seqObj "list" vs.toArray 0),toks:=lF}) q5K ⟨_,kz,Y⟩ q5p (list_sort_tree kz hI ⋯ λout eO a1 a2 a3=>⟨_,Y,?_⟩) (args_list_sort _)));let⟨e,he⟩:=sortedHeap_at (out:=out) kz;calc vw ⟨_,Y,h _ _ _ out eO e (λb ob eb=>?_) le he a1 (a2.trans hP) a3⟩;let hb:b<h1.objs.size:=Qj (t6 b ob eb);show(sortedHeap (h1.push (seqObj "list" vs.toArray 0)) h1.objs.size vs out).get? b=U ob
 rw[sortedHeap_old (ZN hb) (by rw[size_push'];calc q00 hb)];calc rM _ (t6 b ob eb)
end
end LJS
namespace L2
open PySem PySem.Spec PyProof.Rows
noncomputable def wA(led:Bool)(S:O)(ks:-Int):HO:=.ext λh=>LJS.eQ h S led ks
theorem Te{P:n}{w:Q}{H:Hp}{h:I}{S:O}{led:Bool}{ks:-Int}(e:LJS.eQ h S led ks):az P w H h S (wA led S ks) :=
 ⟨e,let⟨o,_,_,_,ho,_⟩:=e;⟨o,ho⟩,λh1 h2 e1 k=>LJS.Ae e1 λo eo=>k o eo⟩
noncomputable def oO(ns:-Int):-Int:=LJS.pT ns ns.length
section
variable{X:Cx}
theorem Tf(hc:X.calm=θ):g9 X (.type "set") (λxs H Q=>∃(l:O)(ns:-Int),xs=[.ref l]/\bh X.K H l (ns.map V.int)/\ns.length<=40/\∀p,H p=Z->Q (.ref p) (upd H p (wA (LJS.ig X.w) p (oO ns)))):=by
 ext pins s σ H xs us Q I r h;let⟨l,ns,rfl,hq,GY,q⟩:=h;let⟨u,rfl,rx⟩:=vals1 r;cases rx
 let⟨ah,r',pl,_⟩:=I.list hq;let hl:=↑r';rw[rO] at hl;refine LJS.N4 ns (I.ok.hd hc) pl.isList (λi v hv=>?_) (by rw[HW];symm) λh' tk se kp=>?_
 .rw[q1M] at hv
  let hi:=(tU.mp hv).1;let⟨x,hx,rv⟩:=wc r' (j:=i) (by rw[HW];calc hi);rw[show ah.toArray[i]'(by rw[HW];calc hi)=v by simpa using(tU.mp hv).2] at rv;rw[Qi] at hx;let⟨n,hn,rfl⟩:=ZM.mp hx;let⟨t,rfl⟩:=rv;rw[HX,hn];exact⟨t,Y⟩
 .let CV:LJS.eQ h' ⇑s (LJS.ig X.w) (oO ns):=by
   let e:ah.toArray.size=ns.length:=by rw[HW];symm
   rw[e] at se;exact se
  calc⟨.ref ⇑s,upd H ⇑s (wA (LJS.ig X.w) ⇑s (oO ns)),I.laid (t':=tk) (λb o e=>kp b o (Qj e) e) (BA _) (Te CV),Y,q _ (I.aF.fresh (BA _))⟩
theorem Tg(hc:X.calm=θ):g9 X (.builtin "sorted") (λxs H Q=>∃(p:O)(ks:-Int),xs=[.ref p]/\H p=U (wA (LJS.ig X.w) p ks)/\↑ks<64/\∀(r:O)(eO:-Int),eO.Perm ks->eO.Pairwise (· <= ·)->H r=Z->Q (.ref r) (upd H r (.lst (eO.map V.int)))):=by
 ext pins s σ H xs us Q I r h;let⟨p,ks,rfl,hp,hn,q⟩:=h;let⟨u,rfl,rx⟩:=vals1 r;cases rx
 let⟨se,_⟩:=I.aF p _ hp;calc LJS.Td (I.ok.hd hc) se hn λh' tk r out eO e kp le he hI pm pw=>?_;calc⟨.ref r,_,I.laid (t':=tk) (o:=.lst (eO.map V.int)) kp le ?_,Y,q _ eO pm pw (I.aF.fresh le)⟩;calc⟨q1t (qg (by rw[rO,pm.length_eq];symm)),out.toList,e,B3 hI,?_⟩;simpa[seqObj] using he
end
end L2
namespace LJS
open PySem PySem.SetTable PyProof.Rows
noncomputable def gw(m:Nat)(p:Probe):Probe :=
 if p.more>0 then{p with j:=p.j+1,more:=p.more-1} else
 {p with j:=(leap m p.i p.perturb).1,more:=runEnd m (leap m p.i p.perturb).1-(leap m p.i p.perturb).1,i:=(leap m p.i p.perturb).1,perturb:=(leap m p.i p.perturb).2}
theorem Kl(t:SetTable)(p:Probe):t.advance p=gw t.mask p:=rfl
noncomputable def bO(m:Nat):Nat->Probe->Probe
 |0,p=>p
 |k+1,p=>bO m k (gw m p)
theorem yR(m:Nat):∀(a b:Nat)(p:Probe),bO m (a+b) p=bO m b (bO m a p)
 |0,b,p=>by rw[q0J];rfl
 |a+1,b,p=>by rw[show a+1+b=a+b+1 by symm];calc yR m a b (gw m p)
noncomputable def stM(m i q:Nat):Probe:=⟨i,runEnd m i-i,i,q,Z⟩
noncomputable def startM(m:Nat)(h:Int):Probe:=stM m (bits h%(m+1)) (bits h)
theorem CW(m:Nat):∀(l:Nat)(p:Probe),l<=p.more->bO m l p={p with j:=p.j+l,more:=p.more-l}
 |0,p,_=>Y
 |l+1,p,h=>by
  show bO m l (gw m p)=_;let e:gw m p={p with j:=p.j+1,more:=p.more-1}:=by unfold gw;rw[ZK ⋯]
  rw[e,CW m l _ (by show l<=p.more-1;symm)];congr 1<;>(dsimp only;symm)
theorem Km(m i q:Nat):bO m (runEnd m i-i+1) (stM m i q)=stM m (leap m i q).1 (leap m i q).2:=by
 rw[yR m (runEnd m i-i) 1,CW m (runEnd m i-i) (stM m i q) (BA _)];show gw m _=_;unfold gw;rw[ZJ (by show ¬ (runEnd m i-i-(runEnd m i-i)>0);symm)];rfl
theorem Kn{m i:Nat}(h:i<=m):runEnd m i<=m/\i<=runEnd m i:=by unfold runEnd;split<;>symm
def qC(m:Nat)(p:Probe):Prop:=p.j+p.more<=m
theorem Th{m:Nat}{p:Probe}(h:qC m p):qC m (gw m p):=by
 unfold gw qC;split
 .rename_i c;let:p.j+p.more<=m:=h;dsimp only;symm
 .let:=Kn (Gu m p.i p.perturb)
  dsimp only;symm
theorem Ko{m:Nat}:∀(k:Nat){p:Probe},qC m p->qC m (bO m k p)
 |0,_,h=>h
 |k+1,_,h=>Ko k (Th h)
theorem Ti(m:Nat)(h:Int):qC m (startM m h):=by
 let h0:bits h%(m+1)<=m:=q2Y (q7L _ (q3D _));let:=Kn h0;unfold startM stM qC;dsimp only;symm
theorem Kq(m:Nat)(h:Int)(k:Nat):(bO m k (startM m h)).j<=m:=by
 let:=Ko k (Ti m h);unfold qC at this;symm
def qD(m:Nat)(yS:Nat->Prop)(h:Int)(j:Nat):Prop:=∃k,k<10*turns m/\(bO m k (startM m h)).j=j/\∀l,l<k->yS (bO m l (startM m h)).j
theorem qD.mono{m:Nat}{yS wB:Nat->Prop}{h:Int}{j:Nat}(r:qD m yS h j)(k:∀x,x<=m->yS x->wB x):qD m wB h j:=by
 let⟨n,h1,h2,h3⟩:=r;calc⟨n,h1,h2,λl hl=>k _ (Kq m h l) (h3 l hl)⟩
theorem Kr{m:Nat}{owner:Array (Option Nat)}:∀(F i q j:Nat),q1N m owner F i q=U j->∃k,k<10*F/\(bO m k (stM m i q)).j=j/\∀l,l<k->(owner.getD (bO m l (stM m i q)).j (U 0)).isSome=θ
 |0,i,q,j,h=>by unfold q1N at h;cases h
 |F+1,i,q,j,h=>by
  rw[zU] at h;let r9:=Gy m i;let ri:i<=runEnd m i:=by unfold runEnd;split<;>symm
  let lW:∀l,l<=runEnd m i-i->(bO m l (stM m i q)).j=i+l:=λl hl=>by rw[CW m l _ hl];rfl
  split at h
  .rename_i k0 hk
   cases h
   let h1:=q3_ hk;let h2:=q0G.mp (q4H hk);calc⟨k0,⋯,lW k0 ⋯,λl hl=>?_⟩;rw[lW l ⋯]
   let h3:∀l,l<k0->¬ (owner.getD (i+l) (U 0)).isNone=θ:=by
    ext l hl hn;let⟨as,bs,e,hb⟩:=List.find?_eq_some_iff_append.mp hk |>.2
    let hlen:↑as=k0:=by
     let:=congrArg (λx=>x[↑as]?) e;simp at this
     let h5:↑as<runEnd m i+1-i:=by
      let:=congrArg q7o e;simp at this;symm
     rw[q1a h5] at this;exact q0A this
    let:l∈as:=by
     let h6:=congrArg (λx=>x[l]?) e;erw[q0g (show l<↑as by symm)] at h6;rw[q1a ⋯] at h6;exact q0v h6.symm
    let:=hb l this;rw[hn] at this;exact absurd this (by decide)
   let:=h3 l hl
   cases q:owner.getD (i+l) (U 0) with
   |none=>rw[q] at this;exact absurd Y this
   |some _=>rfl
  .rename_i hk
   let h1:=q4r.mp hk;let⟨k,ZW,Tj,Tn⟩:=Kr F _ _ j h;refine⟨runEnd m i-i+1+k,⋯,by rw[yR,Km];calc Tj,λl hl=>?_⟩
   by_cases c:l<=runEnd m i-i
   .rw[lW l c]
    let:=h1 l (q0G.mpr ⋯)
    cases q:owner.getD (i+l) (U 0) with
    |none=>rw[q] at this;exact absurd Y this
    |some _=>rfl
   .let:=Tn (l-(runEnd m i-i+1)) ⋯
    rw[show l=runEnd m i-i+1+(l-(runEnd m i-i+1)) by symm,yR,Km];calc this
section
variable{t:SetTable}{f:Nat->Int}{h:Int}
theorem Ks(u:Up t.place){i:Nat}(hi:i<t.place.size):t.slot t.place[i]=.live i:=by
 let⟨h0,h1,h2⟩:=tF u t.place[i];let a:¬ i<below t.place t.place[i]:=λz=>by let:=h1 i hi z;symm
 let b:¬ below t.place t.place[i]<i:=λz=>by
  let:=h2 (below t.place t.place[i]) ⋯ (BA _);let:=u.lt z hi;symm
 let eb:below t.place t.place[i]=i:=by symm
 unfold slot;rw[eb];let:(t.place[i]?==U t.place[i])=θ:=by rw[ZL hi];simp
 erw[this,q17]
theorem Kt(hd:t.dummies = #[]):∀(F:Nat)(p:Probe)(j:Nat)(d:Option Nat),q2R t f h F p=U (.empty j d)->∃k,k<F/\(bO t.mask k p).j=j/\∀l,l<k->(bO t.mask l p).j∈t.place.toList
 |0,p,j,d,e=>by unfold q2R at e;cases e
 |F+1,p,j,d,e=>by
  rw[qV] at e;rcases uI hd p.j with q|⟨i,q,hi,hm⟩
  .rw[q] at e
   cases e
   exact⟨0,q3D _,Y,λl hl=>absurd hl (q7C _)⟩
  .rw[q] at e
   dsimp only at e;split at e
   .cases e
   .let⟨k,h1,h2,h3⟩:=Kt hd F _ j d e
    rw[Kl] at h2 h3;refine⟨k+1,⋯,h2,λl hl=>?_⟩
    cases l with
    |zero=>exact hm
    |succ l=>calc h3 l ⋯
theorem Ku(hd:t.dummies = #[])(u:Up t.place):∀(k F:Nat)(p:Probe)(i0:Nat),k<F->t.slot (bO t.mask k p).j=.live i0->f i0=h->(∀l,l<k->(bO t.mask l p).j∈t.place.toList)->∃j i nx,q2R t f h F p=U (.candidate j i nx)/\f i=h/\i<t.place.size
 |k,0,p,i0,hk,_,_,_=>absurd hk (q7C _)
 |0,F+1,p,i0,_,hs,hf,_=>by
  rw[qV,show t.slot p.j=.live i0 from hs];dsimp only;rw[ZK (by rw[hf];simp)];calc⟨_,_,_,Y,hf,?_⟩;rcases uI hd p.j with q|⟨i,q,hi,_⟩
  .rw[show t.slot p.j=.live i0 from hs] at q;cases q
  .rw[show t.slot p.j=.live i0 from hs] at q;cases q;exact hi
 |k+1,F+1,p,i0,hk,hs,hf,ho=>by
  let hm:=ho 0 (q3D _);let⟨i,hi,ei⟩:=q1V.mp hm;let bJ:i<t.place.size:=by rw[<-HZ];exact hi
  let z_:t.place[i]=p.j:=by simpa[bO] using ei
  let sl:=Ks u bJ;rw[z_] at sl;rw[qV,sl];dsimp only
  by_cases c:f i=h
  .rw[ZK (by rw[c];simp)]
   exact⟨_,_,_,Y,c,bJ⟩
  .rw[ZJ c⁻¹,Kl]
   calc Ku hd u k F _ i0 ⋯ hs hf λl hl=>ho (l+1) ⋯
end
def sE(owner:Array (Option Nat))(j:Nat):Prop:=∃k,owner[j]?=U (U k)
structure uj(m:Nat)(hs:-Int)(owner:Array (Option Nat))(k:Nat):Prop where
 ow:Ow m owner k
 uk:∀(j i:Nat),owner[j]?=U (U i)->∃h,hs[i]?=U h/\qD m (sE owner) h j
theorem Kv{owner:Array (Option Nat)}{j k x:Nat}(h:sE owner x):sE (owner.setIfInBounds j (U k)) x:=by
 let⟨i,e⟩:=h;let hx:=(q07.mp e).1
 by_cases c:j=x
 .subst c
  exact⟨k,by rw[q2T];simp[hx]⟩
 .calc⟨i,by rw[q2T];simp[c];calc e⟩
theorem To{m:Nat}{hs:-Int}{owner:Array (Option Nat)}{k:Nat}(hm:Mk m)(O:uj m hs owner k)(hk:k<=m){h:Int}(hh:hs[k]?=U h):
  ∃j,q1N m owner (turns m) (bits h%(m+1)) (bits h)=U j/\uj m hs (owner.setIfInBounds j (U k)) (k+1):=by
 let⟨j,ej,O'⟩:=NJ hm O.ow hk h;calc⟨j,ej,O',λx i e=>?_⟩;rw[q2T] at e
 by_cases c:j=x
 .subst c
  let Tp:j<owner.size:=by
   by_cases z:j<owner.size
   .exact z
   .simp[z] at e
  simp[Tp] at e;subst e;calc⟨h,hh,?_⟩;let⟨n,n1,n2,n3⟩:=Kr _ _ _ _ ej;calc⟨n,n1,n2,λl hl=>Kv ?_⟩;let gN:=n3 l hl;let le:=Kq m h l;let cq:(bO m l (startM m h)).j<owner.size:=by rw[O.ow.size];symm
  let wC:(owner.getD (bO m l (startM m h)).j (U 0)).isSome=θ:=gN;rw[show owner.getD (bO m l (startM m h)).j (U 0)=owner[(bO m l (startM m h)).j] by simp[q3x,cq]] at wC;let⟨v,hv⟩:=q2y.mp wC;exact⟨v,by rw[ZL cq,hv]⟩
 .simp[c] at e
  let⟨h',e1,e2⟩:=O.uk x i e;calc⟨h',e1,e2.mono λy _ hy=>Kv hy⟩
theorem Kw{m:Nat}(hm:Mk m){all:-Int}:∀(hs:-Int)(owner:Array (Option Nat))(k:Nat),uj m all owner k->all.drop k=hs->k+↑hs<=m+1 →
  ∃aQ,(hs.foldl (init:=U (owner,k)) λacc h=>do
   let(owner,k) <- acc
   let j <- q1N m owner (turns m) (bits h%(m+1)) (bits h)
   pure (owner.setIfInBounds j (U k),k+1))=U (aQ,k+↑hs)/\uj m all aQ (k+↑hs)
 |[],owner,k,O,_,_=>⟨owner,Y,O⟩
 |h::hs,owner,k,O,hd,hl=>by
  rw[HY] at hl ⊢
  let hk:k<all.length:=by
   let:=congrArg q7o hd;rw[q06,HY] at this;symm
  rw[q0V hk] at hd;let hh:all[k]?=U h:=by rw[rN hk];exact congrArg U (q4X hd).1
  let⟨j,ej,O'⟩:=To hm O ⋯ hh;let⟨o2,e2,O2⟩:=Kw hm hs _ (k+1) O' (q4X hd).2 ⋯;calc⟨o2,?_,by rw[show k+(↑hs+1)=k+1+↑hs by symm];calc O2⟩;rw[q5j,show k+(↑hs+1)=k+1+↑hs by symm,<-e2];congr 1;show(do let j <- q1N m owner (turns m) (bits h%(m+1)) (bits h);pure (owner.setIfInBounds j (U k),k+1))=_;rw[ej];rfl
theorem Tq(m:Nat)(hs:-Int):uj m hs (q5h (m+1) Z) 0:=by
 calc⟨GF m,λj i e=>?_⟩;rw[Array.getElem?_replicate] at e;split at e<;>cases e
theorem Tr{m:Nat}(hm:Mk m)(hs:Array Int)(hz:hs.size<=m+1):∃owner,layClean m hs=U owner/\uj m hs.toList owner hs.size:=by
 let⟨o,e,O⟩:=Kw hm hs.toList _ 0 (Tq m hs.toList) Y (by rw[HZ];symm);rw[q0J,HZ] at O;calc⟨o,?_,O⟩;unfold layClean;rw[<-q6k,e];rfl
theorem Tt{m:Nat}(hm:Mk m)(t:SetTable)(hs:Array Int)(wanted:Nat)(hw:sizeAbove wanted-1=m)(hz:hs.size<=m+1):
  ∃t' order,t.relaid hs wanted=U (t',order)/\t'.mask=m/\t'.dummies = #[]/\t'.place.size=hs.size/\Up t'.place/\order.size=hs.size/\order.toList.Perm (q0s hs.size) ∧
   ∀(i j k:Nat),t'.place[i]?=U j->order[i]?=U k->∃h,hs[k]?=U h/\qD m (· ∈ t'.place.toList) h j:=by
 let⟨owner,e,O⟩:=Tr hm hs hz;let⟨aQ,e',_,OP⟩:=GQ hm hs hz;let:aQ=owner:=q0A (e'.symm.trans e);subst this;refine⟨{mask:=m,place:=((hZ m aQ).map (·.1)).toArray,dummies := #[],finger:=t.finger,led:=t.led,moves:=t.movedTo m,plain:=t.plain},((hZ m aQ).map (·.2)).toArray,?_,Y,Y,?_,GK m aQ,?_,?_,λi j k h1 h2=>?_⟩
 .unfold relaid laid
  rw[hw,e];rfl
 .rw[HW,rO,zX O.ow]
 .rw[HW,rO,zX O.ow]
 .show ((hZ m aQ).map (·.2)).Perm _
  rw[GS O.ow.size];exact OP
 .let h1:((hZ m aQ).map (·.1))[i]?=U j:=by simpa using h1
  let h2:((hZ m aQ).map (·.2))[i]?=U k:=by simpa using h2
  rw[Qi] at h1 h2;let⟨z,Kx,rfl⟩:=ZM.mp h1;let⟨z',Ky,rfl⟩:=ZM.mp h2;rw[Kx] at Ky;cases Ky;let zm:=q0v Kx
  let own:∀z∈hZ m aQ,aQ[z.1]?=U (U z.2):=λz hz=>by
   unfold hZ at hz;let⟨j',wD,Tu⟩:=q2j.mp hz;let⟨k',yT,rfl⟩:=ZM.mp Tu;let:j'<aQ.size:=by rw[O.ow.size];exact q0G.mp wD
   rw[show aQ.getD j' Z=aQ[j'] by simp[q3x,this]] at yT;rw[ZL this,yT]
  let⟨h,e1,e2⟩:=O.uk _ _ (own z zm);calc⟨h,by rw[<-q0p];calc e1,e2.mono λx hx Tv=>?_⟩;let⟨kx,Kz⟩:=Tv;show x∈(hZ m aQ).map (·.1);calc q0t.mpr ⟨(x,kx),?_,Y⟩;unfold hZ;calc q2j.mpr ⟨x,q0G.mpr ⋯,?_⟩;let x8:=(q07.mp Kz).1;rw[show aQ.getD x Z=aQ[x] by simp[q3x,x8],(q07.mp Kz).2];rfl
structure oP(hk:Nat->Int)(ad:Nat->O)(t:SetTable)(es:Array (Int×B))(js:-Nat):Prop where
 P:gb t es (js.map hk)
 up:Up t.place
 nQ:(js.map hk).Nodup
 el:∀e∈es.toList,∃j∈js,e=(hk j,q0w (ad j))
 all:∀j∈js,∃e∈es.toList,e.1=hk j
 uk:∀(i:Nat)(e:Int×B)(j:Nat),es[i]?=U e->t.place[i]?=U j->qD t.mask (· ∈ t.place.toList) e.1 j
def gQ(hk:Nat->Int)(ad:Nat->O)(h:I)(S:O)(js:-Nat):Prop:=∃o es ep t,h.get? S=U o/\o.ExactSet/\o.data=.set es ep t/\oP hk ad t es js
theorem KC{hk:Nat->Int}{ad:Nat->O}{h h':I}{S:O}{js:-Nat}(x:gQ hk ad h S js)(k:∀o,h.get? S=U o->h'.get? S=U o):gQ hk ad h' S js:=by
 let⟨o,es,ep,t,ho,r⟩:=x;calc⟨o,es,ep,t,k o ho,r⟩
theorem KD{α:Type}{xs:Array α}{p:Nat}{x:α}(hp:p<=xs.size)(i:Nat):(insertAt xs p x)[i]?=if i<p then xs[i]? else if i=p then U x else xs[i-1]?:=by
 let e:(insertAt xs p x).toList=xs.toList.take p++x::xs.toList.drop p:=by
  unfold insertAt;erw[q5Q,q2u,q5w,q4E,q3F,q5a,q1K,List.singleton_append];rw[q04 (l:=xs.toList.drop p) (by rw[q06,HZ];calc BA _)]
 rw[<-q0p,e];let hl:↑(xs.toList.take p)=p:=by rw[q0y,HZ];symm
 by_cases c:i<p
 .rw[ZK c,q0g ⋯,q05 c,q0p]
 .rw[ZJ c,q0h ⋯,hl]
  by_cases c2:i=p
  .rw[ZK c2,c2,q1m];rfl
  .rw[ZJ c2]
   let⟨d,rfl⟩:∃d,i=p+1+d:=⟨i-p-1,⋯⟩;rw[show p+1+d-p=d+1 by symm,q1o,List.getElem?_drop,q0p];congr 1;symm
theorem Tw{α:Type}{es:Array α}{order:Array Nat}(h:∀k∈order.toList,k<es.size)(i:Nat):(order.filterMap (es[·]?))[i]?=(order[i]?).bind λk=>es[k]?:=by
 let:∀l:-Nat,(∀k∈l,k<es.size)->∀i:Nat,(l.filterMap λk=>es[k]?)[i]?=(l[i]?).bind λk=>es[k]?:=by
  ext l
  induction l with
  |nil=>ext _ i;simp
  |cons k r ih =>
   ext hk i;let yU:=hk k Qk;rw[q14];rw[ZL yU];dsimp only
   cases i with
   |zero=>simp[ZL yU]
   |succ i=>simpa using ih (λk' g_=>hk k' (Qm _ g_)) i
 let e:=this order.toList h i;rw[<-q0p,q2H,e,q0p]
section
variable{hk:Nat->Int}{ad:Nat->O}{t:SetTable}{es:Array (Int×B)}{js:-Nat}
theorem oP.found(T:oP hk ad t es js){h:Int}(hm:h∈js.map hk):∃j i nx,t.probe (λi=>(es[i]?.map (·.1)).getD 0) h (t.probeStart h)=U (.candidate j i nx)/\∃e,es[i]?=U e/\e.1=h:=by
 let⟨j,hj,rfl⟩:=q0t.mp hm;let⟨e,he,e1⟩:=T.all j hj;let⟨i,hi,ei⟩:=q1V.mp he;let bJ:i<es.size:=by rw[<-HZ];exact hi
 let ee:es[i]?=U e:=by rw[ZL bJ];exact congrArg U ei⁻¹
 let hp:i<t.place.size:=by rw[T.P.h9];exact bJ
 let r:=T.uk i e _ ee (ZL hp);rw[e1] at r;let⟨k,k1,k2,k3⟩:=r;let sl:=Ks T.up hp;let⟨j',i',nx,h1,h2,h3⟩:=Ku (t:=t) (f:=λi=>(es[i]?.map (·.1)).getD 0) (h:=hk j) T.P.mK T.up k (10*turns t.mask) (startM t.mask (hk j)) i k1 (by rw[k2];calc sl) (by rw[ee];calc e1) k3;calc⟨j',i',nx,h1,?_⟩;let cq:i'<es.size:=by rw[<-T.P.h9];exact h3
 calc⟨es[i'],ZL cq,by let:=h2;rw[ZL cq] at this;calc this⟩
end
section
variable{prog:n}{w:Q}{A:q}{E:aJ}{s:L}{ad:Nat->O}{ks:Nat->-Int}{js:-Nat}{S:O}
noncomputable abbrev aG(prog:n)(w:Q)(ks:Nat->-Int)(j:Nat):Int:=hT prog w (ks j)
theorem KG{k:-Int}{a:O}{Q:Bool->L->Prop}(hk:IsTupleKey (intKind prog w) s.heap k a)(h:Q ι s):G (g prog w) A (ofAClassStatement 8 (.ref a)) Q E s:=by
 let hT:=hk.typeIs;let⟨o,ah,n,ho,_,hd,hi⟩:=hk;show G _ _ (ofAClassStatement (7+1) (.ref a)) _ _ _;unfold ofAClassStatement;calc oj (q2M hT ?_);dsimp only;calc oj ?_;calc vw ?_;erw[q1b,q0a,q0X];calc oj (q12 ho hd ?_);dsimp only;calc oj ?_;show G _ _ (forIn ah _ _) _ _ s;rw[<-q3u];refine q3Z _ (λrest r s'=>s'=s/\r=(Z,x1a)/\∀v∈rest,∃i t,v=q1l i t) _ ?_ ?_ _ _ ⟨Y,Y,GX hi⟩
 .ext v rest r s' ⟨rfl,rfl,gf⟩
  let⟨i,t,rfl⟩:=gf v Qk;let e:ofAClassStatement 7 (.int i t)=pure ι:=by unfold ofAClassStatement;rfl
  rw[e];calc oj (vw ?_);erw[q0a,q0X];exact vw ⟨Y,Y,λu hu=>gf u (Qm _ hu)⟩
 .ext r s' ⟨rfl,rfl,_⟩
  calc vw h
theorem Tx{k:-Int}{a:O}{Q:Bool->L->Prop}{stored:-B}(hx:IsTupleKey (intKind prog w) s.heap k a)(hy:∀y∈stored,∃k' b,y=q0w b/\IsTupleKey (intKind prog w) s.heap k' b)(h:Q ι s):G (g prog w) A (searchCouldBeSeen (.ref a) stored) Q E s:=by
 unfold searchCouldBeSeen;calc oj ?_;refine q3Z _ (λrest r s'=>s'=s/\r=(Z,x1a)/\∀y∈rest,∃k' b,y=q0w b/\IsTupleKey (intKind prog w) s.heap k' b) _ ?_ ?_ _ _ ⟨Y,Y,hy⟩
 .ext v rest r s' ⟨rfl,rfl,gf⟩
  let⟨k',b,rfl,hb⟩:=gf v Qk;let qE:∀y∈rest,∃k' b,y=q0w b/\IsTupleKey (intKind prog w) s'.heap k' b:=λu hu=>gf u (Qm _ hu);dsimp only;calc q3p (λ_=>vw ⟨Y,Y,qE⟩) (λ_=>?_);calc oj (q5u hx ?_);erw[q1b,q0a,q0X];calc oj (q5u hb ?_);erw[q1b,q0a,q0X];calc oj (KG hx ?_);erw[q0a,q0X];calc oj (KG hb ?_);erw[q0a,q0X];exact vw ⟨Y,Y,qE⟩
 .ext r s' ⟨rfl,rfl,_⟩
  calc vw h
theorem Tz{i:Nat}{o:u}{es:Array (Int×B)}{ep:Nat}{t:SetTable}{Q:SetFound->L->Prop}(ho:s.heap.get? S=U o)(hd:o.data=.set es ep t)(T:oP (aG prog w ks) ad t es js)(hu:A.units<cLine)
  (keys:∀j∈i::js,IsTupleKey (intKind prog w) s.heap (ks j) (ad j)) (inj:∀j∈js,aG prog w ks j=aG prog w ks i->ks j=ks i) (hm:aG prog w ks i∈js.map (aG prog w ks))
  (k:Q (.there Z) s):G (g prog w) A (setSearch S (.ref (ad i)) (aG prog w ks i) θ) Q E s:=by
 unfold setSearch;show G _ _ (setSearchFrom S (.ref (ad i)) (aG prog w ks i) θ (99999+1) Z) _ _ _;unfold setSearchFrom;calc oj (q1A ho hd T.P.fits ?_);dsimp only;rw[T.P.uK];simp only[q0a,↓reduceIte];let⟨j',i',nx,ej,e,ee,eh⟩:=T.found hm;erw[q31];generalize hP:t.probe _ (aG prog w ks i) (t.probeStart (aG prog w ks i))=P;let eP:P=U (.candidate j' i' nx):=hP.symm.trans ej;rw[eP];dsimp only;let em:e∈es.toList:=q0v (by rw[q0p];calc ee);let⟨j,hj,rfl⟩:=T.el e em;let ek:=inj j hj eh;let kx:=keys i Qk;let ky:=keys j (Qm _ hj)
 let tail:G (g prog w) A (do
   let U (_,y):=es[i']?|unsupported "internal:set-entry"
   let equal <- holding [y] (eqBool y (.ref (ad i)))
   let(uU,_,t') <- setState S
   if θ&&equal then return q76 Z
   let U same:=t'.sameMemory t.moves t.mask|unsupported "set.changed-during-lookup:is-the-new-block-at-the-old-address"
   let wF <- match(if same then t'.slot j' else .empty) with
    |.live i'=>match uU[i']? with
     |some (_,y')=>do pure (if <- isSame y' y then U i' else Z)
     |none=>pure Z
    |_=>pure Z
   match wF with
   |none=>rule "set.search.anew";setSearchFrom S (.ref (ad i)) (aG prog w ks i) θ 99999 Z
   |some i'=>if equal then return q76 (U i') else setSearchFrom S (.ref (ad i)) (aG prog w ks i) θ 99999 (U nx)) Q E s:=by
  rw[ee];dsimp only;calc oj (q0B (q6u hu ky kx ?_));calc oj (q1A ho hd T.P.fits ?_);dsimp only;rw[q0c ek];exact vw k
 calc q3p (λ_=>?_) (λ_=>tail);refine oj (Tx kx (λy hy=>?_) ?_)
 .let⟨z,hz,rfl⟩:=q0t.mp hy
  let CY:z∈es.toList:=by
   let:=q37.mp hz;exact q37.mpr (Array.mem_filter.mp this).1
  let⟨q,hq,rfl⟩:=T.el z CY;exact⟨_,_,Y,keys q (Qm _ hq)⟩
 .calc tail
theorem TB{i:Nat}{Q:Bool->L->Prop}(hS:gQ (aG prog w ks) ad s.heap S js)(hl:↑js<60)(hu:A.units<cLine)
  (keys:∀j∈i::js,IsTupleKey (intKind prog w) s.heap (ks j) (ad j)) (inj:∀j∈js,aG prog w ks j=aG prog w ks i->ks j=ks i)
  (k:∀(b:Bool) h',q2J S s.heap h'->gQ (aG prog w ks) ad h' S (if aG prog w ks i∈js.map (aG prog w ks) then js else js++[i])->Q b {s with heap:=h'}) :
  G (g prog w) A (setAddHashed S (.ref (ad i)) (aG prog w ks i)) Q E s:=by
 let⟨o,es,ep,t,ho,hex,hd,T⟩:=hS;unfold setAddHashed;calc q0B ?_;show G _ _ (setAddHashedIn S (.ref (ad i)) (aG prog w ks i) (99999+1)) _ _ _;unfold setAddHashedIn;calc oj (q1A ho hd T.P.fits ?_);let hb:byScan (.ref (ad i)) es=ι:=by unfold byScan;rfl
 dsimp only;rw[hb];simp only[q0a,↓reduceIte]
 by_cases hm:aG prog w ks i∈js.map (aG prog w ks)
 .refine oj (Tz ho hd T hu keys inj hm ?_)
  dsimp only;calc vw ?_;let e:s={s with heap:=s.heap}:=by cases s;rfl
  rw[e];exact k ι s.heap (q6C S s.heap) (by rw[ZK hm];calc⟨o,es,ep,t,ho,hex,hd,T⟩)
 rw[ZJ hm] at k;let kx:=keys i Qk;let hz:t.place.size<=t.mask:=by let:=T.P.lt;rw[T.P.h9];symm
 let⟨j0,CZ⟩:=GB (t:=t) (f:=λi=>(es[i]?.map (·.1)).getD 0) (h:=aG prog w ks i) T.P.mK T.P.nP hz (λi' bJ z=>by
  rw[T.P.h9] at bJ;rw[ZL bJ] at z
  calc hm (by rw[<-show es[i'].1=aG prog w ks i from z];calc T.P.ins _ (q4Q bJ)))
 let nj:j0∉t.place.toList:=GN T.up (xF CZ);let rj:qD t.mask (· ∈ t.place.toList) (aG prog w ks i) j0:=Kt T.P.mK _ _ _ _ CZ
 let sf:G (g prog w) A (setSearch S (.ref (ad i)) (aG prog w ks i) θ) (λr s'=>r=.free j0 ι/\s'=s) E s:=by
  unfold setSearch;show G _ _ (setSearchFrom S (.ref (ad i)) (aG prog w ks i) θ (99999+1) Z) _ _ _;unfold setSearchFrom;calc oj (q1A ho hd T.P.fits ?_);dsimp only;rw[T.P.uK];simp only[q0a,↓reduceIte];erw[q31];generalize hP:t.probe _ (aG prog w ks i) (t.probeStart (aG prog w ks i))=P;let eP:P=U (.empty j0 Z):=hP.symm.trans CZ;rw[eP];exact vw ⟨Y,Y⟩
 calc oj (q1v sf ?_ λ_ _ e=>e);ext r s' ⟨rfl,rfl⟩;dsimp only;calc oj (q1A ho hd T.P.fits ?_);dsimp only;let⟨p1,p2,p3,p4,p5,p6,p7⟩:=zY t T.P.mK j0;let up1:=GJ T.up nj;let pz:(t.put j0).2<=t.place.size:=(tF T.up j0).1
 let fin:∀b:Bool,G (g prog w) A (do
   storeSet S (SetTable.insertAt es (t.put j0).2 (aG prog w ks i,.ref (ad i))) (if b=θ then(t.put j0).1 else{(t.put j0).1 with plain:=false})
   if(!ι&&(if b=θ then(t.put j0).1 else{(t.put j0).1 with plain:=false}:SetTable).tooFull)=θ then do
       setRelay S (q77 (es.size+1))
       pure θ
    else pure θ) Q E s':=by
  ext b;generalize lr:(if b=θ then(t.put j0).1 else{(t.put j0).1 with plain:=false}:SetTable)=t2;let q1:t2.dummies = #[]:=by rw[<-lr];cases b<;>exact p1
  let q2:t2.mask=t.mask:=by rw[<-lr];cases b<;>exact p2
  let q3:t2.place.size=es.size+1:=by rw[<-lr,<-T.P.h9];cases b<;>exact p3
  let q4:t2.place=insertAt t.place (t.put j0).2 j0:=by rw[<-lr];cases b<;>rfl
  let q5:Up t2.place:=by rw[<-lr];cases b<;>exact up1
  let g6:=zZ es (t.put j0).2 (aG prog w ks i,q0w (ad i))
  let mO:(insertAt es (t.put j0).2 (aG prog w ks i,q0w (ad i))).toList.Perm (es.toList++[(aG prog w ks i,q0w (ad i))]):=by
   let:=q3H es (t.put j0).2 (aG prog w ks i,q0w (ad i));rw[q2u] at this;exact this
  let TC:t2.place.toList.Perm (t.place.toList++[j0]):=by
   rw[q4];let:=q3H t.place (t.put j0).2 j0;rw[q2u] at this;exact this
  let wG:∀(x:Nat)(e:Int×B)(j:Nat),(insertAt es (t.put j0).2 (aG prog w ks i,q0w (ad i)))[x]?=U e->t2.place[x]?=U j->qD t2.mask (· ∈ t2.place.toList) e.1 j:=by
   ext x e j h1 h2;rw[q4,KD pz] at h2;rw[KD (by rw[<-T.P.h9];calc pz)] at h1;rw[q2];let more:∀y,y<=t.mask->y∈t.place.toList->y∈t2.place.toList:=λy _ hy=>TC.mem_iff.mpr (q1g _ hy)
   by_cases c:x<(t.put j0).2
   .rw[ZK c] at h1 h2
    exact(T.uk x e j h1 h2).mono more
   .rw[ZJ c] at h1 h2
    by_cases c2:x=(t.put j0).2
    .rw[ZK c2] at h1 h2
     cases h1;cases h2
     exact rj.mono more
    .rw[ZJ c2] at h1 h2
     exact(T.uk _ e j h1 h2).mono more
  generalize insertAt es (t.put j0).2 (aG prog w ks i,q0w (ad i))=bG at g6 mO wG
  let C0:∀e∈bG.toList,∃j∈js++[i],e=(aG prog w ks j,q0w (ad j)):=λe he=>by
   rcases q0U.mp (mO.mem_iff.mp he) with q|q
   .let⟨j,hj,e1⟩:=T.el e q
    exact⟨j,q1g _ hj,e1⟩
   .exact⟨i,q0q _ Qk,q0l.mp q⟩
  let all2:∀j∈js++[i],∃e∈bG.toList,e.1=aG prog w ks j:=λj hj=>by
   rcases q0U.mp hj with q|q
   .let⟨e,he,e1⟩:=T.all j q
    exact⟨e,mO.mem_iff.mpr (q1g _ he),e1⟩
   .rw[q0l.mp q]
    exact⟨_,mO.mem_iff.mpr (q0q _ Qk),Y⟩
  let kU:((js++[i]).map (aG prog w ks)).Nodup:=by
   rw[q0K];exact q1p.mpr ⟨T.nQ,by simp,λa ha b hb z=>hm (by rw[<-q0l.mp hb,<-z];calc ha)⟩
  let wH:∀e∈bG.toList,e.1∈(js++[i]).map (aG prog w ks):=λe he=>by
   let⟨j,hj,rfl⟩:=C0 e he;exact q0t.mpr ⟨j,hj,Y⟩
  let wI:bG.size=↑((js++[i]).map (aG prog w ks)):=by rw[g6,T.P.num,rO,rO,Ql];rfl
  let NU:es.size<60:=by rw[T.P.num,rO];exact hl
  refine oj (q3I ho hd ?_ (by rw[g6,q09];symm))
  let fL:(s'.heap.update S (q2K bG t2)).get? S=U {o with data:=.set bG (ep+1) t2}:=by
   let:=q0E (q2K bG t2) ho (by rw[q4q bG t2 hd];rfl);rw[q4q bG t2 hd] at this;exact this
  let fl:t2.fill=es.size+1:=by unfold q2x;rw[q1,q3];rfl
  let lt:=T.P.lt
  let wJ:t2.fits bG.size=θ:=by
   unfold q33;rw[fl,q3,g6,q2];simp;rcases T.P.nP with e|e|e<;>rw[e] at lt ⊢ <;> symm
  by_cases tf:t2.tooFull=θ
  .rw[ZK (by rw[tf];rfl)]
   let tG:t.mask*3<=(es.size+1)*5:=by
    unfold tooFull at tf;rw[fl,q2] at tf;let:=q1f tf;symm
   let⟨m,vL,hw,hsz⟩:∃m,Mk m/\sizeAbove (grown (es.size+1))-1=m/\(es.size+1)*5<m*3:=by
    rcases T.P.nP with e|e|e
    .rw[e] at lt tG
     let:es.size+1=5:=by symm
     rw[this];exact⟨31,.inr (.inl Y),GH,⋯⟩
    .rw[e] at lt tG
     let:es.size+1=19:=by symm
     rw[this];exact⟨127,.inr (.inr Y),GI,⋯⟩
    .rw[e] at tG;symm
   calc oj ?_;unfold setRelay;calc oj (q1A fL Y wJ ?_);dsimp only
   let Ap:¬ SetTable.sizeAbove (q77 (es.size+1))>sizeLine:=by
    rw[q09];rcases vL with e|e|e<;>symm
   rw[ZJ Ap];let⟨t3,order,er,r1,r2,r3,r4,r5,r6,r7⟩:=Tt vL t2 (bG.map (·.1)) (grown (es.size+1)) hw (by rw[q3J,g6];symm);rw[er];rw[q3J,g6] at r3 r5;rw[q3J] at r6;let KH:∀k∈order.toList,k<bG.size:=λk hk=>q0G.mp (r6.mem_iff.mp hk);let⟨o1,o2⟩:=GG (es:=bG) (order:=order) KH;let og:=Tw (es:=bG) (order:=order) KH;refine oj ?_
   show G _ _ (do
    if(order.filterMap (bG[·]?)).size != bG.size then
     unsupported "internal:set-table-lost-an-element"
    pure (order.filterMap (bG[·]?),t3)) _ _ _
   rw[ZJ (by rw[o1,r5,g6];simp)];calc vw ?_;dsimp only;refine q3I fL Y ?_ (by rw[o1,r5,q09];symm)
   let fg:((s'.heap.update S (q2K bG t2)).update S (q2K (order.filterMap (bG[·]?)) t3)).get? S=U {o with data:=.set (order.filterMap (bG[·]?)) (ep+1+1) t3}:=by
    let:=q0E (q2K (order.filterMap (bG[·]?)) t3) fL (by rw[q4q _ t3 Y];rfl);rw[q4q _ t3 Y] at this;exact this
   refine vw (k θ _ ((q0L ..).trans (q0L ..)) ⟨_,_,_,_,fg,hex,Y,⟨r2,by rw[r1];calc vL,by rw[r3,o1,r5],by rw[o1,r5,<-g6];calc wI,?_,λe he=>wH e (o2 e he)⟩,r4,kU,λe he=>C0 e (o2 e he),λj hj=>?_,λx e j h1 h2=>?_⟩)
   .unfold tooFull q2x
    rw[r2,r3,r1];simp;symm
   .let⟨e,he,e1⟩:=all2 j hj
    let⟨x,hx,ex⟩:=q1V.mp he;let jr:x<bG.size:=by rw[<-HZ];exact hx
    let:x∈order.toList:=r6.mem_iff.mpr (q0G.mpr jr);calc⟨e,?_,e1⟩;rw[q2H];exact q2j.mpr ⟨x,this,by rw[ZL jr];calc congrArg U ex⁻¹⟩
   .rw[og] at h1
    cases q:order[x]? with
    |none=>rw[q] at h1;cases h1
    |some KI =>
     rw[q] at h1;let h1:bG[KI]?=U e:=h1;let⟨hh,g1,g2⟩:=r7 x j KI h2 q;rw[Array.getElem?_map,h1] at g1;cases g1
     rw[r1];exact g2
  .let uN:t2.tooFull=ι:=by cases q:t2.tooFull<;>simp_all
   rw[ZJ (by rw[uN];decide)];exact vw (k θ _ (q0L ..) ⟨_,_,_,_,fL,hex,Y,⟨q1,by rw[q2];calc T.P.nP,by rw[q3,g6],wI,uN,wH⟩,q5,kU,C0,all2,wG⟩)
 by_cases hp:(t.put j0).1.plain=θ
 .rw[ZK hp]
  calc oj (NW kx λb=>?_);exact fin b
 .rw[ZJ hp]
  calc oj (vw ?_);calc fin θ
end
noncomputable def hW(hk:Nat->Int):Nat->-Nat
 |0=>[]
 |i+1=>if hk i∈(hW hk i).map hk then hW hk i else hW hk i++[i]
theorem KJ(hk:Nat->Int):∀i,↑(hW hk i)<=i
 |0=>BA _
 |i+1=>by
  let:=KJ hk i;unfold hW;split
  .omega
  .rw[Ql,q0F];symm
theorem yV(hk:Nat->Int):∀i,∀j∈hW hk i,j<i
 |0,j,h=>nomatch h
 |i+1,j,h=>by
  unfold hW at h;split at h
  .let:=yV hk i j h;symm
  .rcases q0U.mp h with h|h
   .let:=yV hk i j h;symm
   .rw[q0l.mp h];symm
theorem TF{hk:Nat->Int}{ad:Nat->O}{h:I}{S:O}{led:Bool}(e:h.get? S=U (cD led)):gQ hk ad h S [] :=
 ⟨_,#[],0,_,e,⟨Y,Y,Y⟩,Y,⟨Y,.inl Y,Y,Y,by cases led<;>decide,λ_ h=>nomatch h⟩,q4I,q25,(λ_ h=>nomatch h),(λ_ h=>nomatch h),λi e j h=>by simp at h⟩
section
variable{prog:ψ}{w:Q}{A:q}{R:Result->L->Prop}{I S:O}{fp wr:-O}{G:Array GenState->Array GenState->Prop}{n:Nat}{P:Nat->B->Prop}{St:Nat->L->Prop}
theorem TH(W:WalksS prog w A.in1 I fp wr G n P St)(out:S∉fp)(ad:Nat->O)(ks:Nat->-Int)(sF:∀i v,P i v->v=.ref (ad i))(apart:∀i,i<n->ad i∉S::wr)(room:A.in1.units<cLine)
  (inj:∀i j,i<n->j<i->hT prog w (ks j)=hT prog w (ks i)->ks j=ks i) (kr:n<=30) :
  ∀(left i:Nat)(s:L),i+left=n->St i s->(∀j,j<n->IsTupleKey (intKind prog w) s.heap (ks j) (ad j))->gQ (aG prog w ks) ad s.heap S (hW (aG prog w ks) i) →
   (∀s',Moved (S::wr) G s s'->gQ (aG prog w ks) ad s'.heap S (hW (aG prog w ks) n)->R (.ok (.ret .none)) s') →
   codeAny (g prog w) A (.builtin "set.update.loop" ⟨[.ref S,.ref I],[]⟩) R s:=by
 let kW:S∉wr:=λz=>out (W.sub _ z);let more:∀b,b∈wr->b∈S::wr:=λb hb=>Qm _ hb;ext left
 induction left with
 |zero =>
  ext i s hi st tk se fin;obtain rfl:i=n:=by symm
  calc q15 q2C ?_;rw[q2v q1X _];show ρ _ A.in1 (pyNext (.ref I) >>= _) _ _ s;calc oj (W.done s _ _ st λs' mv=>?_);show ρ _ A.in1 (ret q0n) _ _ s';exact vw (fin s' (mv.mono more) (KC se λo e=>mv.heap S o kW e))
 |succ left ih =>
  ext i s hi st tk se fin;let cq:i<n:=by symm
  calc q15 q2C ?_;rw[q2v q1X _];show ρ _ A.in1 (pyNext (.ref I) >>= _) _ _ s;calc oj (W.item i s _ _ cq st λv s1 hP iP mv=>?_);obtain rfl:=sF i v hP;let lF:∀j,j<n->IsTupleKey (intKind prog w) s1.heap (ks j) (ad j):=λj hj=>Ad (tk j hj) λo e=>mv.heap _ o (λz=>apart j hj (more _ z)) e;show ρ _ A.in1 (holding [q0w (ad i)] (setAdd S (.ref (ad i))) >>= _) _ _ s1;calc oj (q0B ?_);unfold setAdd;calc q0B (oj (wpAny_pyHash_tuple room (lF i cq) ?_));let fl:=yV (aG prog w ks) i;refine TB (s:={s1 with toks:=s1.toks+(↑(ks i)+1)}) (i:=i) (js:=hW (aG prog w ks) i) (KC se λo e=>mv.heap S o kW e) (by let:=KJ (aG prog w ks) i;symm) room (λj hj=>?_) (λj hj e=>inj i j cq (fl j hj) e) λbb h2 sb Ag=>?_
  .rcases My.mp hj with rfl|hj
   .exact lF _ cq
   .exact lF j (by let:=fl j hj;symm)
  .let nS:∀b,b∈fp->b≠S:=λb hb z=>out (by rw[<-z];calc hb)
   refine vw ⟨q34 q1X _,ih (i+1) _ ⋯ (W.frame _ s1 _ _ iP (q1_ _ _) λb hb o e=>by rw[sb.2 b (nS b hb)];calc e) (λj hj=>Ad (lF j hj) λo e=>?_) Ag λs3 Ah Ai=>?_⟩
   .rw[sb.2 _ (λz=>apart j hj (by rw[z];calc Qk))];exact e
   .refine fin s3 (Moved.trans W.gtrans ((mv.mono more).then_heap (q1_ _ _) λb o hb e=>?_) Ah) Ai
    rw[sb.2 b (λz=>hb (by rw[z];calc Qk))];calc e
end
section
variable{prog:n}{w:Q}{A:q}{E:aJ}{s:L}
set_option maxHeartbeats 3200000 in
theorem TJ {l:O} {items:Array B} {Q:aJ} (ad:Nat->O) (ks:Nat->-Int) (hh:A.handled=Z) (room:A.units+8<cLine) (tH:s.heap.IsList l items) (sF:∀(i:Nat)(v:B),items[i]?=U v->v=.ref (ad i))
  (tk:∀i,i<items.size->IsTupleKey (intKind prog w) s.heap (ks i) (ad i)) (inj:∀i j,i<items.size->j<i->hT prog w (ks j)=hT prog w (ks i)->ks j=ks i) (kr:items.size<=30)
  (fin:∀(h':I)(tk:Nat),gQ (aG prog w ks) ad h' ⇑s (hW (aG prog w ks) items.size)->(∀b o,b<⇑s->s.heap.get? b=U o->h'.get? b=U o)->Q (.ref ⇑s) {s with heap:=h',toks:=tk}) :
  G (g prog w) A (call (.type "set") [.ref l]) Q E s:=by
 let⟨c,tl,Aj⟩:=q1u.mro;let m1:=q1u.made;let m2:=q1u.sub;let m3:=q1u.notType;let m4:=q1u.canCreate;let m5:=q67 (.ref l);calc q3v (q4a ?_);show G _ _ (callAny (.type "set") _) _ _ _;calc vw ⟨q3w _ (by decide +kernel),q15 q6E ?_⟩;rw[q6l (q5r "set" [.ref l] []) Y]
 repeat(any_goals (first|assumption|wp_step))
 refine q2L (code_set_new_1 (.ref l) (E:=E) (Q₁:=λr s1=>∃led:Bool,r=.ref ⇑s/\s1={s with heap:=s.heap.push (cD led)}) λled=>⟨led,Y,Y⟩) λr s1 hr=>?_
 cases r with
 |error e=>exact hr
 |ok fl =>
  cases fl with
  |ret obj =>
   let⟨led,rfl,rfl⟩:=hr;let gS:(s.heap.push (cD led)).get? ⇑s=U (cD led):=ZI _ Y;let tS:q8i {s with heap:=s.heap.push (cD led)} (.ref ⇑s) "set" := ⟨_,gS,Y⟩;let m6:=q1u.init.lookup;let m7:=q1u.init.bind (.ref ⇑s)
   repeat(any_goals (first|assumption|wp_step))
   refine q2L (q26 (R:=wants (λr s2=>r=.none/\∃h' tk,s2={s with heap:=h',toks:=tk}/\gQ (aG prog w ks) ad h' ⇑s (hW (aG prog w ks) items.size) ∧
     ∀b o,b<⇑s->s.heap.get? b=U o->h'.get? b=U o) E) q1u.init.plain q68 (q69 tS ?_)) λr2 s2 kX=>?_
   .let⟨ol,gl,cl,nl,dl⟩:=tH
    let⟨c0,d0,N6,uO⟩:=ol;simp only at cl dl;subst cl;subst dl;let Ak:(s.heap.push (cD led)).get? l=U {cls:=.type "list",dict:=d0,data:=.seq items nl,slots:=uO}:=rM _ gl;let x1:=q7O;let x2:=q5y;let x3:(q2k "list" == q2k "dict")=ι:=by decide
    let kY:(s.heap.push (cD led)).IsList l items:=⟨_,Ak,Y,nl,Y⟩;let ll:l<⇑s:=Qj gl;unfold Builtin.«set.__init__» noKeywords q4b;generalize Al:pyIter=PI
    wp_walk
    subst Al;calc q2w kY (oj (q5z ?_));let h3:A.in1.in1.in1.handled=Z:=by simp[hh]
    let ez:(s.heap.push (cD led)).objs.size=⇑s+1:=q1w ..;let nI:l≠(s.heap.push (cD led)).objs.size:=by rw[ez];exact ZN (q00 ll)
    let lt:∀i,i<items.size->ad i<⇑s:=λi hi=>by
     let⟨o,_,_,e,_⟩:=tk i hi;exact Qj e
    refine TH ((q6m h3 _ l nI items).toS) (S:=s.heap.objs.size) ?out ad ks (λi v hv=>sF i v hv) ?apart ?room inj kr items.size 0 _ (q0J _)
     ⟨⟨_,ZI _ Y,Y,Y⟩,kY.push _⟩ ?tk ?fresh ?fin
    case out =>
     erw[My,q0j,q1q,q5A,ez];exact⟨ZN (q19 _),q1B ll⟩
    case apart =>
     ext i hi;let:=lt i hi;erw[My,q0j,q1q,q5A,ez];exact⟨ZN this,ZN (q00 this)⟩
    case room =>
     show A.units+1+1+1<cLine;exact q3t (Nat.add_le_add_left (by decide:3<=8) _) room
    case tk =>
     ext j hj;exact Ad (tk j hj) λo e=>rM _ (rM _ e)
    case fresh =>
     exact TF (led:=led) (rM _ gS)
    case fin =>
     ext s' mv se;let⟨h',g',d',mM,uP⟩:=s';obtain rfl:g'=s.gens:=mv.gens;obtain rfl:d'=s.drawn:=mv.drawn;obtain rfl:uP=s.os:=mv.os;show G _ _ _ _ _ _;calc vw ?_;show G _ _ (ret q0n) _ _ _;calc vw ⟨Y,h',mM,Y,se,λb o hb e=>?_⟩;calc mv.heap b o ?_ (rM _ (rM _ e));erw[My,q0j,q1q,q5A,ez];exact⟨ZN hb,ZN (q00 hb)⟩
   .cases r2 with
    |error e=>exact kX
    |ok Am =>
     cases Am with
     |ret r =>
      let⟨rfl,h',mM,rfl,se,kp⟩:=kX
      repeat(any_goals (first|assumption|wp_step))
      exact fin _ _ se kp
     |next=>exact kX
     |brk=>exact kX
     |cont=>exact kX
  |next=>exact hr
  |brk=>exact hr
  |cont=>calc hr
end
end LJS
namespace L2
open PySem PySem.Spec PyProof.Rows
variable[aC]
noncomputable def qF:-D->Option (-(Int×Int))
 |[]=>U []
 |.tup [.int i,.int j]::r=>match qF r with
  |some ps=>U ((i,j)::ps)
  |none=>Z
 |_=>Z
theorem KN:∀{ds:-D}{ps:-(Int×Int)},qF ds=U ps->ds=ps.map λp=>.tup [.int p.1,.int p.2]
 |[],ps,h=>by cases h;rfl
 |.tup [.int i,.int j]::r,ps,h=>by
  unfold qF at h;split at h
  .rename_i qs e
   cases h
   rw[KN e];rfl
  .cases h
theorem KO:∀ps:-(Int×Int),qF (ps.map λp=>D.tup [.int p.1,.int p.2])=U ps
 |[]=>Y
 |p::r=>by
  show qF (.tup [.int p.1,.int p.2]::r.map _)=_;unfold qF;rw[KO r]
noncomputable def gB(ps:-(Int×Int)):Nat->-(Int×Int)
 |0=>[]
 |i+1=>if ps.getD i (0,0)∈gB ps i then gB ps i else gB ps i++[ps.getD i (0,0)]
theorem C1(ps:-(Int×Int)):∀i,↑(gB ps i)<=i
 |0=>BA _
 |i+1=>by
  let:=C1 ps i;unfold gB;split
  .omega
  .rw[Ql,q0F];symm
theorem KP{ps:-(Int×Int)}(hn:ps.Nodup):∀i,i<=↑ps->gB ps i=ps.take i
 |0,_=>Y
 |i+1,h=>by
  let hi:i<↑ps:=by symm
  let e:ps.getD i (0,0)=ps[i]:=by rw[HX,rN hi];rfl
  unfold gB;rw[KP hn i ⋯,e,ZJ ?_,q2o,rN hi]
  .rfl
  .ext hm
   let⟨j,hj,ej⟩:=q1V.mp hm;rw[q0y] at hj;rw[List.getElem_take] at ej;let:=(q6_ (h₀:=by symm) (h₁:=hi) hn).mp ej;symm
theorem TK{ps:-(Int×Int)}(hl:↑(gB ps ↑ps)=↑ps):ps.Nodup:=by
 let key:∀i,i<=↑ps->↑(gB ps i)=i->(ps.take i).Nodup/\gB ps i=ps.take i:=by
  ext i
  induction i with
  |zero=>ext _ _;exact⟨q25,Y⟩
  |succ i ih =>
   ext hi hlen;let bJ:i<↑ps:=by symm
   let le:=C1 ps i;let e:ps.getD i (0,0)=ps[i]:=by rw[HX,rN bJ];rfl
   unfold gB at hlen ⊢;split at hlen
   .omega
   .rename_i hn
    rw[Ql,q0F] at hlen;let⟨h1,h2⟩:=ih ⋯ ⋯;rw[ZJ hn,h2,q2o,rN bJ,e];calc⟨?_,Y⟩;rw[h2,e] at hn
    exact q1p.mpr ⟨h1,by simp,λa ha b hb z=>hn (by
     let hb:b=ps[i]:=by simpa using hb
     rw[<-hb,<-z];calc ha)⟩
 let:=(key ↑ps (BA _) hl).1
 rwa [q04 (BA _)] at this
def um:-D->(D->Prop)->Prop
 |[.lst ds],K=>match intsOf ds with
  |some ns=>ns.length<=40/\K (.lst ((sortI (oO ns)).map D.int))
  |none=>False
 |_,_=>False
theorem KQ(ns:-Int):↑(oO ns)<=ns.length:=LJS.Af ns ns.length
section
variable{X:Cx}{fa:WA}
theorem TM{a:M}{p1 p2 q1 q2:y}(hc:X.calm=θ)(so:Gl X "sorted")(hl:X.mg "sorted" = Z)(su:bootBuiltins "sorted" = U (.builtin "sorted"))(sv:Gl X "set")(hr:X.mg "set" = Z)(sx:bootBuiltins "set" = U (.type "set"))(ha:JA X [a] (bM fa))
  (he:starEach [a] X.env=[(ι,eval a X.env)]:=by rfl) (sy:starEach [.Call (.Name "set" p2) [a] [] q2] X.env=[(ι,eval (.Call (.Name "set" p2) [a] [] q2) X.env)]:=by rfl):JE X (.Call (.Name "sorted" p1) [.Call (.Name "set" p2) [a] [] q2] [] q1) (tD (dN fa um)) :=
 (vi (Tg hc) so hl su (jU (qa (Tf hc) sv hr sx ha (he:=he)) aY) (he:=sy)).weak fun σ H Q h0_=>el7 h0_ λF ad δ K S q k =>⟨F,ad,δ,_,S,q,λxs δ1 h1 vs F1 aN H1 E1 S1 V1=>by
  let⟨ds,h2,lG⟩:=vU S1 V1 h1;unfold um at h2;split at h2
  .split at h2
   .rename_i es ns e
    let⟨v,rfl,a,vs,rfl,g1,g2⟩:=cB lG;rw[wd e] at g2;rw[sg g2] at g1;calc⟨a,ns,Y,bh.of g1,h2.1,λp hp=>⟨p,oO ns,Y,bj,by let:=KQ ns;symm,λr eO pm pw hr=>?_⟩⟩;let s1:av H1 (upd H1 p (wA (LJS.ig X.w) p (oO ns))):=bL hp;let S2:=S1.al s1;let E2:=Ext.al S1 s1;calc k _ _ h2.2 _ _ _ _ ((E1.trans E2).trans (Ext.al S2 (bL hr))) (S2.al (bL hr)) ?_;rw[<-CI pm pw];exact kG S2.sub hr uc
   .exact h2.elim
  .calc h2.elim⟩
theorem KR{F:Hp}:∀{ps:-(Int×Int)}{vs:-V},ae F (ps.map λp=>D.tup [.int p.1,.int p.2]) vs->∃as:-O,vs=as.map V.ref/\↑as=↑ps/\∀(i:Nat)(a:O)(k:Int×Int),as[i]?=U a->ps[i]?=U k->F a=U (.tup [.int k.1,.int k.2])
 |[],vs,h=>by
  let h:vs=[]:=by simpa only [q2b,ae] using h
  subst h;exact⟨[],Y,Y,λi a k e=>by simp at e⟩
 |p::r,vs,h=>by
  rw[q0o] at h;erw[ae] at h;let⟨v,r',rfl,h1,h2⟩:=h;let⟨as,rfl,hl,g⟩:=KR h2;erw[Is] at h1;let⟨a,us,rfl,e1,e2⟩:=h1;erw[ae,Is] at e2;let⟨_,_,rfl,rfl,_,_,rfl,rfl,rfl⟩:=e2;refine⟨a::as,Y,by rw[HY,HY,hl],λi b k eb ek=>?_⟩
  cases i with
  |zero =>
   cases(show U a=U b by simpa using eb)
   cases(show U p=U k by simpa using ek)
   exact e1
  |succ i=>calc g i b k eb⁻¹ ek⁻¹
theorem TN(hc:X.calm=θ)(hu:X.A.units+64<cLine):g9 X (.type "set") (λxs H Q=>∃(l:O)(ps:-O)(ks:-(Int×Int)),xs=[.ref l]/\bh X.K H l (ps.map V.ref)/\↑ps=↑ks ∧
  (∀(i:Nat)(a:O)(k:Int×Int),ps[i]?=U a->ks[i]?=U k->H a=U (.tup [.int k.1,.int k.2]))/\(∀k∈ks,0<=k.1/\k.1<k.2/\k.2<12)/\↑ks<=30/\∀p,H p=Z->Q (.ref p) (upd H p (lE p ↑(gB ks ↑ks)))):=by
 ext pins s σ H xs us Q I r h;let⟨l,ps,ks,rfl,hq,hl,cQ,bd,kr,q⟩:=h;let⟨u,rfl,rx⟩:=vals1 r;cases rx
 let⟨ah,r',pl,_⟩:=I.list hq;obtain rfl:=IQ r';let sz:(ps.map q0w).toArray.size=↑ks:=by rw[HW,rO,hl]
 let sG:∀i,i<↑ks->∃k,ks[i]?=U k/\ks.getD i (0,0)=k:=λi hi=>⟨ks[i],rN hi,by rw[HX,rN hi];rfl⟩;let C2:∀i,i<↑ks->∃a,ps[i]?=U a/\ps.getD i 0=a:=λi hi=>⟨ps[i]'(by rw[hl];calc hi),rN (by rw[hl];calc hi),by rw[HX,rN (by rw[hl];calc hi)];rfl⟩
 let same:∀i j,i<↑ks->j<↑ks->LJS.hT X.prog X.w [(ks.getD j (0,0)).1,(ks.getD j (0,0)).2]=LJS.hT X.prog X.w [(ks.getD i (0,0)).1,(ks.getD i (0,0)).2]->ks.getD j (0,0)=ks.getD i (0,0):=λi j hi hj z=>by
  let⟨k,ek,dk⟩:=sG i hi;let⟨k',yT,KU⟩:=sG j hj;rw[dk,KU,LJS.IM,LJS.IM] at z;rw[dk,KU];let b1:=bd k (q0i.mpr ⟨i,ek⟩);let b2:=bd k' (q0i.mpr ⟨j,yT⟩);exact LJS.RD (k'.1,k'.2) (LJS.IP b2.1 b2.2.1 b2.2.2) (k.1,k.2) (LJS.IP b1.1 b1.2.1 b1.2.2) z
 refine LJS.TJ (λi=>ps.getD i 0) (λi=>[(ks.getD i (0,0)).1,(ks.getD i (0,0)).2]) (I.ok.hd hc) ⋯ pl.isList (λi v hv=>?_) (λi hi=>?_) (λi j hi hj z=>?_) (by rw[sz];calc kr) λh' tk se kp=>?_
 .rw[q1M,Qi] at hv
  let⟨a,ea,rfl⟩:=ZM.mp hv;rw[HX,ea];rfl
 .rw[sz] at hi
  let⟨k,ek,dk⟩:=sG i hi;let⟨a,ea,da⟩:=C2 i hi;show IsTupleKey _ _ [(ks.getD i (0,0)).1,(ks.getD i (0,0)).2] (ps.getD i 0);rw[dk,da];let⟨_,bf,r2,o,ho,qG,n,hd⟩:=I.aF a _ (cQ i a k ea ek)
  cases r2 with
  |cons ra rr =>
   cases rr with
   |cons rb rn =>
    cases rn
    let⟨t1,rfl⟩:=ra;let⟨t2,rfl⟩:=rb;exact⟨o,_,n,ho,qG,hd,.cons (q3X ..) (.cons (q3X ..) .nil)⟩
 .rw[sz] at hi
  let:=same i j hi ⋯ z;show[(ks.getD j (0,0)).1,(ks.getD j (0,0)).2]=[(ks.getD i (0,0)).1,(ks.getD i (0,0)).2];rw[this]
 .let key:∀n,n<=↑ks->(LJS.hW (LJS.aG X.prog X.w λi=>[(ks.getD i (0,0)).1,(ks.getD i (0,0)).2]) n).map (λi=>ks.getD i (0,0))=gB ks n:=by
   ext n
   induction n with
   |zero=>ext _;rfl
   |succ n ih =>
    ext hn;let ih:=ih ⋯;unfold LJS.hW gB;rw[<-ih]
    by_cases c:ks.getD n (0,0)∈(LJS.hW (LJS.aG X.prog X.w λi=>[(ks.getD i (0,0)).1,(ks.getD i (0,0)).2]) n).map (λi=>ks.getD i (0,0))
    .let⟨j,hj,ej⟩:=q0t.mp c
     let:LJS.aG X.prog X.w (λi=>[(ks.getD i (0,0)).1,(ks.getD i (0,0)).2]) n∈(LJS.hW (LJS.aG X.prog X.w λi=>[(ks.getD i (0,0)).1,(ks.getD i (0,0)).2]) n).map (LJS.aG X.prog X.w λi=>[(ks.getD i (0,0)).1,(ks.getD i (0,0)).2]):=by
      calc q0t.mpr ⟨j,hj,?_⟩;let ej:ks.getD j (0,0)=ks.getD n (0,0):=ej;show LJS.hT _ _ [(ks.getD j (0,0)).1,(ks.getD j (0,0)).2]=LJS.hT _ _ [(ks.getD n (0,0)).1,(ks.getD n (0,0)).2];rw[ej]
     rw[ZK c,ZK this]
    .let:LJS.aG X.prog X.w (λi=>[(ks.getD i (0,0)).1,(ks.getD i (0,0)).2]) n∉(LJS.hW (LJS.aG X.prog X.w λi=>[(ks.getD i (0,0)).1,(ks.getD i (0,0)).2]) n).map (LJS.aG X.prog X.w λi=>[(ks.getD i (0,0)).1,(ks.getD i (0,0)).2]):=λz=>by
      let⟨j,hj,ej⟩:=q0t.mp z;let wK:=LJS.yV _ n j hj;exact c (q0t.mpr ⟨j,hj,same n j ⋯ ⋯ ej⟩)
     rw[ZJ c,ZJ this,q0K];rfl
  let⟨o,es,ep,t,ho,hex,hd,T⟩:=se
  let hlen:↑((LJS.hW (LJS.aG X.prog X.w λi=>[(ks.getD i (0,0)).1,(ks.getD i (0,0)).2]) ↑ks).map (LJS.aG X.prog X.w λi=>[(ks.getD i (0,0)).1,(ks.getD i (0,0)).2]))=↑(gB ks ↑ks):=by
   rw[<-key ↑ks (BA _),rO,rO]
  let T':=T.P;rw[sz] at T';let CV:LJS.kR h' ⇑s _:=⟨o,es,ep,t,ho,hex,hd,T'⟩;calc⟨.ref ⇑s,upd H ⇑s (lE ⇑s ↑(gB ks ↑ks)),I.laid (t':=tk) (λb o e=>kp b o (Qj e) e) (BA _) (RE CV hlen),Y,q _ (I.aF.fresh (BA _))⟩
end
end L2
namespace HT
open PySem PySem.Spec PyProof.Rows
section
variable{prog:n}{w:Q}{A:q}{E:aJ}{s:L}
theorem TQ{t b:O}{ws:-B}{Q:aJ}(ht:IsTup s.heap t #[])(hb:IsTup s.heap b ws.toArray)(h:Q (.ref b) s):G (g prog w) A (binaryOp .Add (.ref t) (.ref b)) Q E s:=by
 let⟨⟨cls,dd,data,sl⟩,ho,hc,n,hd⟩:=id ht;let⟨⟨vk,qb,data2,qc⟩,fg,jo,n2,hd2⟩:=id hb;simp only at hc hd jo hd2;subst hc hd jo hd2
 exact q6N ⟨_,ho,Y⟩ ⟨_,fg,Y⟩ q42 q6c q3M q3z (q3k _ _)
  (tuple_addW0 t b #[] ws.toArray n n2 dd qb sl qc Y) ⟨ho,fg,h⟩
theorem TR{t sl:O}{items:Array B}{vl vu:B}{lo hi:Option Int}{Q:aJ}(ht:IsTup s.heap t items)(hs:s.heap.IsSliceOf sl vl vu .none)(pl:IsPart vl lo)(pu:IsPart vu hi)
  (hw:aV items.size 0 lo=0/\aV items.size items.size hi=items.size) (h:Q (.ref t) s):G (g prog w) A (getItem (.ref t) (.ref sl)) Q E s:=by
 let⟨os,jO,n_,mX⟩:=id hs;let vo:s.TypeIs (.ref sl) "slice" := ⟨os,jO,n_⟩;unfold getItem
 try with_reducible refine q0B ?_
 first|refine oj (vw ?_)|skip
 refine oj (q4N ht.typeIs (by decide) ?_)
 refine oj (q0_ (name:=q0O "__getitem__") ht.typeIs q0I
  (q1e q0I ht.typeIs q4m ?_ (q4y _ _)))
 show G _ _ (q2_ (.ref t) >>= _) _ _ s;calc oj (q6d ht ?_);calc oj (q2M vo ?_);rw[ZK (by decide)];calc oj (HE hs pl pu ?_);show G _ _ (if(((aV items.size 0 lo:Nat):Int)==0&&(1:Int)==1&&(aV items.size items.size hi-aV items.size 0 lo)==items.size)=θ then _ else _) _ _ s;rw[ZK (by rw[hw.1,hw.2];simp)];unfold Builtin.Tuple.tupleIsExact;calc oj (oj (q2M ht.typeIs (vw ?_)));rw[ZK (by decide)];calc oj (q3Y ?_);calc vw ⟨_,Y,vw h⟩
theorem TU{sl:O}{n:Nat}{t:Tok}{Q:Int×Int×Nat->L->Prop}(hs:s.heap.IsSliceOf sl .none .none (.int (-1) t))
  (h:Q ((n:Int)-1,-1,n) s):G (g prog w) A (q2m (.ref sl) (pure (n:Int))) Q E s:=by
 let⟨os,jO,n_,mX⟩:=id hs;unfold q2m q4F;calc oj (oj (q1h jO mX (x:=.none) Y (oj (q1h jO mX (x:=.none) Y (oj (q1h jO mX (x:=.int (-1) t) Y (vw ?_)))))));calc oj (vm (.int (-1) t) ?_);show G _ _ (if((-1:Int)==0)=θ then _ else _) _ _ s;rw[ZJ (by decide)];calc oj (vm .none (oj (vm .none (oj (vw ?_)))));refine vw ?_
 let e:q1r ((n:Int)-1) (-1) (-1)=n:=by
  unfold q1r;rw[ZJ (by decide)];split
  .rename_i c
   rw[show -(-1:Int)=1 by decide,q6O];symm
  .omega
 show Q ((n:Int)-1,-1,q1r ((n:Int)-1) (-1) (-1)) s;rw[e];calc h
theorem TV{t sl:O}{ah:-B}{tk:Tok}{Q:aJ}(ht:IsTup s.heap t ah.toArray)(hs:s.heap.IsSliceOf sl .none .none (.int (-1) tk))
  (h:Q (.ref ⇑s) {s with heap:=s.heap.push {cls:=.type "tuple",data:=.seq ah.reverse.toArray}}) (hsz:↑ah<=sizeLine):G (g prog w) A (getItem (.ref t) (.ref sl)) Q E s:=by
 let d7:sizeOk (.seq ah.reverse.toArray):=by
  show ah.reverse.toArray.size<=sizeLine;rw[HW,q2A];exact hsz
 let⟨os,jO,n_,mX⟩:=id hs;let vo:s.TypeIs (.ref sl) "slice" := ⟨os,jO,n_⟩;unfold getItem
 try with_reducible refine q0B ?_
 first|refine oj (vw ?_)|skip
 refine oj (q4N ht.typeIs (by decide) ?_)
 refine oj (q0_ (name:=q0O "__getitem__") ht.typeIs q0I
  (q1e q0I ht.typeIs q4m ?_ (q4y _ _)))
 show G _ _ (q2_ (.ref t) >>= _) _ _ s;calc oj (q6d ht ?_);calc oj (q2M vo ?_);rw[ZK (by decide)];calc oj (TU hs ?_);show G _ _ (if((((ah.toArray.size:Int)-1))==0&&(-1:Int)==1&&ah.toArray.size==ah.toArray.size)=θ then _ else _) _ _ s;rw[ZJ (by simp)]
 let e:((q0s ah.toArray.size).filterMap λ(k:Nat)=>ah.toArray[((ah.toArray.size:Int)-1+(k:Int) * -1).toNat]?).toArray=ah.reverse.toArray:=by
  congr 1;rw[HW];refine q11 λi=>?_
  let all:∀k∈q0s ↑ah,((ah.toArray[((↑ah:Int)-1+(k:Int) * -1).toNat]?)).isSome=θ:=λk hk=>by
   let:=q0G.mp hk;rw[q1M,rN ⋯];rfl
  let fm:∀l:-Nat,(∀k∈l,((ah.toArray[((↑ah:Int)-1+(k:Int) * -1).toNat]?)).isSome=θ)->∀i:Nat,(l.filterMap λ(k:Nat)=>ah.toArray[((↑ah:Int)-1+(k:Int) * -1).toNat]?)[i]?=(l[i]?).bind λk=>ah.toArray[((↑ah:Int)-1+(k:Int) * -1).toNat]?:=by
   ext l
   induction l with
   |nil=>ext _ i;simp
   |cons k r ih =>
    ext hk i;let⟨v,hv⟩:=q2y.mp (hk k Qk);rw[q14,hv];dsimp only
    cases i with
    |zero=>exact hv.symm
    |succ i=>simpa using ih (λk' g_=>hk k' (Qm _ g_)) i
  rw[fm _ all]
  by_cases c:i<↑ah
  .rw[q1a c,List.getElem?_reverse c]
   show ah.toArray[((↑ah:Int)-1+(i:Int) * -1).toNat]?=_;rw[q1M];congr 1;symm
  .rw[q0W (by rw[q0Z];symm),q0W (by rw[q2A];symm)];rfl
 rw[e]
 first
  |exact oj (m:=q1j _) (q01 (vw ⟨_,Y,vw h⟩) d7)
  |exact oj (m:=q1j _) (q01 (oj (vw (vw ⟨_,Y,vw h⟩))) d7)
  |exact oj (oj (m:=q1j _) (q01 (vw (vw ⟨_,Y,vw h⟩)) d7))
  |calc oj (oj (m:=q1j _) (q01 (vw ⟨_,Y,vw h⟩) d7))
end
end HT
namespace L2
open PySem PySem.Spec PyProof.Rows
variable[aC]
section
variable{X:Cx}{e:M}{te:TE}{pos p2 p3 p4:y}
def TX(K:xY):V->Option Int->Option Int->Hp->VK->Prop:=λx lo hi H Q=>∃a xs,x=.ref a/\bz K H a xs ∧
 (HT.aV ↑xs 0 lo=0/\HT.aV ↑xs ↑xs hi=↑xs->Q (.ref a) H)/\(¬ (HT.aV ↑xs 0 lo=0/\HT.aV ↑xs ↑xs hi=↑xs)->∀p,H p=Z->Q (.ref p) (upd H p (.tup (cV xs lo hi))))
theorem TY:qe X (TX X.K):=by
 ext pins s σ H x v vl vu lo hi sl Q I rx hs pl pu h;let⟨a,xs,rfl,hx,q1,q2⟩:=h
 by_cases hw:HT.aV ↑xs 0 lo=0/\HT.aV ↑xs ↑xs hi=↑xs
 .cases rx
  let⟨ah,r,ht,hz⟩:=I.tuple hx;let hlen:ah.toArray.size=↑xs:=by rw[HW];exact r.length.symm
  calc⟨"tuple",_,q0I.lookup,ht.typeIs,?_⟩;exact HT.TR ht hs pl pu (by rw[hlen];calc hw) ⟨.ref a,H,I,Y,q1 hw⟩
 .calc PU pins s σ H _ v vl vu lo hi sl Q I rx hs pl pu ⟨a,xs,Y,hx,hw,q2 hw⟩
def TZ(K:xY)(te:TE):TE:=fun σ H Q=>te σ H λx H1=>(∃a xs,x=.ref a/\bh K H1 a xs/\∀p,H1 p=Z->Q (.ref p) (upd H1 p (.lst xs.reverse)))\/∃a xs,x=.ref a/\bz K H1 a xs/\∀p,H1 p=Z->Q (.ref p) (upd H1 p (.tup xs.reverse))
theorem T1{j1}(he:JE X e te):JE X (.Subscript e (.Slice Z Z (U (.UnaryOp .USub (.Constant (.int 1) j1 p3) p4)) p2) pos) (TZ X.K te):=by
 calc⟨?_⟩;ext pins s σ H Q I h;calc Subscript_ (a_ (he pins s σ H _ I h) λv s1 h0_=>el5 h0_ λx H1 I1 r1 q1=>?_);calc wpAny_Slice ?_;rw[q6e];calc vw ?_;calc vw ?_;rw[q8w];let h1:=Hr (X:=X) Ht (k_ (X:=X) (i:=1) (j:=j1) (pos:=p3)) (pos:=p4) pins s1 σ H1 (λv H2=>v=.int (-1)/\H2=H1) I1 ⟨1,Y,Y,Y⟩;calc a_ h1 λu s3 ⟨y,H3,I3,ry,ey,eH⟩=>?_;subst ey eH;let⟨t,rfl⟩:=ry;let I4:Inv X pins σ H3 {s3 with heap:=s3.heap.push {cls:=.type "slice",data:=.fields #[.none,.none,.int (-1) t]}}:=I3.kept (t':=s3.toks) λb ob q=>rM _ q;rcases q1 with⟨a,xs,rfl,hx,q⟩|⟨a,xs,rfl,hx,q⟩
 .cases r1
  let⟨ah,r,ht,hz⟩:=I4.list hx;let hlen:=↑r;calc q7W (ops:=[.ref a,.ref ⇑s3]) ht.isList.typeIs q4O.lookup ?_ (by with_unfolding_all rfl);calc q4U ht.isList (q4z ..) .none .none (.int (-1) t) (by decide) ?_ (by rw[HW]<;>symm);rw[RM];calc⟨.ref _,_,I4.laid (t':=s3.toks) (o:=.lst xs.reverse) (λb ob q=>rM _ q) (BA _) ?_,Y,q _ (I4.aF.fresh (BA _))⟩;exact⟨by rw[q2A];calc hz,_,0,B5 r,ZI _ Y⟩
 .cases r1
  let⟨ah,r,ht,hz⟩:=I4.tuple hx;let hlen:=↑r;calc q7W (ops:=[.ref a,.ref ⇑s3]) ht.typeIs q0I.lookup ?_ (by with_unfolding_all rfl);calc HT.TV ht (q4z ..) ?_ ⋯;calc⟨.ref _,_,I4.laid (t':=s3.toks) (o:=.tup xs.reverse) (λb ob q=>rM _ q) (BA _) ?_,Y,q _ (I4.aF.fresh (BA _))⟩;calc⟨by rw[q2A];calc hz,_,B5 r,q7d _ _⟩
theorem T2:dA X (binaryOp .Add) (λx y H Q=>∃a b ys,x=.ref a/\y=.ref b/\bz X.K H a []/\bz X.K H b ys/\Q (.ref b) H):=by
 ext pins s σ H x y v u Q I rx ry h;let⟨a,b,ys,rfl,rfl,ha,hb,q⟩:=h;cases rx
 cases ry
 let⟨ah,r1,p1,_⟩:=I.tuple ha;let⟨bf,r2,p2,_⟩:=I.tuple hb;let:ah=[]:=r1.fH.mpr Y;subst this;calc HT.TQ p1 p2 ⟨.ref b,H,I,Y,q⟩
theorem T3:dA X (compareOp .Is) (λx y H Q=>∃a b,x=.bl a/\y=.bl b/\Q (.bl (a==b)) H):=by
 ext pins s σ H x y v u Q I rx ry h;let⟨a,b,rfl,rfl,q⟩:=h;cases rx
 cases ry
 calc vw ⟨.bl (a==b),H,I,by cases a<;>cases b<;>rfl,q⟩
theorem T5:dA X (compareOp .IsNot) (λx y H Q=>∃a b,x=.bl a/\y=.bl b/\Q (.bl (!(a==b))) H):=by
 ext pins s σ H x y v u Q I rx ry h;let⟨a,b,rfl,rfl,q⟩:=h;cases rx
 cases ry
 calc vw ⟨.bl (!(a==b)),H,I,by cases a<;>cases b<;>rfl,q⟩
def bV:D->D->(D->Prop)->Prop
 |.int i,.int j,K=>K (.int (i+j))
 |.lst a,.lst b,K=>↑a+↑b<=1000/\K (.lst (a++b))
 |.tup a,.tup b,K=>↑a+↑b<=1000/\K (.tup (a++b))
 |.str a,.str b,K=>↑a+↑b<=1000/\K (.str (a++b))
 |_,_,_=>False
theorem oQ:e8 X (binaryOp .Add) bV:=by
 ext pins s σ H x y v u Q I rx ry ⟨F,d,e,K,sub,rd,re,q,md⟩;unfold bV at q;split at q
 .exact yC pins s σ H x y v u Q I rx ry ⟨F,_,_,K,sub,rd,re,q,md⟩
 .exact yC pins s σ H x y v u Q I rx ry ⟨F,_,_,K,sub,rd,re,q,md⟩
 .rename_i as bs
  by_cases c:as=[]
  .subst c
   let cB:Is F (.tup []) x:=rd;let iA:Is F (.tup bs) y:=re;let T6:=iA;erw[Is] at cB iA;let⟨a,us,rfl,h1,h2⟩:=cB;let⟨b,ws,rfl,h3,h4⟩:=iA;let:us=[]:=by simpa only [ae] using h2
   subst this;exact T2 pins s σ H _ _ v u Q I rx ry ⟨a,b,ws,Y,Y,bz.of (sub _ _ h1),bz.of (sub _ _ h3),md _ _ _ q.2 (λ_ _ e=>e) (we sub T6)⟩
  .exact yC pins s σ H x y v u Q I rx ry ⟨F,_,_,K,sub,rd,re,⟨⟨c,q.1⟩,q.2⟩,md⟩
 .exact yC pins s σ H x y v u Q I rx ry ⟨F,_,_,K,sub,rd,re,q,md⟩
 .calc q.elim
def sI:D->Option Int->Option Int->(D->Prop)->Prop
 |.lst ds,lo,hi,K=>K (.lst (cutD ds lo hi))
 |.tup ds,lo,hi,K=>K (.tup (cutD ds lo hi))
 |_,_,_,_=>False
def c_(f:WE)(l h:WO):WE:=fun δ K=>f δ λx δ1=>l δ1 λlo δ2=>h δ2 λhi δ3=>fw x δ3 λd=>sI d lo hi λz=>K (.p z) δ3
theorem T7{ds:-D}{lo hi:Option Int}(h:HT.aV ↑ds 0 lo=0/\HT.aV ↑ds ↑ds hi=↑ds):cutD ds lo hi=ds:=by
 unfold cutD;rw[h.1,h.2,q3F,q5a,q04 (BA _)]
theorem uo{e:M}{f:WE}{lo hi:Option M}{l h:WO}{pos p2:y}(he:JE X e (tD f))(hl:PO X lo (yF l))(hh:PO X hi (yF h)):JE X (.Subscript e (.Slice lo hi Z p2) pos) (tD (c_ f l h)) :=
 (Bg (gJ.or TY) he hl hh).weak fun σ H Q h0_=>el7 h0_ λF ad δ K S q k =>⟨F,ad,δ,_,S,q,λx δ1 h1 v F1 aN H1 E1 S1 V1=>⟨F1,aN,δ1,_,S1,h1,λlo δ2 h2 F2 cn H2 E2 S2=>⟨F2,cn,δ2,_,S2,h2,λhi δ3 h3 F3 t_ H3 E3 S3=>by
  let⟨d,h4,rd⟩:=iw S3 ((V1.ext E2).ext E3) h3;let C3:=(E1.trans E2).trans E3;unfold sI at h4;split at h4
  .rename_i ds
   let⟨a,vs,rfl,g1,g2⟩:=rd;calc .inl ⟨a,vs,Y,bh.of g1,λp hp=>?_⟩;exact k _ _ h4 _ _ _ _ (C3.trans (Ext.al S3 (bL hp))) (S3.al (bL hp)) (kG S3.sub hp (JQ g2 _ _))
  .rename_i ds
   let cB:Is F3 (.tup ds) v:=rd;let CM:=cB;erw[Is] at cB;let⟨a,vs,rfl,g1,g2⟩:=cB;refine .inr ⟨a,vs,Y,bz.of (S3.sub _ _ g1),λhw=>?_,λ_ p hp=>?_⟩
   .rw[↑g2] at hw
    rw[T7 hw] at h4;exact k _ _ h4 _ _ _ _ C3 S3 CM
   .exact k _ _ h4 _ _ _ _ (C3.trans (Ext.al S3 (bL hp))) (S3.al (bL hp)) (yA S3.sub hp (JQ g2 _ _))
  .calc h4.elim⟩⟩⟩
def yW:D->(D->Prop)->Prop
 |.lst ds,K=>K (.lst ds.reverse)
 |.tup ds,K=>K (.tup ds.reverse)
 |_,_=>False
theorem T8{e:M}{f:WE}{j1}{pos p2 p3 p4:y}(he:JE X e (tD f)):JE X (.Subscript e (.Slice Z Z (U (.UnaryOp .USub (.Constant (.int 1) j1 p3) p4)) p2) pos) (tD (d1 f yW)) :=
 (T1 he).weak fun σ H Q h0_=>el7 h0_ λF ad δ K S q k =>⟨F,ad,δ,_,S,q,λx δ1 h1 v F1 aN H1 E1 S1 V1=>by
  let⟨d,h4,rd⟩:=iw S1 V1 h1;unfold yW at h4;split at h4
  .rename_i ds
   let⟨a,vs,rfl,g1,g2⟩:=rd;calc .inl ⟨a,vs,Y,bh.of g1,λp hp=>?_⟩;exact k _ _ h4 _ _ _ _ (E1.trans (Ext.al S1 (bL hp))) (S1.al (bL hp)) (kG S1.sub hp (CF g2))
  .rename_i ds
   let cB:Is F1 (.tup ds) v:=rd;erw[Is] at cB;let⟨a,vs,rfl,g1,g2⟩:=cB;calc .inr ⟨a,vs,Y,bz.of (S1.sub _ _ g1),λp hp=>?_⟩;exact k _ _ h4 _ _ _ _ (E1.trans (Ext.al S1 (bL hp))) (S1.al (bL hp)) (yA S1.sub hp (CF g2))
  .calc h4.elim⟩
def lX:D->D->(D->Prop)->Prop
 |.bl a,.bl b,K=>K (.bl (a==b))
 |d,e,K=>j3 d e K
def yX:D->D->(D->Prop)->Prop
 |.bl a,.bl b,K=>K (.bl (!(a==b)))
 |d,e,K=>CH d e K
theorem KW:e8 X (compareOp .Is) lX:=by
 ext pins s σ H x y v u Q I rx ry ⟨F,d,e,K,sub,rd,re,q,md⟩;unfold lX at q;split at q
 .rename_i a b
  exact T3 pins s σ H x y v u Q I rx ry ⟨a,b,rd,re,md _ _ _ q (λ_ _ e=>e) Y⟩
 .calc Sv pins s σ H x y v u Q I rx ry ⟨F,_,_,K,sub,rd,re,q,md⟩
theorem T9:e8 X (compareOp .IsNot) yX:=by
 ext pins s σ H x y v u Q I rx ry ⟨F,d,e,K,sub,rd,re,q,md⟩;unfold yX at q;split at q
 .rename_i a b
  exact T5 pins s σ H x y v u Q I rx ry ⟨a,b,rd,re,md _ _ _ q (λ_ _ e=>e) Y⟩
 .calc Sw pins s σ H x y v u Q I rx ry ⟨F,_,_,K,sub,rd,re,q,md⟩
end
end L2
open L2
open Lean in
local macro_rules
 | `(tactic| simp! [$ls,*] $[$loc:location]?)=>do
  let a ← ("q46 dep aZ q0u Nat.max_self Nat.max_zero Nat.zero_max Nat.reduceLeDiff ak aD dN ag af d1 d2 dC aa jW fw oA jX ay.fix Je cx bt rV dT rW iy iY cy qo jz ym cE lM aE bc br hU eA iz i5 cK e_ qt cF bN lQ lR Cu gP Cv cY ar v9 passes lO fK lP v8 aW si bV sI c_ yW lX yX oK um fA oI dy oEq lU oLt j3 CH qA bE yI wm wq iC bB uh CT CU cZ iB sD gv j4 sC yK yH gO wz ay.trim gq yr q7f Option.join_none q0o q2b q47 q4f q1c q55 q1Y q1o List.getElem?_nil q02 q03 HY q1n q53 q4C List.take_nil List.any_nil q2i q2p q1b q6f Bool.and_self q6a q0a Bool.true_eq_false q17 q0X true_and and_true and_self reduceCtorEq q43 q0J q6g Nat.reduceLT Nat.reduceEqDiff Nat.reduceSub rO Ql".splitOn " ").toArray.mapM λs => `(Parser.Tactic.simpLemma| $(mkIdent s.toName):ident)
  let r ← `(Parser.Tactic.simpLemma| ↓reduceIte)
  let a:Syntax.TSepArray [`Lean.Parser.Tactic.simpStar, `Lean.Parser.Tactic.simpErase, `Lean.Parser.Tactic.simpLemma] "," := ⟨(Syntax.SepArray.ofElems (sep:=",") ((a.push r).map (·.raw)++ls.getElems.map (·.raw))).elemsAndSeps⟩
  `(tactic| simp only [$a,*] $[$loc]?)
local macro_rules | `(tactic| simp! $[$l:location]?) => `(tactic| simp! [] $[$l]?)
set_option maxHeartbeats 8000000
namespace LJ
open PySem L2
variable[aC]
theorem KY{ns:-Int}{k:Int}(h0:0<=k)(h1:k<(ns.length:Int)):∃n,dm (ns.map D.int) k=U (.int n):=by
 let⟨i,rfl⟩:∃i:Nat,k=i:=⟨k.toNat,⋯⟩;let hi:i<ns.length:=by symm
 calc⟨ns[i],kC ?_⟩;rw[Qi,rN hi];rfl
theorem fU{α:Type}{x:α}{r:-α}:dm (x::r) 0=U x:=kC (j:=0) Y
theorem f7{α:Type}{x y:α}{r:-α}:dm (x::y::r) 1=U y:=kC (j:=1) Y
theorem at2{α:Type}{x y z:α}{r:-α}:dm (x::y::z::r) 2=U z:=kC (j:=2) Y
theorem wL{a b A B:Int}(h0:0<=a)(h1:a<=A)(h2:0<=b)(h3:b<=B):0<=a*b/\a*b<=A*B :=
 ⟨Int.mul_nonneg h0 h2,Int.mul_le_mul h1 h3 h2 (Int.le_trans h0 h1)⟩
noncomputable def iD:-Int:=[2147483629,2147483587,2147483579,2147483563,2147483549,2147483543,2147483497,2147483489,2147483477,2147483423,2147483399,2147483353,2147483323]
theorem C4(n:Int):∃q:Int,dm (iD.map D.int) (n%13)=U (.int q)/\0<q/\q<2147483648:=by
 let h0:0<=n%13:=q1R _ (by decide);let h1:n%13<13:=q1s _ (by decide);generalize n%13=j at h0 h1;let⟨i,rfl⟩:∃i:Nat,j=i:=⟨j.toNat,⋯⟩;let hi:i<13:=by symm
 let hl:(iD.map D.int)[i]?=U (.int (iD[i]'(by show i<13;calc hi))):=by
  rw[Qi,rN (by show i<13;calc hi)];rfl
 calc⟨_,kC hl,?_⟩;let all:∀q∈iD,0<q/\q<2147483648:=by decide
 calc all _ (q1W _)
theorem T_:jP 3 1=U 1:=rfl
theorem KZ:jP 3 2=U 2:=rfl
abbrev Sem(n m:Nat)(g:GD)(b:WS):Prop:=∀ys ovs K',↑ys=n->g ys ovs K'->b (gO ↑ovs K') ⟨ys.map U++q0d m Z,ovs.map U⟩
theorem aI{A B:WS}{K:KS}{δ:ay}(h:∀N:ay->Prop,N=B K->A {K with nx:=N} δ):ak A B K δ:=h _ Y
theorem j6{t:WT}{G G':WS}{K:KS}{δ:ay}(h:∀A B:ay->Prop,A=G K->B=G' K->t δ λb δ1=>if b=θ then A δ1 else B δ1):bc t G G' K δ:=h _ _ Y Y
theorem qH{w:WI}{g:WG}{b:WS}{K:KS}{δ:ay}(h:∀g' b' K',g'=g->b'=b->K'=K->w δ λit δ1=>lN δ1 it.bw g' b' K' it.items δ1):cK w g b K δ:=h _ _ _ Y Y Y
theorem yY{f:WE}{g:WA}{δ:ay}{K:-DV->ay->Prop}(h:∀K',K'=(λx δ1=>g δ1 λxs δ2=>K (x::xs) δ2)->f δ K'):ag f g δ K:=h _ Y
def C5:GD:=λys ovs K=>∃cell at_:Int,ys=[.p (.int cell),.p (.int at_)]/\ovs=[]/\0<=at_/\at_<2 ^ 30/\∀z:Int,K (.p (.int z)) []
def C6:WS:=(ak (bc (dT (d2 (aa 0) (d2 (dC (.int 10)) (dC (.int 18)) (dy dM λi j=>.int (i ^ j.toNat))) (oI λi j=>.bl (J (j<=i))))) (aE (aa 0)) cE) (ak (aD 2 (bt (ag (dC (.int 2147483629)) (ag (dC (.int 2147483587)) (ag (dC (.int 2147483579)) (ag (dC (.int 2147483563)) (ag (dC (.int 2147483549)) (ag (dC (.int 2147483543)) (ag (dC (.int 2147483497)) (ag (dC (.int 2147483489)) af)))))))))) (ak (aD 2 (d2 (aa 2) (bt (ag (dC (.int 2147483477)) (ag (dC (.int 2147483423)) (ag (dC (.int 2147483399)) (ag (dC (.int 2147483353)) (ag (dC (.int 2147483323)) af)))))) bV)) (ak (aD 3 (d2 (d2 (d2 (d2 (d2 (d2 (aa 0) (dC (.int 1000000007)) (dy (λ_ j=>0<j) λi j=>.int (i%j))) (d2 (d2 (dC (.int 2)) (aa 1) fA) (dC (.int 69069)) bV) fA) (d2 (aa 1) (dC (.int 40503)) fA) bV) (dC (.int 977)) bV) (dC (.int 3)) (dy dM λi j=>.int (i ^ j.toNat))) (d2 (aa 2) (d2 (aa 1) (dC (.int 13)) (dy (λ_ j=>0<j) λi j=>.int (i%j))) aW) (dy (λ_ j=>0<j) λi j=>.int (i%j)))) (ak (aD 4 (d2 (d2 (d2 (d2 (d2 (aa 3) (d2 (aa 1) (dC (.int 3)) bV) fA) (d2 (aa 0) (dC (.int 65537)) (dy (λ_ j=>0<j) λi j=>.int (i%j))) bV) (dC (.int 5)) bV) (dC (.int 5)) (dy dM λi j=>.int (i ^ j.toNat))) (d2 (aa 2) (d2 (d2 (aa 1) (dC (.int 5)) bV) (dC (.int 13)) (dy (λ_ j=>0<j) λi j=>.int (i%j))) aW) (dy (λ_ j=>0<j) λi j=>.int (i%j)))) (ak (aD 5 (d2 (d2 (d2 (d2 (aa 4) (d2 (aa 3) (dC (.int 1009)) (dy (λ_ j=>0<j) λi j=>.int (i%j))) bV) (aa 1) bV) (dC (.int 3)) (dy dM λi j=>.int (i ^ j.toNat))) (d2 (aa 2) (d2 (d2 (aa 1) (dC (.int 7)) bV) (dC (.int 13)) (dy (λ_ j=>0<j) λi j=>.int (i%j))) aW) (dy (λ_ j=>0<j) λi j=>.int (i%j)))) (aE (d2 (d2 (d2 (d2 (aa 3) (dC (.int 2147483647)) fA) (aa 4) bV) (dC (.int 2147483647)) fA) (aa 5) bV))))))))
theorem Ua:Sem 2 4 C5 C6:=by
 ext ys ovs K'-⟨cell,k,rfl,rfl,h0,h1,fin⟩;unfold C6;let lY:∀(z:Int)(sl:-(Option DV)),gr 0 K' (.p (.int z)) ⟨sl,[]⟩:=λz sl=>⟨[],Y,Y,fin z⟩;simp!;calc⟨⟨by decide,by decide,by decide⟩,?_⟩;split
 .exact lY _ _
 let⟨q1,e1,p1,b1⟩:=C4 k;let⟨q2,e2,p2,b2⟩:=C4 (k+5);let⟨q3,e3,p3,b3⟩:=C4 (k+7);erw[iD,q0o,q2b] at e1 e2 e3;erw[e1,e2,e3];let c0:0<=cell%1000000007:=q1R _ (by decide);let c1:cell%1000000007<1000000007:=q1s _ (by decide);let m1:=wL c0 (Int.le_of_lt c1) (show(0:Int)<=2*k+69069 by symm) (show 2*k+69069<=2147552717 by symm);refine⟨by decide,.inl ⟨by decide,by decide⟩,.inl ⟨⋯,⋯⟩,.inr ⟨by decide,by decide⟩,⟨by decide,by decide,?cp1⟩,by decide,p1,?_⟩
 case cp1 =>
  generalize cell%1000000007*(2*k+69069)=m at m1 ⊢;symm
 generalize(cell%1000000007*(2*k+69069)+k*40503+977) ^ (3:Int).toNat=x1;let o0:0<=x1%q1:=q1R _ ⋯;let o1:x1%q1<q1:=q1s _ p1;let d0:0<=cell%65537:=q1R _ (by decide);let d1:cell%65537<65537:=q1s _ (by decide);let m2:=wL o0 (show x1%q1<=2147483648 by symm) (show(0:Int)<=k+3 by symm) (show k+3<=1073741827 by symm);refine⟨.inl ⟨⋯,⋯⟩,by decide,⟨by decide,by decide,?cp2⟩,by decide,p2,?_⟩
 case cp2 =>
  generalize x1%q1*(k+3)=m at m2 ⊢;symm
 let t0:0<=(x1%q1*(k+3)+cell%65537+5) ^ (5:Int).toNat%q2:=q1R _ ⋯;let t1:(x1%q1*(k+3)+cell%65537+5) ^ (5:Int).toNat%q2<q2:=q1s _ p2;let u0:0<=x1%q1%1009:=q1R _ (by decide);let u1:x1%q1%1009<1009:=q1s _ (by decide);generalize(x1%q1*(k+3)+cell%65537+5) ^ (5:Int).toNat%q2=m at t0 t1 ⊢;calc⟨by decide,⟨by decide,by decide,⋯⟩,by decide,p3,.inr ⟨by decide,by decide⟩,.inr ⟨by decide,by decide⟩,lY _ _⟩
noncomputable def i8(ns:-Int)(k z:Int):OV:=.lst [.lst (ns.map D.int),.int k,.int z]
structure aP(n:Int)(o:OV):Prop where
 out:∃ns k z,o=i8 ns k z/\ns.length<=63/\0<=k/\k<=n
theorem aP.mono{n m:Int}{o:OV}(h:aP n o)(l:n<=m):aP m o:=by
 let⟨ns,k,z,e,h1,h2,h3⟩:=h.out;calc⟨ns,k,z,e,h1,h2,⋯⟩
def C7:GD:=λys ovs K=>∃n o,ys=[.o 0]/\ovs=[o]/\aP n o/\∀o',aP n o'->K (.a 0) [o']
def C8:WS:=(ak (sD (dC (.int 0)) (aa 0) (dC (.int 2))) (aE (aa 0)))
theorem Ub:Sem 1 0 C7 C8:=by
 ext ys ovs K'-⟨n,o,rfl,rfl,P,fin⟩;let⟨ns,k,z,rfl,h1,h2,h3⟩:=P.out;unfold C8 i8;simp!;calc⟨[i8 ns k 0],Y,Y,fin _ ⟨ns,k,0,Y,h1,h2,h3⟩⟩
def f9:GD:=λys ovs K=>∃(n m:Int)(o:OV),ys=[.o 0,.p (.int m)]/\ovs=[o]/\aP n o/\n<2 ^ 30/\0<m/\m<1073741824/\∀r o',0<=r->r<m->aP (n+1) o'->K (.p (.int r)) [o']
def C9:WS:=(ak (bc (dT (d2 (d2 (aa 0) (dC (.int 2)) aW) (aa 1) oLt)) (ak (aD 2 (d2 (aa 0) (dC (.int 1)) aW)) (ak (aD 3 (dC (.int 0))) (ak (bc (dT (d2 (aa 2) (dN (ag (d2 (aa 0) (dC (.int 0)) aW) af) bE) oLt)) (aD 3 (d2 (d2 (aa 0) (dC (.int 0)) aW) (aa 2) aW)) (bc (dT (d2 (dN (ag (d2 (aa 0) (dC (.int 0)) aW) af) bE) (dC (.int 0)) (oI λi j=>.bl (J (j<i))))) (aD 3 (d2 (d2 (d2 (aa 0) (dC (.int 0)) aW) (d2 (d2 (d2 (aa 2) (dC (.int 5)) fA) (dC (.int 3)) bV) (dN (ag (d2 (aa 0) (dC (.int 0)) aW) af) bE) (dy (λ_ j=>0<j) λi j=>.int (i%j))) aW) (d2 (d2 (dC (.int 10)) (dC (.int 17)) (dy dM λi j=>.int (i ^ j.toNat))) (aa 2) bV) (dy (λ_ j=>0<j) λi j=>.int (i%j)))) cE)) (ak (sD (d2 (aa 2) (dC (.int 1)) bV) (aa 0) (dC (.int 1))) (sD (ar 2 C5 (ag (aa 3) (ag (aa 2) af))) (aa 0) (dC (.int 2))))))) cE) (ak (aD 4 (d2 (d2 (aa 0) (dC (.int 2)) aW) (aa 1) (dy (λ_ j=>0<j) λi j=>.int (i%j)))) (ak (sD (d2 (d2 (aa 0) (dC (.int 2)) aW) (aa 1) (dy vf λi j=>.int (i.fdiv j))) (aa 0) (dC (.int 2))) (aE (aa 4)))))
theorem Uc:Sem 2 3 f9 C9:=by
 ext ys ovs K'-⟨n,m,o,rfl,rfl,P,hn,K4,ZX,fin⟩;let⟨ns,k,z,rfl,h1,h2,h3⟩:=P.out;unfold C9 i8
 let last:∀(k' z':Int)(sl:-(Option DV)),0<=k'->k'<=n+1->gr 1 K' (.p (.int (z'%m))) ⟨sl,[U (.lst [.lst (ns.map D.int),.int k',.int (z'.fdiv m)])]⟩:=λk' z' sl a b =>
  ⟨[i8 ns k' (z'.fdiv m)],Y,Y,fin _ _ (q1R _ ⋯) (q1s _ K4) ⟨ns,k',_,Y,h1,a,b⟩⟩
 let Ud:∀z,vf z m:=λz=>⟨⋯,⋯⟩
 let rest:∀(k' z':Int)(s2 s3 s4:Option DV),0<=k'->k'<=n+1->(ak (aD 4 (d2 (d2 (aa 0) (dC (.int 2)) aW) (aa 1) (dy (λ_ j=>0<j) λi j=>.int (i%j)))) (ak (sD (d2 (d2 (aa 0) (dC (.int 2)) aW) (aa 1) (dy vf λi j=>.int (i.fdiv j))) (aa 0) (dC (.int 2))) (aE (aa 4)))) (gO 1 K') ⟨[U (.o 0),U (.p (.int m)),s2,s3,s4],[U (.lst [.lst (ns.map D.int),.int k',.int z'])]⟩:=λk' z' s2 s3 s4 a b=>by
  simp![at2,KZ];exact⟨K4,Ud _,last _ _ _ a b⟩
 calc aI λN hN=>?_;calc j6 λA B hA hB=>?_;simp![at2];split
 .subst hA
  calc aI λN2 bW=>?_;simp![f7];subst bW;calc aI λN2 bW=>?_;simp!;subst bW;refine aI λN2 bW=>?_
  let go:∀(c:Int)(s4:Option DV),N2 ⟨[U (.o 0),U (.p (.int m)),U (.p (.int k)),U (.p (.int c)),s4],[U (.lst [.lst (ns.map D.int),.int k,.int z])]⟩:=λc s4=>by
   subst bW;simp![T_];calc⟨c,k,Y,Y,h2,⋯,λz'=>?_⟩;simp![KZ];subst hN;exact rest _ _ _ _ _ ⋯ ⋯
  calc j6 λA B hA hB=>?_;simp![fU];split
  .rename_i cq
   let⟨c,ec⟩:=KY h2 (q1f cq);subst hA;simp![fU];rw[ec];exact go _ _
  .subst hB
   calc j6 λA B hA hB=>?_;simp![fU];split
   .rename_i oR
    let oR:=q1f oR;let⟨c,ec⟩:=KY (ns:=ns) (k:=(k*5+3)%(ns.length:Int)) (q1R _ ⋯) (q1s _ oR);subst hA;simp![fU];calc⟨.inr ⟨by decide,by decide⟩,oR,?_⟩;rw[ec];exact⟨⟨by decide,by decide,by decide⟩,by show(0:Int)<10 ^ 17+k;symm,go _ _⟩
   .subst hB
    exact go _ _
 .subst hB hN
  calc rest _ _ _ _ _ ⋯ ⋯
theorem Ue(ns:-Int)(lo hi:Option Int):cutD (ns.map D.int) lo hi=((ns.drop (HT.aV ns.length 0 lo)).take (HT.aV ns.length ns.length hi-HT.aV ns.length 0 lo)).map D.int:=by
 unfold cutD;rw[rO,q6h,q6i]
noncomputable def bP(p:Int×Int):D:=.tup [.int p.1,.int p.2]
structure dF(many:Int)(ps:-(Int×Int)):Prop where
 ends:∀p∈ps,0<=p.1/\p.1<p.2/\p.2<many
 nQ:ps.Nodup
 h_:↑ps<=66
theorem dF.sub{many:Int}{ps qs:-(Int×Int)}(h:dF many ps)(s:qs.Sublist ps):dF many qs :=
 ⟨λp hp=>h.ends p (s.subset hp),h.nQ.sublist s,q0Q s.length_le h.h_⟩
def C_:GD:=λys ovs K=>∃(n kind many:Int)(o:OV),ys=[.o 0,.p (.int kind),.p (.int many)]/\ovs=[o]/\aP n o/\n+100<2 ^ 30/\1<=many/\many<=12/\∀ps o',dF many ps->aP (n+67) o'->K (.n (ps.map bP)) [o']
def Dc:WS:=(ak (aD 3 (rV af)) (ak (cK (lR (ag (aa 2) af)) (br 4) (lM (sC (aa 3) (ag (e_ (lR (ag (aa 4) af)) [Z,U 4] (br 0) cF (cx (ag (aa 0) (ag (aa 1) af)))) af)))) (ak (bc (dT (d2 (aa 1) (dC (.int 1)) oEq)) (aE (qt (Cu (ag (dC (.int 1)) (ag (aa 2) af))) [Z,U 0] (br 0) cF (cx (ag (ar 2 f9 (ag (aa 1) (ag (aa 0) af))) (ag (aa 0) af))))) cE) (ak (bc (dT (d2 (aa 1) (dC (.int 2)) oEq)) (ak (aD 5 (e_ (lR (ag (d2 (aa 2) (dC (.int 1)) (oI λi j=>.int (i-j))) af)) [Z] (br 0) cF (cx (ag (aa 0) (ag (d2 (aa 0) (dC (.int 1)) bV) af))))) (aE (CU (aa 5) (e_ (bN (aa 3)) [Z,U 2] (br 0) (iy (dT (d2 (aa 0) (cx (ag (dC (.int 0)) (ag (d2 (aa 1) (dC (.int 1)) (oI λi j=>.int (i-j))) af))) oEq)) (dT (d2 (aa 1) (dC (.int 2)) (oI λi j=>.bl (J (j<i)))))) (aa 0))))) cE) (ak (bc (dT (d2 (aa 1) (dC (.int 3)) oEq)) (aE (aa 3)) cE) (ak (bc (dT (d2 (aa 1) (dC (.int 4)) oEq)) (aE (qt (bN (aa 3)) [Z,U 0] (br 0) (dT (d2 (ar 2 f9 (ag (aa 1) (ag (dC (.int 4)) af))) (dC (.int 0)) oEq)) (aa 0))) cE) (ak (bc (dT (d2 (aa 1) (dC (.int 5)) oEq)) (ak (aD 6 (ar 2 f9 (ag (aa 0) (ag (d2 (aa 2) (dC (.int 1)) bV) af)))) (aE (qt (bN (aa 3)) [Z,U 6,U 0] (br 0) (iy (dT (d2 (d2 (d2 (aa 0) (dC (.int 0)) aW) (aa 1) oLt) (d2 (d2 (aa 0) (dC (.int 1)) aW) (aa 1) oLt) oEq)) (dT (d2 (ar 2 f9 (ag (aa 2) (ag (dC (.int 3)) af))) (dC (.int 0)) (oI λi j=>.bl (J (j<i)))))) (aa 0)))) cE) (aE (qt (bN (aa 3)) [Z,U 0] (br 0) (dT (d2 (ar 2 f9 (ag (aa 1) (ag (dC (.int 2)) af))) (dC (.int 0)) oEq)) (aa 0))))))))))
theorem sub_snoc{α:Type}{zs ps:-α}{i:Nat}{x:α}(h:zs.Sublist (ps.take i))(e:ps[i]?=U x):(zs++[x]).Sublist (ps.take (i+1))/\zs.Sublist (ps.take (i+1)):=by
 let:ps.take (i+1)=ps.take i++[x]:=by rw[q2o,e];rfl
 rw[this];calc⟨h.append (q4P _),h.trans (q4Y _ _)⟩
theorem Ug{α:Type}{l:-α}{c:α}(h:l.Nodup)(hc:∀x∈l,x=c):↑l<=1:=by
 match l,h,hc with
 |[],_,_=>exact q0u _
 |[_],_,_=>exact BA _
 |x::y::r,h,hc =>
  let:=(q1U.mp h).1 y (Qk);calc absurd ((hc x Qk).trans (hc y (Qm _ Qk)).symm) this
theorem Dd{n:Int}{o:OV}{ps:-(Int×Int)}{t:WT}{K:-D->ay->Prop}{rest:-(Option DV)}{ev:Option OV}{bw:ay->Prop}(hc:∀sl o',bw ⟨sl,[U o',ev]⟩)(hw:↑ps<=66)(P:aP n o)(hn:n+70<2 ^ 30)
  (ht:∀(p:Int×Int)(i:Nat)(o':OV)(Q:Bool->ay->Prop),p∈ps->i<=66->aP (n+i) o'->(∀b lZ,aP (n+i+1) lZ->Q b ⟨U (.p (bP p))::rest,[U lZ,ev]⟩)->t ⟨U (.p (bP p))::rest,[U o',ev]⟩ Q)
  (hr:gq 2 rest rest=rest)
  (fin:∀(zs:-(Int×Int)) o',zs.Sublist ps->aP (n+↑ps) o'->K (zs.map bP) ⟨Z::rest,[U o',ev]⟩) :
  jD ⟨Z::rest,[U o,ev]⟩ bw (br 0) t (aa 0) K (ps.map bP) [] ⟨Z::rest,[U o,ev]⟩:=by
 refine CQ (λi acc δ=>∃(zs:-(Int×Int))(o':OV),zs.Sublist (ps.take i)/\acc=zs.map bP/\aP (n+i) o'/\δ=⟨Z::rest,[U o',ev]⟩) ⟨[],o,q4P _,Y,P.mono ⋯,Y⟩ ?_ ?_
 .ext j d acc δ L hj ⟨zs,o',hz,rfl,P',rfl⟩ hL
  rw[Qi] at hj;let⟨p,hp,rfl⟩:=ZM.mp hj;let wK:j<↑ps:=(tU.mp hp).1;calc⟨hc _ _,?_⟩;show t ⟨U (.p (bP p))::rest,[U o',ev]⟩ _;refine ht p j o' _ (q0v hp) ⋯ P' λb lZ oS=>?_
  let hlen:↑(zs.map bP)<1000:=by
   rw[rO];let:=hz.length_le;rw[q0y] at this;symm
  let P3:aP (n+((j+1:Nat):Int)) lZ:=oS.mono ⋯
  cases b with
  |true =>
   rw[ZK Y];calc⟨hlen,hL _ _ ⟨zs++[p],lZ,(sub_snoc hz hp).1,by rw[q0K];rfl,P3,?_⟩⟩;show(⟨Z::gq 2 rest rest,_⟩:ay)=_;rw[hr];rfl
  |false =>
   rw[ZJ (by decide)];calc hL _ _ ⟨zs,lZ,(sub_snoc hz hp).2,Y,P3,?_⟩;show(⟨Z::gq 2 rest rest,_⟩:ay)=_;rw[hr];rfl
 .ext acc δ ⟨zs,o',hz,rfl,P',rfl⟩
  rw[rO] at P' hz;rw[q04 (BA _)] at hz;calc⟨hc _ _,fin zs o' hz P'⟩
theorem Uh:Sem 3 4 C_ Dc:=by
 ext ys ovs K'-⟨n,kind,many,o,rfl,rfl,P,hn,m1,mZ,fin⟩;let⟨mm,rfl⟩:∃mm:Nat,many=mm:=⟨many.toNat,⋯⟩;let De:mm<=12:=by symm
 unfold Dc;let bZ:dF mm (jw mm):=⟨λp hp=>B2 hp,IV mm,IW mm De⟩;calc aI λN hN=>?_;simp!;subst hN;calc aI λN hN=>?_;simp!;calc⟨⋯,?_⟩;refine j5 (λi δ=>δ=⟨[U (.o 0),U (.p (.int kind)),U (.p (.int mm)),U (.o 1),Z,Z,Z],[U o,U (.lst ((jw i).map bP))]⟩) Y ?_ ?_
 .ext j d δ L hj rfl hL
  let⟨hj,rfl⟩:=nh hj;simp!;let e:(0+(j:Int))=j:=by symm
  rw[e];refine⟨⋯,?_⟩
  refine jF (λd=>match d with
   |.int a=>bP (a,j)
   |_=>.non) (by rw[lT];symm) trivial ?_ ?_
  .ext d hd acc L' ha h
   let⟨i,hi⟩:=q0i.mp hd;let⟨hi,rfl⟩:=nh hi;simp!;exact⟨ha,h⟩
  .let e2:(jw j).map bP++(cz 0 (j:Int).toNat).map (λd=>match d with
    |.int a=>bP (a,j)
    |_=>.non)=(jw (j+1)).map bP:=by
    show _=(jw j++_).map bP;unfold cz;rw[q0K,q0D,q0D];congr 1;calc q1d λa _=>?_;simp[q8z]
   simp!;let ZY:=IW j ⋯;calc⟨by rw[lT];symm,?_⟩;rw[e2];exact hL _ Y
 .ext δ rfl
  calc⟨trivial,?_⟩;subst hN;let eL:((mm:Int)).toNat=mm:=by symm
  rw[lT,eL];dsimp only
  let back:∀(ps:-(Int×Int))(o':OV)(sl:-(Option DV))(m:-(Option OV)),dF mm ps->aP (n+67) o'->gr 1 K' (.o (↑m+1)) ⟨sl,U o'::(m++[U (.lst (ps.map bP))])⟩:=λps o' sl m h1 h2=>by
   calc⟨[o'],Y,Y,?_⟩;show if ↑m+1<1 then _ else _;rw[ZJ ⋯]
   let:(U o'::(m++[U (OV.lst (ps.map bP))]))[↑m+1]?=U (U (.lst (ps.map bP))):=by
    rw[q1o,q0h (BA _),q1m];rfl
   dsimp only;rw[this];exact .inl (fin ps o' h1 h2)
  calc aI λN hN=>?_;simp![aw];split
  .refine⟨⋯,?_⟩
   refine CQ (λi acc δ=>∃(zs:-(Int×Int))(o':OV),↑zs=i/\(∀(q:Nat)(p:Int×Int),zs[q]?=U p->p.2=q+1/\0<=p.1/\p.1<p.2)/\acc=zs.map bP/\aP (n+i) o'/\δ=⟨[Z,U (.o 0)],[U o',U (.lst ((jw mm).map bP))]⟩) ⟨[],o,Y,λq p e=>by simp at e,Y,P.mono ⋯,Y⟩ ?_ ?_
   .ext j d acc δ L hj ⟨zs,o',hz,hq,rfl,P',rfl⟩ hL
    let⟨hj,rfl⟩:=nh hj;simp!;calc⟨n+j,1+j,o',Y,Y,P',⋯,⋯,⋯,λr lZ r0 r1 oS=>?_⟩;simp!;refine⟨⋯,hL _ _ ⟨zs++[(r,1+(j:Int))],lZ,by rw[Ql,hz];rfl,λq p e=>?_,by rw[q0K];rfl,oS.mono ⋯,Y⟩⟩
    by_cases c:q<↑zs
    .rw[q0g c] at e
     exact hq q p e
    .let hl:=(tU.mp e).1
     rw[Ql,q0F] at hl;let:q=↑zs:=by symm
     subst this;rw[q0h (BA _),q1m] at e;cases(show U (r,1+(j:Int))=U p by simpa using e)
     exact⟨by show 1+(j:Int)=_;symm,r0,r1⟩
   .ext acc δ ⟨zs,o',hz,hq,rfl,P',rfl⟩
    rw[lT] at hz P';calc⟨trivial,?_⟩;refine back zs o' _ [_] ⟨λp hp=>?_,?_,⋯⟩ (P'.mono ⋯)
    .let⟨q,qk⟩:=q0i.mp hp
     let:=hq q p qk;let hl:=(tU.mp qk).1;symm
    .refine q2s.mpr λi j hi hj iM e=>?_
     let q1:=hq i _ (rN hi);let q2:=hq j _ (rN hj);rw[e] at q1;symm
  subst hN;calc aI λN hN=>?_;simp![aw];split
  .clear hN
   refine⟨⋯,?_⟩
   refine jF (λd=>match d with
    |.int a=>bP (a,a+1)
    |_=>.non) (by rw[lT];symm) trivial ?_ ?_
   .ext d hd acc L' ha h
    let⟨i,hi⟩:=q0i.mp hd;let⟨hi,rfl⟩:=nh hi;simp!;exact⟨ha,h⟩
   .simp!
    refine CS (λd=>aw d (bP (0,mm-1))&&J ((2:Int)<mm)) id (by rw[rO];let:=bZ.h_;symm) Y ?_ ?_
    .ext d hd acc L' ha h h'
     let⟨p,hp,rfl⟩:=q0t.mp hd;erw[bP] at h h';simp![bP];split
     .rename_i q1
      split
      .rename_i q2
       exact⟨ha,h (by rw[q1,q2];rfl)⟩
      .rename_i q2
       exact h' (by rw[q1,q3f _ |>.mp q2];rfl)
     .rename_i q1
      exact h' (by rw[q3f _ |>.mp q1];rfl)
    .simp!
     let er:(cz 0 ((mm:Int)-1).toNat).map (λd=>match d with
       |D.int a=>bP (a,a+1)
       |x=>D.non)=((q0s (mm-1)).map λi:Nat=>((i:Int),(i:Int)+1)).map bP:=by
      unfold cz;rw[q0D,q0D];let:((mm:Int)-1).toNat=mm-1:=by symm
      rw[this];calc q1d λa _=>?_;simp[q8z]
     let ef:(((jw mm).map bP).filter λd=>aw d (bP (0,mm-1))&&J ((2:Int)<mm))=((jw mm).filter λp=>aw (bP p) (bP (0,mm-1))&&J ((2:Int)<mm)).map bP:=by
      rw[q7D];rfl
     rw[er,q3a,ef,<-q0K]
     let hf:∀p∈(jw mm).filter (λp=>aw (bP p) (bP (0,mm-1))&&J ((2:Int)<mm)),p=(0,(mm:Int)-1)/\(2:Int)<mm:=λp hp=>by
      let:=(q4c.mp hp).2;simp[bP,aw,dq] at this;let⟨a,b⟩:=p;simp at this ⊢;symm
     let h1:↑((jw mm).filter (λp=>aw (bP p) (bP (0,mm-1))&&J ((2:Int)<mm)))<=1:=Ug (bZ.nQ.sublist q56) λp hp=>(hf p hp).1;refine⟨by rw[lT,rO];symm,back _ o _ [_] ⟨λp hp=>?_,?_,?_⟩ (P.mono ⋯)⟩
     .rcases q0U.mp hp with hp|hp
      .let⟨i,hi,rfl⟩:=q0t.mp hp
       let:=q0G.mp hi;exact⟨⋯,⋯,by show(i:Int)+1<mm;symm⟩
      .exact bZ.ends p (q4c.mp hp).1
     .refine q1p.mpr ⟨?_,bZ.nQ.sublist q56,λa ha b hb e=>?_⟩
      .refine q3G.mpr (q3V.imp λ{a b} ne e=>ne ?_)
       let:=congrArg q94 e;exact q4W this
      .subst e
       let⟨i,hi,rfl⟩:=q0t.mp ha;let:=hf _ hb;let h2:=congrArg q94 this.1;let h3:=congrArg Prod.snd this.1;simp at h2 h3;symm
     .rw[Ql,rO,q0Z];symm
  subst hN;calc aI λN hN=>?_;simp![aw];split
  .exact⟨[o],Y,Y,.inl (fin _ _ bZ (P.mono ⋯))⟩
  subst hN;calc aI λN hN=>?_;simp![aw];split
  .refine Dd (λ_ _=>Y) bZ.h_ P ⋯ (λp i o' Q hp hi P' hQ=>?_) Y λzs o' hz P'=>?_
   .simp![aw]
    calc⟨n+i,4,o',Y,Y,P',⋯,⋯,⋯,λr lZ r0 r1 oS=>?_⟩;simp!;exact hQ _ _ oS
   .exact back zs o' _ [_] (bZ.sub hz) (P'.mono (by let:=bZ.h_;symm))
  subst hN;calc aI λN hN=>?_;simp![aw];split
  .refine⟨n,mm+1,o,Y,Y,P,⋯,⋯,⋯,λhalf o1 r0 r1 P1=>?_⟩
   simp!;refine Dd (n:=n+1) (λ_ _=>Y) bZ.h_ P1 ⋯ (λp i o' Q hp hi P' hQ=>?_) Y λzs o' hz P'=>?_
   .simp![aw,bP,fU,f7]
    split
    .refine⟨n+1+i,3,o',Y,Y,P',⋯,⋯,⋯,λr lZ r0 r1 oS=>?_⟩
     simp!;exact hQ _ _ oS
    .exact hQ _ _ (P'.mono ⋯)
   .exact back zs o' _ [_] (bZ.sub hz) (P'.mono (by let:=bZ.h_;symm))
  subst hN;simp![aw];refine Dd (λ_ _=>Y) bZ.h_ P ⋯ (λp i o' Q hp hi P' hQ=>?_) Y λzs o' hz P'=>?_
  .simp![aw]
   calc⟨n+i,2,o',Y,Y,P',⋯,⋯,⋯,λr lZ r0 r1 oS=>?_⟩;simp!;exact hQ _ _ oS
  .calc back zs o' _ [_] (bZ.sub hz) (P'.mono (by let:=bZ.h_;symm))
theorem Df{α:Type}:∀{l:-α}{j:Nat}(h:j<↑l),q8G (l[j]::l.eraseIdx j) l
 |x::r,0,h=>q2B _
 |x::r,j+1,h=>by
  let hj:j<↑r:=by simpa using h
  show q8G (r[j]::x::r.eraseIdx j) (x::r);calc(q24 x r[j] _).trans ((Df hj).cons x)
theorem Dg{α β:Type}(f:α->β):∀(l:-α)(j:Nat),(l.map f).eraseIdx j=(l.eraseIdx j).map f
 |[],_=>Y
 |_::_,0=>Y
 |x::r,j+1=>by
  show f x::(r.map f).eraseIdx j=f x::(r.eraseIdx j).map f;rw[Dg f r j]
noncomputable def b_(y:Int×Int×Int):D:=.tup [.int y.1,.int y.2.1,.int y.2.2]
noncomputable def aU(m:Int)(ys:-(Int×Int×Int)):D:=.tup [.int m,.tup (ys.map b_)]
noncomputable def sJ(y:Int×Int×Int):Int×Int:=(y.1,y.2.1)
theorem dF.perm{many:Int}{ps qs:-(Int×Int)}(h:dF many ps)(p:qs.Perm ps):dF many qs :=
 ⟨λx hx=>h.ends x (p.mem_iff.mp hx),p.nodup_iff.mpr h.nQ,by rw[p.length_eq];calc h.h_⟩
def Dh:GD:=λys ovs K=>∃(n dR most:Int)(o:OV),ys=[.o 0,.p (.int dR),.p (.int most)]/\ovs=[o]/\aP n o/\n+400<2 ^ 30/\1<=dR/\dR<=12/\0<=most/\most<=30 ∧
 ∀m ws o',gK m ws->m<=dR->(↑ws:Int)<=most->aP (n+300) o'->K (.p (aU m ws)) [o']
def Di:WS:=(ak (aD 3 (ar 2 f9 (ag (aa 0) (ag (dC (.int 8)) af)))) (ak (aD 4 (ar 2 f9 (ag (aa 0) (ag (dC (.int 4)) af)))) (ak (aD 5 (d2 (dC (.int 1)) (ar 2 f9 (ag (aa 0) (ag (aa 1) af))) bV)) (ak (aD 6 (v9 3 C_ (ag (aa 0) (ag (aa 3) (ag (aa 5) af))))) (ak (aD 7 (rV af)) (ak (cK (lR (ag (dN (ag (aa 2) (ag (dN (ag (aa 6) af) bE) af)) wq) af)) (br 8) (ak (i5 (yK (aa 6) (ag (ar 2 f9 (ag (aa 0) (ag (dN (ag (aa 6) af) bE) af))) af)) (iz 2 (eA (br 9) (eA (br 10) hU)))) (ak (aD 11 (d2 (bt (ag (dC (.int 7)) (ag (ar 2 f9 (ag (aa 0) (ag (dC (.int 3)) af))) (ag (d2 (d2 (dC (.int 10)) (dC (.int 9)) (dy dM λi j=>.int (i ^ j.toNat))) (ar 2 f9 (ag (aa 0) (ag (dC (.int 2)) af))) (oI λi j=>.int (i-j))) (ag (ar 2 f9 (ag (aa 0) (ag (d2 (d2 (dC (.int 10)) (dC (.int 9)) (dy dM λi j=>.int (i ^ j.toNat))) (dC (.int 1)) bV) af))) af))))) (aa 4) aW)) (lM (j4 (aa 7) (ag (cx (ag (aa 9) (ag (aa 10) (ag (aa 11) af)))) af)))))) (aE (cx (ag (aa 5) (ag (dN (ag (aa 7) af) wm) af))))))))))
theorem Ui:Sem 3 9 Dh Di:=by
 ext ys ovs K'-⟨n,dR,most,o,rfl,rfl,P,hn,h1,Uj,s0,ZZ,fin⟩;unfold Di;calc aI λN hN=>?_;simp!;calc⟨n,8,o,Y,Y,P,⋯,⋯,⋯,λkind o1 _ _ P1=>?_⟩;simp!;subst hN;calc aI λN hN=>?_;simp!;calc⟨n+1,4,o1,Y,Y,P1,⋯,⋯,⋯,λeW o2 p0 p4 P2=>?_⟩;simp!;subst hN;calc aI λN hN=>?_;simp!;calc⟨n+1+1,dR,o2,Y,Y,P2,⋯,⋯,⋯,λmm o3 m0 mh P3=>?_⟩;simp!;subst hN;calc aI λN hN=>?_;simp!;refine⟨n+1+1+1,kind,1+mm,o3,Y,Y,P3,⋯,⋯,⋯,λps o4 K5 P4=>?_⟩
 simp!;subst hN;calc aI λN hN=>?_;simp!;subst hN;calc aI λN hN=>?_;let Z0:=K5.h_;simp!;calc⟨⋯,?_⟩;let ek:(min most (↑ps:Int)).toNat=min most.toNat ↑ps:=by symm
 rw[ek];generalize hk:min most.toNat ↑ps=k
 refine j5 (λi δ=>∃(qs:-(Int×Int))(ws:-(Int×Int×Int))(o':OV),↑qs+i=↑ps/\↑ws=i/\dF (1+mm) (ws.map sJ++qs)/\(∀y∈ws,0<=y.2.2/\y.2.2<=1000000000)/\aP (n+70+4*i) o' ∧
  δ=⟨[U (.o 0),U (.p (.int dR)),U (.p (.int most)),U (.p (.int kind)),U (.p (.int eW)),U (.p (.int (1+mm))),U (.o 1),U (.o 2),Z,Z,Z,Z],[U o',U (.lst (qs.map bP)),U (.lst (ws.map b_))]⟩)
  ⟨ps,[],o4,⋯,Y,K5,λy hy=>absurd hy q0j,P4.mono ⋯,Y⟩ ?_ ?_
 .ext j d δ L hj ⟨qs,ws,o',hq,hw,hp,hy,P',rfl⟩ hL
  let⟨hj,rfl⟩:=nh hj;let q0:0<↑qs:=by symm
  let Uk:=hp.h_;rw[Ql,rO] at Uk;calc⟨trivial,?_⟩;erw[br,q02,q03];calc aI λN2 bW=>?_;simp!;calc⟨n+70+4*j,↑qs,o',Y,Y,P',⋯,⋯,⋯,λr o1 r0 r1 P1=>?_⟩;let⟨rn,rfl⟩:∃rn:Nat,r=rn:=⟨r.toNat,⋯⟩;let hr:rn<↑qs:=by symm
  let ix:seqIndex? (rn:Int) ↑qs=U rn:=IX hr;let eq:(qs.map bP)[rn]?=U (.tup [.int qs[rn].1,.int qs[rn].2]):=by rw[Qi,rN hr];rfl
  simp![ix,eq];calc⟨⟨⋯,⋯⟩,?_⟩;subst bW;calc aI λN2 bW=>?_;erw[aD,d2,bt];calc yY λK3 sL=>?_;simp!;subst sL;calc yY λK3 sL=>?_;simp!;calc⟨n+70+4*j+1,3,o1,Y,Y,P1,⋯,⋯,⋯,λa1 o2 Z1 Z2 P2=>?_⟩;simp!;subst sL;calc yY λK3 sL=>?_;simp!;calc⟨⟨by decide,by decide,by decide⟩,n+70+4*j+1+1,2,o2,Y,Y,P2,⋯,⋯,⋯,λa2 o3 Z3 Z4 P3=>?_⟩;simp!;subst sL;calc yY λK3 sL=>?_;simp!;refine⟨⟨by decide,by decide,by decide⟩,n+70+4*j+1+1+1,10 ^ q2t 9+1,o3,Y,Y,P3,⋯,by decide,by decide,λa3 o4 Z5 Ul P4=>?_⟩
  simp!;subst sL;simp!;let e9:(10:Int) ^ q2t 9=1000000000:=by decide
  rw[e9] at Ul ⊢
  let⟨pr,Um,Uo,Uq⟩:∃pr:Int,dm [D.int 7,D.int a1,D.int (1000000000-a2),D.int a3] eW=U (.int pr)/\0<=pr/\pr<=1000000000:=by
   let:eW=0\/eW=1\/eW=2\/eW=3:=by symm
   rcases this with rfl|rfl|rfl|rfl
   .exact⟨7,Y,⋯,⋯⟩
   .exact⟨a1,Y,⋯,⋯⟩
   .exact⟨1000000000-a2,Y,⋯,⋯⟩
   .exact⟨a3,Y,⋯,⋯⟩
  rw[Um];show N2 _;subst bW;simp!;refine⟨⋯,hL _ ⟨qs.eraseIdx rn,ws++[(qs[rn].1,qs[rn].2,pr)],o4,?_,?_,?_,?_,P4.mono ⋯,?_⟩⟩
  .rw[q23 hr];symm
  .rw[Ql,hw];rfl
  .refine hp.perm ?_
   rw[q0K,q1K];calc q3U _ ?_;exact Df hr
  .ext y uq
   rcases q0U.mp uq with h|h
   .exact hy y h
   .rw[q0l.mp h];exact⟨Uo,Uq⟩
  .rw[q0K,Dg];rfl
 .ext δ ⟨qs,ws,o',hq,hw,hp,hy,P',rfl⟩
  calc⟨trivial,?_⟩;subst hN;simp!;rw[lT] at hw P';calc⟨[o'],Y,Y,?_⟩;refine fin (1+mm) ws o' ⟨⋯,⋯,⋯,λy uq=>?_,?_⟩ ⋯ ⋯ (P'.mono ⋯)
  .let:=hp.ends (sJ y) (q1g _ (q0t.mpr ⟨y,uq,Y⟩))
   let h2:=hy y uq;erw[sJ] at this;symm
  .calc (q1p.mp hp.nQ).1
end LJ
namespace L2
open PySem PySem.Spec PyProof.Rows
variable[aC]
def yZ:-D->(D->Prop)->Prop
 |[.lst ds],K=>match qF ds with
  |some ps=>(↑ps<=30/\∀p∈ps,0<=p.1/\p.1<p.2/\p.2<12)/\K (.int ↑(gB ps ↑ps))
  |none=>False
 |_,_=>False
section
variable{X:Cx}{fa:WA}
theorem Ur{a:M}{p1 p2 q1 q2:y}(hc:X.calm=θ)(hu:X.A.units+64<cLine)(so:Gl X "len")(hl:X.mg "len" = Z)(su:bootBuiltins "len" = U (.builtin "len"))(sv:Gl X "set")(hr:X.mg "set" = Z)(sx:bootBuiltins "set" = U (.type "set"))(ha:JA X [a] (bM fa))
  (he:starEach [a] X.env=[(ι,eval a X.env)]:=by rfl) (sy:starEach [.Call (.Name "set" p2) [a] [] q2] X.env=[(ι,eval (.Call (.Name "set" p2) [a] [] q2) X.env)]:=by rfl):JE X (.Call (.Name "len" p1) [.Call (.Name "set" p2) [a] [] q2] [] q1) (tD (dN fa yZ)) :=
 (vi (RF) so hl su (jU (qa (TN hc hu) sv hr sx ha (he:=he)) aY) (he:=sy)).weak fun σ H Q h0_=>el7 h0_ λF ad δ K S q k =>⟨F,ad,δ,_,S,q,λxs δ1 h1 vs F1 aN H1 E1 S1 V1=>by
  let⟨ds,h2,lG⟩:=vU S1 V1 h1;unfold yZ at h2;split at h2
  .split at h2
   .rename_i es ps e
    let⟨v,rfl,a,vs,rfl,g1,g2⟩:=cB lG;rw[KN e] at g2;let⟨as,rfl,hl,g⟩:=KR g2;calc⟨a,as,ps,Y,bh.of g1,hl,λi b k' e1 e2=>S1.sub _ _ (g i b k' e1 e2),h2.1.2,h2.1.1,λp hp=>⟨p,↑(gB ps ↑ps),Y,bj,by let:=h2.1.1;let:=C1 ps ↑ps;symm,?_⟩⟩;let s1:av H1 (upd H1 p (lE p ↑(gB ps ↑ps))):=bL hp;exact k _ _ h2.2 _ _ _ _ (E1.trans (Ext.al S1 s1)) (S1.al s1) Y
   .exact h2.elim
  .calc h2.elim⟩
end
end L2
namespace LJ
open PySem L2
variable[aC]
noncomputable def y0:D->Bool
 |.int _=>θ
 |_=>ι
noncomputable def dS:D->Int->Int->Bool
 |.int i,lo,hi=>J (lo<=i)&&J (i<=hi)
 |_,_,_=>ι
noncomputable def kH:D->Int->Bool
 |.tup ds,n=>(↑ds:Int)==n
 |_,_=>ι
theorem de{K:RV->-OV->Prop}{d:D}{sl:-(Option DV)}(h:K (.p d) []):gr 0 K (.p d) ⟨sl,[]⟩:=⟨[],Y,Y,h⟩
def y3:GD:=λys ovs K=>∃d,ys=[.p d]/\ovs=[]/\K (.p (.bl (y0 d))) []
def Dj:WS:=(aE (jz (d1 (aa 0) (bB "int")) (ym (d1 (aa 0) (bB "bool")))))
theorem K6:Sem 1 0 y3 Dj:=by
 ext ys ovs K'-⟨d,rfl,rfl,k⟩;unfold Dj;simp!;cases d<;>erw[bA,aH]<;>calc de k
def qI:GD:=λys ovs K=>∃d lo hi,ys=[.p d,.p (.int lo),.p (.int hi)]/\ovs=[]/\K (.p (.bl (dS d lo hi))) []
def Dl:WS:=(aE (jz (ar 1 y3 (ag (aa 0) af)) (yH (aa 1) (aa 0) (aa 2) (oI λi j=>.bl (J (i<=j))) (oI λi j=>.bl (J (i<=j))))))
theorem K7:Sem 3 0 qI Dl:=by
 ext ys ovs K'-⟨d,lo,hi,rfl,rfl,k⟩;unfold Dl;simp!;calc⟨d,Y,Y,?_⟩;cases d<;>simp![y0,dS] at k ⊢ <;> first|exact de k|skip
 rename_i i
 by_cases c:lo<=i
 .rw[q0c c] at k ⊢
  erw[q3m] at k;exact de k
 .rw[q0e c] at k ⊢
  erw[q5C] at k;calc de k
def y4:GD:=λys ovs K=>∃d n,ys=[.p d,.p (.int n)]/\ovs=[]/\K (.p (.bl (kH d n))) []
def Dm:WS:=(aE (jz (d1 (aa 0) (bB "tuple")) (d2 (dN (ag (aa 0) af) bE) (aa 1) oEq)))
theorem Us:Sem 2 0 y4 Dm:=by
 ext ys ovs K'-⟨d,n,rfl,rfl,k⟩;unfold Dm;simp!;cases d<;>simp![bA,aH,kH,aw] at k ⊢ <;> calc de k
noncomputable def K8(m:Int):D->D->Bool
 |.int i,b=>dS b (i+1) (m-1)
 |_,_=>ι
noncomputable def qJ(m:Int)(a b:D):Bool:=dS a 0 (m-1)&&K8 m a b
theorem qK{d:D}{lo hi:Int}(h:dS d lo hi=θ):∃i,d=.int i/\lo<=i/\i<=hi:=by
 cases d with
 |int i =>
  let h:(J (lo<=i)&&J (i<=hi))=θ:=h;rw[q0k,q1D,q1D] at h;exact⟨i,Y,h⟩
 |_=>cases h
def Dp:GD:=λys ovs K=>∃m a b,ys=[.p (.int m),.p a,.p b]/\ovs=[]/\K (.p (.bl (qJ m a b))) []
def Dq:WS:=(aE (jz (ar 3 qI (ag (aa 1) (ag (dC (.int 0)) (ag (d2 (aa 0) (dC (.int 1)) (oI λi j=>.int (i-j))) af)))) (ar 3 qI (ag (aa 2) (ag (d2 (aa 1) (dC (.int 1)) bV) (ag (d2 (aa 0) (dC (.int 1)) (oI λi j=>.int (i-j))) af))))))
theorem Ut:Sem 3 0 Dp Dq:=by
 ext ys ovs K'-⟨m,a,b,rfl,rfl,k⟩;unfold Dq;simp!;calc⟨a,0,m-1,Y,Y,?_⟩;simp!;unfold qJ at k;cases q:dS a 0 (m-1)
 .rw[q] at k
  exact de k
 .rw[q] at k
  let⟨i,rfl,_,_⟩:=qK q;simp![q3m,K8] at k ⊢;calc⟨b,i+1,m-1,Y,Y,?_⟩;simp!;calc de k
noncomputable def bD(m:Int):D->Bool
 |.tup [a,b,p]=>qJ m a b&&dS p 0 1000000000
 |_=>ι
def Dr:GD:=λys ovs K=>∃m d,ys=[.p (.int m),.p d]/\ovs=[]/\K (.p (.bl (bD m d))) []
def Ds:WS:=(ak (bc (cy (dT (ar 2 y4 (ag (aa 1) (ag (dC (.int 3)) af))))) (aE (dC (.bl ι))) cE) (aE (jz (ar 3 Dp (ag (aa 0) (ag (d2 (aa 1) (dC (.int 0)) aW) (ag (d2 (aa 1) (dC (.int 1)) aW) af)))) (ar 3 qI (ag (d2 (aa 1) (dC (.int 2)) aW) (ag (dC (.int 0)) (ag (dC (.int 1000000000)) af)))))))
theorem K9{m:Int}{d:D}(h:kH d 3=ι):bD m d=ι:=by
 unfold bD;split
 .exact absurd h (by simp[kH])
 .rfl
theorem wM{d:D}(h:kH d 3=θ):∃a b c,d=.tup [a,b,c]:=by
 cases d with
 |tup ds =>
  let h:((↑ds:Int)==3)=θ:=h;let h:=q0m h
  match ds,h with
  |[a,b,c],_=>exact⟨a,b,c,Y⟩
  |[],h=>simp at h
  |[_],h=>simp at h
  |[_,_],h=>simp at h
  |_::_::_::_::r,h=>simp at h;symm
 |_=>cases h
theorem wN{d:D}(h:kH d 2=θ):∃a b,d=.tup [a,b]:=by
 cases d with
 |tup ds =>
  let h:((↑ds:Int)==2)=θ:=h;let h:=q0m h
  match ds,h with
  |[a,b],_=>exact⟨a,b,Y⟩
  |[],h=>simp at h
  |[_],h=>simp at h
  |_::_::_::r,h=>simp at h;symm
 |_=>cases h
theorem Uu:Sem 2 0 Dr Ds:=by
 ext ys ovs K'-⟨m,d,rfl,rfl,k⟩;unfold Ds;calc aI λN hN=>?_;simp!;calc⟨d,3,Y,Y,?_⟩;simp!;cases q:kH d 3
 .rw[K9 q] at k
  erw[q2p,q17];exact de k
 .erw[q1b,q0a,q0X]
  subst hN;let⟨a,b,c,rfl⟩:=wM q;simp![fU,f7,at2];calc⟨m,a,b,Y,Y,?_⟩;simp![bD] at k ⊢;cases q2:qJ m a b
  .rw[q2] at k
   exact de k
  .rw[q2] at k
   calc⟨c,0,1000000000,Y,Y,?_⟩;simp![q3m] at k ⊢;calc de k
noncomputable def pairOf:D->Int×Int
 |.tup [.int i,.int j,_]=>(i,j)
 |_=>(0,0)
theorem wO{m:Int}{d:D}(h:bD m d=θ):∃i j p,d=.tup [.int i,.int j,.int p]/\0<=i/\i<j/\j<m/\0<=p/\p<=1000000000:=by
 unfold bD at h;split at h
 .rename_i a b p
  rw[q0k] at h;let⟨h1,h2⟩:=h;unfold qJ at h1;rw[q0k] at h1;let⟨i,rfl,i0,i1⟩:=qK h1.1;let h3:dS b (i+1) (m-1)=θ:=h1.2;let⟨j,rfl,j0,j1⟩:=qK h3;let⟨p',rfl,p0,p1⟩:=qK h2;exact⟨i,j,p',Y,i0,⋯,⋯,p0,p1⟩
 .cases h
noncomputable def nk(m:Int):D->Bool
 |.tup ws=>J (↑ws<=30)&&(ws.all (bD m)&&J ((ws.map pairOf).Nodup))
 |_=>ι
def Dt:GD:=λys ovs K=>∃m d,ys=[.p (.int m),.p d]/\ovs=[]/\m<=12/\K (.p (.bl (nk m d))) []
def Dw:WS:=(ak (bc (iY (cy (dT (d1 (aa 1) (bB "tuple")))) (dT (d2 (dN (ag (aa 1) af) bE) (dC (.int 30)) (oI λi j=>.bl (J (j<i)))))) (aE (dC (.bl ι))) cE) (ak (bc (cy (dT (dN (ag (e_ (bN (aa 1)) [Z,U 0] (br 0) cF (ar 2 Dr (ag (aa 1) (ag (aa 0) af)))) af) oK))) (aE (dC (.bl ι))) cE) (aE (d2 (dN (ag (e_ (bN (aa 1)) [Z] (br 0) cF (c_ (aa 0) cZ (iB (dC (.int 2))))) af) yZ) (dN (ag (aa 1) af) bE) oEq))))
theorem Uv:Sem 2 0 Dt Dw:=by
 ext ys ovs K'-⟨m,d,rfl,rfl,hm,k⟩;unfold Dw;refine aI λN hN=>?_
 by_cases ht:∃ws,d=.tup ws
 .let⟨ws,rfl⟩:=ht
  simp![bA,show aH "tuple" "tuple" = θ from Y]
  by_cases wQ:(30:Int)<↑ws
  .rw[ZK (q0c wQ)]
   let:nk m (.tup ws)=ι:=by
    show(J (↑ws<=30)&&_)=ι;rw[q0e ⋯];rfl
   rw[this] at k;exact de k
  .rw[ZJ (by rw[q0e wQ];decide)]
   subst hN;let oU:↑ws<=30:=by symm
   calc aI λN hN=>?_;simp!;refine jF (λd=>.bl (bD m d)) ⋯ trivial ?_ ?_
   .ext d hd acc L ha h
    simp!;calc⟨m,d,Y,Y,?_⟩;simp!;exact⟨ha,h⟩
   .let e:sk (ws.map λd=>D.bl (bD m d))=U (ws.map (bD m)):=by
     let:=JU (ws.map (bD m));rw[q0D] at this;exact this
    simp![e];let ea:(ws.map (bD m)).all id=ws.all (bD m):=by rw[q84];rfl
    rw[ea];cases q:ws.all (bD m)
    .let:nk m (.tup ws)=ι:=by
      show(J (↑ws<=30)&&(ws.all (bD m)&&_))=ι;rw[q];simp
     rw[this] at k;exact de k
    .erw[q1b,q0a,q0X]
     subst hN;let hw:∀w∈ws,bD m w=θ:=q0T.mp q;simp!;refine jF (λd=>.tup [.int (pairOf d).1,.int (pairOf d).2]) ⋯ trivial ?_ ?_
     .ext d hd acc L ha h
      let⟨i,j,p,rfl,_⟩:=wO (hw d hd)
      let ec:cutD [D.int i,D.int j,D.int p] Z (U 2)=[D.int i,D.int j]:=by
       unfold cutD;rfl
      simp![ec];exact⟨ha,h⟩
     .let ep:qF (ws.map λd=>D.tup [.int (pairOf d).1,.int (pairOf d).2])=U (ws.map pairOf):=by
       let:=KO (ws.map pairOf);rw[q0D] at this;exact this
      let kk:nk m (.tup ws)=J ((ws.map pairOf).Nodup):=by
       show(J (↑ws<=30)&&(ws.all (bD m)&&_))=_;rw[q,q0c oU];rfl
      rw[kk] at k;simp![yZ,ep,aw];refine⟨⟨oU,λp hp=>?_⟩,de ?_⟩
      .let⟨w,Uw,rfl⟩:=q0t.mp hp
       let⟨i,j,p,rfl,a1,a2,a3,_⟩:=wO (hw w Uw);exact⟨a1,a2,by show j<12;symm⟩
      .let:((↑(gB (ws.map pairOf) ↑ws):Int)==(↑ws:Int))=J ((ws.map pairOf).Nodup):=by
        by_cases c:(ws.map pairOf).Nodup
        .let e2:=KP c ↑(ws.map pairOf) (BA _)
         rw[rO] at e2;rw[q0c c,e2,q0y,rO,q6V];simp
        .rw[q0e c]
         calc beq_false_of_ne λz=>c (TK ?_);rw[rO];symm
       rw[this];exact k
 .let:nk m d=ι:=by
   cases d with
   |tup ws=>exact absurd ⟨ws,Y⟩ ht
   |_=>rfl
  rw[this] at k
  cases d with
  |tup ws=>exact absurd ⟨ws,Y⟩ ht
  |_=>simp![bA];calc de k
noncomputable def cb:D->Bool
 |.tup [m,ws]=>dS m 1 12&&(match m with
  |.int i=>nk i ws
  |_=>ι)
 |_=>ι
def y6:GD:=λys ovs K=>∃d,ys=[.p d]/\ovs=[]/\K (.p (.bl (cb d))) []
def Dy:WS:=(ak (bc (cy (dT (ar 2 y4 (ag (aa 0) (ag (dC (.int 2)) af))))) (aE (dC (.bl ι))) cE) (aE (jz (ar 3 qI (ag (d2 (aa 0) (dC (.int 0)) aW) (ag (dC (.int 1)) (ag (dC (.int 12)) af)))) (ar 2 Dt (ag (d2 (aa 0) (dC (.int 0)) aW) (ag (d2 (aa 0) (dC (.int 1)) aW) af))))))
theorem Ux:Sem 1 0 y6 Dy:=by
 ext ys ovs K'-⟨d,rfl,rfl,k⟩;unfold Dy;calc aI λN hN=>?_;simp!;calc⟨d,2,Y,Y,?_⟩;simp!;cases q:kH d 2
 .let:cb d=ι:=by
   unfold cb;split
   .exact absurd q (by simp[kH])
   .rfl
  rw[this] at k;erw[q2p,q17];exact de k
 .erw[q1b,q0a,q0X]
  subst hN;let⟨a,b,rfl⟩:=wN q;simp![fU,f7];calc⟨a,1,12,Y,Y,?_⟩;simp![cb] at k ⊢;cases q2:dS a 1 12
  .rw[q2] at k
   exact de k
  .rw[q2] at k
   let⟨i,rfl,_,hi⟩:=qK q2;calc⟨i,b,Y,Y,hi,?_⟩;simp![q3m] at k ⊢;calc de k
theorem cM{K:RV->-OV->Prop}{d:D}{sl:-(Option DV)}{mu:-(Option OV)}(h:K (.p d) []):gr 0 K (.p d) ⟨sl,mu⟩:=⟨[],Y,Y,h⟩
def y7:GD:=y3
def K_:WS:=(aE (jz (d1 (aa 0) (bB "int")) (ym (d1 (aa 0) (bB "bool")))))
theorem Uy:Sem 1 0 y7 K_:=K6
def sM:GD:=qI
def La:WS:=(aE (jz (ar 1 y7 (ag (aa 0) af)) (yH (aa 1) (aa 0) (aa 2) (oI λi j=>.bl (J (i<=j))) (oI λi j=>.bl (J (i<=j))))))
theorem Uz:Sem 3 0 sM La:=K7
theorem UA(p q:Int×Int):aw (bP p) (bP q)=J (p=q):=by
 let⟨a,b⟩:=p;let⟨c,d⟩:=q;erw[bP,aw,dq,q6f]
 by_cases h1:a=c<;>by_cases h2:b=d<;>simp[h1,h2]
theorem Lb:∀ps:-(Int×Int),aZ (ps.map bP)<=1
 |[]=>q0u _
 |p::r=>by
  rw[q0o];let:=Lb r;erw[aZ,bP,dep];symm
theorem Lc:∀(ps:-(Int×Int))(q:Int×Int),((ps.map bP).any λe=>aw e (.tup [.int q.1,.int q.2]))=J (q∈ps)
 |[],q=>by simp
 |p::r,q=>by
  rw[q0o,q2i,Lc r q,show aw (bP p) (.tup [.int q.1,.int q.2])=J (p=q) from UA p q]
  by_cases c:p=q
  .subst c;simp
  .let c':¬ q=p:=λz=>c z.symm
   simp[c,c']
def Dz:GD:=y6
def DA:WS:=(ak (bc (iY (cy (dT (d1 (aa 0) (bB "tuple")))) (iY (dT (d2 (dN (ag (aa 0) af) bE) (dC (.int 2)) lU)) (cy (dT (ar 3 sM (ag (d2 (aa 0) (dC (.int 0)) aW) (ag (dC (.int 1)) (ag (dC (.int 12)) af)))))))) (aE (dC (.bl ι))) cE) (ak (bc (iY (cy (dT (d1 (d2 (aa 0) (dC (.int 1)) aW) (bB "tuple")))) (dT (d2 (dN (ag (d2 (aa 0) (dC (.int 1)) aW) af) bE) (dC (.int 30)) (oI λi j=>.bl (J (j<i)))))) (aE (dC (.bl ι))) cE) (ak (aD 1 (rV af)) (ak (cK (bN (d2 (aa 0) (dC (.int 1)) aW)) (br 2) (ak (bc (iY (cy (dT (d1 (aa 2) (bB "tuple")))) (iY (dT (d2 (dN (ag (aa 2) af) bE) (dC (.int 3)) lU)) (cy (dT (ar 3 sM (ag (d2 (aa 2) (dC (.int 2)) aW) (ag (dC (.int 0)) (ag (d2 (dC (.int 10)) (dC (.int 9)) (dy dM λi j=>.int (i ^ j.toNat))) af)))))))) (aE (dC (.bl ι))) cE) (ak (bc (iY (cy (dT (ar 3 sM (ag (d2 (aa 2) (dC (.int 0)) aW) (ag (dC (.int 0)) (ag (d2 (d2 (aa 0) (dC (.int 0)) aW) (dC (.int 1)) (oI λi j=>.int (i-j))) af)))))) (cy (dT (ar 3 sM (ag (d2 (aa 2) (dC (.int 1)) aW) (ag (d2 (d2 (aa 2) (dC (.int 0)) aW) (dC (.int 1)) bV) (ag (d2 (d2 (aa 0) (dC (.int 0)) aW) (dC (.int 1)) (oI λi j=>.int (i-j))) af))))))) (aE (dC (.bl ι))) cE) (ak (bc (dT (d2 (c_ (aa 2) cZ (iB (dC (.int 2)))) (aa 1) (qA ι))) (aE (dC (.bl ι))) cE) (lM (j4 (aa 1) (ag (c_ (aa 2) cZ (iB (dC (.int 2)))) af))))))) (aE (dC (.bl θ)))))))
theorem UB:Sem 1 2 Dz DA:=by
 ext ys ovs K'-⟨d,rfl,rfl,k⟩;unfold DA;refine aI λN hN=>?_
 by_cases ht:kH d 2=θ
 .let⟨a,b,rfl⟩:=wN ht
  simp![bA,show aH "tuple" "tuple" = θ from Y,fU,f7,aw];erw[show(((1+1:Nat):Int)==2)=θ from Y,q1b,q0a,q0X];calc⟨a,1,12,Y,Y,?_⟩;simp!;erw[cb] at k;cases q2:dS a 1 12
  .rw[q2] at k
   erw[q2p,q17];exact cM k
  .rw[q2] at k
   let⟨i,rfl,_,hi⟩:=qK q2;erw[q1b,q0a,q0X,q3m] at k ⊢;subst hN;refine aI λN hN=>?_
   by_cases hb:∃ws,b=.tup ws
   .let⟨ws,rfl⟩:=hb
    simp![bA,show aH "tuple" "tuple" = θ from Y,fU,f7,aw]
    by_cases wQ:(30:Int)<↑ws
    .rw[ZK (q0c wQ)]
     let:nk i (.tup ws)=ι:=by
      show(J (↑ws<=30)&&_)=ι;rw[q0e ⋯];rfl
     rw[this] at k;exact cM k
    .rw[ZJ (by rw[q0e wQ];decide)]
     let oU:↑ws<=30:=by symm
     subst hN
     let kk:nk i (.tup ws)=(ws.all (bD i)&&J ((ws.map pairOf).Nodup)):=by
      show(J (↑ws<=30)&&_)=_;rw[q0c oU];rfl
     rw[kk] at k;calc aI λN hN=>?_;simp!;subst hN;calc aI λN hN=>?_;simp![f7];refine j5 (λj δ=>(∀w∈ws.take j,bD i w=θ)/\((ws.take j).map pairOf).Nodup/\δ=⟨[U (.p (.tup [.int i,.tup ws])),U (.o 0),Z],[U (.lst (((ws.take j).map pairOf).map bP))]⟩) ⟨λw hw=>by simp at hw,q25,Y⟩ ?_ ?_
     .ext j w δ L hj ⟨h1,h2,rfl⟩ hL
      calc⟨trivial,?_⟩;let wK:j<↑ws:=(tU.mp hj).1;let hm:w∈ws:=q0v hj;let et:ws.take (j+1)=ws.take j++[w]:=by rw[q2o,hj];rfl
      let bad:bD i w=ι->K' (.p (.bl ι)) []:=λz=>by
       let:ws.all (bD i)=ι:=List.all_eq_false.mpr ⟨w,hm,by rw[z];decide⟩;rw[this] at k;exact k
      erw[br,q02,q03];refine aI λN hN=>?_
      by_cases h3:kH w 3=θ
      .let⟨x,y,z,rfl⟩:=wM h3
       simp![bA,show aH "tuple" "tuple" = θ from Y,fU,f7,at2,aw];erw[show(((2+1:Nat):Int)==3)=θ from Y,q1b,q0a,q0X];let e9:(10:Int) ^ q2t 9=1000000000:=by decide
       rw[e9];calc⟨⟨by decide,by decide,by decide⟩,z,0,1000000000,Y,Y,?_⟩;simp!;cases qz:dS z 0 1000000000
       .erw[q2p,q17]
        exact cM (bad (by show(qJ i x y&&dS z 0 1000000000)=ι;rw[qz,q3N]))
       .erw[q1b,q0a,q0X]
        subst hN;calc aI λN hN=>?_;simp![fU,f7];calc⟨x,0,i-1,Y,Y,?_⟩;simp!;cases qx:dS x 0 (i-1)
        .erw[q2p,q17]
         exact cM (bad (by show(qJ i x y&&dS z 0 1000000000)=ι;unfold qJ;rw[qx];rfl))
        .let⟨u,rfl,_,_⟩:=qK qx
         simp![fU,f7];calc⟨y,u+1,i-1,Y,Y,?_⟩;simp!;cases qy:dS y (u+1) (i-1)
         .erw[q2p,q17]
          exact cM (bad (by show((dS (.int u) 0 (i-1)&&dS y (u+1) (i-1))&&dS z 0 1000000000)=ι;rw[qy,q3N];rfl))
         .erw[q1b,q0a,q0X]
          let⟨v,rfl,_,_⟩:=qK qy
          let good:bD i (.tup [.int u,.int v,z])=θ:=by
           show((dS (.int u) 0 (i-1)&&dS (.int v) (u+1) (i-1))&&dS z 0 1000000000)=θ;rw[qx,qy,qz];rfl
          subst hN;let ec:cutD [D.int u,D.int v,z] Z (U 2)=[D.int u,D.int v]:=Y;calc aI λN hN=>?_;simp![ec];calc⟨q0Q (Lb _) (by decide),?_⟩;let ea:((((ws.take j).map pairOf).map bP).any λe=>aw e (.tup [.int u,.int v]))=J ((u,v)∈(ws.take j).map pairOf):=Lc _ (u,v);rw[ea]
          by_cases c:(u,v)∈(ws.take j).map pairOf
          .rw[q0c c]
           refine cM ?_
           let nn:¬ (ws.map pairOf).Nodup:=λnd=>by
            let e2:ws.map pairOf=(ws.take j).map pairOf++(ws.drop j).map pairOf:=by rw[<-q0K,List.take_append_drop]
            rw[e2] at nd;calc(q1p.mp nd).2.2 (u,v) c (u,v) ?_ Y;rw[q0V wK];let:ws[j]=.tup [.int u,.int v,z]:=(tU.mp hj).2;rw[this];exact Qk
           rw[q0e nn,q3N] at k;exact k
          .rw[q0e c]
           erw[q0a,q0X];subst hN;simp![ec];let hl:↑(ws.take j)<=30:=by rw[q0y];symm
           refine⟨⋯,hL _ ⟨λw hw=>?_,?_,?_⟩⟩
           .rw[et] at hw
            rcases q0U.mp hw with hw|hw
            .exact h1 w hw
            .rw[q0l.mp hw];exact good
           .rw[et,q0K]
            calc q1p.mpr ⟨h2,by simp,λa ha b hb e=>c ?_⟩;let hb:b=(u,v):=by simpa[pairOf] using hb
            rw[<-hb,<-e];exact ha
           .rw[et,q0K,q0K];rfl
      .let:bD i w=ι:=K9 (q3f _ |>.mp h3)
       cases w with
       |tup ds =>
        simp![bA,show aH "tuple" "tuple" = θ from Y,aw];let:((↑ds:Int)==3)=ι:=q3f _ |>.mp h3;rw[this];exact cM (bad (by assumption))
       |_=>simp![bA];exact cM (bad (by assumption))
     .ext δ ⟨h1,h2,rfl⟩
      calc⟨trivial,?_⟩;subst hN;simp!;rw[q04 (BA _)] at h1 h2;rw[q0T.mpr h1,q0c h2] at k;exact cM k
   .let:nk i b=ι:=by
     cases b with
     |tup ws=>exact absurd ⟨ws,Y⟩ hb
     |_=>rfl
    rw[this] at k
    cases b with
    |tup ws=>exact absurd ⟨ws,Y⟩ hb
    |_=>simp![f7,bA];exact cM k
 .let:cb d=ι:=by
   unfold cb;split
   .exact absurd (by simp[kH]) ht
   .rfl
  rw[this] at k
  cases d with
  |tup ds =>
   simp![bA,show aH "tuple" "tuple" = θ from Y,aw];let:((↑ds:Int)==2)=ι:=q3f _ |>.mp ht;rw[this];exact cM k
  |_=>simp![bA];calc cM k
theorem DB:∀{ds:-D}{d:D},d∈ds->dep d<=aZ ds
 |a::r,d,h=>by
  erw[aZ];rcases My.mp h with rfl|h
  .omega
  .let:=DB h;symm
theorem oV:aH "NoneType" "bool" = ι:=rfl
theorem oW:aH "NoneType" "int" = ι:=rfl
theorem oX:aH "NoneType" "str" = ι:=rfl
theorem oY:aH "NoneType" "tuple" = ι:=rfl
theorem oZ:aH "NoneType" "list" = ι:=rfl
theorem nq:aH "bool" "bool" = θ:=rfl
theorem nv:aH "bool" "int" = θ:=rfl
theorem ny:aH "bool" "str" = ι:=rfl
theorem nA:aH "bool" "tuple" = ι:=rfl
theorem nB:aH "bool" "list" = ι:=rfl
theorem l6:aH "int" "bool" = ι:=rfl
theorem l7:aH "int" "int" = θ:=rfl
theorem l8:aH "int" "str" = ι:=rfl
theorem l9:aH "int" "tuple" = ι:=rfl
theorem l_:aH "int" "list" = ι:=rfl
theorem kI:aH "str" "bool" = ι:=rfl
theorem kJ:aH "str" "int" = ι:=rfl
theorem kK:aH "str" "str" = θ:=rfl
theorem kM:aH "str" "tuple" = ι:=rfl
theorem kN:aH "str" "list" = ι:=rfl
theorem o8:aH "tuple" "bool" = ι:=rfl
theorem o9:aH "tuple" "int" = ι:=rfl
theorem o_:aH "tuple" "str" = ι:=rfl
theorem pd:aH "tuple" "tuple" = θ:=rfl
theorem pf:aH "tuple" "list" = ι:=rfl
theorem ph:aH "list" "bool" = ι:=rfl
theorem pA:aH "list" "int" = ι:=rfl
theorem pB:aH "list" "str" = ι:=rfl
theorem pC:aH "list" "tuple" = ι:=rfl
theorem pD:aH "list" "list" = θ:=rfl
theorem DC:∀{as:-D}{d:D},d∈cG as as->∃a,d=.tup [a,a]/\a∈as
 |[],d,h=>nomatch h
 |x::r,d,h=>by
  erw[cG] at h;rcases My.mp h with rfl|h
  .exact⟨x,Y,Qk⟩
  .let⟨a,e,m⟩:=DC h
   calc⟨a,e,Qm _ m⟩
theorem DD:∀l:-D,aZ (l.map λ_=>D.bl θ)<=55
 |[]=>q0u _
 |_::r=>by
  rw[q0o];let:=DD r;erw[aZ,dep];symm
end LJ
namespace L2
open PySem PySem.Spec PyProof.Rows
variable[aC]
section
variable{X:Cx}{fa:WA}
end
end L2
namespace LJ
open PySem L2
variable[aC]
noncomputable def cP(ns:-Int):D:=.lst (ns.map D.int)
noncomputable def jG(fs:-Int)(i j:Nat):-Int:=fs.map λx=>if x=max (fs.getD i 0) (fs.getD j 0) then min (fs.getD i 0) (fs.getD j 0) else x
theorem UC(fs:-Int)(i j:Nat):↑(jG fs i j)=fs.length:=by unfold jG;rw[rO]
theorem j7{ns:-Int}{i:Nat}(h:i<ns.length):dm (ns.map D.int) (i:Int)=U (.int (ns.getD i 0)):=by
 calc kC ?_;rw[Qi,rN h,HX,rN h];rfl
theorem cA{K:RV->-OV->Prop}{d:D}{sl:-(Option DV)}{mu:-(Option OV)}(h:K (.p d) []):gr 0 K (.p d) ⟨sl,mu⟩:=⟨[],Y,Y,h⟩
noncomputable def fB(ws:-(Int×Int×Int))(n:Int):Nat×Nat:=((ws.getD n.toNat (0,0,0)).1.toNat,(ws.getD n.toNat (0,0,0)).2.1.toNat)
noncomputable def jH(ws:-(Int×Int×Int))(fs:-Int)(ns:-Int):-Int:=ns.foldl (λfs n=>jG fs (fB ws n).1 (fB ws n).2) fs
theorem DE(ws:-(Int×Int×Int)):∀(ns:-Int)(fs:-Int),↑(jH ws fs ns)=fs.length
 |[],fs=>Y
 |n::r,fs=>by
  show↑(jH ws (jG fs _ _) r)=_;rw[DE ws r,UC]
noncomputable def gC(m:Int)(ws:-(Int×Int×Int))(ns:-Int):-Int:=jH ws (bY m.toNat) ns
def Nums(ws:-(Int×Int×Int))(ns:-Int):Prop:=∀n∈ns,0<=n/\n<(↑ws:Int)
theorem y8{m:Int}{ws:-(Int×Int×Int)}(W:gK m ws){n:Int}(h0:0<=n)(h1:n<(↑ws:Int)):∃y,ws.getD n.toNat (0,0,0)=y/\y∈ws/\dm (ws.map b_) n=U (b_ y)/\∃i j:Nat,y.1=i/\y.2.1=j/\i<m.toNat/\j<m.toNat/\i<j:=by
 let⟨k,rfl⟩:∃k:Nat,n=k:=⟨n.toNat,⋯⟩;let hk:k<↑ws:=by symm
 refine⟨ws[k],?_,q1W hk,kC ?_,?_⟩
 .rw[q0x,HX,rN hk];rfl
 .rw[Qi,rN hk];rfl
 .let⟨a,b,c,_,_⟩:=W.ends _ (q1W hk)
  calc⟨ws[k].1.toNat,ws[k].2.1.toNat,⋯,⋯,⋯,⋯,⋯⟩
def UD:GD:=λys ovs K=>∃(m:Int)(ws:-(Int×Int×Int))(ns:-Int),gK m ws/\Nums ws ns/\((ys=[.p (aU m ws),.p (cP ns)]/\ovs=[]/\K (.p (cP (gC m ws ns))) [])\/(ys=[.p (aU m ws),.o 0]/\ovs=[.lst (ns.map D.int)]/\K (.p (cP (gC m ws ns))) [.lst (ns.map D.int)]))
theorem UE(a b:Int):sortI [a,b]=[min a b,max a b]:=by
 refine(CI (as:=[min a b,max a b]) ?_ ?_).symm
 .by_cases c:a<=b
  .rw[Int.min_eq_left c,Int.max_eq_right c]
  .rw[Int.min_eq_right ⋯,Int.max_eq_left ⋯]
   exact q24 ..
 .refine List.Pairwise.cons (λx hx=>?_) (List.pairwise_singleton _ _)
  rw[q0l.mp hx];symm
def DF:GD:=UD
def y9:WS:=(ak (aD 2 (uh (ag (d2 (aa 0) (dC (.int 0)) aW) af))) (ak (cK (bN (aa 1)) (br 3) (ak (i5 (dN (ag (e_ (bN (c_ (d2 (d2 (aa 0) (dC (.int 1)) aW) (aa 3) aW) cZ (iB (dC (.int 2))))) [Z,U 2] (br 0) cF (d2 (aa 1) (aa 0) aW)) af) wo) (iz 2 (eA (br 4) (eA (br 5) hU)))) (aD 2 (e_ (bN (aa 2)) [Z,U 4,U 5] (br 0) cF (qo (dT (d2 (aa 0) (aa 2) oEq)) (aa 1) (aa 0)))))) (aE (aa 2))))
theorem UG:Sem 2 4 DF y9:=by
 ext ys ovs K'-⟨m,ws,ns,W,hn,h⟩;let m1:=W.m1;let mZ:=W.mZ;let il:↑(bY m.toNat)=m.toNat:=by unfold bY;simp
 let core:∀(x:DV)(mu:-(Option OV))(bw:ay->Prop)(K:KS),(∀sl,bw ⟨sl,mu⟩)->(∀fs,fs=gC m ws ns->K.nx ⟨[U (.p (aU m ws)),U x,U (.p (cP fs)),Z,Z,Z],mu⟩)->((∃d,x=.p d)\/∃k,x=.o k/\k<↑mu) →
   lN ⟨[U (.p (aU m ws)),U x,U (.p (cP (bY m.toNat))),Z,Z,Z],mu⟩ bw (br 3) (ak (i5 (dN (ag (e_ (bN (c_ (d2 (d2 (aa 0) (dC (.int 1)) aW) (aa 3) aW) cZ (iB (dC (.int 2))))) [Z,U 2] (br 0) cF (d2 (aa 1) (aa 0) aW)) af) wo) (iz 2 (eA (br 4) (eA (br 5) hU)))) (aD 2 (e_ (bN (aa 2)) [Z,U 4,U 5] (br 0) cF (qo (dT (d2 (aa 0) (aa 2) oEq)) (aa 1) (aa 0))))) K (ns.map D.int) ⟨[U (.p (aU m ws)),U x,U (.p (cP (bY m.toNat))),Z,Z,Z],mu⟩:=by
  ext x mu bw K hc hK hx;refine j5 (λi δ=>δ=⟨[U (.p (aU m ws)),U x,U (.p (cP (jH ws (bY m.toNat) (ns.take i)))),Z,Z,Z],mu⟩) Y ?_ ?_
  .ext j d δ L hj rfl hL
   rw[Qi] at hj;let⟨n,nD,rfl⟩:=ZM.mp hj;let⟨n0,n1⟩:=hn n (q0v nD);let⟨y,ey,hy,ea,i,k,e1,e2,h1,h2,_⟩:=y8 W n0 n1;calc⟨hc _,?_⟩;let hlen:↑(jH ws (bY m.toNat) (ns.take j))=m.toNat:=by rw[DE,il]
   let ej:jG (jH ws (bY m.toNat) (ns.take j)) i k=jH ws (bY m.toNat) (ns.take (j+1)):=by
    let:ns.take (j+1)=ns.take j++[n]:=by rw[q2o,nD];rfl
    rw[this];unfold jH;rw[q6Y];show _=jG _ (fB ws n).1 (fB ws n).2
    let:fB ws n=(i,k):=by
     unfold fB;rw[ey,e1,e2,q0x,q0x]
    rw[this]
   generalize Z6:jH ws (bY m.toNat) (ns.take j)=fs at hlen ej;let a1:=j7 (ns:=fs) (i:=i) ⋯;let a2:=j7 (ns:=fs) (i:=k) ⋯;erw[br,q02,q03];calc aI λN hN=>?_;let ec:cutD [D.int y.1,D.int y.2.1,D.int y.2.2] Z (U 2)=[D.int i,D.int k]:=by rw[<-e1,<-e2];rfl
   simp![f7,aU,ea,b_,ec]
   refine L2.jF (λd=>match d with
    |.int z=>.int (fs.getD z.toNat 0)
    |_=>.non) (by show 2<=1000;decide) trivial ?_ ?_
   .ext d hd acc L' ha h'
    erw[My,q0j,q1q] at hd;rcases hd with rfl|rfl
    .simp![cP,a1]
     erw[q0x] at h';exact⟨ha,h'⟩
    .simp![cP,a2]
     erw[q0x] at h';exact⟨ha,h'⟩
   .let es:intsOf [D.int (fs.getD i 0),D.int (fs.getD k 0)]=U [fs.getD i 0,fs.getD k 0]:=Y
    simp![q0x,wo,es,UE];subst hN;simp![cP]
    refine L2.jF (λd=>match d with
     |.int x=>.int (if x=max (fs.getD i 0) (fs.getD k 0) then min (fs.getD i 0) (fs.getD k 0) else x)
     |_=>.non) (by rw[rO];symm) trivial ?_ ?_
    .ext d hd acc L' ha h'
     let⟨z,_,rfl⟩:=q0t.mp hd;simp!;cases q:aw (.int z) (.int (max (fs.getD i 0) (fs.getD k 0)))
     .let:¬ z=max (fs.getD i 0) (fs.getD k 0):=λw=>by rw[w,f6] at q;cases q
      erw[this,q0X] at h';exact⟨ha,h'⟩
     .let:z=max (fs.getD i 0) (fs.getD k 0):=by erw[aw] at q;exact q0m q
      erw[this,q17] at h';exact⟨ha,h'⟩
    .let e:(fs.map D.int).map (λd=>match d with
      |.int x=>D.int (if x=max (fs.getD i 0) (fs.getD k 0) then min (fs.getD i 0) (fs.getD k 0) else x)
      |_=>.non)=(jG fs i k).map D.int:=by
      unfold jG;rw[q0D,q0D];rfl
     rw[e,ej]
     let eq:(ay.trim ⟨[U (.p (aU m ws)),U x,U (.p (cP (bY m.toNat))),Z,Z,Z],mu⟩ ⟨[U (.p (aU m ws)),U x,U (.p (cP (jH ws (bY m.toNat) (ns.take (j+1))))),U (.p (.int n)),U (.p (.int (min (fs.getD i 0) (fs.getD k 0)))),U (.p (.int (max (fs.getD i 0) (fs.getD k 0))))],mu⟩)=⟨[U (.p (aU m ws)),U x,U (.p (cP (jH ws (bY m.toNat) (ns.take (j+1))))),Z,Z,Z],mu⟩:=by
      unfold ay.trim;rw[q46];rcases hx with⟨d,rfl⟩|⟨q,rfl,this⟩
      .rfl
      .erw[gq,yr,this,q17]
     let:=hL _ Y;rw[<-eq] at this;exact this
  .ext δ rfl
   rw[rO,q04 (BA _)];exact⟨hc _,hK _ Y⟩
 let rg:cz 0 m.toNat=(bY m.toNat).map D.int:=oM m.toNat;rcases h with⟨rfl,rfl,k⟩|⟨rfl,rfl,k⟩
 .unfold y9
  calc aI λN hN=>?_;simp![fU,aU];calc⟨⟨⋯,⋯⟩,?_⟩;subst hN;rw[rg];calc aI λN hN=>qH λg' b' K2 hg hb' hK=>?_;simp![cP];subst hg hb' hK;calc core (.p (cP ns)) [] _ _ (λ_=>trivial) (λfs e=>?_) (.inl ⟨_,Y⟩);subst e;show N _;subst hN;simp!;exact cA k
 .unfold y9
  calc aI λN hN=>?_;simp![fU,aU];calc⟨⟨⋯,⋯⟩,?_⟩;subst hN;rw[rg];calc aI λN hN=>qH λg' b' K2 hg hb' hK=>?_;simp!;subst hg hb' hK;calc core (.o 0) [U (.lst (ns.map D.int))] _ _ (λ_=>Y) (λfs e=>?_) (.inr ⟨0,Y,Nat.zero_lt_one⟩);subst e;show N _;subst hN;simp!;calc⟨[.lst (ns.map D.int)],Y,Y,k⟩
noncomputable def wR(marks:-Int)(f:Int):-Int:=(bY ↑marks).filter λh=>J (marks.getD h.toNat 0=f)
noncomputable def qL(marks:-Int):-(-Int):=(sortI (oO marks)).map (wR marks)
noncomputable def ur(ls:-(-Int)):D:=.lst (ls.map cP)
def y_:GD:=λys ovs K=>∃(m:Int)(ws:-(Int×Int×Int))(ns:-Int),gK m ws/\Nums ws ns/\((ys=[.p (aU m ws),.p (cP ns)]/\ovs=[]/\K (.p (ur (qL (gC m ws ns)))) [])\/(ys=[.p (aU m ws),.o 0]/\ovs=[.lst (ns.map D.int)]/\K (.p (ur (qL (gC m ws ns)))) [.lst (ns.map D.int)]))
def za:WS:=(ak (aD 2 (ar 2 DF (ag (aa 0) (ag (aa 1) af)))) (aE (e_ (bN (dN (ag (aa 2) af) um)) [Z,U 0,U 2] (br 0) cF (e_ (lR (ag (d2 (aa 1) (dC (.int 0)) aW) af)) [Z,U 0,U 2] (br 0) (dT (d2 (d2 (aa 2) (aa 0) aW) (aa 1) oEq)) (aa 0)))))
theorem UH{m:Int}{ws:-(Int×Int×Int)}{ns:-Int}:↑(gC m ws ns)=m.toNat:=by
 unfold gC;rw[DE];unfold bY;simp
theorem UI:Sem 2 1 y_ za:=by
 ext ys ovs K'-⟨m,ws,ns,W,hn,h⟩;let m1:=W.m1;let mZ:=W.mZ;let ml:=UH (m:=m) (ws:=ws) (ns:=ns)
 let core:∀(x:DV)(mu:-(Option OV))(K:KS),K.rt (.p (ur (qL (gC m ws ns)))) ⟨[U (.p (aU m ws)),U x,U (.p (cP (gC m ws ns)))],mu⟩ →
   (aE (e_ (bN (dN (ag (aa 2) af) um)) [Z,U 0,U 2] (br 0) cF (e_ (lR (ag (d2 (aa 1) (dC (.int 0)) aW) af)) [Z,U 0,U 2] (br 0) (dT (d2 (d2 (aa 2) (aa 0) aW) (aa 1) oEq)) (aa 0)))) K ⟨[U (.p (aU m ws)),U x,U (.p (cP (gC m ws ns)))],mu⟩:=by
  ext x mu K k;generalize gC m ws ns=marks at ml k;let ei:intsOf (marks.map D.int)=U marks:=JB marks;let ol:=KQ marks;erw[aE,e_,bN,dN,ag,af,aa,q1Y,q1o,jW,fw,um,cP,ei,lQ,cY,q0o,q2b,q7f];refine⟨⋯,?_⟩
  refine L2.jF (λd=>match d with
   |.int f=>cP (wR marks f)
   |_=>.non) (by rw[rO,SE];symm) trivial ?_ ?_
  .ext d hd acc L ha h
   let⟨f,_,rfl⟩:=q0t.mp hd;simp![fU,aU];refine⟨⋯,?_⟩
   refine L2.CS (λd=>match d with
    |.int z=>J (marks.getD z.toNat 0=f)
    |_=>ι) id (by rw[lT];symm) trivial ?_ ?_
   .ext d hd eR L' ha' h1 h2
    let⟨i,hi⟩:=q0i.mp hd;let⟨hi,rfl⟩:=nh hi;let e0:(0+(i:Int))=i:=by symm
    rw[e0] at h1 h2 ⊢;let ai:=j7 (ns:=marks) (i:=i) ⋯;simp![ai];cases q:aw (.int (marks.getD i 0)) (.int f)
    .refine h2 ?_
     show J (marks.getD (i:Int).toNat 0=f)=ι;rw[q0x];calc q0e λz=>?_;rw[z,f6] at q;cases q
    .refine⟨ha',h1 ?_⟩
     show J (marks.getD (i:Int).toNat 0=f)=θ;rw[q0x];erw[aw] at q;exact q0c (q0m q)
   .simp!
    refine⟨ha,?_⟩
    let e:((cz 0 m.toNat).filter λd=>match d with
     |.int z=>J (marks.getD z.toNat 0=f)
     |_=>ι).map id=(wR marks f).map D.int:=by
     rw[q3a,oM,q7D];unfold wR;rw[ml];rfl
    rw[e];exact h
  .let e:((sortI (oO marks)).map D.int).map (λd=>match d with
    |.int f=>cP (wR marks f)
    |_=>.non)=(qL marks).map cP:=by
    unfold qL;rw[q0D,q0D];rfl
   rw[e];exact k
 rcases h with⟨rfl,rfl,k⟩|⟨rfl,rfl,k⟩
 .unfold za
  calc aI λN hN=>?_;simp!;calc⟨m,ws,ns,W,hn,.inl ⟨Y,Y,?_⟩⟩;simp!;subst hN;exact core _ _ _ (cA k)
 .unfold za
  calc aI λN hN=>?_;simp!;calc⟨m,ws,ns,W,hn,.inr ⟨Y,Y,?_⟩⟩;simp!;subst hN;calc core _ _ _ ⟨[.lst (ns.map D.int)],Y,Y,k⟩
theorem UJ{n:Nat}{z:Int}(h:z∈bY n):0<=z/\z<(n:Int):=by
 unfold bY at h;let⟨i,hi,rfl⟩:=q0t.mp h;let:=q0G.mp hi;simp;symm
theorem UK(n:Nat):(bY n).Nodup:=by
 unfold bY;calc q3G.mpr (q3V.imp λ{a b} ne e=>ne ?_);calc q4W e
def zb:GD:=λys ovs K=>∃(n m most:Int)(ws:-(Int×Int×Int))(o:OV),gK m ws/\ys=[.o 0,.p (aU m ws),.p (.int most)]/\ovs=[o]/\aP n o/\n+100<2 ^ 30/\0<=most/\most<=1000 ∧
 ∀ns o',Nums ws ns->ns.Nodup->(ns.length:Int)<=most->ns.length<=↑ws->aP (n+31) o'->K (.n (ns.map D.int)) [o']
def DG:WS:=(ak (aD 3 (CT (ag (dN (ag (d2 (aa 1) (dC (.int 1)) aW) af) bE) af))) (ak (aD 4 (rV af)) (ak (cK (lR (ag (dN (ag (dN (ag (aa 3) af) bE) (ag (ar 2 f9 (ag (aa 0) (ag (d2 (aa 2) (dC (.int 1)) bV) af))) af)) wq) af)) (br 5) (lM (j4 (aa 4) (ag (yK (aa 3) (ag (ar 2 f9 (ag (aa 0) (ag (dN (ag (aa 3) af) bE) af))) af)) af)))) (aE (aa 4)))))
theorem UL:Sem 3 3 zb DG:=by
 ext ys ovs K'-⟨n,m,most,ws,o,W,rfl,rfl,P,hn,s0,s1,fin⟩;let Ld:=W.kr;unfold DG;calc aI λN hN=>?_;simp![f7,aU];calc⟨⟨⋯,⋯⟩,?_⟩;subst hN;rw[q0x,oM];calc aI λN hN=>?_;simp!;subst hN;calc aI λN hN=>qH λg' b' K2 hg hb' hK=>?_;simp!;calc⟨n,most+1,o,Y,Y,P,⋯,⋯,⋯,λr o1 r0 r1 P1=>?_⟩;let il:↑(bY ↑ws)=↑ws:=by unfold bY;simp
 simp![il];calc⟨⋯,?_⟩;subst hg hb' hK;let ek:(min (↑ws:Int) r).toNat=min ↑ws r.toNat:=by symm
 rw[ek];generalize hk:min ↑ws r.toNat=k
 refine j5 (λi δ=>∃(ls fs:-Int)(o':OV),↑ls+i=↑ws/\fs.length=i/\(fs++ls).Nodup/\Nums ws (fs++ls)/\aP (n+1+i) o' ∧
  δ=⟨[U (.o 0),U (.p (.tup [.int m,.tup (ws.map b_)])),U (.p (.int most)),U (.o 1),U (.o 2),Z],[U o',U (.lst (ls.map D.int)),U (.lst (fs.map D.int))]⟩)
  ⟨bY ↑ws,[],o1,⋯,Y,UK _,λz hz=>UJ hz,P1.mono ⋯,Y⟩ ?_ ?_
 .ext j d δ L hj ⟨ls,fs,o',hl,hf,nd,nu,P',rfl⟩ hL
  let⟨hj,rfl⟩:=nh hj;let q0:0<↑ls:=by symm
  simp!;calc⟨n+1+j,↑ls,o',Y,Y,P',⋯,⋯,⋯,λz o2 z0 z1 P2=>?_⟩;let⟨zn,rfl⟩:∃zn:Nat,z=zn:=⟨z.toNat,⋯⟩;let hz:zn<↑ls:=by symm
  let ix:seqIndex? (zn:Int) ↑ls=U zn:=IX hz;let eq:(ls.map D.int)[zn]?=U (.int ls[zn]):=by rw[Qi,rN hz];rfl
  simp![ix,eq]
  let pm:((fs++[ls[zn]])++ls.eraseIdx zn).Perm (fs++ls):=by
   rw[q1K];exact q3U _ (Df hz)
  refine⟨⟨⋯,⋯⟩,⋯,hL _ ⟨ls.eraseIdx zn,fs++[ls[zn]],o2,?_,?_,pm.nodup_iff.mpr nd,λx hx=>nu x (pm.mem_iff.mp hx),P2.mono ⋯,?_⟩⟩
  .rw[q23 hz];symm
  .rw[Ql,hf];rfl
  .rw[q0K,Dg];rfl
 .ext δ ⟨ls,fs,o',hl,hf,nd,nu,P',rfl⟩
  calc⟨trivial,?_⟩;show N _;subst hN;simp!;rw[lT] at hf P';calc⟨[o'],Y,Y,.inl (fin fs o' (λx hx=>nu x (q1g _ hx)) (q1p.mp nd).1 ⋯ ⋯ (P'.mono ⋯))⟩
theorem uu{H:Hp}{a:O}{o:HO}(h:H a=Z):av H (upd H a o):=λb u e=>by rw[aA (bR e h)];calc e
structure zc(H:Hp)(p c:O)(at_ z:Int):Prop where
 lst:H p=U (.lst [.ref c,.int at_,.int z])
 cells:∃ns:-Int,H c=U (.lst (ns.map V.int))/\ns.length<=63
 pos:0<=at_
theorem zc.ne{H:Hp}{p c:O}{k z:Int}(P:zc H p c k z):c≠p:=by
 let⟨ns,h,_⟩:=P.cells;ext e;subst e;rw[P.lst] at h;let h':=q0A h;injection h' with t7
 cases ns with
 |nil=>cases t7
 |cons n r=>injection t7 with h1 _;cases h1
theorem UM{ns:-Int}{k:Int}(h0:0<=k)(h1:k<(ns.length:Int)):∃n,dm (ns.map V.int) k=U (.int n):=by
 let⟨i,rfl⟩:∃i:Nat,k=i:=⟨k.toNat,⋯⟩;let hi:i<ns.length:=by symm
 calc⟨ns[i],kC ?_⟩;rw[Qi,rN hi];rfl
def Le(K:xY):Sp:=λvs H Q _=>∃(a:O)(ns:-Int),vs=[.ref a]/\bh K H a (ns.map V.int)/\ns.length<=63/\∀(p c:O)(H':Hp),av H H'->H p=Z->zc H' p c 0 0->Q (.ref p) H'
def zd(K:xY):Sp:=λvs H Q _=>∃(a:O)(ns:-Int),vs=[.ref a]/\bh K H a (ns.map V.int)/\ns.length<=63/\aC.ok H/\∀H',Q (.bl θ) H'
theorem DH(ns:-Int)(lo hi:Option Int):cV (ns.map V.int) lo hi=((ns.drop (HT.aV ns.length 0 lo)).take (HT.aV ns.length ns.length hi-HT.aV ns.length 0 lo)).map V.int:=by
 unfold cV;rw[rO,q6h,q6i]
theorem UN{H:Hp}{p c a:O}{n:Nat}(hT:aC.ok H)(N:zc H p c 0 0):∃(F:Hp)(ns:-Int),ns.length<=63/\SR F [p] ⟨Z::U (.o 0)::q0d n Z,[U (.lst [.lst (ns.map D.int),.int 0,.int 0])]⟩ (U (.ref a)::U (.ref p)::q0d n Z) H:=by
 let⟨ns,hc,hn⟩:=N.cells;let ne:=N.ne
 refine⟨upd (λ_=>Z) c (.lst (ns.map V.int)),ns,hn,⟨λb o e=>?_,λb ⟨k,ov,e1,e2⟩=>?_,Y,λk l a ov ow e1 e2 _ _=>?_,λk ov e=>?_,λi x e=>?_,by simp,hT,λb hb=>by
  let⟨ps,q⟩:=aC.tb hT hb
  rw[aA λz=>by subst z;rw[hc] at q;cases q]⟩⟩
 .by_cases z:b=c
  .subst z;rw[bj] at e;cases e;exact hc
  .rw[aA z] at e;cases e
 .cases k with
  |zero=>cases(show U p=U b by simpa using e1);rw[aA (q1L ne)]
  |succ k=>simp at e1
 .cases k with
  |zero =>
   cases l with
   |zero=>rfl
   |succ l=>simp at e2
  |succ k=>simp at e1
 .cases k with
  |zero =>
   cases(show OV.lst [.lst (ns.map D.int),.int 0,.int 0]=ov by simpa using e)
   calc⟨p,_,Y,N.lst,_,Y,?_⟩;calc .cons ?_ (.cons Y (.cons Y .nil));erw[Is];exact⟨c,_,Y,bj,uc⟩
  |succ k=>simp at e
 .cases i with
  |zero=>simp at e
  |succ i =>
   cases i with
   |zero =>
    cases(show DV.o 0=x by simpa using e)
    exact⟨_,Y,p,Y,Y⟩
   |succ i =>
    exfalso;let e:(q0d n (Z:Option DV))[i]?=U (U x):=by simpa using e
    rw[q2E] at e;split at e<;>cases e
theorem UO{B:WS}{F:Hp}{ad:-O}{δ:ay}{σ:St}{H:Hp}{Q:VK}(S:SR F ad δ σ H)(h:B ⟨λ_=>False,λx _=>x=.p (.bl θ),λ_=>False,λ_=>False⟩ δ)(q:∀H',Q (.bl θ) H'):cX B {nx:=λ_ H'=>Q .non H',rt:=Q} σ H :=
 ⟨F,ad,δ,_,S,h,⟨fun δ' h=>h.elim,fun δ' h=>h.elim,fun δ' h=>h.elim,λx δ' h v F' ax σ' H' E' S' V=>by
  let h:x=.p (.bl θ):=h;subst h;let V:v=.bl θ:=V;subst V
  calc q H',trivial⟩⟩
end LJ
namespace L2
open PySem PySem.Spec PyProof.Rows
def DI(Ts:-(O×Array B))(H:Hp):Prop:=∀b,(∃ps,Ts.lookup b=U ps/\H b=U (.tbl ps))\/(Ts.lookup b=Z/\(H b=Z\/∃o xs,H b=U (.frz o (.lst xs))))
theorem UP{P:ψ}{w:Q}{K:xY}{mg mb:R->Option B}{CX:jM}{k:Nat}{fa a:O}{fd:FuncData}{x:R}{sp:Sp}{s₁:L}{vs:-B}{ns:-Int}(Ts:-(O×Array B))
  (hT:∀b ps,Ts.lookup b=U ps->s₁.heap.get? b=U {cls:=.none,data:=.fields ps}/\isCodeTable s₁.heap b/\K.lookup b=Z)
  (KX:K.In s₁.heap) (wU:s₁.heap.Ns mainGlobals mg) (hb:s₁.heap.Ns builtinsNs mb) (UQ:∀x:R,x≠"__name__" -> mb x=bootBuiltins x) (DJ:s₁.heap.NoLimit) (hg:s₁.gens = #[])
  (ha:s₁.heap.get? a=U {cls:=.type "list",data:=.seq vs.toArray}) (hi:IntsAre vs ns) (hl:ns.length<=sizeLine) (hr:aX k callerA)
  (hB:∃bm ob,mg "__builtins__" = U (.ref bm)/\bm≠builtinsNs/\s₁.heap.get? bm=U ob/\ob.cls=.type "module" /\ ob.dict=U builtinsNs/\ob.data=.plain)
  (F:∀base:I,K.In base->base.Ns mainGlobals mg->(∀b ps,Ts.lookup b=U ps->base.BuiltinsAt mg b)->bK P w K mg base CX k fa fd [x] sp) (wV:∀(s:L)(u:B),BindsTo s fd ⟨[u],[]⟩ [(x,u)])
  (mV:∀H:Hp,DI Ts H->bh K H a (ns.map V.int)->sp [.ref a] H (λv _=>v=.bl θ) λ_ _ _=>False)
  (DK:∀H e s',CX [] H s₁ (λ_ _ _=>False) e s'->False) :
  codeAny (g P w) callerA (.call (.ref fa) ⟨[.ref a],[]⟩) (λr s'=>r=.ok (.ret (.bool θ))/\OldK s₁.heap s'.heap/\s'.os=s₁.os/\AllBare s'.gens) s₁:=by
 let rv:=HV hi;let DL:=↑hi
 let aT:Ts.lookup a=Z:=by
  cases q:Ts.lookup a with
  |none=>rfl
  |some ps =>
   let:=(hT a ps q).1;rw[ha] at this;let z:=congrArg Obj.cls (q0A this);cases(show q2k "list" = q0n from z)
 let core:∀H:Hp,DI Ts H->bh K H a (ns.map V.int)->cI P w H s₁.heap->(∀b,Ts.lookup b=Z->H b≠Z->b=a)->(H a≠Z->K.lookup a=Z) →
   codeAny (g P w) callerA (.call (.ref fa) ⟨[.ref a],[]⟩) (λr s'=>r=.ok (.ret (.bool θ))/\OldK s₁.heap s'.heap/\s'.os=s₁.os/\AllBare s'.gens) s₁:=by
  ext H hO hS aF hA hK;let gR:∀{b:O}{o:Γ},s₁.heap.get? b=U o->H b=Z->(gg s₁.heap H).get? b=U o:=λe n=>Oz e n
  let n8:∀{b:O}{o:Γ}{es:Array DictEntry}{ep:Nat},s₁.heap.get? b=U o->o.data=.dict es ep->H b=Z:=λ{b o es ep} e d=>by
   cases q:H b with
   |none=>rfl
   |some u =>
    cases t:Ts.lookup b with
    |some ps =>
     let:=(hT b ps t).1;rw[e] at this;cases this;cases d
    |none =>
     let e':b=a:=hA b t (by rw[q];simp);subst e';rw[ha] at e;cases e;let d':Data.seq vs.toArray _=Data.dict es ep:=d;cases d'
  let ze:∀{b:O}{m:R->Option B},s₁.heap.Ns b m->(gg s₁.heap H).Ns b m:=λ{b m} ⟨o,es,ep,e,d,r⟩=>⟨o,es,ep,gR e (n8 e d),d,r⟩
  let Lf:K.In (gg s₁.heap H):=λb o e=>gR (KX b o e) (by
   cases q:H b with
   |none=>rfl
   |some u =>
    cases t:Ts.lookup b with
    |some ps=>rw[(hT b ps t).2.2] at e;cases e
    |none =>
     let e':b=a:=hA b t (by rw[q];simp);subst e'
     rw[hK (by rw[q];simp)] at e;cases e)
  let UR:∀b ps,Ts.lookup b=U ps->(gg s₁.heap H).BuiltinsAt mg b:=λb ps t=>by
   let⟨bm,ob,b1,b2,b3,b4,b5,b6⟩:=hB;refine⟨bm,ob,b1,b2,λz=>?_,λz=>?_,gR b3 ?_,b4,b5,b6⟩
   .let⟨o,es,ep,e1,e2,_⟩:=wU
    rw[z,e1] at b3;cases b3;rw[e2] at b6;cases b6
   .let:=(hT b ps t).1
    rw[z,this] at b3;cases b3;cases b6
   .cases q:H bm with
    |none=>rfl
    |some u =>
     cases t':Ts.lookup bm with
     |some US =>
      let:=(hT bm US t').1;rw[b3] at this;cases this;cases b6
     |none =>
      let e':bm=a:=hA bm t' (by rw[q];simp);rw[e',ha] at b3;cases b3;cases b6
  let hM:Mod K mg (gg s₁.heap H):=⟨Lf,ze wU,⟨mb,ze hb,UQ⟩,let⟨mc,h1,h2⟩:=DJ;⟨mc,ze h1,h2⟩⟩;let e0:iS P w K mg (gg s₁.heap H) callerA [] s₁ H:=⟨Y,hM,λb o e=>OA e,q5f (Oy _ _),trivial,λb hb=>absurd (show b∈([]:-O) from hb) (by simp),aF,.of_eq hg⟩;refine q2L ((F _ Lf (ze wU) UR).run callerA [] s₁ H ⟨[.ref a],[]⟩ [.ref a] [.ref a] _ _ hr e0 (wV s₁ (.ref a)) (.cons Y .nil) (mV H hO hS)) λr s' h=>?_
  cases r with
  |error e=>exact(DK H e s' h).elim
  |ok fl =>
   cases fl with
   |next=>exact q1i h
   |brk=>exact q1i h
   |cont=>exact q1i h
   |ret u =>
    let⟨v,H',os,bare,un,wW,r',q⟩:=h;let q':v=.bl θ:=q;subst q';obtain rfl:u=q27 θ:=r'
    let all:∀b o,s₁.heap.get? b=U o->asItWas s₁.heap s'.heap b o/\∃o',s'.heap.get? b=U o':=λb o e=>by
     rcases hO b with⟨ps,t,z⟩|⟨t,z|⟨ob,xs,z⟩⟩
     .let⟨more,z2⟩:=un.dH b ps z
      let e2:s'.heap.get? b=U {cls:=.none,data:=.fields (ps++more)}:=wW b _ z2;let e1:=(hT b ps t).1;rw[e] at e1;cases e1;exact⟨.inr (.inl ⟨(hT b ps t).2.1,Y,ps,more,Y,e2⟩),_,e2⟩
     .let e2:=un.keep b o e z (by ext z;calc absurd (show b∈([]:-O) from z) (by simp)) (by simp)
      exact⟨.inl e2,_,e2⟩
     .let z2:=un.di b ob _ z
      let⟨e1,_⟩:=aF b _ z;let⟨e2,_⟩:=wW b _ z2;rw[e] at e1;cases e1;exact⟨.inl e2,_,e2⟩
    exact⟨Y,⟨λb o e=>(all b o e).1,λb o e=>(all b o e).2⟩,os,bare⟩
 let qM:∀(H:Hp) b ps,Ts.lookup b=U ps->az P w H s₁.heap b (.tbl ps):=λH b ps t=>(hT b ps t).1
 cases hk:K.lookup a with
 |some o =>
  let e:=KX a o hk;rw[ha] at e;cases e
  let hv:∀b,(λb=>(Ts.lookup b).map HO.tbl:Hp) b=(Ts.lookup b).map HO.tbl:=λ_=>Y;refine core (λb=>(Ts.lookup b).map HO.tbl) (λb=>?_) (.inr ⟨_,vs.toArray,_,hk,Y,Y,Y,by rw[HW,DL];calc hl,by simpa using rv⟩) (λb u z=>?_) (λb t z=>?_) λz=>?_
  .cases t:Ts.lookup b with
   |some ps=>exact .inl ⟨ps,Y,by show(Ts.lookup b).map HO.tbl=_;rw[t];rfl⟩
   |none=>exact .inr ⟨Y,.inl (by show(Ts.lookup b).map HO.tbl=_;rw[t];rfl)⟩
  .let⟨ps,t,rfl⟩:=ZM.mp (show(Ts.lookup b).map HO.tbl=U u from z)
   exact qM _ b ps t
  .exact absurd (show(Ts.lookup b).map HO.tbl=Z by rw[t];rfl) z
  .exact absurd (show(Ts.lookup a).map HO.tbl=Z by rw[aT];rfl) z
 |none =>
  refine core (λb=>if b=a then U (.frz {cls:=.type "list",data:=.seq vs.toArray} (.lst (ns.map V.int))) else(Ts.lookup b).map HO.tbl) (λb=>?_) (.inl (.inr ⟨{cls:=.type "list",data:=.seq vs.toArray},ZK Y⟩)) (λb u z=>?_) (λb t z=>?_) λ_=>hk
  .by_cases hb:b=a
   .subst hb
    exact .inr ⟨aT,.inr ⟨_,_,ZK Y⟩⟩
   .cases t:Ts.lookup b with
    |some ps=>exact .inl ⟨ps,Y,(ZJ hb).trans (by rw[t];rfl)⟩
    |none=>exact .inr ⟨Y,.inl ((ZJ hb).trans (by rw[t];rfl))⟩
  .by_cases hb:b=a
   .let z':=(ZK hb).symm.trans z
    cases z'
    subst hb;exact⟨ha,by rw[rO];calc hl,vs,_,rv,ha⟩
   .let z':=(ZJ hb).symm.trans z
    let⟨ps,t,rfl⟩:=ZM.mp z';exact qM _ b ps t
  .by_cases hb:b=a
   .exact hb
   .calc absurd ((ZJ hb).trans (by rw[t];rfl)) z
theorem UT{l:q7E}{n k:Nat}{q:ψ}{loose:-R}{XP:(R->Option B)->I->Prop}{YP:Q->I->Prop}{d:DefRec}{K:Q->xY}{CX:Q->jM}{sp:Q->Sp}{x:R}{Ts:Q->-(O×Array B)}
  (hn:l.most=U n) (DM:n<=sizeLine) (vy:d.params.defaults=[]) (hr:aX k callerA)
  (hY:∀(w:Q)(h:I),YP w h->(K w).In h)
  (hT:∀(w:Q)(h:I),YP w h->∀b ps,(Ts w).lookup b=U ps->h.get? b=U {cls:=.none,data:=.fields ps}/\isCodeTable h b/\(K w).lookup b=Z)
  (F:∀(w:Q)(mg:R->Option B)(fa:O)(h:I),(K w).In h->h.Ns mainGlobals mg->mg d.name=U (.ref fa) →
   ∃fd:FuncData,(∀(s:L)(u:B),BindsTo s fd ⟨[u],[]⟩ [(x,u)]) ∧
    ∀base:I,(K w).In base->base.Ns mainGlobals mg->(∀b ps,(Ts w).lookup b=U ps->base.BuiltinsAt mg b)->bK l.prog w (K w) mg base (CX w) k fa fd [x] (sp w))
  (mV:∀(w:Q)(H:Hp)(a:O)(ns:-Int),ns.length<=n->DI (Ts w) H->bh (K w) H a (ns.map V.int)->sp w [.ref a] H (λv _=>v=.bl θ) λ_ _ _=>False)
  (DK:∀(w:Q)(H:Hp)(s:L)(e:B)(s':L),CX w [] H s (λ_ _ _=>False) e s'->False) :
  PySem.W.WalkO q loose XP YP l.row.toRowW d [] (λf vs=>q71 f vs):=by
 calc Att.iq hn vy λw s₀ s₁ mg mb fa o pm cd doc a vs ns G Y ho hd e7 oh rL hints hlen hg=>?_;let KX:=hY w _ Y;let⟨fd,hb,hF⟩:=F w mg fa _ KX G.T.g oh;calc UP (Ts w) (hT w _ Y) KX G.T.g G.T.b G.T.builtins G.T.nolimit hg rL hints (q0Q hlen DM) hr G.T.bmain hF hb (λH hO hS=>mV w H a ns hlen hO hS) λH e s'=>DK w H s₁ e s'
section
variable{X:Cx}{pins:au}{σ:St}{H:Hp}{s:L}{h':I}
theorem Inv.grow{T c f:O}{ps more:Array B}{oc of:HO}{t':Nat}(I:Inv X pins σ H s)(hT:H T=U (.tbl ps))(k:∀b u,b≠T->s.heap.get? b=U u->h'.get? b=U u)(Lg:h'.get? T=U {cls:=.none,data:=.fields (ps++more)})
  (hc:⇑s<=c) (hf:⇑s<=f) (DN:c≠f) (UU:∀H2,az X.prog X.w H2 h' c oc) (UW:∀H2,az X.prog X.w H2 h' f of) :
  Inv X pins σ (upd (upd (upd H T (.tbl (ps++more))) c oc) f of) {s with heap:=h',toks:=t'}:=by
 let tl:T<⇑s:=(I.aF T _ hT).lt;let cT:c≠T:=q1B (q0f tl hc);let fT:f≠T:=q1B (q0f tl hf);let Z7:H c=Z:=I.aF.fresh hc;let UX:H f=Z:=I.aF.fresh hf
 let old:∀b,b<⇑s->b≠T->upd (upd (upd H T (.tbl (ps++more))) c oc) f of b=H b:=λb hb nT=>by
  rw[aA (ZN (q0f hb hf)),aA (ZN (q0f hb hc)),aA nT]
 let atT:upd (upd (upd H T (.tbl (ps++more))) c oc) f of T=U (.tbl (ps++more)):=by
  rw[aA (q1L fT),aA (q1L cT),bj]
 let lt:∀b u,H b=U u->b<⇑s:=λb u e=>(I.aF b u e).lt
 let eC:∀b u,H b=U u->(∀qs,u≠.tbl qs)->upd (upd (upd H T (.tbl (ps++more))) c oc) f of b=U u:=λb u e n=>by
  rw[old b (lt b u e) (λz=>by subst z;rw[hT] at e;cases e;calc n _ Y)];exact e
 refine I.un (t':=t') ⟨λb o e n _ _=>k b o (λz=>by subst z;rw[hT] at n;cases n) e,λb o e n _ _=>⟨o.slots,k b o (λz=>by subst z;rw[hT] at n;cases n) e⟩,λb o e n _=>?_,λb o e _=>?_,λb xs e=>eC b _ e (λ_ z=>by cases z),λb o u e=>eC b _ e (λ_ z=>by cases z),λb qs e=>?_⟩ λb u e=>?_
 .rw[old b (Qj e) (λz=>by subst z;rw[hT] at n;cases n)];exact n
 .by_cases z:b=T
  .subst z;exact⟨_,Lg⟩
  .exact⟨o,k b o z e⟩
 .by_cases z:b=T
  .subst z;rw[hT] at e;cases e;exact⟨more,atT⟩
  .exact⟨#[],by rw[old b (lt b _ e) z,e];simp⟩
 .by_cases z1:b=f
  .subst z1;rw[bj] at e;cases e;exact UW _
  .rw[aA z1] at e
   by_cases z2:b=c
   .subst z2;rw[bj] at e;cases e;exact UU _
   .rw[aA z2] at e
    by_cases z3:b=T
    .subst z3;rw[bj] at e;cases e;exact Lg
    .rw[aA z3] at e
     refine az.dG (I.aF b u e) (λd v hd q=>?_) (λd q=>eC d _ q (λ_ z=>by cases z)) (λd xs q=>eC d _ q (λ_ z=>by cases z))
     .refine k d v (λy=>?_) q
      subst y;rcases hd with y|y
      .exact z3 y.symm
      .rw[hT] at y;cases y
noncomputable def nE(c:O)(q:R):HO:=.ext λh=>∃o vs tq,h.get? c=U o/\o.data=.fields vs/\vs[1]?=U (.str q tq)
theorem UY{P:n}{w:Q}{H:Hp}{h:I}{c:O}{q:R}(e:h.CodeRec (.ref c) q):az P w H h c (nE c q):=by
 let⟨c',o,vs,tq,z,ho,hd,hq⟩:=e;cases z
 calc⟨⟨o,vs,tq,ho,hd,hq⟩,⟨o,ho⟩,λh1 h2 ⟨o,vs,tq,e1,e2,e3⟩ k↦⟨o,vs,tq,k o e1,e2,e3⟩⟩
theorem UZ{P:n}{w:Q}{H:Hp}{h:I}{c:O}{q:R}(x:az P w H h c (nE c q)):h.CodeRec (.ref c) q:=by
 let⟨⟨o,vs,tq,ho,hd,hq⟩,_⟩:=x;calc⟨c,o,vs,tq,Y,ho,hd,hq⟩
end
end L2
namespace L2
open PySem PySem.Spec PyProof.Rows PySem.W
section
variable{X:Cx}{pins:au}{σ:St}{H:Hp}{s:L}{params:Arguments}{body:M}{scope:S}{pos:y}{iE:-(R×O)}{cc T:O}{ps:Array B}{E:aJ}{Q:aJ}
noncomputable def i9(f:O)(name qual:R)(params:Arguments)(body:M)(scope:S)(iE:-(R×O))(pm cd:B):HO:=.ext λh=>∃wX,h.get? f=U {cls:=.type "function",data:=.func (kla_fn name qual params body scope iE pm cd wX)}
def eD(H:Hp)(T:O)(pos:y)(qual:R):Prop:=∃ps,H T=U (.tbl ps)/\TriplesOk ps.toList/\(codeAmong pos ps.toList=Z\/∃c,codeAmong pos ps.toList=U (.ref c)/\H c=U (nE c qual))
theorem U0(I:Inv X pins σ H s)(hT:eD H T pos (X.env.qual++"<lambda>"))(DO:defaultsOf params X.env=([],[]))(qG:closureFor scope X.env=pure iE)(jI:X.env.code=.ref cc)(C:CodeHd s.heap cc T)(U1:mainGlobals≠T)(hg:s.heap.Ns mainGlobals X.mg)(hb:s.heap.BuiltinsAt X.mg T)
  (h:∀f H' s' c,Inv X pins σ H' s'->eD H' T pos (X.env.qual++"<lambda>")->(∀b o,H b=U o->b≠T->H' b=U o)->H f=Z->H' f=U (i9 f "<lambda>" (X.env.qual++"<lambda>") params body scope iE ((X.mg "__name__").getD .none) (.ref c))->H' c=U (nE c (X.env.qual++"<lambda>"))->Q (.ref f) s') :
  G (g X.prog X.w) X.A (eval (.Lambda params body scope pos) X.env) Q E s:=by
 let⟨ps,hP,ht,hf⟩:=hT;let DP:s.heap.get? T=U {cls:=.none,data:=.fields ps}:=I.aF T _ hP;calc kla_eval DO ?_;rcases hf with Lh|⟨c,hf,zg⟩
 .refine kla_makeFunction qG I.ok.glob hg jI C DP ht Lh U1 hb λc' wX h' tk hx uv cq DQ U2=>?_
  let hsz:⇑s<=h'.objs.size:=q1t (q3t uv cq);let tl:T<⇑s:=Qj DP;let U3:T≠h'.objs.size:=ZN (q0f tl hsz);let U4:T≠c':=ZN (q0f tl uv);let DN:c'≠h'.objs.size:=ZN cq;let Li:(ps ++ #[rawInt pos.line,rawInt pos.col,q0w c']).toList=ps.toList++[rawInt pos.line,rawInt pos.col,q0w c']:=by simp
  let atT:upd (upd (upd H T (.tbl (ps ++ #[rawInt pos.line,rawInt pos.col,.ref c']))) c' (nE c' (X.env.qual++"<lambda>"))) h'.objs.size (i9 h'.objs.size "<lambda>" (X.env.qual++"<lambda>") params body scope iE ((X.mg "__name__").getD .none) (.ref c')) T=U (.tbl (ps ++ #[rawInt pos.line,rawInt pos.col,.ref c'])):=by
   rw[aA U3,aA U4,bj]
  let atC:upd (upd (upd H T (.tbl (ps ++ #[rawInt pos.line,rawInt pos.col,.ref c']))) c' (nE c' (X.env.qual++"<lambda>"))) h'.objs.size (i9 h'.objs.size "<lambda>" (X.env.qual++"<lambda>") params body scope iE ((X.mg "__name__").getD .none) (.ref c')) c'=U (nE c' (X.env.qual++"<lambda>")):=by
   rw[aA DN,bj]
  refine h h'.objs.size _ _ c' (I.grow (t':=tk) (oc:=nE c' (X.env.qual++"<lambda>")) (of:=i9 h'.objs.size "<lambda>" (X.env.qual++"<lambda>") params body scope iE ((X.mg "__name__").getD .none) (.ref c')) hP (λb u nb e=>rM _ (hx b u nb e)) (rM _ U2) uv hsz DN (λ_=>UY (DQ.push _)) λ_=>?_) ⟨_,atT,?_,.inr ⟨c',?_,atC⟩⟩ (λb o e nb=>?_) (I.aF.fresh hsz) bj atC
  .exact⟨⟨wX,ZI _ Y⟩,⟨_,ZI _ Y⟩,λh1 h2 ⟨v,e⟩ k↦⟨v,k _ e⟩⟩
  .rw[Li];exact TriplesOk_snoc _ _ _ _ ht
  .rw[Li];exact codeAmong_snoc _ ht Lh
  .let bl:b<⇑s:=(I.aF b o e).lt
   rw[aA (ZN (q0f bl hsz)),aA (ZN (q0f bl uv)),aA nb];exact e
 .refine kla_makeFunctionHit qG I.ok.glob hg jI C DP ht hf hb λwX h' tk hk hsz=>?_
  let hn:H h'.objs.size=Z:=I.aF.fresh hsz;refine h h'.objs.size _ _ c (I.laid (a:=h'.objs.size) (o:=i9 h'.objs.size "<lambda>" (X.env.qual++"<lambda>") params body scope iE ((X.mg "__name__").getD .none) (.ref c)) (t':=tk) (λb u e=>rM _ (hk b u e)) hsz ?_) ⟨ps,?_,ht,.inr ⟨c,hf,?_⟩⟩ (λb o e _=>?_) hn bj ?_
  .exact⟨⟨wX,ZI _ Y⟩,⟨_,ZI _ Y⟩,λh1 h2 ⟨v,e⟩ k↦⟨v,k _ e⟩⟩
  .rw[aA (bR hP hn)];exact hP
  .rw[aA (bR zg hn)];exact zg
  .rw[aA (bR e hn)];exact e
  .rw[aA (bR zg hn)];calc zg
end
structure LD where
 A:q
 cl:-(R×O)
 f:O
 cd:B
 s:L
 H:Hp
@[reducible] noncomputable def pE (X:Cx) (qual:R) (scope:S) (Nb:-R) (d:LD):Cx where
 prog:=X.prog
 w:=X.w
 K:=X.K
 mg:=X.mg
 base:=X.base
 A:=d.A.deeper (envX qual scope ⇑d.s d.f d.cd d.cl)
 N:=Nb
 s₀:=d.s
 H₀:=d.H
 env:=envX qual scope ⇑d.s d.f d.cd d.cl
 outer:=X.stack
 stack:=envX qual scope ⇑d.s d.f d.cd d.cl::X.stack
 ex:=[]
 fn:=λ_=>ι
 calm:=true
 pn:=[]
 xe:=λ_ _=>False
noncomputable def zh(N:-R)(x4 scope:S)(x:R)(Nb:-R)(cp:-(Option Nat)):Bool :=
 lq N x4 scope (x::Nb) (Z::cp)&&(scope.names.all λy=>J (y.2≠.cell))&&J (scope.names.lookup x=U .local)&&cp.all (·.isSome)
section
variable{X:Cx}{pins:au}{σ:St}{H:Hp}{s:L}{params:Arguments}{body:M}{scope:S}{cl:-(R×O)}{E:aJ}{Q:VK}{name qual x:R}{f c:O}{pm:B}{A:q}{v:V}{u:B}{Nb:-R}{cp:-(Option Nat)}{t:TE}
theorem U5(I:Inv X pins σ H s)(hf:H f=U (i9 f name qual params body scope cl pm (.ref c)))(hc:H c=U (nE c qual))(hA:A.frames=U X.stack)(hh:A.handled=Z)(hd:A.depth<recursionLimit)
  (hk:scope.kind=.function) (ho:zh X.N X.env.scope scope x Nb cp=θ) (U6:scope.isCoroutine=ι) (DR:scope.isGenerator=ι)
  (sN:∀y c,cl.lookup y=U c->X.env.cells.lookup y=U c) (zi:∀y∈scope.names,y.2=.free->∃c,cl.lookup y.1=U c)
  (hb:∀(ct:B),bindArgs (kla_fn name qual params body scope cl pm (.ref c) ct) ⟨[u],[]⟩=pure [(x,u)]) (r:RelV v u)
  (J:JE (pE X qual scope (x::Nb) ⟨A,cl,f,.ref c,s,H⟩) body t) (h:t (U v::iJ cp σ) H Q):G (g X.prog X.w) A (call (.ref f) [u]) (EP X pins σ Q) E s:=by
 unfold zh at ho;erw[q0k,q0T,q1D] at ho;let⟨⟨⟨ho,Lj⟩,hx⟩,cps⟩:=ho;let S:=x1L hk ho;let⟨⟨ct,U7⟩,_⟩:=I.aF f _ hf;let e7:=UZ (I.aF c _ hc);calc q3v (kla_callFunE hd U7 Y U6 DR Y e7 ?_);rw[hb ct];calc vw (wpAny_newFunctionEnv (λy hy=>Lj y hy) (λy hy=>by rw[q0l.mp hy];calc hx) (λh₁ wU vE=>?_) hk);let wY:∀b o,s.heap.get? b=U o->h₁.get? b=U o:=λb o e=>vE.extBut b o (ZN (Qj e)) (rM _ e);calc⟨I.nolimit.keeps wY,?_⟩;let e0:=I.rF;show codeAny _ _ (.expr body (envX qual scope ⇑s f (.ref c) cl)) _ _;let n8:∀b:O,b∉(pE X qual scope (x::Nb) ⟨A,cl,f,.ref c,s,H⟩).ex:=λb z=>absurd (show b∈([]:-O) from z) (by simp)
 let mem:∀{y:R}{k:NameKind},scope.names.lookup y=U k->(y,k)∈scope.names:=λe=>q1y e
 let I1:Inv (pE X qual scope (x::Nb) ⟨A,cl,f,.ref c,s,H⟩) [] (U v::iJ cp σ) H {s with heap:=h₁,toks:=s.toks+↑[(x,u)]}:=by
  refine⟨⟨e0.mod,hk,Y,Y,BA _,λy z d h1 h2=>I.ok.inj y z d (sN y d h1) (sN z d h2),λy hy=>?_,λy d z _=>(by cases z),λ_=>hh,q5E hA,.inr ⟨Y,Y⟩,λb z=>absurd z (n8 b),e0.bs,e0.ku,λb _ _=>n8 b,λb z=>absurd z (n8 b),e0.dj,e0.kZ⟩,
   Y,e0.bare,Un.kept wY,⟨_,wU,λi y w h1 h2 h3=>?_⟩,λy d hy=>?_,e0.aF.fresh (BA _),λy d hy=>I.bC y d (sN y d hy),λp hp=>absurd (show p∈([]:au) from hp) (by simp),e0.aF.kept wY,?_⟩
  .let hy:scope.names.lookup y=U .cell\/scope.names.lookup y=U .free:=hy
   rcases hy with hy|hy
   .exact absurd Y (Lj _ (mem hy))
   .exact zi _ (mem hy) Y
  .cases i with
   |zero =>
    cases(show U x=U y by simpa using h1)
    cases(show v=w by simpa using h2)
    exact⟨u,r,.inl ⟨hx,by simp⟩⟩
   |succ j =>
    let h1:Nb[j]?=U y:=by simpa using h1
    let h2:(iJ cp σ)[j]?=U (U w):=by simpa using h2
    unfold iJ at h2;rw[Qi] at h2;let⟨o,q1,q2⟩:=ZM.mp h2
    match o,q2 with
    |none,q2=>cases q2
    |some i',q2 =>
     let q2:(σ[i']?).join=U w:=q2;let⟨n1,n2⟩:=S.vA (j+1) i' y q1⁻¹ h1⁻¹
     let hs:σ[i']?=U (U w):=by
      cases q:σ[i']? with
      |none=>rw[q] at q2;cases q2
      |some z=>rw[q] at q2;cases(show z=U w from q2);rfl
     let kd:=S.free _ (mem n2) Y;let⟨m,hn,hl⟩:=I.loc;let⟨u',rv,lk⟩:=hl i' y w n1 hs (by rcases kd with z|z;calc .inr (.inl z);calc .inr (.inr z));calc⟨u',rv,?_⟩;rcases lk with⟨z,_⟩|⟨_,d,e1,o,e2,e3⟩
     .rcases kd with k|k<;>(rw[show X.env.kindOf y=U .local from z] at k;cases k)
     .let⟨d',e4⟩:=zi _ (mem n2) Y
      let:=sN _ _ e4;rw[e1] at this;cases this;exact .inr ⟨.inr n2,d,e4,o,wY _ _ e2,e3⟩
  .let⟨z,o,e2,e3⟩:=I.cell y d (sN y d hy)
   exact⟨z,o,wY _ _ e2,e3⟩
  .let:=S.len
   show↑(U v::iJ cp σ)=↑(x::Nb);unfold iJ;rw[HY,rO];simpa using this
 calc kla_codeExpr (q1v (J [] _ _ H Q I1 h) (λu' s' hs=>?_) λe s' hs=>hs.elim);let⟨w,H',J',rv,q⟩:=hs;calc I.after ⟨w,H',J'.os,J'.bare,J'.base,J'.aF,rv,q⟩
end
def i_(h:I)(k:LK)(v:B):Prop:=∃a o xs n,v=.ref a/\h.get? a=U o/\o.cls=.type "tuple" /\ o.data=.seq xs n/\IntsAre xs.toList k
section
variable{prog:n}{w:ω}{A:q}{E:aJ}{s:L}{Q:Bool->L->Prop}
theorem Lk{fin:Bool}:∀{us ws:-B}{ks ls:LK}(i:Nat),IntsAre us ks->IntsAre ws ls->fin=J (↑us<↑ws)->Q (HT.lexLt ks ls) s->KatLex prog w A θ fin Q (us.zip ws) i s
 |_,_,_,_,i,.nil,.nil,hf,h=>by
  rw[q3L];subst hf;exact h
 |_,_,_,_,i,.nil,.cons m u r,hf,h=>by
  rw[q3L];let:fin=θ:=by rw[hf];simp
  subst this;exact h
 |_,_,_,_,i,.cons n t r,.nil,hf,h=>by
  rw[q6n];let:fin=ι:=by rw[hf];simp
  subst this;exact h
 |_,_,_,_,i,.cons n t r,.cons m u r',hf,h=>by
  rw[q2N];refine kat_cons (q40 (kat_go (λe=>?_) λe=>?_))
  .let e:n=m:=q0m e
   subst e;rw[HT.mW,ZK Y] at h;exact kat_yes (Lk (i+1) r r' (by rw[hf];simp) h)
  .let e:¬ n=m:=λz=>by subst z;simp at e
   rw[HT.mW,ZJ e] at h;refine kat_no ?_
   cases q:(θ&&i==0) with
   |true=>exact oneLt_int h
   |false=>calc kat_one _ _ (q4l h)
theorem Ll{k l:LK}{x y:B}(hx:i_ s.heap k x)(hy:i_ s.heap l y)(h:Q (HT.lexLt k l) s):G (g prog w) A (keyLt' (tuples' θ) x y) Q E s:=by
 let⟨a,o,xs,n,rfl,h1,_,h2,h3⟩:=hx;let⟨b,o',ys,n',rfl,g1,_,g2,g3⟩:=hy;calc kat_lt h1 h2 g1 g2 (Lk 0 h3 g3 (by rw[HZ,HZ]) h)
theorem Lm{h:I}:∀{keys:-B}{ks:-LK},(∀k∈ks,k≠[])->↑keys=↑ks->(∀(i:Nat)(k:LK)(v:B),ks[i]?=U k->keys[i]?=U v->i_ h k v)->∃fs,KatTups h keys fs/\fs.length=↑keys/\∀v∈fs,∃n t,v=q1l n t
 |[],[],_,_,_=>⟨[],.nil,Y,λv hv=>nomatch hv⟩
 |[],_::_,_,hl,_=>by simp at hl
 |_::_,[],_,hl,_=>by simp at hl
 |v::keys,k::ks,fh,hl,ht=>by
  let⟨fs,t,hf,hi⟩:=Lm (h:=h) (keys:=keys) (ks:=ks) (λk hk=>fh k (Qm _ hk)) hl⁻¹ λi k v e1 e2=>ht (i+1) k v e1⁻¹ e2⁻¹;let⟨a,o,xs,n,rfl,h1,hc,h2,h3⟩:=ht 0 k v Y Y;let hk:=fh k Qk;generalize hx:xs.toList=xl at h3
  cases h3 with
  |nil=>exact absurd Y hk
  |cons m t' r =>
   let h0:xs[0]?=U (.int m t'):=by rw[<-q0p,hx];rfl
   calc⟨.int m t'::fs,.cons h1 hc h2 h0 t,by rw[HY,HY,hf],λv hv=>?_⟩;rcases My.mp hv with rfl|hv
   .exact⟨m,t',Y⟩
   .calc hi v hv
theorem Ln{M:Model}{keys:-B}{ks:-LK}{Q:SortKind->L->Prop}(h0:0<↑keys)(fh:∀k∈ks,k≠[])(hl:↑keys=↑ks)(ht:∀(i:Nat) (k:LK) (v:B),ks[i]?=U k->keys[i]?=U v->i_ s.heap k v)(h:Q (tuples' θ) s):
  G M A (keyKind' keys.toArray) Q E s:=by
 let⟨fs,t,hf,hi⟩:=Lm fh hl ht;refine kat_kind (T:=.type "int") t ⋯ (λv hv=>?_) (by decide) ?_
 .let⟨n,t',rfl⟩:=hi v hv
  exact .now
 .calc h
theorem getD_some{α:Type}{l:-α}{i:Nat}{d:α}(h:i<↑l):l[i]?=U (l.getD i d):=by
 rw[rN h,HX,rN h];rfl
theorem U8{a kS:O}{e1:Nat}{vs keys:-B}{ks:-LK}{P:q8O->L->Prop}(hv:↑keys=↑vs)(iK:↑vs<64)(fh:∀k∈ks,k≠[])(hl:↑keys=↑ks)(ht:∀(i:Nat) (k:LK) (v:B),ks[i]?=U k->keys[i]?=U v->i_ s.heap k v)
  (fin:∀st (p:Array Nat),(arrOf st).map (·.2)=q0S (p.toList.map λi=>vs.getD i q0n)->failedOf st=Z->cL ↑vs p->Up (λi=>ks.getD i []) p ↑vs->ρ (g prog w) A (ksk_tail a ι e1 (.ref kS) st) P E s) :
  ρ (g prog w) A (ksk_end a ι vs.toArray e1 (.ref kS) (q0S keys)) P E s:=by
 unfold ksk_end
 try dsimp only
 erw[q0a,q0X]
 by_cases h2:vs.toArray.size<2
 .rw[ZK h2,ZK h2]
  calc oj (vw ?_);rw[q7F];refine oj (vw ?_)
  try dsimp only
  rw[HW] at h2;refine fin _ (q0s ↑vs).toArray ?_ Y ⟨q5o _⟩ λi j iM hj=>?_
  .let DT:arrOf (SortSt.mk' general' (keys.toArray.zip vs.toArray) #[] 7 Z)=(q0S (q0s ↑vs)).map (kas_item (keys.toArray.zip vs.toArray)):=by
    let e:=kas_range (keys.toArray.zip vs.toArray);rw[show(keys.toArray.zip vs.toArray).size=↑vs by simp[hv]] at e;rw[e]
   exact kat_snds hv DT
  .let:i=j:=by symm
   subst this;exact kle_refl _
 .rw[ZJ h2,ZJ h2]
  rw[HW] at h2;refine oj (Ln ⋯ fh hl ht ?_)
  refine oj (q1v (kat_run (κ:=tuples' θ) (E:=E) (Q:=λeN s'=>s'=s/\∃p:Array Nat,arrOf eN=p.map (kas_item (keys.toArray.zip vs.toArray))/\failedOf eN=Z/\cL ↑vs p/\Up (λi=>ks.getD i []) p ↑vs)
   (G:=λp s'=>s'=s/\cL ↑vs p/\Up (λi=>ks.getD i []) p ↑vs) hv ⋯ iK (λp eN s' a1 a2 a3 a4=>⟨a4.1,p,a2,a3,a4.2.1,a4.2.2⟩) ?_) ?_ λ_ _ x=>x)
  .refine Kg (k:=λi=>ks.getD i []) (I:=λs'=>s'=s) (λi j C s' hi hj e hC=>?_) ⋯ Y λp s' a1 a2 a3=>⟨a3,a1,a2⟩
   subst e;exact Ll (ht i _ _ (getD_some ⋯) (getD_some ⋯)) (ht j _ _ (getD_some ⋯) (getD_some ⋯)) (hC _ Y)
  .ext ⟨⟨⟩,eN⟩ s' ⟨rfl,p,a1,a2,a3,a4⟩
   try dsimp only
   calc fin eN p (kat_snds hv a1) a2 a3 a4
end
theorem bq.at{X:Cx}{pins:au}{H H':Hp}{b:O}(f:bq X pins H b)(h:H' b=Z):bq X pins H' b:=⟨h,f.2⟩
section
variable{X:Cx}{pins:au}{σ:St}{H:Hp}{s:L}{A:q}{E:aJ}{a:O}{vs:-B}{f:B}
theorem Inv.gD{h':Α}{t':Nat}{b:O}(I:Inv X pins σ H s)(fb:bq X pins H b)(k:∀c o,c≠b->s.heap.get? c=U o->h'.get? c=U o):Inv X pins σ H {s with heap:=h',toks:=t'} :=
 I.turned k fb.1 fb.2.1 fb.2.2.2.1 fb.2.2.2.2.1 fb.2.2.2.2.2
theorem Inv.pF{b:O}{o:u}(I:Inv X pins σ H s)(fb:bq X pins H b)(e:s.heap.get? b=U o)(hc:∀v,o.data≠.cell v):Inv X ((b,o)::pins) σ H s :=
 I.fG λp hp=>by
  rcases My.mp hp with rfl|hp
  .exact⟨e,fb.1,fb.2.1,fb.2.2.1,hc⟩
  .calc I.pin p (q0q _ hp)
theorem Inv.gT{p:O×u}(I:Inv X (p::pins) σ H s):Inv X pins σ H s:=I.fG λq hq=>I.pin q (q0q _ (Qm _ hq))
theorem bq.cons{b:O}{p:O×u}(f:bq X pins H b)(n:p.1≠b):bq X (p::pins) H b :=
 ⟨f.1,f.2.1,f.2.2.1,f.2.2.2.1,f.2.2.2.2.1,λq hq=>by
  rcases q0U.mp hq with z|z
  .exact f.2.2.2.2.2 q (q1g _ z)
  .rcases My.mp z with rfl|z
   .exact n
   .calc f.2.2.2.2.2 q (q0q _ z)⟩
theorem zj{c:String}{xs:Array B}{n:Nat}:∀v,(seqObj c xs n).data≠.cell v:=λv z=>by cases z
theorem U9{P:-V->Hp->Prop}{n0:Nat}{R:q8O->L->Prop}(I:Inv X pins σ H s)(fa:bq X pins H a)(ha:s.heap.get? a=U (seqObj "list" vs.toArray n0))(iK:↑vs<64)(p0:P [] H)
  (sO:∀(bX:au)(v:B)(aq:-V)(H':Hp)(s':L),vs[↑aq]?=U v->Inv X bX σ H' s'->P aq H'->G (g X.prog X.w) A (call f [v]) (EP X bX σ λk kF=>P (aq++[k]) kF) (λ_ _=>False) s')
  (fin:∀aq H',↑aq=↑vs->P aq H'->∃ks:-LK,↑ks=↑vs/\(∀k∈ks,k≠[])/\(∀(i:Nat)(k:LK),ks[i]?=U k->∃t,aq[i]?=U (.ref t)/\H' t=U (.tup (k.map V.int))) ∧
   ∀(p:Array Nat)(s':L)(c:Nat),cL ↑vs p->Up (λi=>ks.getD i []) p ↑vs->Inv X pins σ H' s'->bq X pins H' a->s'.heap.get? a=U (seqObj "list" (q0S (p.toList.map λi=>vs.getD i q0n)) c)->R (.done (.ret .none)) s') :
  G (g X.prog X.w) A (ksk_tree a f ι) R E s:=by
 unfold ksk_tree;calc oj (q6Z ha Y ?_);calc oj (q3n ha Y ?_ (by rw[HW,q09];symm) (q0u _));let sb:=q0L s.heap a (q0H λ_=>(#[]:Array B));let⟨e1,fL⟩:∃e1,(s.heap.update a (q0H λ_=>(#[]:Array B))).get? a=U (seqObj "list" #[] e1):=⟨_,q3s ha λ_ => #[]⟩;let I1:Inv X pins σ H {s with heap:=s.heap.update a (q0H λ_=>(#[]:Array B))}:=I.gD (t':=s.toks) fa λc o n e=>(sb.2 c n).trans e;calc oj (q5L fL Y ?_);calc oj (q5M ?_ (by show ↑vs<=_;rw[q09];symm));calc oj (q35 ?_ (q0u _));calc q0B ?_;generalize U_:s.heap.update a (q0H λ_=>(#[]:Array B))=g0 at fL I1
 show G _ _ (ksk_rest a f ι vs.toArray e1 (.ref (g0.push (seqObj "tuple" vs.toArray 0)).objs.size)) R E {s with heap:=(g0.push (seqObj "tuple" vs.toArray 0)).push (seqObj "list" #[] 0)};let I2:Inv X pins σ H {s with heap:=(g0.push (seqObj "tuple" vs.toArray 0))}:=I1.kept (h':=g0.push (seqObj "tuple" vs.toArray 0)) (t':=s.toks) λb u e=>rM _ e;let fg:(g0.push (seqObj "tuple" vs.toArray 0)).get? a=U (seqObj "list" #[] e1):=rM _ fL;generalize g0.push (seqObj "tuple" vs.toArray 0)=g1 at I2 fg;let fk:bq X pins H g1.objs.size:=I2.gH (BA _) (I2.aF.fresh (BA _));let I3:Inv X pins σ H {s with heap:=g1.push (seqObj "list" #[] 0)}:=I2.kept (h':=g1.push (seqObj "list" #[] 0)) (t':=s.toks) λb u e=>rM _ e
 let wZ:g1.objs.size≠a:=q1B (Qj fg);let I4:=(I3.pF fk (ZI _ Y) zj).pF (fa.cons (p:=(g1.objs.size,seqObj "list" #[] 0)) wZ) (rM _ fg) zj;generalize g1.objs.size=kS at I4 wZ fk;unfold ksk_rest;refine oj (q3Y ?_)
 first
  |rw[List.forIn_toArray]
  |(rw[<-q3u];erw[q52])
  |rw[<-q3u]
 refine oj (ksk_fold (λi s'=>∃H' aq ks e,Inv X ((a,seqObj "list" #[] e1)::(kS,seqObj "list" (q0S ks) e)::pins) σ H' s'/\P aq H'/\Vals aq ks/\↑aq=i) vs 0 _ ⟨H,[],[],0,I4,p0,.nil,Y⟩ ?step ?done)
 case step =>
  ext j x s' hx ⟨H',aq,ks,e,J,pk,rv,hl⟩;rw[q0J] at hl;let hj:j<↑vs:=(tU.mp hx).1;calc oj (q2U (q1v (sO _ x aq H' s' (by rw[hl];calc hx) J pk) (λu s2 hs=>?_) λ_ _ z=>z.elim));let⟨k,H2,J2,r2,p2⟩:=hs
  try dsimp only
  let pa:=J2.pin (a,seqObj "list" #[] e1) (q0q _ (.head _));let qN:=J2.pin (kS,seqObj "list" (q0S ks) e) (q0q _ (.tail _ (.head _)));let lk:↑ks=j:=by rw[<-↑rv];exact hl
  calc oj (q3n qN.1 Y ?_ (by rw[HW,q09];symm) (q0Q (q5f (q5i ..)) (by rw[HW,q09];symm)));let s1:=q0L s2.heap kS (q0H (·.push u));let ea:(q0S ks).push u=q0S (ks++[u]):=by simp
  let⟨c2,jo⟩:∃c2,(s2.heap.update kS (q0H (·.push u))).get? kS=U (seqObj "list" (q0S (ks++[u])) c2):=⟨_,by rw[<-ea];calc q3s qN.1 (·.push u)⟩;let J3:=J2.gT.gT;let J4:Inv X pins σ H2 {s2 with heap:=s2.heap.update kS (q0H (·.push u))}:=J3.gD (t':=s2.toks) (fk.at qN.2.1) λc o n e=>(s1.2 c n).trans e;calc vw ⟨Y,H2,aq++[k],ks++[u],c2,?_,p2,rv.append (.cons r2 .nil),by rw[Ql,hl,q0J];rfl⟩;exact(J4.pF (fk.at qN.2.1) jo zj).pF ((fa.at pa.2.1).cons wZ) ((s1.2 a wZ.symm).trans pa.1) zj
 case done =>
  ext s' ⟨H',aq,ks,e,J,pk,rv,hl⟩;rw[q0J] at hl;let pa:=J.pin (a,seqObj "list" #[] e1) (q0q _ (.head _));let qN:=J.pin (kS,seqObj "list" (q0S ks) e) (q0q _ (.tail _ (.head _)));let lk:↑ks=↑vs:=by rw[<-↑rv];exact hl
  let⟨kk,k1,k2,k3,k4⟩:=fin aq H' hl pk
  try dsimp only
  calc oj (q6Z qN.1 Y ?_);refine U8 (ks:=kk) lk iK k2 (by rw[lk,k1]) (λi k v e1 e2=>?_) λst p sP hf hp up=>?_
  .let⟨t,e3,e4⟩:=k3 i k e1
   let⟨u,e5,e6⟩:=rv.get e3;rw[e2] at e5;cases e5;cases e6
   let⟨ah,r',it,_⟩:=J.tuple (bz.of e4);let⟨o,o1,o2,n,o3⟩:=it;exact⟨t,o,_,n,Y,o1,o2,o3,by simpa using intsAre_of r'⟩
  .let hz:↑(p.toList.map λi=>vs.getD i q0n)=↑vs:=by rw[rO,HZ,hp.size]
   unfold ksk_tail
   try dsimp only
   rw[sP];calc oj (q3n qN.1 Y ?_ (by rw[HW,q09];symm) (q0u _));calc oj (q5N ?_);let s1:=q0L s'.heap kS (q0H λ_=>(#[]:Array B));let na:(s'.heap.update kS (q0H λ_=>(#[]:Array B))).get? a=U (seqObj "list" #[] e1):=(s1.2 a wZ.symm).trans pa.1;calc oj (q5L na Y ?_);erw[q0a,q0X];calc oj (q3n na Y ?_ (q0u _) (q0Q (q5f (by rw[HW,hz])) (by rw[q09];symm)));rw[hf];erw[q4J,q0a,q0X];let J1:Inv X pins σ H' {s' with heap:=s'.heap.update kS (q0H λ_=>(#[]:Array B))}:=J.gT.gT.gD (t':=s'.toks) (fk.at qN.2.1) λc o n e=>(s1.2 c n).trans e;let s2:=q0L (s'.heap.update kS (q0H λ_=>(#[]:Array B))) a (q0H λ_=>q0S (p.toList.map λi=>vs.getD i q0n))
   let J2:Inv X pins σ H' {s' with heap:=(s'.heap.update kS (q0H λ_=>(#[]:Array B))).update a (q0H λ_=>q0S (p.toList.map λi=>vs.getD i q0n))}:=J1.gD (t':=s'.toks) (fa.at pa.2.1) λc o n e=>(s2.2 c n).trans e;let⟨c2,jo⟩:∃c2,((s'.heap.update kS (q0H λ_=>(#[]:Array B))).update a (q0H λ_=>q0S (p.toList.map λi=>vs.getD i q0n))).get? a=U (seqObj "list" (q0S (p.toList.map λi=>vs.getD i q0n)) c2):=⟨_,q3s na λ_=>q0S (p.toList.map λi=>vs.getD i q0n)⟩;calc vw (k4 p _ c2 hp up J2 (fa.at pa.2.1) jo)
end
section
variable{prog:n}{w:Q}{A:q}{E:aJ}{s:L}
end
section
variable{X:Cx}{pins:au}{σ:St}{H:Hp}{s:L}{E:aJ}
theorem Inv.qO{a:O}{o:HO}(I:Inv X pins σ H s)(fa:bq X pins H a)(ha:⇑X.s₀<=a)(new:az X.prog X.w (upd H a o) s.heap a o):Inv X pins σ (upd H a o) s:=by
 let⟨f0,f1,f2,_,f4,f5⟩:=fa;let ne:∀{b u},H b=U u->b≠a:=λe z=>by rw[z,f0] at e;cases e
 refine⟨I.ok,I.os,I.bare,⟨I.base.keep,I.base.slot,λb u e n hx=>?_,I.base.there,λb xs e=>?_,λb u v e=>?_,λb ps e=>?_⟩,I.loc,I.cell,?_,λx c e=>?_,λp hp=>?_,λb u e=>?_,I.len⟩
 .rw[aA (ZN (q0f (Qj e) ha))];exact I.base.free b u e n hx
 .let:=I.base.cQ b xs e
  rw[aA (ne this)];exact this
 .let:=I.base.di b u v e
  rw[aA (ne this)];exact this
 .let⟨more,this⟩:=I.base.dH b ps e
  exact⟨more,by rw[aA (ne this)];calc this⟩
 .rw[aA (q1L f1)];exact I.free
 .rw[aA (f4 x c e)];exact I.bC x c e
 .let⟨e1,e2,e3⟩:=I.pin p hp
  exact⟨e1,by rw[aA (f5 p hp)];calc e2,e3⟩
 .by_cases z:b=a
  .subst z;rw[bj] at e;cases e;exact new
  .rw[aA z] at e
   refine(I.aF b u e).dG (λc v _ q=>q) (λc q=>?_) λc xs q=>?_
   .rw[aA (ne q)];exact q
   .rw[aA (ne q)];calc q
theorem Lo{xs:-V}{vs:-B}(r:Vals xs vs){p:-Nat}(hp:∀i∈p,i<↑vs):Vals (p.map λi=>xs.getD i .non) (p.map λi=>vs.getD i q0n):=by
 induction p with
 |nil=>exact .nil
 |cons i q ih =>
  calc .cons ?_ (ih λj hj=>hp j (Qm _ hj));let hi:=hp i Qk;let⟨u,e1,e2⟩:=r.get (getD_some (l:=xs) (d:=V.non) (by rw[↑r];calc hi));let:=getD_some (l:=vs) (d:=q0n) hi;rw[this] at e1;cases e1;calc e2
theorem cL.mem{n:Nat}{p:Array Nat}(h:cL n p){i:Nat}(hi:i∈p.toList):i<n:=by
 let:=(q3b.mp h.perm).mem_iff.mp hi;simpa using this
theorem Va{l q:O}{P:-V->Hp->Prop}{xs:-V}{Q:aJ}(I:Inv X pins σ H s)
  (col:∀Q':-B->L->Prop,(∀h' tk vs,(∀b o,s.heap.get? b=U o->h'.get? b=U o)->Vals xs vs->Q' vs {s with heap:=h',toks:=tk})->G (g X.prog X.w) X.A.in1 (collect (.ref l)) Q' E s)
  (iK:↑xs<64) (p0:P [] H)
  (sO:∀(bX:au)(x:V)(u:B)(aq:-V)(H':Hp)(s':L),xs[↑aq]?=U x->RelV x u->Inv X bX σ H' s'->P aq H'->G (g X.prog X.w) X.A.in1.in1 (call (.ref q) [u]) (EP X bX σ λk kF=>P (aq++[k]) kF) (λ_ _=>False) s')
  (fin:∀aq H',↑aq=↑xs->P aq H'->∃ks:-LK,↑ks=↑xs/\(∀k∈ks,k≠[])/\(∀(i:Nat)(k:LK),ks[i]?=U k->∃t,aq[i]?=U (.ref t)/\H' t=U (.tup (k.map V.int))) ∧
   ∀(p:Array Nat)(s':L)(a:O),cL ↑xs p->Up (λi=>ks.getD i []) p ↑xs->H' a=Z->Inv X pins σ (upd H' a (.lst (p.toList.map λi=>xs.getD i .non))) s'->Q (.ref a) s') :
  G (g X.prog X.w) X.A (call (.builtin "sorted") [.ref l] [(q0O "key",.ref q)]) Q E s:=by
 calc call_function_entry_kw q7s q6W q6X (ksk_s1 _ _) ?_;unfold Builtin.«sorted»;calc oj (m:=checkCount "sorted" 1 1 _) (vw ?_);calc oj (col _ λh' tk vs kp rv=>?_);let lv:↑vs=↑xs:=rv.length.symm;calc oj (q35 ?_ (by rw[q09];symm));let I1:Inv X pins σ H {s with heap:=h',toks:=tk}:=I.kept kp;let fa:bq X pins H h'.objs.size:=I1.gH (BA _) (I1.aF.fresh (BA _));let w4:⇑X.s₀<=h'.objs.size:=I1.sz;let I2:Inv X pins σ H {s with heap:=h'.push (seqObj "list" vs.toArray 0),toks:=tk}:=I1.kept (h':=h'.push (seqObj "list" vs.toArray 0)) (t':=tk) λb u e=>rM _ e
 let kz:(h'.push (seqObj "list" vs.toArray 0)).get? h'.objs.size=U (seqObj "list" vs.toArray 0):=ZI _ Y;refine oj (q0B (wpAny_call_entry_kw q5K ⟨_,kz,Y⟩ q5p ?body (ksk_l1 _ _)))
 case body =>
  show G (g X.prog X.w) X.A.in1.in1 (Builtin.«list.sort» ⟨[.ref h'.objs.size],[(q0O "key",.ref q)]⟩) _ _ _;rw[ksk_t1];refine U9 (P:=P) I2 fa kz ⋯ p0 (λbX v aq H' s' hv J pk=>?_) λaq H' hl pk=>?_
  .let hi:↑aq<↑xs:=by rw[<-lv];exact(tU.mp hv).1
   let⟨u,e1,e2⟩:=rv.get (rN hi);rw[hv] at e1;cases e1;exact sO bX _ v aq H' s' (rN hi) e2 J pk
  .let⟨ks,k1,k2,k3,k4⟩:=fin aq H' ⋯ pk
   calc⟨ks,⋯,k2,k3,λp s' c hp up J fj e=>⟨_,Y,?_⟩⟩;rw[lv] at hp up;calc vw ⟨_,Y,k4 p s' h'.objs.size hp up fj.1 (J.qO fj w4 ?_)⟩;let hz:↑(p.toList.map λi=>xs.getD i V.non)=↑xs:=by rw[rO,HZ,hp.size]
   calc⟨by rw[hz,q09];symm,_,c,Lo rv λi hi=>by rw[lv];calc hp.mem hi,e⟩
end
theorem ae.at{H:Hp}{ds:-D}{vs:-V}{i:Nat}{d:D}{v:V}(h:ae H ds vs)(e1:ds[i]?=U d)(e2:vs[i]?=U v):Is H d v:=by
 let⟨d',e3,h'⟩:=h.get e2;rw[e1] at e3;cases e3;calc h'
theorem ae.sQ{H:Hp}:∀{ds:-D}{vs:-V},↑vs=↑ds->(∀(i:Nat)(d:D),ds[i]?=U d->∃v,vs[i]?=U v/\Is H d v)->ae H ds vs
 |[],[],_,_=>.nil
 |[],_::_,h,_=>by simp at h
 |_::_,[],h,_=>by simp at h
 |d::ds,v::vs,h,g=>by
  let⟨v',e,h1⟩:=g 0 d Y;cases(show U v=U v' from e)
  calc .cons h1 (ae.sQ h⁻¹ λi d e=>by simpa using g (i+1) d e⁻¹)
structure me where
 T:O
 pos:y
 qual:R
theorem eD.same{H H':Hp}{T:O}{pos:y}{q:R}(h:eD H T pos q)(s:av H H'):eD H' T pos q:=by
 let⟨ps,e,t,c⟩:=h;calc⟨ps,s _ _ e,t,c.imp id λ⟨c,e1,e2⟩↦⟨c,e1,s _ _ e2⟩⟩
theorem eD.keep{H H':Hp}{T T':O}{pos:y}{q:R}(h:eD H T pos q)(ne:T≠T')(hT:∃ps,H T'=U (.tbl ps))(s:∀b o,H b=U o->b≠T'->H' b=U o):eD H' T pos q:=by
 let⟨ps,e,t,c⟩:=h;calc⟨ps,s _ _ e ne,t,c.imp id λ⟨c,e1,e2⟩=>⟨c,e1,s _ _ e2 λz=>?_⟩⟩;let⟨qs,hT⟩:=hT;rw[z,hT] at e2;cases e2
theorem eD.put{H:Hp}{T a:O}{pos:y}{q:R}{o o':HO}(h:eD H T pos q)(ha:H a=U o)(hk:(∃vs,o=.lst vs)\/(∃ws,o=.dK ws)\/∃ws,o=.dT ws):eD (upd H a o') T pos q:=by
 let⟨ps,e,t,c⟩:=h
 let ne:∀{b u},H b=U u->(∀vs,u≠.lst vs)->(∀ws,u≠.dK ws)->(∀ws,u≠.dT ws)->b≠a:=λ{b u} e n1 n2 n3 z=>by
  subst z;rw[ha] at e;cases e;rcases hk with⟨_,z⟩|⟨_,z⟩|⟨_,z⟩
  .exact n1 _ z
  .exact n2 _ z
  .exact n3 _ z
 calc⟨ps,by rw[aA (ne e (λ_ z=>by cases z) (λ_ z=>by cases z) λ_ z=>by cases z)];calc e,t,c.imp id λ⟨c,e1,e2⟩=>⟨c,e1,?_⟩⟩;rw[aA (ne e2 (λ_ z=>by cases z) (λ_ z=>by cases z) λ_ z=>by cases z)];exact e2
@[reducible] noncomputable def pG (ls:-me):aC where
 ad:=ls.map (·.T)
 ok:=λH=>∀l∈ls,eD H l.T l.pos l.qual
 same:=λh s l hl=>(h l hl).same s
 put:=λh ha hk l hl=>(h l hl).put ha hk
 tb:=λh ha=>by
  let⟨l,hl,rfl⟩:=q0t.mp ha;let⟨ps,e,_⟩:=h l hl;calc⟨ps,e⟩
variable[aC]
structure DU(T:O)(pos:y)(q:R):Prop where
 mem:T∈aC.ad
 get:∀H:Hp,aC.ok H->eD H T pos q
 put:∀H H':Hp,aC.ok H->eD H' T pos q->(∀b o,H b=U o->b≠T->H' b=U o)->aC.ok H'
omit [aC] in
theorem Vb {ls:-me} {l:me} (hl:l∈ls) (nd:∀a∈ls,∀b∈ls,a.T=b.T->a=b):@DU (pG ls) l.T l.pos l.qual:=by
 letI:aC:=pG ls;refine⟨q4o hl,λH h=>h l hl,λH H' h t k l' gN=>?_⟩
 by_cases z:l'.T=l.T
 .rw[nd _ gN _ hl z];exact t
 .let⟨ps,e,_⟩:=h l hl
  calc(h l' gN).keep z ⟨ps,e⟩ k
structure Vc(X:Cx)(T:O):Prop where
 code:∃cc,X.env.code=.ref cc/\CodeHd X.base cc T
 ng:mainGlobals≠T
 blt:X.base.BuiltinsAt X.mg T
section
variable{F H H':Hp}{ad:-O}{δ:ay}{σ:St}
theorem SR.zk(S:SR F ad δ σ H)(k:∀b o,H b=U o->b∉aC.ad->H' b=U o)(tk:aC.ok H'):SR (Nw F H H') ad δ σ H':=by
 let sm:=Nw.same (H':=H') S.sub;let nF:∀{a o},F a=U o->a∉aC.ad:=λ{a o} e t=>by rw[S.nt a t] at e;cases e
 let nO:∀{i a ov},ad[i]?=U a->δ.mu[i]?=U (U ov)->a∉aC.ad:=λ{i a ov} e1 e2 t=>by
  let⟨a',o,e3,e4,h⟩:=S.mu i ov e2;rw[e1] at e3;cases e3;let⟨ps,q⟩:=aC.tb S.tab t;rw[e4] at q;cases q;rcases h.kind with⟨_,z⟩|⟨_,z⟩|⟨_,z⟩<;>cases z
 refine⟨λa o e=>?_,λa l=>?_,S.cJ,S.inj,λi ov e=>?_,λi x e=>?_,S.len,tk,λa ha=>?_⟩
 .unfold Nw at e
  cases q:H a with
  |none=>rw[q] at e;exact e
  |some u=>rw[q] at e;exact k a o (S.sub a o e) (nF e)
 .let⟨i,ov,e1,e2⟩:=l
  let⟨a',o,e3,e4,_⟩:=S.mu i ov e2;rw[e1] at e3;cases e3;unfold Nw;rw[e4];exact S.off a ⟨i,ov,e1,e2⟩
 .let⟨a,o,e1,e2,h⟩:=S.mu i ov e
  exact⟨a,o,e1,k a o e2 (nO e1 e),h.same sm⟩
 .let⟨v,e1,h⟩:=S.sl i x e
  exact⟨v,e1,h.same sm⟩
 .let⟨ps,q⟩:=aC.tb S.tab ha
  unfold Nw;rw[q];calc S.nt a ha
theorem Ext.zk(S:SR F ad δ σ H)(k:∀b o,H b=U o->b∉aC.ad->H' b=U o)(tk:aC.ok H'):Ext F ad δ.mu H (Nw F H H') ad δ.mu H' where
 same:=Nw.same S.sub
 new:=λa o e=>by
  unfold Nw at e
  cases q:H a with
  |none=>exact .inr (.inl Y)
  |some u=>rw[q] at e;exact .inl e
 keep:=λa o e _ t=>k a o e t
 pre:=λ_ _ e=>e
 b8:=λ_ l=>.inl l
 jx:=λa o e=>by
  by_cases t:a∈aC.ad
  .let⟨ps,q⟩:=aC.tb tk t
   exact⟨_,q⟩
  .calc⟨o,k a o e t⟩
theorem SR.w5{sl:-(Option DV)}{mu:-(Option OV)}{τ:St}{d:D}{v:V}(S:SR F ad ⟨sl,mu⟩ τ H)(h:Is F d v):SR F ad ⟨U (.p d)::sl,mu⟩ (U v::τ) H:=by
 refine⟨S.sub,S.off,S.cJ,S.inj,S.mu,λi x e=>?_,by let:=S.len;erw[HY];calc congrArg (· + 1) this,S.tab,S.nt⟩
 cases i with
 |zero=>cases(show U (U (DV.p d))=U (U x) from e);exact⟨v,Y,h⟩
 |succ i=>calc S.sl i x e
theorem Ext.qP{F' H':Hp}{ax:-O}{dh:-(Option OV)}{a:O}{o:HO}(S:SR F ad δ σ H)(e:Ext F ad δ.mu H F' ax dh H')(h:H a=U o)(n1:∀vs,o≠.lst vs)(n2:∀ws,o≠.dK ws)(n3:∀ps,o≠.tbl ps)(n4:∀ws,o≠.dT ws):H' a=U o:=by
 refine e.keep a o h (λ⟨i,ov,e1,e2⟩=>?_) λt=>?_
 .let⟨a',u,e3,e4,q⟩:=S.mu i ov e2
  rw[e1] at e3;cases e3;rw[h] at e4;cases e4;rcases q.kind with⟨_,z⟩|⟨_,z⟩|⟨_,z⟩
  .exact n1 _ z
  .exact n2 _ z
  .exact n4 _ z
 .let⟨ps,q⟩:=aC.tb S.tab t
  rw[h] at q;calc n3 _ (q0A q)
end
def Vd(cp:-(Option Nat))(fb:WE)(δ:ay)(ds:-D)(key:D->LK):Prop :=
 ∀d∈ds,key d≠[]/\fb ⟨U (.p d)::cY cp δ.sl,δ.mu⟩ λy δ'=>y=.p (.tup ((key d).map D.int))/\δ'.mu=δ.mu
def sortBy(cp:-(Option Nat))(fb:WE)(δ:ay)(ds:-D)(K:-D->Prop):Prop :=
 ↑ds<64/\∃key:D->LK,Vd cp fb δ ds key/\∀out:-D,out.Perm ds->(out.map key).Pairwise kle->K out
section
variable{X:Cx}{params:Arguments}{body:M}{scope:S}{gx:y}{x:R}{Nb:-R}{cp:-(Option Nat)}{fb:WE}{T:O}
structure mf(X:Cx)(params:Arguments)(body:M)(scope:S)(gx:y)(T:O)(x:R)(Nb:-R)(cp:-(Option Nat))(fb:WE):Prop where
 env:Vc X T
 tbl:DU T gx (X.env.qual++"<lambda>")
 Ve:defaultsOf params X.env=([],[])
 kind:scope.kind=.function
 names:zh X.N X.env.scope scope x Nb cp=θ
 co:scope.isCoroutine=ι
 gen:scope.isGenerator=ι
 bind:∀(cl:-(R×O))(pm cd ct u:B),bindArgs (kla_fn "<lambda>" (X.env.qual++"<lambda>") params body scope cl pm cd ct) ⟨[u],[]⟩=pure [(x,u)]
 room:∃k,aX (k+3) X.A/\∀d:LD,aX k (d.A.deeper (envX (X.env.qual++"<lambda>") scope ⇑d.s d.f d.cd d.cl))->JE (pE X (X.env.qual++"<lambda>") scope (x::Nb) d) body (tD fb)
theorem Vf{pins:au}{σ:St}{H:Hp}{s:ο}{E:aJ}{l:O}{F:Hp}{ad:-O}{δ:ay}{ds:-D}{xs:-V}{jN pos:Ε}{Q:VK}(L:mf X params body scope gx T x Nb cp fb)
  (I:Inv X pins σ H s) (S:SR F ad δ σ H) (hx:ae F ds xs)
  (col:∀(s:ο)(H':Hp),Inv X pins σ H' s->(∀b o,H b=U o->b∉aC.ad->H' b=U o)->∀Q':-B->ο->Prop,(∀h' tk vs,(∀b o,s.heap.get? b=U o->h'.get? b=U o)->Vals xs vs->Q' vs {s with heap:=h',toks:=tk})->G (g X.prog X.w) X.A.in1 (collect (.ref l)) Q' E s)
  (hs:sortBy cp fb δ ds λout=>∀a F' H' us,Ext F ad δ.mu H F' ad δ.mu H'->SR F' ad δ σ H'->H' a=Z->ae F' out us->Q (.ref a) (upd H' a (.lst us))) :
  G (g X.prog X.w) X.A (evalAll ((backToKw pos (keywordEach [⟨U "key",.Lambda params body scope gx,jN⟩] X.env)).map (·.2))) (λaq s₂=>G (g X.prog X.w) X.A (call (.builtin "sorted") [.ref l] (((backToKw pos (keywordEach [⟨U "key",.Lambda params body scope gx,jN⟩] X.env)).filterMap (·.1)).zip aq)) (EP X pins σ Q) E s₂) E s:=by
 let⟨iK,key,hk,K⟩:=hs;let⟨k,w6,J⟩:=L.room;let⟨cc,jI,hC⟩:=L.env.code;show G _ _ (evalAll [do let v <- eval (.Lambda params body scope gx) X.env;standAt pos;pure v]) _ _ _;calc evalAll_cons (oj ?_);let DW:=L.names;unfold zh at DW;erw[q0k,q0T,q1D] at DW;let SC:=x1L L.kind DW.1.1.1;let⟨cl,qG,sN,zi⟩:=H_ (scope:=scope) (env:=X.env) λy hy e=>I.ok.has y.1 (SC.free y hy e);calc U0 I (L.tbl.get H S.tab) L.Ve qG jI (hC.keeps I.bk) L.env.ng (I.mod.glob.keeps I.bk) (L.env.blt.keeps I.bk) λf H1 s1 c I1 t1 k1 UX hf hc=>?_;calc oj (q2V (vw ?_));calc evalAll_nil ?_;show G _ _ (call (.builtin "sorted") [.ref l] [(q0O "key",.ref f)]) _ _ _
 let kT:∀b o,H b=U o->b∉aC.ad->H1 b=U o:=λb o e t=>k1 b o e λz=>t (by rw[z];calc L.tbl.mem);let lF:=L.tbl.put H H1 S.tab t1 k1;let S1:=S.zk kT lF;let E1:=Ext.zk S kT lF;let lx:=↑hx
 refine Va (xs:=xs) (P:=λaq H'=>∃F',Ext F ad δ.mu H F' ad δ.mu H'/\SR F' ad δ σ H'/\H' f=U (i9 f "<lambda>" (X.env.qual++"<lambda>") params body scope cl ((X.mg "__name__").getD .none) (.ref c))/\H' c=U (nE c (X.env.qual++"<lambda>"))/\∀(i:Nat)(d:D)(kv:V),ds[i]?=U d->aq[i]?=U kv->Is F' (.tup ((key d).map D.int)) kv)
  I1 (col s1 H1 I1 kT) ⋯ ⟨_,E1,S1,hf,hc,λi d kv _ e=>by simp at e⟩ (λbX v u aq H' s' hv rv I' ⟨F',E',S',DX,kA,DY⟩=>?_) λaq H' hl ⟨F',E',S',DX,kA,DY⟩=>?_
 .let hi:↑aq<↑ds:=by rw[<-lx];exact(tU.mp hv).1
  let hd:=rN hi;let Vg:Is F' ds[↑aq] v:=ae.at (hx.same E'.same) hd hv;let⟨Z8,Vh⟩:=hk _ (q1W hi);let r2:aX (k+1) X.A.in1.in1:=(aX.in1 (aX.in1 (k:=k+2) w6));calc U5 I' DX kA (by rw[show X.A.in1.in1.frames=X.A.frames from Y];calc I'.ok.frames) r2.hd r2.depth L.kind L.names L.co L.gen sN zi (λct=>L.bind cl _ _ ct u) rv (J ⟨X.A.in1.in1,cl,f,.ref c,s',H'⟩ (r2.deeper _)) ?_;calc⟨F',ad,_,_,(S'.v5 (cp:=cp)).w5 Vg,Vh,λy δ' ⟨ey,em⟩ w F2 cn H2 E2 S2 V2=>?_⟩;subst ey
  let ea:cn=ad:=by
   let l2:↑cn=↑ad:=by rw[S2.cJ,em,S'.cJ]
   refine q11 λi=>?_
   by_cases hi:i<↑ad
   .rw[rN hi];exact E2.pre i _ (rN hi)
   .rw[q0W ⋯,q0W ⋯]
  subst ea;let⟨mS,dh⟩:=δ';let em:dh=δ.mu:=em;subst em;refine⟨F2,E'.trans E2,SR.back S' E2 S2,E2.qP S' DX (λ_ z=>by cases z) (λ_ z=>by cases z) (λ_ z=>by cases z) (λ_ z=>by cases z),E2.qP S' kA (λ_ z=>by cases z) (λ_ z=>by cases z) (λ_ z=>by cases z) (λ_ z=>by cases z),λi d kv e1 e2=>?_⟩
  by_cases oN:i<↑aq
  .rw[q0g oN] at e2
   exact Is.same E2.same (DY i d kv e1 e2)
  .let:i=↑aq:=by
    let:=(tU.mp e2).1;rw[Ql,q0F] at this;symm
   subst this;rw[q0h (BA _),q1m] at e2;cases(show U w=U kv from e2)
   rw[hd] at e1;cases e1;exact V2
 .refine⟨ds.map key,by rw[rO];symm,λk g_=>?_,λi k' e=>?_,λp s' a hp up ha I'=>?_⟩
  .let⟨d,hd,rfl⟩:=q0t.mp g_
   exact(hk d hd).1
  .rw[Qi] at e
   let⟨d,hd,rfl⟩:=ZM.mp e;let hi:i<↑aq:=by rw[hl,lx];exact(tU.mp hd).1
   let is:=DY i d _ hd (rN hi);erw[Is] at is;let⟨t,us,e1,e2,e3⟩:=is;calc⟨t,by rw[rN hi,e1],?_⟩;rw[<-sg e3];exact S'.sub _ _ e2
  .let pm:(p.toList.map λi=>ds.getD i .non).Perm ds:=by
    let h1:=(q3b.mp hp.perm).map λi=>ds.getD i .non
    let h2:(q0s ↑xs).map (λi=>ds.getD i D.non)=ds:=by
     calc q11 λi=>?_;rw[Qi]
     by_cases hi:i<↑ds
     .rw[q1a ⋯,q3o,rN hi,HX,rN hi];rfl
     .rw[q0W (by rw[q0Z];symm),q0W ⋯];rfl
    rw[show(q0s ↑xs).toArray.toList=q0s ↑xs from Y,h2] at h1;exact h1
   refine⟨.ref a,_,I',Y,K _ pm ?_ a _ _ _ E' S' ha ?_⟩
   .rw[q0D,q2s]
    ext i j hi hj iM;rw[rO,HZ,hp.size] at hi hj;let:=up i j (q1t iM) hj;unfold KA at this;rw[q3e,q3e]
    let gp:∀{i:Nat}(h:i<↑p.toList),p.getD i 0=p.toList[i]:=λ{i} h=>by
     let h':i<p.size:=by rw[<-HZ];exact h
     simp[q3x,h']
    let gk:∀{i:Nat},i<↑ds->(ds.map key).getD i []=key (ds.getD i .non):=λ{i} h=>by
     rw[HX,Qi,rN h,HX,rN h];rfl
    let pi:=hp.lt hi;let pj:=hp.lt hj;dsimp only at this;rw[gk ⋯,gk ⋯,gp (by rw[HZ,hp.size];calc hi),gp (by rw[HZ,hp.size];calc hj)] at this;exact this
   .refine ae.sQ ?_ λi d e=>?_
    .rw[rO,rO]
    .rw[Qi] at e ⊢
     let⟨z,e1,rfl⟩:=ZM.mp e;rw[e1];let hz:=hp.mem (q0v e1);calc⟨_,Y,ae.at (hx.same E'.same) (getD_some ⋯) (getD_some ⋯)⟩
end
structure gU(mg:R->Option B)(base:I)(fd:FuncData)(T:O)(pos:y)(q:R):Prop where
 code:∃cc,fd.code=.ref cc/\CodeHd base cc T
 ng:mainGlobals≠T
 blt:base.BuiltinsAt mg T
 tbl:DU T pos q
theorem gm.DZ{P:n}{w:ω}{K:xY}{mg:R->Option ν}{base:I}{x qual:R}{st:o}{f:O}{fd:FuncData}{N ps:-R}{k:Nat}{G:GD}(F:gm K x qual st f fd)(S:mT N ps (cw st))
  (d6:∀(aO:ν)(A:q)(outer:-t)(s:L)(H:Hp)(E:XK),fd.code=aO->aX k (A.deeper (envOfC qual (cw st) ⇑s f aO)) →
   ∃B:WS,cj (aS fJ P w K mg base N qual (cw st) f aO A outer s H E).lh (d8 st) (cX B)/\∀ys ovs K',↑ys=↑ps->G ys ovs K'->B (gO ↑ovs K') ⟨ys.map U++q0d (↑N-↑ps) Z,ovs.map U⟩) :
  bK P w K mg base fJ (k+1) f fd ps (m_ G ↑ps):=by
 let⟨oc,od,kV,doc,pm,an,aO,ct,mU,rfl,lk,e7⟩:=F.ex;calc A_ lk e7 S (λvs H Q E h=>h.1) λA outer s H vs Q E hr h=>?_;let⟨hl,Fz,ad,ys,ovs,K',S0,g,kk⟩:=h;let⟨B,jb,hb⟩:=d6 aO A outer s H E Y hr
 let hy:↑ys=↑ps:=by
  let:=S0.len;rw[rO] at this;rw[<-hl,this];show _=↑(ys.map U);rw[rO]
 refine⟨_,jb.lh,Fz,ad,⟨ys.map U++q0d (↑N-↑ps) Z,ovs.map U⟩,gO ↑ovs K',by rw[<-hl];calc S0.start,hb ys ovs K' hy g,⟨fun δ' h F' ax σ' H' E' S'=>?_,fun δ' h=>h.elim,fun δ' h=>h.elim,λy δ' h v F' ax σ' H' E' S' V=>?_,trivial⟩⟩
 .exact ua (σ':=σ') S0 E' S' (x:=.p .non) (v:=.non) Y h kk
 .calc ua (σ':=σ') S0 E' S' V h kk
section
variable{X:Cx}{params:Arguments}{body a e:M}{scope:S}{gx p1 p2 q1 q2 jN:y}{x:R}{Nb:-R}{cp:-(Option Nat)}{fb f:WE}{fa:WA}{T:O}
def D0(f:WE)(cp:-(Option Nat))(fb:WE):WE:=fun δ K=>f δ λx δ1=>fw x δ1 λd=>match d with
 |.lst ds=>sortBy cp fb δ1 ds λout=>K (.p (.lst out)) δ1
 |_=>False
theorem Vi(L:mf X params body scope gx T x Nb cp fb)(Vj:Gl X "sorted")(hs:X.mg "sorted" = Z)(Vk:bootBuiltins "sorted" = U (.builtin "sorted"))(ha:JA X [e] (bM (ag f af)))
  (he:starEach [e] X.env=[(ι,eval e X.env)]:=by rfl):JE X (.Call (.Name "sorted" p1) [e] [⟨U "key",.Lambda params body scope gx,jN⟩] q1) (tD (D0 f cp fb)) :=
 ⟨λpins s σ H Q I h0_=>el7 h0_ λF ad δ K S q k =>by
  calc q2l (nW I Vj hs Vk ?_);calc callWith_kw ?_ (he:=by rw[he];rfl) (hplain:=by rw[he];rfl);refine a_ (ha q1 pins s σ H (λvs H1=>∃(l:O)(F1:Hp)(aN:-O)(δ1:ay)(ds:-D)(us:-V),vs=[.ref l]/\H1 l=U (.lst us)/\ae F1 ds us/\Ext F ad δ.mu H F1 aN δ1.mu H1/\SR F1 aN δ1 σ H1/\sortBy cp fb δ1 ds λout=>K (.p (.lst out)) δ1) I ?_) λus s1 Vl=>?_
  .refine⟨F,ad,δ,λxs δ1=>match xs with
    |[x]=>fw x δ1 λd=>match d with
     |.lst ds=>sortBy cp fb δ1 ds λout=>K (.p (.lst out)) δ1
     |_=>False
    |_=>False,S,q,λxs δ1 h1 vs F1 aN H1 E1 S1 V1=>?_⟩
   match xs,h1,V1 with
   |[],h1,_=>exact h1.elim
   |_::_::_,h1,_=>exact h1.elim
   |[x],h1,V1 =>
    let⟨v,r,e,W1,W2⟩:=V1;let W2:r=[]:=W2;subst W2 e;let⟨d,h2,rd⟩:=iw S1 W1 h1
    match d,h2,rd with
    |.lst ds,h2,rd =>
     let⟨a,us,rfl,g1,g2⟩:=rd;exact⟨a,F1,aN,δ1,ds,us,Y,g1,g2,E1,S1,h2⟩
  .let⟨vs,H1,I1,r1,l,F1,aN,δ1,ds,ws,ev,hl,hi,E1,S1,Vm⟩:=Vl
   subst ev;let⟨u,rfl,rx⟩:=vals1 r1;cases rx
   refine Vf L I1 S1 hi (λs' H' I' kp Q' hQ=>?_) ?_
   .let gN:H' l=U (.lst ws):=kp l _ hl λt=>by
     let⟨ps,z⟩:=aC.tb S1.tab t;rw[hl] at z;cases z
    let⟨ah,r',pl,hz⟩:=I'.list (bh.of gN)
    exact collect_list pl.isList⁻¹ (hQ _ s'.toks ah (λb o e=>by
     let cq:b<⇑s':=Qj e;rw[q4n _ _ _ _ (ZN cq),Heap.get?_push_ne _ _ _ (ZN cq)]
     calc e) r') (by rw[<-↑r'];calc hz)
   .let⟨iK,key,hk,hK⟩:=Vm
    calc⟨iK,key,hk,λout pm pw a F' H' us E' S' hn is=>k _ _ (hK out pm pw) _ _ _ _ ((E1.trans E').trans (Ext.al S' (bL hn))) (S'.al (bL hn)) (kG S'.sub hn is)⟩⟩
end
end L2
namespace L2
open PySem PySem.Spec PyProof.Rows PySem.W
theorem D1:∀{k l:LK}(n m:Int),k.length=↑l->HT.lexLt (k++[n]) (l++[m])=if k=l then J (n<m) else HT.lexLt k l
 |[],[],n,m,_=>by
  show(if n=m then HT.lexLt [] [] else J (n<m))=_;rw[ZK Y]
  by_cases h:n=m
  .rw[ZK h];subst h;simp[HT.lexLt]
  .rw[ZJ h]
 |[],_::_,_,_,h=>by simp at h
 |_::_,[],_,_,h=>by simp at h
 |a::k,b::l,n,m,h=>by
  rw[q47,q47,HT.mW,HT.mW,D1 n m h⁻¹]
  by_cases e:a=b
  .subst e
   rw[ZK Y,ZK Y]
   by_cases e2:k=l
   .subst e2;rw[ZK Y,ZK Y]
   .rw[ZJ e2,ZJ λz=>e2 (q4X z).2]
  .rw[ZJ e,ZJ e,ZJ λz=>e (q4X z).1]
def mi(h:I)(L:Nat)(k:LK)(v:B):Prop:=∃a o xs n b kb m t,v=.ref a/\h.get? a=U o/\o.cls=.type "tuple" /\ o.data=.seq xs n/\xs.toList=[.ref b,.int m t]/\i_ h kb (.ref b)/\↑kb=L/\k=kb++[m]
section
variable{prog:n}{w:ω}{A:q}{E:aJ}{s:L}{Q:Bool->L->Prop}
theorem D2:∀{us:-B}{ns:-Int},IntsAre us ns->ItemsAre (intKind prog w) ns us
 |_,_,.nil=>.nil
 |_,_,.cons n t r=>.cons (q3X ..) (D2 r)
theorem Vn{L:Nat}{k l:LK}{x y:B}(hu:A.units<cLine)(hx:mi s.heap L k x)(hy:mi s.heap L l y)(h:Q (HT.lexLt k l) s):G (g prog w) A (keyLt' (tuples' ι) x y) Q E s:=by
 let⟨a,o,xs,n,b,kb,m,t,rfl,h1,_,h2,h3,⟨b',ob,bs,nb,eb,g1,gc,g2,g3⟩,hL,rfl⟩:=hx;let⟨a',o',Vo,n',c,kc,m',t',rfl,om,_,fM,Aq,⟨c',oc,cs,nc,ec,f1,fc,f2,f3⟩,Vp,rfl⟩:=hy;cases eb
 cases ec
 let hz:xs.size=2:=by rw[<-HZ,h3];rfl
 let CY:Vo.size=2:=by rw[<-HZ,Aq];rfl
 rw[D1 m m' (by rw[hL,Vp])] at h;let k1:IsTupleKey (intKind prog w) s.heap kb b:=⟨ob,bs,nb,g1,gc,g2,D2 g3⟩;let k2:IsTupleKey (intKind prog w) s.heap kc c:=⟨oc,cs,nc,f1,fc,f2,D2 f3⟩;calc kat_lt h1 h2 om fM ?_;rw[h3,Aq,hz,CY,q2N,q2N,q3L];refine kat_cons (q6u hu k1 k2 (kat_go (λe=>?_) λe=>?_))
 .let e:kb=kc:=by simpa using e
  rw[ZK e] at h;refine kat_yes (kat_cons (q40 (kat_go (λe2=>?_) λe2=>?_)))
  .let e2:m=m':=q0m e2
   subst e2;calc kat_yes (kat_nil ?_);simpa using h
  .exact kat_no (kat_one _ _ (q4l h))
 .let e:¬ kb=kc:=by simpa using e
  rw[ZJ e] at h;calc kat_no (kat_one _ _ (HT.HC ⟨ob,g1,gc,nb,g2⟩ ⟨oc,f1,fc,nc,f2⟩ g3 f3 hu h))
theorem Vq{M:Model}{L:Nat}{vs:-B}{ks:-LK}{Q:SortKind->ο->Prop}(h0:0<↑vs)(hl:↑vs=↑ks)(ht:∀(i:Nat) (k:LK) (v:B),ks[i]?=U k->vs[i]?=U v->mi s.heap L k v)(h:Q (tuples' ι) s):
  G M A (keyKind' vs.toArray) Q E s:=by
 let key:∀(vs:-B)(ks:-LK),↑vs=↑ks->(∀(i:Nat)(k:LK)(v:B),ks[i]?=U k->vs[i]?=U v->mi s.heap L k v)->∃fs,KatTups s.heap vs fs/\fs.length=↑vs/\∀v∈fs,Looks M s.heap (typeOf v) (.type "tuple"):=by
  ext vs
  induction vs with
  |nil=>exactλks _ _=>⟨[],.nil,Y,λv hv=>nomatch hv⟩
  |cons v vs ih =>
   ext ks hl ht
   match ks,hl,ht with
   |k::ks,hl,ht =>
    let⟨fs,t,hf,hi⟩:=ih ks hl⁻¹ λi k v e1 e2=>ht (i+1) k v e1⁻¹ e2⁻¹;let⟨a,o,xs,n,b,kb,m,t',rfl,h1,hc,h2,h3,⟨b',ob,bs,nb,eb,g1,gc,g2,g3⟩,_⟩:=ht 0 k v Y Y;cases eb
    let h0:xs[0]?=U (.ref b):=by rw[<-q0p,h3];rfl
    calc⟨.ref b::fs,.cons h1 hc h2 h0 t,by rw[HY,HY,hf],λv hv=>?_⟩;rcases My.mp hv with rfl|hv
    .rw[<-gc];exact(Looks.ld g1).andThen .now
    .exact hi v hv
 let⟨fs,t,hf,hi⟩:=key vs ks hl ht;calc kat_kind (T:=.type "tuple") t ⋯ hi (by decide) h
end
section
variable{X:Cx}{pins:au}{σ:St}{H:Hp}{s:L}{A:q}{E:aJ}{a:O}{vs:-B}{ks:-LK}{κ:SortKind}
theorem Vr{n0:Nat}{R:q8O->L->Prop}(I:Inv X pins σ H s)(fa:bq X pins H a)(ha:s.heap.get? a=U (seqObj "list" vs.toArray n0))(iK:↑vs<64)
  (kind:∀s':L,Inv X pins σ H s'->2<=↑vs->∀Q:SortKind->L->Prop,Q κ s'->ρ (g X.prog X.w) A (keyKind' vs.toArray) Q E s')
  (ask:∀s':L,Inv X pins σ H s'->∀(i j:Nat)(C:Bool->L->Prop),i<↑vs->j<↑vs->C (HT.lexLt (ks.getD i []) (ks.getD j [])) s'->ρ (g X.prog X.w) A (keyLt' κ (vs.getD i q0n) (vs.getD j q0n)) C (λ_ _=>False) s')
  (fin:∀(p:Array Nat)(s':L)(c:Nat),cL ↑vs p->Up (λi=>ks.getD i []) p ↑vs->Inv X pins σ H s'->s'.heap.get? a=U (seqObj "list" (q0S (p.toList.map λi=>vs.getD i q0n)) c)->R (.done (.ret .none)) s') :
  ρ (g X.prog X.w) A (Builtin.«list.sort» ⟨[.ref a],[]⟩) R E s:=by
 let sb:=q0L s.heap a (q0H λ_=>(#[]:Array B));let⟨e1,fL⟩:∃e1,(s.heap.update a (q0H λ_=>(#[]:Array B))).get? a=U (seqObj "list" #[] e1):=⟨_,q3s ha λ_ => #[]⟩;let I1:Inv X pins σ H {s with heap:=s.heap.update a (q0H λ_=>(#[]:Array B))}:=I.gD (t':=s.toks) fa λc o n e=>(sb.2 c n).trans e;rw[list_sort_plain];calc oj (q6Z ha Y ?_);calc oj (q3n ha Y ?_ (by rw[HW,q09];symm) (q0u _));calc oj (q5L fL Y ?_);calc oj (q5M ?_ (by show ↑vs<=_;rw[q09];symm));calc oj (q35 ?_ (q0u _));calc q0B ?_;generalize U_:s.heap.update a (q0H λ_=>(#[]:Array B))=g0 at fL I1 sb
 show ρ (g X.prog X.w) A _ R E {s with heap:=(g0.push (seqObj "tuple" vs.toArray 0)).push (seqObj "list" #[] 0)};let I2:Inv X pins σ H {s with heap:=(g0.push (seqObj "tuple" vs.toArray 0)).push (seqObj "list" #[] 0)}:=I1.kept (h':=(g0.push (seqObj "tuple" vs.toArray 0)).push (seqObj "list" #[] 0)) (t':=s.toks) λb u e=>rM _ (rM _ e);let fg:((g0.push (seqObj "tuple" vs.toArray 0)).push (seqObj "list" #[] 0)).get? a=U (seqObj "list" #[] e1):=rM _ (rM _ fL);let kp:∀b o,b≠a->s.heap.get? b=U o->((g0.push (seqObj "tuple" vs.toArray 0)).push (seqObj "list" #[] 0)).get? b=U o:=λb o n e=>rM _ (rM _ ((sb.2 b n).trans e))
 generalize(g0.push (seqObj "tuple" vs.toArray 0)).push (seqObj "list" #[] 0)=g1 at I2 fg kp;dsimp only
 let tail:∀(st:SortSt)(p:Array Nat),(arrOf st).map (·.2)=q0S (p.toList.map λi=>vs.getD i q0n)->failedOf st=Z->cL ↑vs p->Up (λi=>ks.getD i []) p ↑vs->ρ (g X.prog X.w) A (do
   let touched:=(<- seqEpoch a) != e1
   Builtin.List.listUpdate (.ref a) λ_=>(arrOf st).map (·.2)
   if let U e:=failedOf st then rule "list.sort.comparison-raised";throw e
   if touched then rule "list.sort.modified";raiseError "ValueError" "list modified during sort"
   ret .none) R E {s with heap:=g1}:=by
  ext st p sP hf hp up;let hz:↑(p.toList.map λi=>vs.getD i q0n)=↑vs:=by rw[rO,HZ,hp.size]
  rw[sP];let s2:=q0L g1 a (q0H λ_=>q0S (p.toList.map λi=>vs.getD i q0n));let⟨c2,jo⟩:∃c2,(g1.update a (q0H λ_=>q0S (p.toList.map λi=>vs.getD i q0n))).get? a=U (seqObj "list" (q0S (p.toList.map λi=>vs.getD i q0n)) c2):=⟨_,q3s fg λ_=>q0S (p.toList.map λi=>vs.getD i q0n)⟩;let J:Inv X pins σ H {s with heap:=g1.update a (q0H λ_=>q0S (p.toList.map λi=>vs.getD i q0n))}:=I2.gD (h':=g1.update a (q0H λ_=>q0S (p.toList.map λi=>vs.getD i q0n))) (t':=s.toks) fa λc o n e=>(s2.2 c n).trans e;calc oj (q5L fg Y ?_);refine oj (q3n fg Y ?_ (q0u _) (q0Q (q5f (by rw[HW,hz])) (by rw[q09];symm)))
  rw[hf];erw[q4J,q0a,q0X];exact vw (fin p _ c2 hp up J jo)
 by_cases h2:vs.toArray.size<2
 .rw[ZK h2,ZK h2]
  calc oj (vw ?_);rw[q7F];calc oj (vw ?_);rw[HW] at h2;refine tail (SortSt.mk' general' (vs.toArray.zip vs.toArray) #[] 7 Z) (q0s ↑vs).toArray ?_ Y ⟨q5o _⟩ λi j iM hj=>?_
  .let DT:arrOf (SortSt.mk' general' (vs.toArray.zip vs.toArray) #[] 7 Z)=(q0S (q0s ↑vs)).map (kas_item (vs.toArray.zip vs.toArray)):=by
    let e:=kas_range (vs.toArray.zip vs.toArray);rw[show(vs.toArray.zip vs.toArray).size=↑vs by simp] at e;rw[e]
   exact kat_snds Y DT
  .let:i=j:=by symm
   subst this;exact kle_refl _
 .rw[ZJ h2,ZJ h2]
  rw[HW] at h2;refine oj (kind _ I2 ⋯ _ ?_)
  refine oj (q1v (kat_run (κ:=κ) (E:=E) (Q:=λeN s'=>s'={s with heap:=g1}/\∃p:Array Nat,arrOf eN=p.map (kas_item (vs.toArray.zip vs.toArray))/\failedOf eN=Z/\cL ↑vs p/\Up (λi=>ks.getD i []) p ↑vs)
   (G:=λp s'=>s'={s with heap:=g1}/\cL ↑vs p/\Up (λi=>ks.getD i []) p ↑vs) Y ⋯ iK (λp eN s' a1 a2 a3 a4=>⟨a4.1,p,a2,a3,a4.2.1,a4.2.2⟩) ?_) ?_ λ_ _ x=>x)
  .refine Kg (k:=λi=>ks.getD i []) (I:=λs'=>s'={s with heap:=g1}) (λi j C s' hi hj e hC=>?_) ⋯ Y λp s' a1 a2 a3=>⟨a3,a1,a2⟩
   subst e;exact ask _ I2 i j C hi hj (hC _ Y)
  .ext ⟨⟨⟩,eN⟩ s' ⟨rfl,p,a1,a2,a3,a4⟩
   calc tail eN p (kat_snds Y a1) a2 a3 a4
theorem Lp{l:O}{xs:-V}{Q:aJ}(I:Inv X pins σ H s)
  (col:∀Q':-B->L->Prop,(∀h' tk vs,(∀b o,s.heap.get? b=U o->h'.get? b=U o)->Vals xs vs->Q' vs {s with heap:=h',toks:=tk})->G (g X.prog X.w) X.A.in1 (collect (.ref l)) Q' E s) (iK:↑xs<64)
  (kind:∀(s':L)(vs:-B),Vals xs vs->Inv X pins σ H s'->2<=↑vs->∀Q:SortKind->L->Prop,Q κ s'->G (g X.prog X.w) X.A.in1.in1 (keyKind' vs.toArray) Q E s')
  (ask:∀(s':L)(vs:-B),Vals xs vs->Inv X pins σ H s'->∀(i j:Nat)(C:Bool->L->Prop),i<↑vs->j<↑vs->C (HT.lexLt (ks.getD i []) (ks.getD j [])) s'->G (g X.prog X.w) X.A.in1.in1 (keyLt' κ (vs.getD i q0n) (vs.getD j q0n)) C (λ_ _=>False) s')
  (fin:∀(p:Array Nat)(s':L)(a:O),cL ↑xs p->Up (λi=>ks.getD i []) p ↑xs->H a=Z->Inv X pins σ (upd H a (.lst (p.toList.map λi=>xs.getD i .non))) s'->Q (.ref a) s') :
  G (g X.prog X.w) X.A (call (.builtin "sorted") [.ref l]) Q E s:=by
 calc q4G q7s q6W q6X (args_sorted1 _) ?_;unfold Builtin.«sorted»;calc oj (m:=checkCount "sorted" 1 1 _) (vw ?_);calc oj (col _ λh' tk ah kp rv=>?_);let lv:↑ah=↑xs:=rv.length.symm;calc oj (q35 ?_ (by rw[q09];symm));let I1:Inv X pins σ H {s with heap:=h',toks:=tk}:=I.kept kp;let fa:bq X pins H h'.objs.size:=I1.gH (BA _) (I1.aF.fresh (BA _));let w4:⇑X.s₀<=h'.objs.size:=I1.sz;let I2:Inv X pins σ H {s with heap:=h'.push (seqObj "list" ah.toArray 0),toks:=tk}:=I1.kept (h':=h'.push (seqObj "list" ah.toArray 0)) (t':=tk) λb u e=>rM _ e;let kz:(h'.push (seqObj "list" ah.toArray 0)).get? h'.objs.size=U (seqObj "list" ah.toArray 0):=ZI _ Y
 refine oj (q0B (q1e q5K ⟨_,kz,Y⟩ q5p ?body (args_list_sort _)))
 case body =>
  calc Vr (κ:=κ) (ks:=ks) I2 fa kz ⋯ (λs' J h2 Q' hq=>kind s' ah rv J h2 Q' hq) (λs' J i j C hi hj hC=>ask s' ah rv J i j C hi hj hC) λp s' c hp up J e=>⟨_,Y,?_⟩;rw[lv] at hp up;calc vw ⟨_,Y,fin p s' h'.objs.size hp up fa.1 (J.qO fa w4 ?_)⟩;let hz:↑(p.toList.map λi=>xs.getD i V.non)=↑xs:=by rw[rO,HZ,hp.size]
  calc⟨by rw[hz,q09];symm,_,c,Lo rv λi hi=>by rw[lv];calc hp.mem hi,e⟩
end
def D3(ds:-D)(key:D->LK):Prop :=
 (∀d∈ds,key d≠[]/\d=.tup ((key d).map D.int))\/∃L:Nat,∀d∈ds,∃(k:LK)(n:Int),k.length=L/\d=.tup [.tup (k.map D.int),.int n]/\key d=k++[n]
def zo:-D->(D->Prop)->Prop
 |[.lst ds],K=>↑ds<64/\∃key:D->LK,D3 ds key/\∀out:-D,out.Perm ds->(out.map key).Pairwise kle->K (.lst out)
 |[.tup ds],K=>↑ds<64/\∃key:D->LK,D3 ds key/\∀out:-D,out.Perm ds->(out.map key).Pairwise kle->K (.lst out)
 |_,_=>False
theorem Vs{ds:-D}{key:D->LK}{p:Array Nat}{n:Nat}(hn:↑ds=n)(hp:cL n p)(up:Up (λi=>(ds.map key).getD i []) p n):(p.toList.map λi=>ds.getD i .non).Perm ds/\((p.toList.map λi=>ds.getD i .non).map key).Pairwise kle:=by
 subst hn
 constructor
 .let h1:=(q3b.mp hp.perm).map λi=>ds.getD i D.non
  let h2:(q0s ↑ds).map (λi=>ds.getD i D.non)=ds:=by
   calc q11 λi=>?_;rw[Qi]
   by_cases hi:i<↑ds
   .rw[q1a hi,q3o,rN hi,HX,rN hi];rfl
   .rw[q0W (by rw[q0Z];symm),q0W ⋯];rfl
  rw[show(q0s ↑ds).toArray.toList=q0s ↑ds from Y,h2] at h1;exact h1
 .rw[q0D,q2s]
  ext i j hi hj iM;rw[rO,HZ,hp.size] at hi hj;let:=up i j (q1t iM) hj;unfold KA at this;rw[q3e,q3e]
  let gp:∀{i:Nat}(h:i<↑p.toList),p.getD i 0=p.toList[i]:=λ{i} h=>by
   let h':i<p.size:=by rw[<-HZ];exact h
   simp[q3x,h']
  let gk:∀{i:Nat},i<↑ds->(ds.map key).getD i []=key (ds.getD i .non):=λ{i} h=>by
   rw[HX,Qi,rN h,HX,rN h];rfl
  let pi:=hp.lt hi;let pj:=hp.lt hj;dsimp only at this;rw[gk pi,gk pj,gp (by rw[HZ,hp.size];calc hi),gp (by rw[HZ,hp.size];calc hj)] at this;calc this
theorem Vt{F:Hp}{ds:-D}{xs:-V}{p:-Nat}(h:ae F ds xs)(hp:∀i∈p,i<↑ds):ae F (p.map λi=>ds.getD i .non) (p.map λi=>xs.getD i .non):=by
 calc ae.sQ (by rw[rO,rO]) λi d e=>?_;rw[Qi] at e ⊢;let⟨z,e1,rfl⟩:=ZM.mp e;rw[e1];let hz:=hp z (q0v e1);calc⟨_,Y,ae.at h (getD_some hz) (getD_some (by rw[↑h];calc hz))⟩
section
variable[aC]{X:Cx}
theorem zp{pins:au}{σ:St}{H F:Hp}{s:L}{k:LK}{v:V}{u:B}(I:Inv X pins σ H s)(sub:av F H)(h:Is F (.tup (k.map D.int)) v)(r:RelV v u):i_ s.heap k u:=by
 erw[Is] at h;let⟨a,us,rfl,e,i⟩:=h;cases r
 rw[sg i] at e;let⟨ah,rv,⟨o,o1,o2,n,o3⟩,_⟩:=I.tuple (bz.of (sub _ _ e));calc⟨a,o,_,n,Y,o1,o2,o3,by simpa using intsAre_of rv⟩
theorem D4{pins:au}{σ:St}{H F:Hp}{s:L}{k:LK}{m:Int}{v:V}{u:B}(I:Inv X pins σ H s)(sub:av F H)(h:Is F (.tup [.tup (k.map D.int),.int m]) v)(r:RelV v u):mi s.heap k.length (k++[m]) u:=by
 erw[Is,ae] at h;let⟨a,us,rfl,e,v1,r1,rfl,h1,v2,r2,rfl,h2,rfl⟩:=h;cases r
 let⟨ah,rv,⟨o,o1,o2,n,o3⟩,_⟩:=I.tuple (bz.of (sub _ _ e));let h2:v2=.int m:=h2;subst h2;let om:Is F (.tup (k.map D.int)) v1:=by erw[Is];exact h1
 cases rv with
 |cons q1 rv =>
  cases rv with
  |cons q2 rv =>
   cases rv
   let t1:=zp I sub om q1;let⟨b,_,_,_,rfl,_⟩:=id t1;let⟨t,rfl⟩:=q2;calc⟨a,o,_,n,b,k,m,t,Y,o1,o2,o3,Y,t1,Y,Y⟩
theorem Lq{pins:au}{σ:St}{H F:Hp}{s:ο}{E:aJ}{l:O}{ds:-D}{us:-V}{key:D->LK}{Q:aJ}(hu:X.A.units+64<cLine)(I:Inv X pins σ H s)(sub:av F H)(hl:H l=U (.lst us)\/H l=U (.tup us))(hi:ae F ds us)(iK:↑ds<64)(sh:D3 ds key)
  (fin:∀(out:-D)(ws:-V)(a:O)(s':ο),out.Perm ds->(out.map key).Pairwise kle->ae F out ws->H a=Z->Inv X pins σ (upd H a (.lst ws)) s'->Q (.ref a) s'):G (g X.prog X.w) X.A (call (.builtin "sorted") [.ref l]) Q E s:=by
 let col:∀Q':-B->ο->Prop,(∀h' tk vs,(∀b o,s.heap.get? b=U o->h'.get? b=U o)->Vals us vs->Q' vs {s with heap:=h',toks:=tk})->G (g X.prog X.w) X.A.in1 (collect (.ref l)) Q' E s:=λQ' hQ=>by
  rcases hl with hl|hl
  .let⟨ah,rv,pl,hz⟩:=I.list (bh.of hl)
   let⟨o,o1,o2,n,o3⟩:=pl.isList;exact q60 l (.inl Y) o1 o2 o3 (λh' kp=>hQ h' s.toks _ kp rv⁻¹) (by rw[HW,<-↑rv];calc hz)
  .let⟨ah,rv,⟨o,o1,o2,n,o3⟩,hz⟩:=I.tuple (bz.of hl)
   exact q60 l (.inr Y) o1 o2 o3 (λh' kp=>hQ h' s.toks _ kp rv⁻¹) (by rw[HW,<-↑rv];calc hz)
 let lu:=↑hi;let Vu:X.A.in1.in1.units<cLine:=by show X.A.units+1+1<cLine;symm
 let gk:∀{i:Nat},i<↑ds->(ds.map key).getD i []=key (ds.getD i .non):=λ{i} h=>by
  rw[HX,Qi,rN h,HX,rN h];rfl
 let isAt:∀{i:Nat},i<↑ds->∀{vs:-B},Vals us vs->∃v,Is F (ds.getD i .non) v/\RelV v (vs.getD i q0n):=λ{i} h {vs} rv=>by
  let⟨u,e1,e2⟩:=rv.get (getD_some (l:=us) (d:=V.non) (i:=i) ⋯);let:=getD_some (l:=vs) (d:=q0n) (i:=i) (by rw[<-↑rv];symm);rw[this] at e1;cases e1;exact⟨_,ae.at hi (getD_some h) (getD_some ⋯),e2⟩
 let mem:∀{i:Nat},i<↑ds->ds.getD i .non∈ds:=λ{i} h=>q0v (getD_some h)
 let ke:∀{i:Nat}{k:LK},(ds.map key)[i]?=U k->i<↑ds/\k=key (ds.getD i .non):=λ{i k} e=>by
  let h:i<↑ds:=by let:=(tU.mp e).1;rwa [rO] at this
  calc⟨h,?_⟩;let:=getD_some (l:=ds.map key) (d:=[]) (i:=i) (by rw[rO];calc h);rw[e,gk h] at this;exact q0A this
 let ve:∀{i:Nat}{v:B}{vs:-B},vs[i]?=U v->v=vs.getD i q0n:=λ{i v vs} e=>by
  rw[HX,e];rfl
 let lY:∀(p:Array Nat)(s':ο)(a:O),cL ↑us p->Up (λi=>(ds.map key).getD i []) p ↑us->H a=Z->Inv X pins σ (upd H a (.lst (p.toList.map λi=>us.getD i .non))) s'->Q (.ref a) s':=λp s' a hp up ha J=>by
  let⟨o1,o2⟩:=Vs lu.symm hp up;exact fin _ _ a s' o1 o2 (Vt hi λi bJ=>by rw[<-lu];calc hp.mem bJ) ha J
 rcases sh with sh|⟨L,sh⟩
 .refine Lp (κ:=tuples' θ) (ks:=ds.map key) I col ⋯ (λs' vs rv J h2 Q' hq=>?_) (λs' vs rv J i j C bJ wD hC=>?_) lY
  .refine Ln (ks:=ds.map key) ⋯ (λk hk=>?_) (by rw[rO,<-↑rv];symm) (λi k v e1 e2=>?_) hq
   .let⟨d,hd,rfl⟩:=q0t.mp hk
    exact(sh d hd).1
   .let⟨h,rfl⟩:=ke e1
    let⟨w,i1,r1⟩:=isAt h rv;rw[(sh _ (mem h)).2] at i1;rw[<-ve e2] at r1;exact zp J sub i1 r1
  .rw[<-↑rv] at bJ wD
   rw[gk ⋯,gk ⋯] at hC;let⟨w,i1,r1⟩:=isAt (i:=i) ⋯ rv;let⟨w',i2,r2⟩:=isAt (i:=j) ⋯ rv;rw[(sh _ (mem ⋯)).2] at i1 i2;exact Ll (zp J sub i1 r1) (zp J sub i2 r2) hC
 .refine Lp (κ:=tuples' ι) (ks:=ds.map key) I col ⋯ (λs' vs rv J h2 Q' hq=>?_) (λs' vs rv J i j C bJ wD hC=>?_) lY
  .refine Vq (L:=L) (ks:=ds.map key) ⋯ (by rw[rO,<-↑rv];symm) (λi k v e1 e2=>?_) hq
   let⟨h,rfl⟩:=ke e1;let⟨w,i1,r1⟩:=isAt h rv;let⟨k,n,hk,e3,e4⟩:=sh _ (mem h);rw[e3] at i1;rw[<-ve e2] at r1;rw[e4,<-hk];exact D4 J sub i1 r1
  .rw[<-↑rv] at bJ wD
   rw[gk ⋯,gk ⋯] at hC;let⟨w,i1,r1⟩:=isAt (i:=i) ⋯ rv;let⟨w',i2,r2⟩:=isAt (i:=j) ⋯ rv;let⟨k,n,hk,e3,e4⟩:=sh _ (mem (i:=i) ⋯);let⟨k',n',g_,Vv,Vw⟩:=sh _ (mem (i:=j) ⋯);rw[e3] at i1;rw[Vv] at i2;rw[e4,Vw] at hC;let t1:=D4 J sub i1 r1;let t2:=D4 J sub i2 r2;rw[hk] at t1;rw[g_] at t2;calc Vn Vu t1 t2 hC
theorem Vx(hu:X.A.units+64<cLine):cW X (.builtin "sorted") zo:=by
 ext pins s σ H xs us Q I r ⟨F,ds,K,sub,rd,q,md⟩;unfold zo at q;split at q
 .rename_i es
  let⟨iK,key,sh,hK⟩:=q;let⟨v,rfl,a,vs,rfl,h1,h2⟩:=cB rd;let⟨u,rfl,rx⟩:=vals1 r;cases rx
  exact Lq hu I sub (.inl h1) h2 iK sh λout ws b s' o1 o2 o3 hb J=>⟨.ref b,_,J,Y,md _ _ _ (hK out o1 o2) (bL hb) (kG sub hb o3)⟩
 .rename_i es
  let⟨iK,key,sh,hK⟩:=q;let⟨v,rfl,h⟩:=cB rd;let h:Is F (.tup es) v:=h;erw[Is] at h;let⟨a,vs,rfl,h1,h2⟩:=h;let⟨u,rfl,rx⟩:=vals1 r;cases rx
  exact Lq hu I sub (.inr (sub _ _ h1)) h2 iK sh λout ws b s' o1 o2 o3 hb J=>⟨.ref b,_,J,Y,md _ _ _ (hK out o1 o2) (bL hb) (kG sub hb o3)⟩
 .calc q.elim
end
end L2
namespace LJ
open PySem L2 PySem.W
theorem Vy{ls:-me}{b:O}{ps:Array B}:(ls.map λl=>(l.T,(#[]:Array B))).lookup b=U ps->(∃l∈ls,l.T=b)/\ps = #[]:=by
 induction ls with
 |nil=>ext h;cases h
 |cons l ls ih =>
  ext h;rw[q0o,q0z] at h
  cases q:b==l.T with
  |true =>
   rw[q] at h;exact⟨⟨l,Qk,(q0m q).symm⟩,(q0A h).symm⟩
  |false =>
   rw[q] at h;let⟨⟨l',h1,h2⟩,h3⟩:=ih h;calc⟨⟨l',Qm _ h1,h2⟩,h3⟩
theorem D5{ls:-me}{l:me}(h:l∈ls):(ls.map λl=>(l.T,(#[]:Array B))).lookup l.T=U #[]:=by
 induction ls with
 |nil=>cases h
 |cons l' ls ih =>
  rw[q0o,q0z]
  cases q:l.T==l'.T with
  |true=>rfl
  |false =>
   rcases My.mp h with rfl|h
   .simp at q
   .calc ih h
theorem Vz{l:OpenLaw}{q:ψ}{loose:-R}{XP:(R->Option B)->I->Prop}{d:DefRec}{K:Params->Frag}{as:-O}{e:∀P,as=(K P).map (·.1)}{ts:-O}{kk:Nat}(ls:-me)(VA:ls.map (·.T)=ts)(hn:l.most=U 63)(vy:d.params.defaults=[])(hr:aX kk callerA)
  (e7:∀(w:Q)(h:I),(K w.params).In h->∀t∈ls,∃cc,CodeHd h cc t.T) (VB:∀P,noTabs (K P)=θ)
  (F:∀(w:Q)(mg:R->Option B)(fa:O)(h:I),(K w.params).In h->h.Ns mainGlobals mg->mg d.name=U (.ref fa) →
   ∃fd:FuncData,(∀(s:L)(u:B),BindsTo s fd ⟨[u],[]⟩ [("script",u)])/\∀base:I,(K w.params).In base->base.Ns mainGlobals mg->(∀t∈ls,base.BuiltinsAt mg t.T)->bK l.prog w (K w.params) mg base fJ kk fa fd ["script"] (@zd (pG ls) (K w.params))) :
  WalkO q loose XP (kmHook K as e ts).says l.row.toRowW d [] (λf vs=>q71 f vs) :=
 L2.UT (n:=63) (k:=kk) (x:="script") (K:=λw=>K w.params) (CX:=λ_=>fJ) (sp:=λw=>@zd (pG ls) (K w.params)) (Ts:=λ_=>ls.map λl=>(l.T,#[])) hn (by decide) vy hr (λw h Y=>km_in_of Y)
  (λw h Y b ps hl=>by
   let⟨⟨t,ht,rfl⟩,rfl⟩:=Vy hl;let e1:h.get? t.T=U (tabObj #[]):=km_tabs_of Y t.T (by rw[<-VA];calc q4o ht);refine⟨e1,?_,?_⟩
   .let⟨cc,o,vs,_,_,_,_,_,_,_,c1,c2,c3,c4,_⟩:=e7 w h (km_in_of Y) t ht
    exact⟨cc,o,vs,c1,c2,c3,c4⟩
   .cases z:(K w.params).lookup t.T with
    |none=>rfl
    |some o =>
     let e2:=km_in_of Y t.T o z;rw[e1] at e2;cases e2;let h2:=q0T.mp (VB w.params) (t.T,tabObj #[]) (mem_of_lookupK z)
     calc absurd (show ι=θ from h2) q0b)
  (λw mg fa h KX G oh=>by
   let⟨fd,hb,hF⟩:=F w mg fa h KX G oh
   calc⟨fd,hb,λbase k1 k2 k3=>hF base k1 k2 λt ht=>k3 t.T #[] (D5 ht)⟩)
  (λw H a ns hl hO hS=>by
   letI:aC:=pG ls;calc⟨a,ns,rfl,hS,hl,λt ht=>?_,λ_=>rfl⟩;rcases hO t.T with⟨ps,z1,z2⟩|⟨z1,_⟩
   .rw[D5 ht] at z1;cases z1
    exact⟨#[],z2,trivial,.inl rfl⟩
   .rw[D5 ht] at z1;cases z1)
  λ_ _ _ _ _ z=>z
end LJ
namespace LJ
open PySem L2
variable[aC]
theorem VC{out:-D}{l:-Int}(h:out.Perm (l.map D.int)):∃ns:-Int,out=ns.map D.int/\ns.Perm l:=by
 refine⟨out.map λd=>match d with
  |.int n=>n
  |_=>0,?_,?_⟩
 .rw[q0D]
  calc(q3a out).symm.trans (q1d λd hd=>?_);let⟨n,_,rfl⟩:=q0t.mp (h.mem_iff.mp hd);rfl
 .let:=h.map λd=>match d with
   |.int n=>n
   |_=>0
  rw[q0D] at this;calc this.trans (List.Perm.of_eq ((q1d λn _=>Y).trans (q3a l)))
theorem VD{a b:LK}{n m:Int}(hl:↑a=↑b)(h:kle (a++[n]) (b++[m])):kle a b:=by
 unfold kle at h ⊢;rw[D1 _ _ hl.symm] at h
 by_cases e:b=a
 .rw[e];exact yL a
 .rw[ZJ e] at h;calc h
end LJ
namespace L2
open PySem PySem.Spec PyProof.Rows
variable[aC]
noncomputable def df(aq:-(Key×D))(k:Key):Option D:=(aq.find? λkv=>J (kv.1=k)).map (·.2)
noncomputable def putD(aq:-(Key×D))(k:Key)(d:D):-(Key×D) :=
 if(aq.any λkv=>J (kv.1=k))=θ then aq.map (λkv=>if kv.1=k then(kv.1,d) else kv) else aq++[(k,d)]
theorem fS.val{F:Hp}(k:Key):∀{gn:-(Key×D)}{ws:-(Key×V)},fS F gn ws->(df gn k=Z/\d_ ws k=Z)\/∃d v,df gn k=U d/\d_ ws k=U v/\Is F d v
 |[],_,h=>by let h:_=[]:=h;subst h;exact .inl ⟨Y,Y⟩
 |kd::r,_,⟨v,t,e,h1,h2⟩=>by
  subst e
  by_cases c:kd.1=k
  .refine .inr ⟨kd.2,v,?_,ya c,h1⟩
   unfold df;rw[List.find?_cons_of_pos c⁻¹];rfl
  .rw[yb c]
   let e:df (kd::r) k=df r k:=by unfold df;rw[List.find?_cons_of_neg c⁻¹]
   rw[e];calc fS.val k h2
theorem fS.length{F:Hp}:∀{gn:-(Key×D)}{ws:-(Key×V)},fS F gn ws->↑ws=↑gn
 |[],_,h=>by let h:_=[]:=h;subst h;rfl
 |kd::r,_,⟨v,t,e,h1,h2⟩=>by subst e;rw[HY,HY,↑h2]
theorem fS.any{F:Hp}(k:Key):∀{gn:-(Key×D)}{ws:-(Key×V)},fS F gn ws->(ws.any λkv=>J (kv.1=k))=gn.any λkv=>J (kv.1=k)
 |[],_,h=>by let h:_=[]:=h;subst h;rfl
 |kd::r,_,⟨v,t,e,h1,h2⟩=>by subst e;rw[q2i,q2i,h2.any k]
theorem fS.iW{F:Hp}(k:Key){d:D}{v:V}(hd:Is F d v):∀{gn:-(Key×D)}{ws:-(Key×V)},fS F gn ws->fS F (gn.map λkv=>if kv.1=k then(kv.1,d) else kv) (ws.map λkv=>if kv.1=k then(kv.1,v) else kv)
 |[],_,h=>by let h:_=[]:=h;subst h;rfl
 |kd::r,_,⟨u,t,e,h1,h2⟩=>by
  subst e
  by_cases c:kd.1=k
  .rw[q0o,q0o,ZK c,ZK c]
   exact⟨v,_,Y,hd,h2.iW k hd⟩
  .rw[q0o,q0o,ZJ c,ZJ c]
   calc⟨u,_,Y,h1,h2.iW k hd⟩
theorem fS.snoc{F:Hp}{k:Key}{d:D}{v:V}(hd:Is F d v):∀{gn:-(Key×D)}{ws:-(Key×V)},fS F gn ws->fS F (gn++[(k,d)]) (ws++[(k,v)])
 |[],_,h=>by let h:_=[]:=h;subst h;exact⟨v,[],Y,hd,Y⟩
 |kd::r,_,⟨u,t,e,h1,h2⟩=>by subst e;calc⟨u,_,Y,h1,h2.snoc hd⟩
theorem fS.put{F:Hp}{gn:-(Key×D)}{ws:-(Key×V)}{k:Key}{d:D}{v:V}(h:fS F gn ws)(hd:Is F d v):fS F (putD gn k d) (putK ws k v):=by
 unfold putD putK;rw[h.any k];split
 .exact h.iW k hd
 .calc h.snoc hd
def j8(x:DV)(δ:ay)(K:Nat->-(Key×D)->Prop):Prop:=match x with
 |.o k=>match δ.mu[k]? with
  |some (some (.dct aq))=>K k aq
  |_=>False
 |_=>False
theorem Lr{F H:Hp}{ad:-O}{δ:ay}{σ:St}{x:DV}{v:V}{K:Nat->-(Key×D)->Prop}(S:SR F ad δ σ H)(V1:eg F ad x v)(h:j8 x δ K):∃k aq a ws,x=.o k/\K k aq/\v=.ref a/\ad[k]?=U a/\H a=U (.dK ws)/\fS F aq ws/\δ.mu[k]?=U (U (.dct aq)):=by
 unfold j8 at h;split at h
 .rename_i k
  split at h
  .rename_i aq e
   let⟨a,e1,rfl⟩:=V1;let⟨a',o,e2,e3,ws,rfl,h4⟩:=S.mu k _ e;rw[e1] at e2;cases e2;exact⟨k,aq,a,ws,Y,h,Y,e1,e3,h4,e⟩
  .exact h.elim
 .calc h.elim
def j9(x:DV)(P:Int->Prop):Prop:=match x with
 |.p (.int i)=>P i
 |_=>False
theorem Lu{F:Hp}{ad:-O}{x:DV}{v:V}{P:Int->Prop}(hv:eg F ad x v)(h:j9 x P):∃i,v=kV (.inl i)/\P i:=by
 unfold j9 at h;split at h
 .rename_i i;exact⟨i,hv,h⟩
 .calc h.elim
def D6:WE:=fun δ K=>K (.o ↑δ.mu) ⟨δ.sl,δ.mu++[U (.dct [])]⟩
def pH(neg:Bool)(fi fo:WE):WE:=fun δ K=>fi δ λx δ1=>fo δ1 λy δ2=>j9 x λi=>j8 y δ2 λ_ aq=>K (.p (.bl (neg != (df aq (.inl i)).isSome))) δ2
def D7(fv fo fi:WE):WS:=λK δ=>fv δ λz δ1=>fo δ1 λx δ2=>fi δ2 λy δ3=>oA z δ3 λd δ4=>j9 y λi=>j8 x δ4 λk aq=>↑aq<1000/\K.nx ⟨δ4.sl,δ4.mu.set k (U (.dct (putD aq (.inl i) d)))⟩
section
variable{X:Cx}{o i e v:M}{fo fi fv fk fe:WE}{pos:y}
theorem VF:JE X (.Dict [] [] pos) (tD D6):=lD.weak fun σ H Q ⟨F,ad,δ,K,S,q,k⟩ p hp=>by
 let oi:fY F (.dct []) (.dK []):=⟨[],Y,Y⟩;calc k _ _ q _ _ _ _ (Ext.own S hp) (S.own hp oi) ⟨p,?_,Y⟩;rw[<-S.cJ,q0h (BA _),q1m];rfl
theorem VG{neg:Bool}(td:TE)(hn:∀σ H (Q:VK),(tD fi σ H λy H1=>tD fo σ H1 λx H2=>∃a o,x=.ref a/\jV H2 a y o/\Q (.bl (neg != o.isSome)) H2)->td σ H Q):∀σ H Q,tD (pH neg fi fo) σ H Q->td σ H Q:=fun σ H Q h0_=>el7 h0_ λF ad δ K S q k =>hn σ H Q ⟨F,ad,δ,_,S,q,λx δ1 h1 v F1 aN H1 E1 S1 V1=>⟨F1,aN,δ1,_,S1,h1,λy δ2 h2 u F2 cn H2 E2 S2 V2=>by
  let⟨i,rfl,h3⟩:=Lu (V1.ext E2) h2;let⟨k0,aq,a,ws,rfl,h4,rfl,e1,e2,i1,m1⟩:=Lr S2 V2 h3;refine⟨a,_,Y,jV.k e2,?_⟩
  let es:(d_ ws (q4L i:Key)).isSome=(df aq (.inl i)).isSome:=by
   rcases i1.val (.inl i) with⟨z1,z2⟩|⟨d,v,z1,z2,_⟩
   .rw[z1,z2];rfl
   .rw[z1,z2];rfl
  rw[es]
  calc k _ _ h4 _ _ _ _ (E1.trans E2) S2 Y⟩⟩
theorem VH{t:TE}{f:WE}(h:∀σ H Q,tD f σ H Q->t σ H Q):∀σ H Q,cO (dT f) σ H Q->tB t σ H Q:=fun σ H Q h0_=>el7 h0_ λF ad δ K S q k =>h σ H _ ⟨F,ad,δ,_,S,q,λx δ1 h1 v F1 aN H1 E1 S1 V1=>by
  let⟨b,rfl,h2⟩:=vY V1 h1
  calc⟨b,Y,k _ _ h2 _ _ _ E1 S1⟩⟩
theorem VI(hu:X.A.units+64<cLine)(hi:JE X i (tD fi))(ho:JE X o (tD fo))(hm:behindInMarks .In o=ι:=by rfl):JT X (.Compare i [.In] [o] pos) (cO (dT (pH ι fi fo))) :=
 (He (Rz ⋯ hi ho) hm).weak (VH (VG (vQ (tD fi) (tD fo)) fun σ H Q h=>by erw[Bool.false_bne] at h;calc h))
theorem VJ[bU]{pos':Ε}(hu:X.A.units+64<cLine)(ho:JE X o (tD fo))(hi:JE X i (tD fi))(hv:JE X v (tD fv))(hs:swapsWith v (U (.Subscript o i pos')) pos.line X.env=pure ι:=by rfl):JS X (.Assign [.Subscript o i pos'] v pos) (cX (D7 fv fo fi)) :=
 (RA ⋯ ho hi hv hs).weak λD σ H h0_=>el7 h0_ λF ad δ K S q k =>⟨F,ad,δ,_,S,q,λz δ1 h1 w F1 aN H1 E1 S1 V1=>⟨F1,aN,δ1,_,S1,h1,λx δ2 h2 u F2 cn H2 E2 S2 V2=>⟨F2,cn,δ2,_,S2,h2,λy δ3 h3 t F3 t_ H3 E3 S3 V3=>by
  let⟨d,δ4,F4,h4,E4,S4,i4⟩:=vX S3 ((V1.ext E2).ext E3) h3;let⟨i,rfl,h5⟩:=Lu V3 h4;let⟨k0,aq,a,ws,rfl,h6,rfl,e1,e2,i1,m1⟩:=Lr S4 ((V2.ext E3).ext E4) h5;let oi:fY F4 (.dct (putD aq (.inl i) d)) (.dK (putK ws (.inl i) w)):=⟨_,Y,i1.put i4⟩;refine⟨a,_,Y,lC.k e2 (qg (by rw[↑i1];calc q1t h6.1)),?_⟩
  calc k.nx _ h6.2 _ _ _ _ ((((E1.trans E2).trans E3).trans E4).trans (Ext.put S4 m1 e1)) (S4.put m1 e1 oi)⟩⟩⟩
end
end L2
namespace LJ
open PySem L2
variable[aC]
theorem VL{aq:-(Key×D)}{k l:Key}{d:D}(h:df aq k=Z):df (putD aq k d) l=if l=k then U d else df aq l:=by
 let na:(aq.any λkv=>J (kv.1=k))=ι:=by
  cases q:aq.any λkv=>J (kv.1=k) with
  |false=>rfl
  |true =>
   let⟨kv,h1,h2⟩:=q7g.mp q;unfold df at h;rw[Option.map_eq_none_iff] at h;exact absurd h2 (q4r.mp h kv h1)
 unfold putD;rw[na,ZJ q0b];unfold df;rw[List.find?_append]
 cases q:aq.find? λkv=>J (kv.1=l) with
 |some kv =>
  let e:=q3_ q;let e:kv.1=l:=by simpa using e
  rw[ZJ]
  .rfl
  .ext z
   subst z;let hm:=q4H q;let:=q2e.mp na kv hm;exact this e⁻¹
 |none =>
  by_cases c:l=k
  .subst c
   rw[ZK Y];simp
  .rw[ZJ c]
   simp[show ¬ k=l fromλz=>c z.symm]
theorem VM{aq:-(Key×D)}{k:Key}{d:D}:↑(putD aq k d)<=↑aq+1:=by
 unfold putD;split
 .rw[rO];symm
 .rw[Ql];simp
end LJ
namespace L2
open PySem PySem.Spec PyProof.Rows PySem.W
section
open PySem.SeqAt
open PySem.AutoSeq1 (wpAny_loadPart')
open PySem.MeetsSeq PySem.MeetsSeq2 PySem.MeetsSeq3
end
section
variable{prog:n}{w:ω}{A:q}{E:aJ}{s:L}{Q:Bool->L->Prop}
end
section
variable[aC]{X:Cx}
end
end L2
namespace LJ
open PySem L2
variable[aC]
end LJ
namespace L2
open PySem
variable[aC]
section
variable{F F' H H':Hp}{ad ax:-O}{δ δ':ay}{σ σ':St}
end
section
variable{X:Cx}{Z9 iP jf pZ:o}{i n:Nat}{G:GD}{fa:WA}{t:WT}{B:TS}{E:XK}
end
end L2
namespace LJ
open PySem L2
variable[aC]
noncomputable def f_(p q:Int)(fs:-Int):-Int:=fs.map λx=>if x=p then q else x
theorem VN{p q x y:Int}:(if x=p then q else x)=(if y=p then q else y)↔x=y\/((x=p\/x=q)/\(y=p\/y=q)):=by
 by_cases h1:x=p<;>by_cases h2:y=p
 .rw[ZK h1,ZK h2];constructor<;>ext h<;>symm
 .rw[ZK h1,ZJ h2];constructor<;>ext h<;>symm
 .rw[ZJ h1,ZK h2];constructor<;>ext h<;>symm
 .rw[ZJ h1,ZJ h2];constructor<;>ext h<;>symm
theorem Lw{f:Int->Int}{fs:-Int}{i:Nat}(h:i<fs.length):(fs.map f).getD i 0=f (fs.getD i 0):=by
 rw[HX,Qi,rN h,HX,rN h];rfl
theorem qQ{a b:Int}:aw (.int a) (.int b)=J (a=b):=by
 cases q:aw (.int a) (.int b)
 .exact (q0e λz=>by rw[z,f6] at q;cases q).symm
 .erw[aw] at q
  calc(q0c (q0m q)).symm
end LJ
namespace LJ
open PySem L2
abbrev Wy:=Int×Int×Int
def zq(S:Wy->Prop)(a b:Int):Prop:=∃w,S w/\((w.1=a/\w.2.1=b)\/(w.1=b/\w.2.1=a))
inductive bg (S:Wy->Prop) (a:Int):Int->Prop
 |rf:bg S a a
 |st {b c:Int}:bg S a b->zq S b c->bg S a c
section
variable{S S':Wy->Prop}{a b c:Int}
theorem zq.symm(h:zq S a b):zq S b a:=let⟨w,h1,h2⟩:=h;⟨w,h1,h2.symm⟩
theorem bg.trans(h:bg S a b)(h':bg S b c):bg S a c:=by
 induction h' with
 |rf=>exact h
 |st _ e ih=>calc .st ih e
theorem bg.symm(h:bg S a b):bg S b a:=by
 induction h with
 |rf=>exact .rf
 |st _ e ih=>calc(bg.st .rf e.symm).trans ih
theorem bg.bind(h:bg S a b)(k:∀w,S w->bg S' w.1 w.2.1):bg S' a b:=by
 induction h with
 |rf=>exact .rf
 |st _ e ih =>
  let⟨w,h1,h2⟩:=e;rcases h2 with⟨rfl,rfl⟩|⟨rfl,rfl⟩
  .exact ih.trans (k w h1)
  .calc ih.trans (k w h1).symm
theorem bg.one{w:Wy}(h:S w):bg S w.1 w.2.1:=.st .rf ⟨w,h,.inl ⟨Y,Y⟩⟩
theorem bg.mono(h:bg S a b)(k:∀w,S w->S' w):bg S' a b:=h.bind λw hw=>.one (k w hw)
theorem bg.none(h:bg S a b)(k:∀w,¬ S w):a=b:=by
 cases h with
 |rf=>rfl
 |st _ e=>let⟨w,h1,_⟩:=e;calc absurd h1 (k w)
theorem bg.add{w:Wy}(k:∀v,S' v↔S v\/v=w):bg S' a b↔bg S a b\/(bg S a w.1/\bg S w.2.1 b)\/(bg S a w.2.1/\bg S w.1 b):=by
 constructor
 .ext h
  induction h with
  |rf=>exact .inl .rf
  |st _ e ih =>
   rename_i b c _;let⟨v,h1,h2⟩:=e;rcases(k v).mp h1 with h1|rfl
   .let e':bg S b c:=.st .rf ⟨v,h1,h2⟩
    rcases ih with i|⟨i,j⟩|⟨i,j⟩
    .exact .inl (i.trans e')
    .exact .inr (.inl ⟨i,j.trans e'⟩)
    .exact .inr (.inr ⟨i,j.trans e'⟩)
   .rcases h2 with⟨rfl,rfl⟩|⟨rfl,rfl⟩
    .rcases ih with i|⟨i,j⟩|⟨i,j⟩
     .exact .inr (.inl ⟨i,.rf⟩)
     .exact .inr (.inl ⟨i,.rf⟩)
     .exact .inl i
    .rcases ih with i|⟨i,j⟩|⟨i,j⟩
     .exact .inr (.inr ⟨i,.rf⟩)
     .exact .inl i
     .exact .inr (.inr ⟨i,.rf⟩)
 .let up:∀{x y},bg S x y->bg S' x y:=λh=>h.mono λv hv=>(k v).mpr (.inl hv)
  let o:bg S' w.1 w.2.1:=.one ((k w).mpr (.inr Y));ext(h|⟨h,h'⟩|⟨h,h'⟩)
  .exact up h
  .exact ((up h).trans o).trans (up h')
  .calc ((up h).trans o.symm).trans (up h')
end
variable[aC]
def bF(n:Nat)(fs:-Int)(S:Wy->Prop):Prop:=fs.length=n/\∀i j:Nat,i<n->j<n->(fs.getD i 0=fs.getD j 0↔bg S i j)
theorem Lx{n i:Nat}(h:i<n):(bY n).getD i 0=i:=by
 unfold bY;rw[HX,Qi,q1a h];rfl
theorem bF.start(n:Nat):bF n (bY n) (λ_=>False):=by
 calc⟨by unfold bY;simp,λi j hi hj=>?_⟩;rw[Lx hi,Lx hj];calc⟨λe=>by rw[e];calc .rf,λh=>h.none λ_ z=>z⟩
theorem bF.join{n i j:Nat}{fs:-Int}{S S':Wy->Prop}{w:Wy}{p q:Int}(h:bF n fs S)(hi:i<n)(hj:j<n)(e1:w.1=i)(e2:w.2.1=j)(k:∀v,S' v↔S v\/v=w)(pq:(p=fs.getD i 0/\q=fs.getD j 0)\/(p=fs.getD j 0/\q=fs.getD i 0)):bF n (f_ p q fs) S':=by
 calc⟨by unfold f_;rw[rO,h.1],λx y hx hy=>?_⟩;unfold f_;rw[Lw (by rw[h.1];calc hx),Lw (by rw[h.1];calc hy),VN,bg.add k,e1,e2,<-h.2 x y hx hy,<-h.2 x i hx hi,<-h.2 x j hx hj,<-h.2 j y hj hy,<-h.2 i y hi hy];rcases pq with⟨rfl,rfl⟩|⟨rfl,rfl⟩
 .constructor
  .ext (h|⟨h1|h1,h2|h2⟩)
   .exact .inl h
   .exact .inl (h1.trans h2.symm)
   .exact .inr (.inl ⟨h1,h2.symm⟩)
   .exact .inr (.inr ⟨h1,h2.symm⟩)
   .exact .inl (h1.trans h2.symm)
  .ext (h|⟨h1,h2⟩|⟨h1,h2⟩)
   .exact .inl h
   .exact .inr ⟨.inl h1,.inr h2.symm⟩
   .exact .inr ⟨.inr h1,.inl h2.symm⟩
 .constructor
  .ext (h|⟨h1|h1,h2|h2⟩)
   .exact .inl h
   .exact .inl (h1.trans h2.symm)
   .exact .inr (.inr ⟨h1,h2.symm⟩)
   .exact .inr (.inl ⟨h1,h2.symm⟩)
   .exact .inl (h1.trans h2.symm)
  .ext (h|⟨h1,h2⟩|⟨h1,h2⟩)
   .exact .inl h
   .exact .inr ⟨.inr h1,.inl h2.symm⟩
   .calc .inr ⟨.inl h1,.inr h2.symm⟩
noncomputable def bp(ws:-Wy)(n:Int):Wy:=ws.getD n.toNat (0,0,0)
theorem Ly(n:Nat):↑(bY n)=n:=by unfold bY;simp
theorem Lz{m:Int}{ws:-Wy}(W:gK m ws){n:Int}(h0:0<=n)(h1:n<(↑ws:Int)):∃i k:Nat,fB ws n=(i,k)/\(bp ws n).1=i/\(bp ws n).2.1=k/\i<m.toNat/\k<m.toNat:=by
 let⟨y,ey,hy,_,i,k,e1,e2,h1,h2,_⟩:=y8 W h0 h1;calc⟨i,k,?_,by unfold bp;rw[ey];calc e1,by unfold bp;rw[ey];calc e2,h1,h2⟩;unfold fB;rw[ey,e1,e2,q0x,q0x]
theorem LA{m:Int}{ws:-Wy}(W:gK m ws):∀(ns fs:-Int)(S:Wy->Prop),Nums ws ns->bF m.toNat fs S->bF m.toNat (jH ws fs ns) (λv=>S v\/∃k∈ns,v=bp ws k)
 |[],fs,S,_,h=>by
  let:(λv=>S v\/∃k∈([]:-Int),v=bp ws k)=S:=funext λv=>propext (by simp);rw[this];exact h
 |n::ns,fs,S,hn,h=>by
  let b:=hn n (Qk ..);let⟨i,k,e,e1,e2,h1,h2⟩:=Lz W b.1 b.2
  let step:bF m.toNat (jG fs i k) (λv=>S v\/v=bp ws n):=by
   calc bF.join (w:=bp ws n) (p:=max (fs.getD i 0) (fs.getD k 0)) (q:=min (fs.getD i 0) (fs.getD k 0)) h h1 h2 e1 e2 (λv=>Iff.rfl) ?_;symm
  let:=LA W ns _ _ (λx hx=>hn x (Qm _ hx)) step
  let eq:(λv=>(S v\/v=bp ws n)\/∃k∈ns,v=bp ws k)=(λv=>S v\/∃k∈n::ns,v=bp ws k):=funext λv=>propext (by
   constructor
   .ext ((h|h)|⟨k,hk,h⟩)
    .exact .inl h
    .exact .inr ⟨n,Qk,h⟩
    .exact .inr ⟨k,Qm _ hk,h⟩
   .ext (h|⟨k,hk,h⟩)
    .exact .inl (.inl h)
    .rcases My.mp hk with rfl|hk
     .exact .inl (.inr h)
     .calc .inr ⟨k,hk,h⟩)
  rw[eq] at this;show bF _ (jH ws (jG fs (fB ws n).1 (fB ws n).2) ns) _;rw[e];calc this
def sR(ws:-Wy)(ns:-Int):Wy->Prop:=λv=>∃k∈ns,v=bp ws k
theorem VO{m:Int}{ws:-Wy}(W:gK m ws){ns:-Int}(hn:Nums ws ns):bF m.toNat (gC m ws ns) (sR ws ns):=by
 let:=LA W ns _ _ hn (bF.start m.toNat);let eq:(λv=>False\/∃k∈ns,v=bp ws k)=sR ws ns:=funext λv=>propext (by unfold sR;simp);rw[eq] at this;calc this
theorem D8:∀us:-Int,aZ (us.map D.int)=0
 |[]=>by simp[aZ]
 |u::r=>by rw[q0o];erw[aZ,dep];rw[D8 r];rfl
theorem LB:∀ls:-(-Int),aZ (ls.map cP)<=1
 |[]=>by simp[aZ]
 |l::r=>by
  rw[q0o];let h1:=LB r;let h2:=D8 l;erw[aZ,dep,cP];symm
theorem VP(l:-Int)(x:Int):((l.map D.int).any λe=>aw e (.int x))=J (x∈l):=by
 rw[List.any_map]
 cases q:J (x∈l) with
 |true=>exact q7g.mpr ⟨x,q1f q,f6 _⟩
 |false =>
  calc q2e.mpr λy hy=>?_;show ¬ aw (.int y) (.int x)=θ;rw[qQ];ext z;let:=q1f z;subst this;calc q2I q hy
end LJ
namespace L2
open PySem PySem.Spec PyProof.Rows PySem.W
section
variable{X:Cx}
end
variable[aC]{X:Cx}
end L2
namespace LJ
open PySem L2
variable[aC]
noncomputable def cf(fs:-Int)(x:Int):Nat:=fs.countP λy=>J (y=x)
theorem LC(fs:-Int)(x:Int):(fs.map D.int).countP (λe=>aw e (.int x))=cf fs x:=by
 unfold cf;rw[q7t];calc q6z λy _=>?_;show aw (.int y) (.int x)=θ↔_;rw[qQ]
theorem D9:∀fs:-Int,(fs.map D.int).all bu.dE=θ
 |[]=>Y
 |_::r=>by rw[q0o,q2W,D9 r];rfl
noncomputable def dU(fs:-Int)(x:Int):LK:=[(cf fs x:Int),-(x:Int)]
def D_:GD:=λys ovs K=>∃(fs:-Int)(i j:Nat),ys=[.p (cP fs),.p (.int i),.p (.int j)]/\ovs=[]/\i<fs.length/\j<fs.length/\fs.length<=12 ∧
 ∀p q,((p=fs.getD i 0/\q=fs.getD j 0)\/(p=fs.getD j 0/\q=fs.getD i 0))->cf fs p<=cf fs q->kle (dU fs p) (dU fs q)->K (.p (cP (f_ p q fs))) []
def Ea:WS:=(ak (aD 3 (D0 (bt (ag (d2 (aa 0) (aa 1) aW) (ag (d2 (aa 0) (aa 2) aW) af))) [U 0] (cx (ag (i7 (aa 1) (ag (aa 0) af) bu) (ag (d1 (aa 0) iC) af))))) (aE (e_ (bN (aa 0)) [Z,U 3] (br 0) cF (qo (dT (d2 (aa 0) (d2 (aa 1) (dC (.int 0)) aW) oEq)) (d2 (aa 1) (dC (.int 1)) aW) (aa 0)))))
theorem VQ:Sem 3 1 D_ Ea:=by
 ext ys ovs K'-⟨fs,i,j,rfl,rfl,hi,hj,Uj,k⟩;unfold Ea cP;calc aI λN hN=>?_;let ai:=j7 (ns:=fs) (i:=i) hi;let aj:=j7 (ns:=fs) (i:=j) hj;simp![D0,ai,aj,sortBy]
 refine⟨λd=>match d with
  |.int x=>[(cf fs x:Int),-(x:Int)]
  |_=>[],λd hd=>?_,λout pm pw=>?_⟩
 .let⟨x,rfl⟩:∃x,d=.int x:=by
   rcases My.mp hd with e|e
   .exact⟨_,e⟩
   .exact⟨_,q0l.mp e⟩
  calc⟨(by ext z;cases z),?_⟩;simp![i7,bu,D9,LC,bu.dE];rfl
 .let⟨ns,rfl,pn⟩:=VC (l:=[fs.getD i 0,fs.getD j 0]) pm
  let hl:=pn.length_eq
  match ns,hl,pn,pw with
  |[p,q],_,pn,pw =>
   let c:(p=fs.getD i 0/\q=fs.getD j 0)\/(p=fs.getD j 0/\q=fs.getD i 0):=by
    rcases My.mp (pn.mem_iff.mp (Qk (a:=p) (l:=[q]))) with e|e
    .subst e
     exact .inl ⟨Y,by simpa using pn.cons_inv.mem_iff.mp (q0l.mpr Y)⟩
    .let e:p=fs.getD j 0:=q0l.mp e
     let p2:=pn.trans (q24 (fs.getD j 0) (fs.getD i 0) []);subst e;exact .inr ⟨Y,by simpa using p2.cons_inv.mem_iff.mp (q0l.mpr Y)⟩
   let kl:kle (dU fs p) (dU fs q):=(q1U.mp pw).1 [(cf fs q:Int),-(q:Int)] (by simp)
   let le:cf fs p<=cf fs q:=by
    let h:=kl;let h:HT.lexLt [(cf fs q:Int),-(q:Int)] [(cf fs p:Int),-(p:Int)]=ι:=h;rw[HT.mW] at h;split at h
    .omega
    .let:=q2I h;symm
   subst hN;let a0:dm [D.int p,D.int q] 0=U (.int p):=fU;let a1:dm [D.int p,D.int q] 1=U (.int q):=f7;simp!
   refine jF (λd=>match d with
    |.int x=>.int (if x=p then q else x)
    |_=>.non) (by rw[rO];symm) trivial ?_ ?_
   .ext d hd acc L ha h
    let⟨x,hx,rfl⟩:=q0t.mp hd;simp![a0,a1];rw[qQ]
    by_cases e:x=p
    .rw[q0c e]
     simp!;calc⟨ha,?_⟩;dsimp only at h;rw[ZK e] at h;exact h
    .rw[q0e e]
     simp!;calc⟨ha,?_⟩;dsimp only at h;rw[ZJ e] at h;exact h
   .let e:(fs.map D.int).map (λd=>match d with
     |.int x=>.int (if x=p then q else x)
     |_=>.non)=(f_ p q fs).map D.int:=by
     unfold f_;rw[q0D,q0D];rfl
    rw[e];calc cA (k p q c le kl)
noncomputable def nG(fs gs tk:-Int):-Int:=(q0s fs.length).map λh=>if fs.getD h 0=gs.getD h 0 then tk.getD h 0 else tk.getD h 0+1
theorem VR{p q:Int}{fs:-Int}{h:Nat}(hl:h<fs.length):(f_ p q fs).getD h 0=if fs.getD h 0=p then q else fs.getD h 0:=by
 unfold f_;rw[HX,Qi,rN hl,HX,rN hl];rfl
def Joins(ws:-Wy)(ns:-Int):Prop:=∀k,k<ns.length->¬ bg (sR ws (ns.take k)) (bp ws (ns.getD k 0)).1 (bp ws (ns.getD k 0)).2.1
theorem LF(n:Nat):(q0d n [D.int 0]).flatten=(q0d n (0:Int)).map D.int:=by
 induction n with
 |zero=>rfl
 |succ n ih=>rw[q1c,q1c,q2f,q0o,ih];rfl
noncomputable def zr(fs:-Int)(a b:Int):Int×Int:=if HT.lexLt (dU fs b) (dU fs a)=θ then(b,a) else(a,b)
theorem LG{fs:-Int}{a b p q:Int}(ne:a≠b)(pq:(p=a/\q=b)\/(p=b/\q=a))(h:kle (dU fs p) (dU fs q)):zr fs a b=(p,q):=by
 unfold zr;rcases pq with⟨rfl,rfl⟩|⟨rfl,rfl⟩
 .unfold kle at h
  rw[h];rfl
 .cases z:HT.lexLt (dU fs p) (dU fs q) with
  |true=>rfl
  |false =>
   let:=J8 h z;unfold dU at this;erw[List.cons.injEq,and_true] at this;calc absurd ⋯ ne
noncomputable def LH(ws:-Wy)(st:-Int×-Int)(n:Int):-Int×-Int :=
 let pq:=zr st.1 (st.1.getD (bp ws n).1.toNat 0) (st.1.getD (bp ws n).2.1.toNat 0)
 (f_ pq.1 pq.2 st.1,nG st.1 (f_ pq.1 pq.2 st.1) st.2)
theorem Joins.snoc{ws:-Wy}{ns:-Int}{n:Int}(J:Joins ws ns)(c:¬ bg (sR ws ns) (bp ws n).1 (bp ws n).2.1):Joins ws (ns++[n]):=by
 ext k hk;rw[Ql,q0F] at hk
 by_cases e:k<ns.length
 .rw[List.take_append_of_le_length ⋯]
  let:(ns++[n]).getD k 0=ns.getD k 0:=by rw[HX,HX,q0g e]
  rw[this];exact J k e
 .let e:k=ns.length:=by symm
  subst e;let:(ns++[n]).getD ns.length 0=n:=by rw[HX,q0h (BA _),q1m];rfl
  rw[this,List.take_left];calc c
theorem VS{m:Int}{ws:-Wy}(W:gK m ws){ns:-Int}(hn:Nums ws ns){n:Int}(h0:0<=n)(h1:n<(↑ws:Int))(c:bg (sR ws ns) (bp ws n).1 (bp ws n).2.1):gC m ws (ns++[n])=gC m ws ns:=by
 let⟨i,k,e,e1,e2,l1,l2⟩:=Lz W h0 h1;let M:=VO W hn;rw[e1,e2] at c;let eq:=(M.2 i k l1 l2).mpr c
 let st:∀fs:-Int,fs.getD i 0=fs.getD k 0->jG fs i k=fs:=λfs e=>by
  unfold jG;rw[e];calc(q1d λx _=>?_).trans (q3a _);show(if x=max _ _ then min _ _ else x)=x;split<;>symm
 let e3:gC m ws (ns++[n])=jG (gC m ws ns) i k:=by
  unfold gC jH;rw[q6Y];show jG _ (fB ws n).1 (fB ws n).2=_;rw[e]
 rw[e3,st _ eq]
def Eb:GD:=λys ovs K=>∃(n m:Int)(ws:-(Int×Int×Int))(o:OV),gK m ws/\ys=[.o 0,.p (aU m ws)]/\ovs=[o]/\aP n o/\n+100<2 ^ 30 ∧
 ∀us o',Nums ws us->us.Nodup->↑us<=30->Joins ws us->aP (n+31) o'->K (.n (us.map D.int)) [o']
def Ec:WS:=(ak (aD 2 (rV af)) (ak (cK (bN (ar 3 zb (ag (aa 0) (ag (aa 1) (ag (dC (.int 30)) af))))) (br 3) (bc (dT (d2 (ar 2 y_ (ag (aa 1) (ag (aa 2) af))) (ar 2 y_ (ag (aa 1) (ag (d2 (aa 2) (bt (ag (aa 3) af)) bV) af))) lU)) (lM (j4 (aa 2) (ag (aa 3) af))) cE)) (aE (aa 2))))
theorem VT:Sem 2 2 Eb Ec:=by
 ext ys ovs K'-⟨n,m,ws,o,W,rfl,rfl,P,hn,fin⟩;let Ld:=W.kr;unfold Ec;calc aI λN hN=>?_;simp!;subst hN;calc aI λN hN=>qH λg' b' K2 hg hb' hK=>?_;simp!;calc⟨n,m,30,ws,o,W,Y,Y,P,hn,⋯,⋯,λus o1 nu nd ul _ P1=>?_⟩;simp!;subst hg hb' hK;refine j5 (λi δ=>∃fs:-Int,fs.Sublist (us.take i)/\Joins ws fs/\δ=⟨[U (.o 0),U (.p (aU m ws)),U (.o 1),Z],[U o1,U (.lst (fs.map D.int))]⟩) ⟨[],List.nil_sublist _,λk hk=>by simp at hk,Y⟩ ?_ ?_
 .ext j d δ L hj ⟨fs,sub,J,rfl⟩ hL
  rw[Qi] at hj;let⟨x,hx,rfl⟩:=ZM.mp hj;let wK:=(tU.mp hx).1;let et:us.take (j+1)=us.take j++[x]:=by rw[q2o,hx];rfl
  let⟨x0,x1⟩:=nu x (q0v hx);let fl:=sub.length_le;rw[q0y] at fl;let fu:Nums ws fs:=λz hz=>nu z (q3c (sub.subset hz))
  let VU:Nums ws (fs++[x]):=λz hz=>by
   rcases q0U.mp hz with h|h
   .exact fu z h
   .rw[q0l.mp h];exact⟨x0,x1⟩
  calc⟨trivial,?_⟩;erw[br,q02,q03];calc j6 λA1 B1 hA hB=>?_;simp!;calc⟨m,ws,fs,W,fu,.inr ⟨Y,Y,?_⟩⟩;simp!;calc⟨⋯,?_⟩;rw[show fs.map D.int++[D.int x]=(fs++[x]).map D.int by rw[q0K];rfl];calc⟨m,ws,fs++[x],W,VU,.inl ⟨Y,Y,?_⟩⟩;erw[lP,fK,fw,lU,rW];refine⟨by let:=LB (qL (gC m ws fs));unfold ur;erw[dep];symm,?_⟩
  cases q:aw (ur (qL (gC m ws fs))) (ur (qL (gC m ws (fs++[x])))) with
  |true =>
   simp!;subst hB;simp!;exact hL _ ⟨fs,by rw[et];calc sub.trans (q4Y _ _),J,Y⟩
  |false =>
   simp!;subst hA
   let nc:¬ bg (sR ws fs) (bp ws x).1 (bp ws x).2.1:=λc=>by
    rw[VS W fu x0 x1 c,f6] at q;cases q
   simp!;calc⟨⋯,hL _ ⟨fs++[x],by rw[et];calc sub.append (q4P _),J.snoc nc,?_⟩⟩;rw[q0K];rfl
 .ext δ ⟨fs,sub,J,rfl⟩
  calc⟨trivial,?_⟩;rw[rO,q46] at sub;subst hN;let fl:=sub.length_le;simp!;calc⟨[o1],Y,Y,.inl (fin fs o1 (λz hz=>nu z (sub.subset hz)) (sub.nodup nd) ⋯ J P1)⟩
end LJ
namespace L2
open PySem PySem.Spec PyProof.Rows
def pI:-D->(D->Prop)->Prop
 |[.bl b],K=>K (.int (if b then 1 else 0))
 |_,_=>False
variable[aC]{X:Cx}
theorem VV:cW X (.type "int") pI:=by
 ext pins s σ H xs us Q I r ⟨F,ds,K,sub,rd,q,md⟩;unfold pI at q;split at q
 .rename_i b
  let⟨v,rfl,rfl⟩:=cB rd;let⟨u,rfl,rx⟩:=vals1 r;cases rx
  refine call_int_bool ⟨.int (if b then 1 else 0),H,I.tok _,⟨_,Y⟩,md _ _ _ q (λ_ _ e=>e) Y⟩
 .calc q.elim
end L2
namespace LJ
open PySem L2
variable[aC]
noncomputable def eY(fs:-Int)(x:Int):D:=.tup [.int (cf fs x:Nat),.int (0-x),.int x]
noncomputable def pJ:D->LK
 |.tup [.int a,.int b,.int c]=>[a,b,c]
 |_=>[]
end LJ
namespace LJ
open PySem L2 PySem.Spec PySem.W PyProof.Rows
structure Ev where
 P:n
 w:Q
 K:xY
 mg:R->Option B
 base:I
section
variable[aC]
structure Fx(V:Ev)(k:Nat)(x:R)(ps:-R)(n:Nat)(G:GD):Prop where
 ex:∃f fd,Fn V.P V.w V.K V.mg V.base k x ps (m_ G n) f fd
def Dx(V:Ev)(x:R)(st:o):Prop:=∃f fd,V.mg x=U (.ref f)/\gm V.K x x st f fd
def zu(V:Ev)(x:R)(st:o)(T:O)(pos:y)(q:R):Prop:=∃f fd,(V.mg x=U (.ref f)/\gm V.K x x st f fd)/\gU V.mg V.base fd T pos q
def Ct(V:Ev)(x:R)(i:Int):Prop:=∃u,V.mg x=U u/\RelV (.int i) u
section
variable{X:Cx}{x:R}{ps:-R}{G:GD}{e:M}{es:-M}{fa:WA}{p pos:y}{j k n:Nat}
theorem iF(F:Fx ⟨X.prog,X.w,X.K,X.mg,X.base⟩ j x ps n G)(hr:aX k X.A)(ha:JA X (e::es) (bM fa))(hj:q9h j k=θ:=by rfl)(hg:Gl X x:=by rfl)(cS:bx x:=by decide)(he:dI X e es:=by rfl)(cU:eS X pos es:=by rfl):
  JE X (.Call (.Name x p) (e::es) [] pos) (tD (ar n G fa)):=let⟨_,_,F⟩:=F.ex;R_ F.ok (hr.mono (q2X hj)) hg F.yg F.kp F.bd ha cS he cU
theorem VW(F:Fx ⟨X.prog,X.w,X.K,X.mg,X.base⟩ j x ps n G)(hr:aX k X.A)(ha:JA X (e::es) (bM fa))(hj:q9h j k=θ:=by rfl)(hg:Gl X x:=by rfl)(cS:bx x:=by decide)(he:dI X e es:=by rfl)(cU:eS X pos es:=by rfl):
  JE X (.Call (.Name x p) (e::es) [] pos) (tD (v9 n G fa)):=let⟨_,_,F⟩:=F.ex;Sa F.ok (hr.mono (q2X hj)) hg F.yg F.kp F.bd ha cS he cU
theorem VX{i:Int}(C:Ct ⟨X.prog,X.w,X.K,X.mg,X.base⟩ x i)(hg:Gl X x:=by rfl)(hd:bx x:=by decide):JE X (.Name x pos) (tD (dC (.int i))):=let⟨_,a,b⟩:=C;RN hg a b hd
end
theorem _root_.L2.gU.env{mg:R->Option B}{base:I}{fd:FuncData}{T:O}{lp:y}{q:R}{aO:B}(L:gU mg base fd T lp q)(h:fd.code=aO):∃cc,aO=.ref cc/\CodeHd base cc T:=let⟨cc,e1,e2⟩:=L.code;⟨cc,h.symm.trans e1,e2⟩
noncomputable def VY:NameKind->Bool
 |.local=>θ
 |.cell=>θ
 |_=>ι
noncomputable def VZ:NameKind->Bool
 |.free=>ι
 |_=>θ
noncomputable def V0:ScopeKind->Bool
 |.function=>θ
 |_=>ι
noncomputable def w9(N P:-R)(sc:S):Bool:=V0 sc.kind && !sc.isCoroutine && !sc.isGenerator&&J N.Nodup&&J (N.take ↑P=P)&&(P.all λx=>match sc.names.lookup x with
 |some k=>VY k
 |none=>ι)&&sc.names.all λy=>VZ y.2
theorem fV{N P:-R}{sc:S}(h:w9 N P sc=θ):mT N P sc:=by
 unfold w9 at h;erw[q0k,q3Q,q1D,q0T] at h;let⟨⟨⟨⟨⟨⟨h1,h2⟩,h3⟩,h4⟩,h5⟩,h6⟩,h7⟩:=h;refine⟨?_,h2,h3,h4,h5,λx hx=>?_,λy hy z=>?_⟩
 .cases q:sc.kind<;>rw[q] at h1<;>first|rfl|cases h1
 .let:=h6 x hx
  split at this
  .rename_i k e
   rw[e];cases k<;>first|exact .inl Y|exact .inr Y|cases this
  .cases this
 .let:=h7 y hy
  rw[z] at this;cases this
def iG(x:R)(st:o)(ps:-R):Prop:=∀(kV doc pm:B)(an:Option O)(aO ct:B)(us:-B),↑us=↑ps->bindArgs (q1I x x (kD st) (d8 st) (cw st) .none kV doc pm an aO ct) ⟨us,[]⟩=pure (ps.zip us)
section
theorem LI{us:-B}(h:↑us=1):∃a,us=[a]:=q5g.mp h
theorem zv{us:-B}(h:↑us=2):∃a b,us=[a,b]:=by
 cases us with
 |nil=>cases h
 |cons a r=>let⟨b,rfl⟩:=LI (q61 h);calc⟨a,b,Y⟩
theorem V6{us:-B}(h:↑us=3):∃a b c,us=[a,b,c]:=by
 cases us with
 |nil=>cases h
 |cons a r=>let⟨b,c,rfl⟩:=zv (q61 h);calc⟨a,b,c,Y⟩
theorem qR{x:R}{st:o}{ps:-R}(h:∀(kV doc pm:B) (an:Option O) (aO ct a:B),bindArgs (q1I x x (kD st) (d8 st) (cw st) .none kV doc pm an aO ct) ⟨[a],[]⟩=pure (ps.zip [a]):=by intros;rfl)(hl:↑ps=1:=by rfl):iG x st ps:=λkV doc pm an aO ct us hu=>by
 let⟨a,rfl⟩:=LI (hu.trans hl);calc h kV doc pm an aO ct a
theorem iN{x:R}{st:o}{ps:-R}(h:∀(kV doc pm:B) (an:Option O) (aO ct a b:B),bindArgs (q1I x x (kD st) (d8 st) (cw st) .none kV doc pm an aO ct) ⟨[a,b],[]⟩=pure (ps.zip [a,b]):=by intros;rfl)(hl:↑ps=2:=by rfl):iG x st ps:=λkV doc pm an aO ct us hu=>by
 let⟨a,b,rfl⟩:=zv (hu.trans hl);calc h kV doc pm an aO ct a b
theorem pK{x:R}{st:o}{ps:-R}(h:∀(kV doc pm:B) (an:Option O) (aO ct a b c:B),bindArgs (q1I x x (kD st) (d8 st) (cw st) .none kV doc pm an aO ct) ⟨[a,b,c],[]⟩=pure (ps.zip [a,b,c]):=by intros;rfl)(hl:↑ps=3:=by rfl):iG x st ps:=λkV doc pm an aO ct us hu=>by
 let⟨a,b,c,rfl⟩:=V6 (hu.trans hl);calc h kV doc pm an aO ct a b c
variable{V:Ev}{x:R}{st:o}{N ps:-R}{k:Nat}{G:GD}
theorem fD(D:Dx V x st)(bd:iG x st ps)(h:∀{aO:ν} {A:q} {outer:-t} {s:L} {H:Hp} {E:XK} {f:O},aX k (A.deeper (envOfC x (cw st) ⇑s f aO))->N.Nodup->(A.deeper (envOfC x (cw st) ⇑s f aO)).units+64<cLine →
   ∃B:WS,cj (aS fJ V.P V.w V.K V.mg V.base N x (cw st) f aO A outer s H E).lh (d8 st) (cX B)/\∀ys ovs K',↑ys=↑ps->G ys ovs K'->B (gO ↑ovs K') ⟨ys.map U++q0d (↑N-↑ps) Z,ovs.map U⟩)(sc:w9 N ps (cw st)=θ:=by decide +kernel):Fx V (k+1) x ps ↑ps G :=
 let⟨f,fd,a,F⟩:=D
 ⟨f,fd,F.R5 (fV sc) λaO A outer s H E hr=>h hr (fV sc).nd hr.units,a,F.kp,F.binds bd⟩
theorem V7{T:O}{lp:y}{q:R}(D:zu V x st T lp q)(bd:iG x st ps)(h:∀{aO:ν} {A:Β} {outer:-t} {s:L} {H:Hp} {E:XK} {f:O} {fd:FuncData},gU V.mg V.base fd T lp q->fd.code=aO->aX k (A.deeper (envOfC x (cw st) ⇑s f aO))->N.Nodup->(A.deeper (envOfC x (cw st) ⇑s f aO)).units+64<cLine →
   ∃B:WS,cj (aS fJ V.P V.w V.K V.mg V.base N x (cw st) f aO A outer s H E).lh (d8 st) (cX B)/\∀ys ovs K',↑ys=↑ps->G ys ovs K'->B (gO ↑ovs K') ⟨ys.map U++q0d (↑N-↑ps) Z,ovs.map U⟩)(sc:w9 N ps (cw st)=θ:=by decide +kernel):Fx V (k+1) x ps ↑ps G :=
 let⟨f,fd,⟨a,F⟩,LD⟩:=D
 ⟨f,fd,F.DZ (fV sc) λaO A outer s H E hc hr=>h LD hc hr (fV sc).nd hr.units,a,F.kp,F.binds bd⟩
end
end
section
variable{K:xY}{h:I}{mg:R->Option B}
def Dk(K:xY)(x:R)(st:o):Prop:=∃f fd,q0M K mainGlobals x=U (U (.ref f))/\gm K x x st f fd
inductive gW (K:xY):-(R×o)->Prop
 |nil:gW K []
 |cons {x st r}:Dk K x st->gW K r->gW K ((x,st)::r)
theorem Ed{x:R}{st:o}{r:-(R×o)}{f:O}{od an:Option O}{sl:Array (Option B)}{oc kV dc pm cd ct:B}(a:q0M K mainGlobals x=U (U (.ref f)))(l:K.lookup f=U ⟨oc,od,.func (q1I x x (kD st) (d8 st) (cw st) .none kV dc pm an cd ct),sl⟩)(q:q2F K cd x=θ)(k:q08 K (.ref f)=θ)(h:gW K r):gW K ((x,st)::r) :=
 .cons ⟨f,_,a,xZ l q k⟩ h
theorem gW.at{ds:-(R×o)}(h:gW K ds)(i:Nat){x:R}{st:o}(e:ds[i]?=U (x,st)):Dk K x st:=by
 induction h generalizing i with
 |nil=>cases e
 |cons d _ ih=>cases i with
  |zero=>cases e;exact d
  |succ i=>calc ih i e
def zw(K:xY)(x:R)(st:o)(T:O):Prop:=∃f fd,(q0M K mainGlobals x=U (U (.ref f))/\gm K x x st f fd)/\∃cc,fd.code=.ref cc/\q7h K cc T=θ
inductive eZ (K:xY):-(R×o×O)->Prop
 |nil:eZ K []
 |cons {x st T r}:zw K x st T->eZ K r->eZ K ((x,st,T)::r)
theorem w_{x:R}{st:o}{T:O}{r:-(R×o×O)}{f cc:O}{od an:Option O}{sl:Array (Option B)}{oc kV dc pm ct:B}(a:q0M K mainGlobals x=U (U (.ref f)))(l:K.lookup f=U ⟨oc,od,.func (q1I x x (kD st) (d8 st) (cw st) .none kV dc pm an (.ref cc) ct),sl⟩)(q:q2F K (.ref cc) x=θ)(k:q08 K (.ref f)=θ)(c:q7h K cc T=θ)(h:eZ K r):eZ K ((x,st,T)::r) :=
 .cons ⟨f,_,⟨a,xZ l q k⟩,cc,Y,c⟩ h
theorem eZ.at{ds:-(R×o×O)}(h:eZ K ds)(i:Nat){x:R}{st:o}{T:O}(e:ds[i]?=U (x,st,T)):zw K x st T:=by
 induction h generalizing i with
 |nil=>cases e
 |cons d _ ih=>cases i with
  |zero=>cases e;exact d
  |succ i=>calc ih i e
theorem eZ.code{ds:-(R×o×O)}(h:eZ K ds){hp:I}(X:K.In hp):∀T∈ds.map (·.2.2),∃cc,q7_ hp cc T:=by
 induction h with
 |nil=>ext T hT;exact nomatch hT
 |cons d _ ih =>
  ext T hT;rcases My.mp hT with rfl|hT
  .let⟨_,_,_,cc,_,e⟩:=d
   exact⟨cc,q57 X e⟩
  .calc ih T hT
theorem V8{x:R}{r:-R}(a:q0M K mainGlobals x=U Z)(h:∀y∈r,q0M K mainGlobals y=U Z):∀y∈x::r,q0M K mainGlobals y=U Z:=λy hy=>by
 rcases My.mp hy with rfl|hy
 .exact a
 .calc h y hy
theorem V9{ls:-me}(nd:(ls.map (·.T)).Nodup):∀{a b:me},a∈ls->b∈ls->a.T=b.T->a=b:=by
 induction ls with
 |nil=>ext a b ha;exact nomatch ha
 |cons c r ih =>
  ext a b ha hb e;rw[q0o,q2Q] at nd;rcases My.mp ha with rfl|ha'<;>rcases My.mp hb with rfl|hb'
  .rfl
  .exact absurd (q0t.mpr ⟨b,hb',e.symm⟩) nd.1
  .exact absurd (q0t.mpr ⟨a,ha',e⟩) nd.1
  .calc ih nd.2 ha' hb' e
theorem Dk.v{P:n}{w:Q}{base:I}{x:R}{st:o}(d:Dk K x st)(X:K.In h)(G:h.Ns mainGlobals mg):Dx ⟨P,w,K,mg,base⟩ x st :=
 let⟨f,fd,a,F⟩:=d
 ⟨f,fd,q0N X G a,F⟩
theorem zw.v{P:n}{w:Q}{base:I}{x:R}{st:o}{ls:-me}{T:O}{lp:y}{q:R}(d:zw K x st T)(X:K.In h)(G:h.Ns mainGlobals mg)(KB:K.In base)(hB:∀t∈ls,base.BuiltinsAt mg t.T)(nd:(ls.map (·.T)).Nodup)(ng:∀t∈ls,mainGlobals≠t.T)(hl:⟨T,lp,q⟩∈ls):@zu (pG ls) ⟨P,w,K,mg,base⟩ x st T lp q :=
 let⟨f,fd,⟨a,F⟩,cc,e1,e2⟩:=d
 letI:aC:=pG ls
 ⟨f,fd,⟨q0N X G a,F⟩,⟨cc,e1,q57 KB e2⟩,ng _ hl,hB _ hl,Vb hl λa ha b hb e=>V9 nd ha hb e⟩
def Ck(K:xY)(x:R)(i:Int):Prop:=∃u,q0M K mainGlobals x=U (U u)/\RelV (.int i) u
theorem Ck.v{P:n}{w:Q}{base:I}{x:R}{i:Int}(d:Ck K x i)(X:K.In h)(G:h.Ns mainGlobals mg):Ct ⟨P,w,K,mg,base⟩ x i :=
 let⟨u,a,r⟩:=d
 ⟨u,q0N X G a,r⟩
noncomputable def Ee:-R:=["len", "range", "list", "tuple", "set", "sorted", "min", "max", "sum", "all", "any", "enumerate", "zip", "isinstance", "int", "bool", "str", "repr"]
theorem V_(X:K.In h)(G:h.Ns mainGlobals mg)(N:∀x∈Ee,q0M K mainGlobals x=U Z):BT mg :=
 have n:∀i x,Ee[i]?=U x->mg x=Z:=λi x e=>q6v X G (N x (q0v e))
 ⟨n 0 _ Y,n 1 _ Y,n 2 _ Y,n 3 _ Y,n 4 _ Y,n 5 _ Y,n 6 _ Y,n 7 _ Y,n 8 _ Y,n 9 _ Y,n 10 _ Y,n 11 _ Y,n 12 _ Y,n 13 _ Y,n 14 _ Y,n 15 _ Y,n 16 _ Y,n 17 _ Y⟩
end
end LJ
namespace L2
open PySem PySem.Spec PyProof.Rows
def mn(h:I)(a C:O)(dx T:Option O)(fl:B):Prop :=
 ∃vs sl,h.get? a=U ⟨.ref C,dx,.fields vs,sl⟩/\vs[1]?=U (T.elim q0n q0w)/\∀t,T=U t->t≠a/\∃oT ts,h.get? t=U oT/\oT.data=.fields ts/\ts[3]?=U fl
structure mq(fs:-O)(a:O)(T:Option O)(h h':I):Prop where
 keep:∀b o,b≠a->U b≠T->b∉fs->h.get? b=U o->h'.get? b=U o
 slot:∀b o,b≠a->U b≠T->h.get? b=U o->∃sl,h'.get? b=U {o with slots:=sl}
section
variable{M:Model}{A:q}{E:aJ}{s:ο}{env:t}{outer:-t}{base:I}{L a C:O}{dx T:Option O}{Q:Unit->ο->Prop}
theorem LL{head:B}{hn:Bool}{vs:Array B}{sl:Array (Option B)}(kE:A.frames=U (env::outer))(hl:s.heap.FunFrames base (env::outer))(hf:env.frame=U L)
  (he:s.heap.get? a=U ⟨.ref C,dx,.fields vs,sl⟩) (hsz:1<vs.size)
  (h:∀h' T',mn h' a C dx (U T') (rawInt L)->s.heap.get? T'=Z->mq (eM (env::outer)) a Z s.heap h'->Q () {s with heap:=h'}) :
  G M A (do let x <- frameOf env;let pl <- entryPlaceOf L hn;let b <- q58 head x .none (rawInt L) .none pl;setField (.ref a) 1 b) Q E s:=by
 let na:a∉(env::outer).filterMap (·.frame):=λhm=>by
  let⟨_,o,ho,nf⟩:=hl.mem hm;rw[he] at ho;cases ho;exact nf vs Y
 calc oj (wpAny_frameOf_fun kE hl hf λh1 e1=>?_);calc oj (wpAny_entryPlaceOf λpl cU=>?_);unfold q58 newFields;calc oj (q01 ?_ (cU.sizeOk5 _ _ _ _ _));let Ef:=(e1.2.1 a na).trans he;calc q2D (rM _ Ef) Y hsz ?_;let nT:h1.objs.size≠a:=q1B (Qj Ef)
 let keep:∀b o,b≠a->h1.get? b=U o->∀ob f,((h1.push ob).update a f).get? b=U o:=λb o n e ob f=>by
  rw[q0P _ _ (q1L n)];exact rM _ e
 refine h _ h1.objs.size ⟨_,_,q0E _ (rM _ Ef) Y,?_,λt e=>?_⟩ ?_ ⟨λb o n _ nf e=>?_,λb o n _ e=>?_⟩
 .show (vs.setIfInBounds 1 (q0w h1.objs.size))[1]?=_
  simp[hsz]
 .cases e
  refine⟨nT,_,_,(q0P _ _ (q1L nT)).trans (ZI h1 Y),Y,?_⟩
  first|(simp;done)|(rcases cU with rfl|⟨_,_,_,_,_,_,_,rfl⟩<;>simp)
 .rw[q28]
  rw[e1.1];exact BA _
 .exact keep b o n ((e1.2.1 b nf).trans e) _ _
 .let⟨mS,e'⟩:=e1.2.2 b o e
  calc⟨mS,keep b _ n e' _ _⟩
theorem Eg{t:O}{fl:B}(f:mn s.heap a C dx (U t) fl)(h:∀h',mn h' a C dx (U t) .none->mq [] a (U t) s.heap h'->Q () {s with heap:=h'}):
  G M A (setFlight (.ref a) Z) Q E s:=by
 let⟨vs,sl,ea,e1,r⟩:=f;let⟨n,oT,ts,et,ed,e3⟩:=r t Y;let h3:=(q07.mp e3).1;let o:∀b,b≠t->(s.heap.update t (q4S (·.setIfInBounds 3 .none))).get? b=s.heap.get? b:=λb nb=>q0P _ _ (q1L nb);refine wpAny_setFlight_none ea Y e1 et ed h3 (h _ ⟨vs,sl,(o a (q1L n)).trans ea,e1,λt' e=>?_⟩ ⟨λb u _ nb _ e=>?_,λb u _ nb e=>⟨u.slots,?_⟩⟩)
 .cases e
  exact⟨n,_,_,q0E _ et (q2r (q1F ed _)),q1F ed _,by simp[h3]⟩
 .exact (o b λz=>nb (by rw[z])).trans e
 .calc (o b λz=>nb (by rw[z])).trans e
theorem LM(kE:A.frames=U (env::outer))(hl:s.heap.FunFrames base (env::outer))(hf:env.frame=U L)(f:mn s.heap a C dx T .none)
  (h:∀h' T',mn h' a C dx (U T') (rawInt L)->s.heap.get? T'=Z->mq (eM (env::outer)) a T s.heap h'->Q () {s with heap:=h'}):G M A (noteFrame (.ref a) env) Q E s:=by
 let⟨vs,sl,ea,e1,r⟩:=f;let hz:=(q07.mp e1).1;unfold noteFrame;erw[hf];refine oj (q1h ea Y e1 ?_)
 cases T with
 |none =>
  rw[show(Z:Option O).elim q0n q0w=q0n from Y,ZJ (by decide)];exact LL kE hl hf ea hz h
 |some t =>
  let⟨n,oT,ts,et,ed,e3⟩:=r t Y;let h3:=(q07.mp e3).1;rw[show(U t).elim q0n q0w=q0w t from Y,ZK (show(q0w t != q0n)=θ from by simp)];calc oj (q1h et ed e3 ?_);rw[ZJ (show ¬ ((q0n==rawInt L)=θ) from by simp[rawInt])];calc oj (q2D et ed h3 ?_);let o:∀b,b≠t->(s.heap.update t (q4S (·.setIfInBounds 3 q0n))).get? b=s.heap.get? b:=λb nb=>q0P _ _ (q1L nb);refine LL kE (hl.of_keeps λb u e nf=>⟨u,(o b λz=>?_).trans e,Y⟩) hf ((o a (q1L n)).trans ea) hz λh' T' x1 x2 x3=>h h' T' x1 ?_ ⟨λb u na nb nf e=>x3.keep b u na (by simp) nf ((o b λz=>nb (by rw[z])).trans e),λb u na nb e=>x3.slot b u na (by simp) ((o b λz=>nb (by rw[z])).trans e)⟩
  .rw[z,et] at e;cases e
   exact nf ts ed
  .by_cases z:T'=t
   .rw[z,q0E _ et (q2r (q1F ed _))] at x2;cases x2
   .calc (o T' z).symm.trans x2
theorem Wa(kE:A.frames=U (env::outer))(hl:s.heap.FunFrames base (env::outer))(hf:env.frame=U L)(f:mn s.heap a C dx T .none)
  (h:∀h' T',mn h' a C dx (U T') .none->s.heap.get? T'=Z->mq (eM (env::outer)) a T s.heap h'->Q () {s with heap:=h'}):G M A (leaving env (.ref a)) Q E s:=by
 unfold leaving;refine oj (LM kE hl hf f λh1 T' x1 x2 x3=>Eg x1 λh2 y1 y2=>h h2 T' y1 x2 ⟨λb o na nb nf e=>?_,λb o na nb e=>?_⟩)
 .exact y2.keep b o na (λz=>by cases z;rw[x2] at e;cases e) (by simp) (x3.keep b o na nb nf e)
 .let⟨sl,e'⟩:=x3.slot b o na nb e
  calc⟨sl,y2.keep b _ na (λz=>by cases z;rw[x2] at e;cases e) (by simp) e'⟩
end
def cH(P:n)(w:Q):jM:=λouter H s E e s'=>∃(a C:O)(dx:Option O)(T:O)(H':Hp),e=.ref a/\s'.os=s.os/\AllBare s'.gens/\Un (eM outer) [] H H' s.heap s'.heap/\cI P w H' s'.heap ∧
 mn s'.heap a C dx (U T) .none/\H' a=Z/\H' T=Z/\s.heap.get? a=Z/\s.heap.get? T=Z/\E (.ref C) dx H'
section
variable{X:Cx}{P:n}{w:Q}{K:xY}{mg:R->Option B}{base:I}{N:-R}{qual:R}{scope:S}{f:O}{cd:B}{A:q}{outer:-t}{s:L}{H:Hp}{E:XK}
theorem Un.sS{fs:-O}{H H':Hp}{h g h':I}{a:O}{T:Option O}(u:Un fs [] H H' h g)(na:∀o,h.get? a=U o->H a=Z->False)(nT:∀t,T=U t->h.get? t=Z)(ea:∃o,h'.get? a=U o)(x:mq fs a T g h'):Un fs [] H H' h h' where
 keep:=λb o e n nf nx=>x.keep b o (λz=>by subst z;calc na o e n) (λz=>by rw[nT b z.symm] at e;cases e) nf (u.keep b o e n nf nx)
 slot:=λb o e n nf nx=>by
  let⟨sl,e1⟩:=u.slot b o e n nf nx;let⟨mS,e2⟩:=x.slot b _ (λz=>by subst z;calc na o e n) (λz=>by rw[nT b z.symm] at e;cases e) e1;exact⟨mS,e2⟩
 free:=u.free
 there:=λb o e nx=>by
  let⟨o1,e1⟩:=u.there b o e nx
  by_cases c:b=a
  .rw[c];exact ea
  .let⟨sl,e2⟩:=x.slot b o1 c (λz=>by rw[nT b z.symm] at e;cases e) e1
   exact⟨_,e2⟩
 cQ:=u.cQ
 di:=u.di
 dH:=u.dH
theorem cI.sS{H':Hp}{g h':I}{fs:-O}{a:O}{T:Option O}(k:cI P w H' g)(ha:H' a=Z)(hT:∀t,T=U t->H' t=Z)(hf:∀b∈fs,H' b=Z)(x:mq fs a T g h'):cI P w H' h':=λb o e=>by
 let ne:∀c,(c=b\/H' c=U (.own b))->H' c≠Z:=λc hc z=>by
  rcases hc with rfl|hc
  .rw[e] at z;cases z
  .rw[hc] at z;cases z
 calc(k b o e).dG (λc v hc z=>x.keep c v (λq=>ne c hc (by rw[q];calc ha)) (λq=>ne c hc (hT c q.symm)) (λq=>ne c hc (hf c q)) z) (λc z=>z) λc xs z=>z
theorem Eh{h h' base:I}:∀{l:-t},(∀b∈eM l,∀o,h.get? b=U o->∃sl,h'.get? b=U {o with slots:=sl})->h.FunFrames base l->h'.FunFrames base l
 |[],_,_=>trivial
 |env::r,k,⟨hk,⟨L,o,hf,hn,ho,hd⟩,hr⟩=>by
  let hL:L∈eM (env::r):=by unfold eM;rw[q14,hf];exact Qk
  let⟨sl,e⟩:=k L hL o ho;calc⟨hk,⟨L,_,hf,hn,e,hd⟩,Eh (λb hb=>k b (by unfold eM;rw[q14,hf];calc Qm _ hb)) hr⟩
theorem LN{pins:au}{σ:St}{H1 H':Hp}{s1 s2:L}{a C:O}{dx T:Option O}(eX:X=aS (cH P w) P w K mg base N qual scope f cd A outer s H E)(I:Inv X pins σ H1 s1)(os:s2.os=s1.os)(ba:AllBare s2.gens)(u:Un (eM X.stack) [] H1 H' s1.heap s2.heap)(ok:cI P w H' s2.heap)(F:mn s2.heap a C dx T .none)
  (ha:H' a=Z) (hT:∀t,T=U t->H' t=Z/\s1.heap.get? t=Z) (na:∀o,s1.heap.get? a=U o->H1 a=Z->False) (a0:s.heap.get? a=Z) (q:E (.ref C) dx H'):X.xe (.ref a) s2:=by
 subst eX
 let fr:∀b∈eM (envOfC qual scope ⇑s f cd::outer),H' b=Z:=λb hb=>by
  let⟨_,o,ho,_⟩:=I.stack.mem hb;exact u.free b o ho (I.dY b hb) (by simp)
 let fk:s2.heap.FunFrames base (envOfC qual scope ⇑s f cd::outer):=Eh (λb hb o e=>u.any e (I.dY b hb) (by simp)) I.stack;calc Wa (base:=base) (outer:=outer) I.ok.frames fk Y F λh' T' x1 x2 x3=>?_;let u':=u.sS na (λt e=>(hT t e).2) (by let⟨vs,sl,e,_⟩:=x1;calc⟨_,e⟩) x3;let Wb:=ok.sS ha (λt e=>(hT t e).1) fr x3;let J:=I.jg (s':={s2 with heap:=h'}) os u' Wb ba (λb z=>absurd z (by simp))
 let gone:∀b,s2.heap.get? b=Z->s.heap.get? b=Z:=λb e=>by
  cases q:s.heap.get? b with
  |none=>rfl
  |some o =>
   let⟨o1,e1⟩:=I.base.there b o q (by calc q0j);let⟨o2,e2⟩:=u.there b o1 e1 (by simp);rw[e] at e2;cases e2
 refine⟨a,C,dx,T',H',Y,J.os,J.bare,J.base,J.aF,x1,ha,?_,a0,gone T' x2,q⟩
 cases z:H' T' with
 |none=>rfl
 |some o =>
  let⟨ob,e⟩:=Iw (ok T' o z);rw[x2] at e;cases e
theorem Wc:p_ (cH P w) (aS (cH P w) P w K mg base N qual scope f cd A outer s H E) E:=λpins σ H1 s1 e s' I h=>by
 let⟨a,C,dx,T,H',rfl,os,ba,u,ok,F,ha,hT,a0,t0,q⟩:=h;refine LN Y I os ba u ok F ha (λt e=>by cases e;calc⟨hT,t0⟩) (λo e _=>by rw[a0] at e;cases e) ?_ q
 cases z:s.heap.get? a with
 |none=>rfl
 |some o =>
  let⟨o1,e1⟩:=I.base.there a o z (by calc q0j);rw[a0] at e1;cases e1
noncomputable def gy(H:Hp)(a:O):Hp:=λb=>if b=a then Z else H b
theorem uw{H:Hp}{a b:O}(n:b≠a):gy H a b=H b:=ZJ n
theorem Un.del{fs:-O}{H:Hp}{h:I}{a C:O}{dx:Option O}(e:H a=U (bS a C dx)):Un fs [] H (gy H a) h h where
 keep:=λ_ _ e _ _ _=>e
 slot:=λ_ o e _ _ _=>⟨o.slots,e⟩
 free:=λb o _ n _=>by
  unfold gy;split
  .rfl
  .exact n
 there:=λb o e _=>⟨o,e⟩
 cQ:=λb xs q=>by rw[uw (pV q e (by unfold bS;ext z;cases z))];exact q
 di:=λb o xs q=>by rw[uw (pV q e (by unfold bS;ext z;cases z))];exact q
 dH:=λb ps q=>⟨#[],by rw[uw (pV q e (by unfold bS;ext z;cases z)),q];simp⟩
theorem cI.del{H:Hp}{h:I}{a C:O}{dx:Option O}(k:cI P w H h)(e:H a=U (bS a C dx)):cI P w (gy H a) h:=λb o q=>by
 let nb:b≠a:=λz=>by unfold gy at q;rw[ZK z] at q;cases q
 rw[uw nb] at q;let own:∀c x,H c=U x->(∀φ,x≠.ext φ)->c≠a:=λc x z n y=>by rw[y,e] at z;cases z;exact n _ Y
 calc(k b o q).dG (λc v hc z=>z) (λc z=>by rw[uw (own c _ z (by ext φ y;cases y))];calc z) λc xs z=>by rw[uw (own c _ z (by ext φ y;cases y))];calc z
theorem b9.exc{l:-B}(x:b9 K l):l.contains (.type "BaseException")=θ:=by
 induction x with
 |base=>decide
 |own _ _ _ ih=>rw[q3y,ih,q5c]
theorem Wd{M:Model}{A:Β}{env:Ζ}{E:aJ}{s:L}{x:Sem B}{Q:Flow->L->Prop}(hh:A.handled=Z)
  (h:G M A x (λv s1=>∃a C dx lB,v=.ref a/\qi K C lB/\K.In s1.heap/\mn s1.heap a C dx Z .none/\E (.ref a) s1) E s):G M A (raiseStmt env (U x) Z) Q E s:=by
 unfold raiseStmt;calc oj (q1v h (λv s1 h1=>?_) λ_ _ z=>z);let⟨a,C,dx,lB,rfl,m,k,⟨vs,sl,ea,e1,_⟩,hE⟩:=h1;let⟨nm,q,N,bs,bm,eU,sn,sub,ab,col,dd,k0,k1,k2,k3,k5,l,t,_⟩:=m.BP;let hC:=k _ _ l;let hB:(q0w C::bm).contains (.type "BaseException")=θ:=by rw[q3y,t.exc,q5c]
 let⟨hp,g,d,tk,os⟩:=s1
 repeat(first|with_reducible refine q2Z ea ?_|with_reducible refine q2Z hC ?_|(with_reducible calc q51 hC ?_;rw[hB])|wp_step)
 rw[e1];calc vw ?_;rw[ZJ (by decide)];calc vw (wpAny_raiseNew_none hh hE)
def We(K:xY)(H0:Hp)(te:TE)(E:XK):TS:=λ_ σ H=>te σ H λv H1=>∃(a C:O)(dx:Option O)(lB:Option B),v=.ref a/\H1 a=U (bS a C dx)/\qi K C lB/\H0 a=Z/\E (.ref C) dx (gy H1 a)
theorem LO{e:M}{te:TE}{pos:y}(eX:X=aS (cH P w) P w K mg base N qual scope f cd A outer s H E)(he:JE X e te):JS X (.Raise (U e) Z pos) (We X.K X.H₀ te E):=by
 calc⟨?_⟩;ext pins s1 σ H1 D I h;show G _ _ (do standAt pos;raiseStmt X.env (U (do let v <- eval e X.env;standAt pos;pure v)) Z) _ _ _;let hc:X.calm=θ:=by rw[eX];rfl
 calc oj (q2V (Wd (K:=X.K) (I.ok.hd hc) (oj (a_ (he pins s1 σ H1 _ I h) λu s2 ⟨v,H2,I2,r,a,C,dx,lB,ev,ea,m,h0,q⟩=>oj (q2V (vw ?_))))));subst ev;obtain rfl:u=q0w a:=r;let⟨t,et⟩:=Iv (I2.aF a _ ea);let F:mn s2.heap a C dx Z .none:=⟨_,_,et,Y,λ_ z=>nomatch z⟩;calc⟨a,C,dx,lB,Y,m,I2.dz,F,?_⟩;let eP:X.prog=P:=by rw[eX];rfl
 let ew:X.w=w:=by rw[eX];rfl
 let ok:=I2.aF;rw[eP,ew] at ok;calc LN eX I2 Y I2.bare (Un.del ea) (ok.del ea) F (ZK Y) (λ_ z=>nomatch z) (λo _ n=>by rw[ea] at n;cases n) ?_ q;let e0:X.s₀=s:=by rw[eX];rfl
 let ex:X.ex=[]:=by rw[eX];rfl
 cases z:s.heap.get? a with
 |none=>rfl
 |some o =>
  let:=I2.base.free a o (by rw[e0];calc z) h0 (by rw[ex];calc q0j);rw[ea] at this;cases this
end
noncomputable def eE(a C:O)(dx:Option O):HO:=.ext λh=>∃vs sl,h.get? a=U ⟨.ref C,dx,.fields vs,sl⟩
theorem Wf{P:n}{w:Q}{H:Hp}{h:I}{a C:O}{dx:Option O}{vs:Array B}{sl:Array (Option B)}(e:h.get? a=U ⟨.ref C,dx,.fields vs,sl⟩):az P w H h a (eE a C dx) :=
 ⟨⟨vs,sl,e⟩,⟨_,e⟩,λh1 h2 ⟨Wg,mS,e1⟩ k↦⟨Wg,mS,k _ e1⟩⟩
theorem LP{P:n}{w:Q}{H:Hp}{h:I}{a C:O}{dx:Option O}(x:az P w H h a (eE a C dx)):∃vs sl,h.get? a=U ⟨.ref C,dx,.fields vs,sl⟩:=x.1
theorem mq.more{fs:-O}{a t:O}{T:Option O}{h h1 h2:I}(x:mq fs a T h h1)(n:h.get? t=Z)(y:mq [] a (U t) h1 h2):mq fs a T h h2 where
 keep:=λb o na nb nf e=>y.keep b o na (λz=>by cases z;rw[n] at e;cases e) (by simp) (x.keep b o na nb nf e)
 slot:=λb o na nb e=>by
  let⟨sl,e'⟩:=x.slot b o na nb e;calc⟨sl,y.keep b _ na (λz=>by cases z;rw[n] at e;cases e) (by simp) e'⟩
section
variable{X:Cx}{pins bX:au}{σ:St}{H:Hp}{s:L}{E:aJ}
theorem Inv.xa(I:Inv X pins σ H s):Inv {X with pn:=X.pn++pins,xe:=E} [] σ H s :=
 ⟨⟨I.ok.mod,I.ok.kind,I.ok.glob,I.ok.blt,I.ok.above,I.ok.inj,I.ok.has,I.ok.pW,I.ok.hd,I.ok.frames,I.ok.rl,I.ok.uS,I.ok.bs,I.ok.ku,I.ok.ij,I.ok.iQ,I.ok.dj,I.ok.kZ⟩,I.os,I.bare,I.base,I.loc,I.cell,I.free,I.bC,λp hp=>I.pin p hp⁻¹,I.aF,I.len⟩
theorem Inv.gE(I:Inv {X with pn:=X.pn++pins,xe:=E} bX σ H s):Inv X pins σ H s :=
 ⟨⟨I.ok.mod,I.ok.kind,I.ok.glob,I.ok.blt,I.ok.above,I.ok.inj,I.ok.has,I.ok.pW,I.ok.hd,I.ok.frames,I.ok.rl,I.ok.uS,I.ok.bs,I.ok.ku,I.ok.ij,I.ok.iQ,I.ok.dj,I.ok.kZ⟩,I.os,I.bare,I.base,I.loc,I.cell,I.free,I.bC,λp hp=>I.pin p (q1g _ hp),I.aF,I.len⟩
theorem Inv.toSub{A:q}(I:Inv X pins σ H s)(e:A.frames=X.A.frames):Inv {X with A:=A,calm:=false,xe:=E} pins σ H s :=
 ⟨⟨I.ok.mod,I.ok.kind,I.ok.glob,I.ok.blt,I.ok.above,I.ok.inj,I.ok.has,I.ok.pW,(λz=>by cases z),e.trans I.ok.frames,I.ok.rl,I.ok.uS,I.ok.bs,I.ok.ku,I.ok.ij,I.ok.iQ,I.ok.dj,I.ok.kZ⟩,I.os,I.bare,I.base,I.loc,I.cell,I.free,I.bC,I.pin,I.aF,I.len⟩
theorem Inv.xb{A:q}(I:Inv {X with A:=A,calm:=false,xe:=E} pins σ H s)(k:X.Ok):Inv X pins σ H s :=
 ⟨k,I.os,I.bare,I.base,I.loc,I.cell,I.free,I.bC,I.pin,I.aF,I.len⟩
theorem Inv.blank(I:Inv X pins σ H s):Inv X pins (q0d ↑σ Z) H s :=
 ⟨I.ok,I.os,I.bare,I.base,let⟨m,hn,_⟩:=I.loc;⟨m,hn,λi x v _ e _=>by rw[q2E] at e;split at e<;>cases e⟩,I.cell,I.free,I.bC,I.pin,I.aF,by rw[q1z];calc I.len⟩
theorem Inv.locs{σ':St}{h':Α}{m':R->Option B}{t':Nat}(I:Inv X pins σ H s)(hn:h'.Ns X.env.locals m')(hs:q2J X.env.locals s.heap h')
  (hl:∀(i:Nat)(x:R)(v:V),X.N[i]?=U x->σ'[i]?=U (U v)->tL X.env.scope x->∃u,RelV v u/\Look X.env h' m' x u) (len:↑σ'=↑X.N):Inv X pins σ' H {s with heap:=h',toks:=t'}:=by
 let⟨m,⟨oL,_,_,kz,_⟩,_⟩:=id I.loc;let ne:∀b o,X.s₀.heap.get? b=U o->b≠X.env.locals:=λb o e=>ZN (q0f (Qj e) I.ok.above);refine⟨I.ok,I.os,I.bare,⟨λb o e n hb hx=>(hs.2 b (ne b o e)).trans (I.base.keep b o e n hb hx),λb o e n hb hx=>?_,I.base.free,λb o e hx=>?_,I.base.cQ,I.base.di,I.base.dH⟩,⟨m',hn,hl⟩,λy c e=>?_,I.free,I.bC,λp hp=>?_,λb ob e=>?_,len⟩
 .let⟨sl,e1⟩:=I.base.slot b o e n hb hx
  exact⟨sl,(hs.2 b (ne b o e)).trans e1⟩
 .let⟨o',e1⟩:=I.base.there b o e hx
  exact⟨o',(hs.2 b (ne b o e)).trans e1⟩
 .let⟨w',z⟩:=I.cell y c e
  exact⟨w',z.sameBut hs (I.nU y c e)⟩
 .let⟨e,n,nl,nf,d⟩:=I.pin p hp
  exact⟨(hs.2 p.1 nl).trans e,n,nl,nf,d⟩
 .refine (I.aF b ob e).dG (λc w' hc q=>(hs.2 c ?_).trans q) (λ_ q=>q) λ_ _ q=>q
  ext rfl;rcases hc with rfl|hc
  .rw[I.free] at e;cases e
  .rw[I.free] at hc;cases hc
theorem name_goes{M:Model}{A:q}{E:aJ}{Q:Unit->L->Prop}{i:Nat}{n:R}{pos:Ε}(I:Inv X pins σ H s)(nd:X.N.Nodup)(hi:X.N[i]?=U n)(hk:X.env.scope.names.lookup n=U .local)
  (h:∀s',Inv X pins (σ.set i Z) H s'->Q () s'):G M A (do bindName X.env n .none;unbindBehindTheSuite X.env n pos) Q E s:=by
 calc oj (wpAny_bindName (xM (v:=.non) (u:=.none) I nd hi (.inl hk) Y (λs1 I1=>?_) (.inr hk)));let hp:(X.env.scope.kind==.class||(X.env.scope.kind==.module&&X.env.locals != X.env.globals))=ι:=by rw[I.ok.kind];rfl
 let hl:X.env.kindOf n=U .local:=hk;unfold unbindBehindTheSuite;calc q36 ?_;unfold unbindName;calc oj (wpAny_point (oj ?_));unfold deleteName;erw[hl,hp];rw[ZJ (by decide)];let⟨m,hn,hm⟩:=id I1.loc;let hlen:i<↑σ:=by rw[I.len];exact(tU.mp hi).1
 let⟨u0,r0,l0⟩:=hm i n .non hi (by rw[q0R hlen]) (.inl hk)
 let w4:(m n).isSome=θ:=by
  rcases l0 with⟨_,e⟩|⟨k,_⟩
  .rw[e];rfl
  .rcases k with k|k<;>(rw[hl] at k;cases k)
 calc oj (wpAny_nsDel_keeps hn λh2 v DM dZ=>?_);rw[w4];erw[q17,q1b,q0a,q0X];calc vw (wpAny_point (h _ (I1.locs (t':=s1.toks) DM dZ (λj y w e1 e2 e3=>?_) (by rw[q1G];calc I.len))));let nj:j≠i:=λz=>by rw[z,q0R hlen] at e2;cases e2
 rw[q0Y (q1L nj)] at e2;let⟨u,r,l⟩:=hm j y w e1 (by rw[q0Y (q1L nj)];calc e2) e3;calc⟨u,r,?_⟩;rcases l with⟨k,e⟩|⟨k,c,e,z⟩
 .refine .inl ⟨k,?_⟩
  let:y≠n:=λe=>nj (Az nd e1 (e▸hi));simp[this,e]
 .calc .inr ⟨k,c,e,z.sameBut dZ (I.nU y c e)⟩
end
section
variable{X:Cx}{body gF:-o}{b0:o}{x n:R}{p1 p2 pos:y}{L:O}{i:Nat}{tb:XK->TS}{th:TS}
def Wh(K:xY)(L:O)(i k:Nat)(th:TS)(D:Ends):XK:=λC dx H'=>∃c,C=.ref c/\q3R K C (.ref L)=U θ ∧
 ∀a,H' a=Z->th {nx:=fun σ H=>D.nx (σ.set i Z) H,rt:=λ_ _=>False} ((q0d k Z).set i (U (.ref a))) (upd H' a (eE a c dx))
def Ei(K:xY)(L:O)(i:Nat)(tb:XK->TS)(th:TS):TS:=λD σ H=>tb (Wh K L i ↑σ th D) D σ H
theorem Wi(g8:X.stack=X.env::X.outer)(kE:X.env.frame=U X.env.locals)(nd:X.N.Nodup)(hi:X.N[i]?=U n)(hk:X.env.scope.names.lookup n=U .local)(hg:Gl X x)(hm:X.mg x=U (.ref L))(cS:bx x)
  (hb:∀pn xe E,p_ (cH X.prog X.w) {X with pn:=pn,xe:=xe} E->cj {X with pn:=pn,xe:=xe} body (tb E)) (hs:∀A xe,cj {X with A:=A,calm:=false,xe:=xe} (b0::gF) th) :
  JS X (.Try body [.ExceptHandler (U (.Name x p1)) (U n) (b0::gF) p2] [] [] pos) (Ei X.K L i tb th):=by
 calc⟨?_⟩;ext pins s σ H D I h;calc wpAny_Try_except ?_;refine q1v (hb (X.pn++pins) (λe s1=>G (g X.prog X.w) X.A (noteFrame e X.env) (λ_ s2=>G (g X.prog X.w) X.A (setFlight e Z) (λ_ s3=>G (g X.prog X.w) X.A (handleBy e X.env [.ExceptHandler (U (.Name x p1)) (U n) (b0::gF) p2]) (SP X pins D) X.xe s3) X.xe s2) X.xe s1) _ ?_ [] s σ H D I.xa h) (λf s1 hq=>?_) (λe s1 z=>z)
 .ext bX σ' H1 s1 e s' I1 hx
  let⟨a,C,dx,T,H',rfl,os,ba,u,ok,F,ha,hT,a0,t0,c,ec,em,q⟩:=hx;cases ec
  let hA:X.A.frames=U (X.env::X.outer):=by rw[<-g8];exact I.ok.frames
  let iP:s1.heap.FunFrames X.base (X.env::X.outer):=by rw[<-g8];exact I1.stack
  let LQ:∀b∈eM (X.env::X.outer),H1 b=Z:=by rw[<-g8];exact I1.dY
  let u:Un (eM (X.env::X.outer)) [] H1 H' s1.heap s'.heap:=by rw[<-g8];exact u
  let fk:s'.heap.FunFrames X.base (X.env::X.outer):=Eh (λb hb o e=>u.any e (LQ b hb) (by simp)) iP
  let fr:∀b∈eM (X.env::X.outer),H' b=Z:=λb hb=>by
   let⟨_,o,ho,_⟩:=iP.mem hb;exact u.free b o ho (LQ b hb) (by simp)
  let na:∀o,s1.heap.get? a=U o->H1 a=Z->False:=λo e _=>by rw[a0] at e;cases e
  let inv:∀h,mq (eM (X.env::X.outer)) a (U T) s'.heap h->(∃o,h.get? a=U o)->Inv X pins σ' H' {s' with heap:=h}:=λh x e =>
   Inv.gE (I1.jg (s':={s' with heap:=h}) os (by show Un (eM X.stack) _ _ _ _ _;rw[g8];calc u.sS na (λt e=>by cases e;calc t0) e x) (ok.sS ha (λt e=>by cases e;calc hT) fr x) ba (λb z=>absurd z (by simp)))
  calc LM hA fk kE F λh4 T4 x1 x2 x3=>?_;calc Eg x1 λh5 y1 y2=>?_;let e5:=x3.more x2 y2;let⟨Z_,sl5,LR,_⟩:=id y1;let J5:=inv h5 e5 ⟨_,LR⟩;calc wpAny_handleBy_cons (codeAny_handlers_test (uW (X:={X with A:=X.A.mark (U (.ref a)),calm:=false,xe:=λ_ _=>False}) (J5.toSub Y) hg hm ?_ cS)) (by ext q;cases q);let LT:PySem.W.Looks (g X.prog X.w) h5 (typeOf (.ref a)) (.ref C):=(PySem.W.Looks.ld LR).andThen .now;calc PySem.W.Looks.here (PySem.W.exm_one J5.dz LT em) ?_;show codeAny _ _ _ _ _;calc codeAny_handlers_suite_as ?_;calc Eg y1 λh6 z1 z2=>?_;let e6:=e5.more x2 z2
  let⟨vs6,sl6,LU,_⟩:=id z1;let Wj:=ok.sS ha (λt e=>by cases e;calc hT) fr e6;let u6:=u.sS na (λt e=>by cases e;calc t0) ⟨_,LU⟩ e6;let ne:∀b y,H' b=U y->b≠a:=λb y e z=>by rw[z,ha] at e;cases e
  let J6:Inv X pins (q0d ↑σ Z) (upd H' a (eE a C dx)) {s' with heap:=h6}:=by
   let:=Inv.blank (Inv.gE (I1.jg (s':={s' with heap:=h6}) (H':=upd H' a (eE a C dx)) os (by
    show Un (eM X.stack) _ _ _ _ _;rw[g8]
    calc⟨u6.keep,u6.slot,λb o e n nx=>by rw[aA (λz=>by rw[z,a0] at e;cases e)];calc u6.free b o e n nx,u6.there,λb xs e=>by rw[aA (ne _ _ (u6.cQ b xs e))];calc u6.cQ b xs e,λb o xs e=>by rw[aA (ne _ _ (u6.di b o xs e))];calc u6.di b o xs e,λb ps e=>by let⟨more,e'⟩:=u6.dH b ps e;calc⟨more,by rw[aA (ne _ _ e')];calc e'⟩⟩)
    (λb o e=>by
     by_cases c:b=a
     .subst c;rw[bj] at e;cases e;exact Wf LU
     .rw[aA c] at e
      calc(Wj b o e).dG (λ_ _ _ z=>z) (λc z=>by rw[aA (ne _ _ z)];calc z) λc xs z=>by rw[aA (ne _ _ z)];calc z) ba (λb z=>absurd z (by simp))))
   rwa [show ↑σ'=↑σ from I1.len.trans I.len.symm] at this
  let hl:i<↑(q0d ↑σ (Z:Option V)):=by rw[q1z,I.len];exact(tU.mp hi).1
  calc xM (X:=X) J6 nd hi (.inl hk) (v:=.ref a) Y (λs7 I7=>?_) (.inr hk);refine q1v (hs (X.A.mark (U (.ref a))) _ pins s7 _ _ _ (I7.toSub Y) (q a ha)) (λf s8 hf=>?_) (λe s8 z=>z)
  cases f with
  |next =>
   let⟨σ9,H9,I9,q9⟩:=hf;exact name_goes (I9.xb I.ok) nd hi hk λs9 J9=>⟨_,_,J9,q9⟩
  |brk=>let⟨_,_,_,q9⟩:=hf;exact q1i q9
  |cont=>let⟨_,_,_,q9⟩:=hf;exact q1i q9
  |ret v=>let⟨_,_,_,_,_,q9⟩:=hf;exact q1i q9
 .cases f with
  |next =>
   let⟨σ',H',I',q⟩:=hq;exact q4d ⟨σ',H',I'.gE,q⟩
  |brk=>let⟨σ',H',I',q⟩:=hq;exact⟨σ',H',I'.gE,q⟩
  |cont=>let⟨σ',H',I',q⟩:=hq;exact⟨σ',H',I'.gE,q⟩
  |ret u=>let⟨v,σ',H',I',r,q⟩:=hq;calc⟨v,σ',H',I'.gE,r,q⟩
end
section
variable{X:Cx}{pins:au}{σ:St}{H:Hp}{s:L}{e:M}{ta:TE}{pos:y}
theorem Wk{a Ej:O}{dx:Option O}{c:B}{b:Bool}{A:q}{E':aJ}{Q:aJ}(I:Inv X pins σ H s)(ea:H a=U (eE a Ej dx))(cl:bo X.K Ej)(hd:∀d,dx=U d->∃fs,H d=U (.xd fs))
  (e:q0r X.K (.ref Ej) c=U b) (h:∀tk,Q (.bool b) {s with toks:=tk}):G (ς X.prog X.w) A (call (.builtin "isinstance") [.ref a,c]) Q E' s:=by
 let⟨vs,sl,ht⟩:=LP (I.aF a _ ea);refine q1x (Q0 cl) I.dz ?_ e (λz=>nomatch z) h
 cases dx with
 |none=>exact⟨_,Z,ht,Y,Y,trivial⟩
 |some d =>
  let⟨fs,ed⟩:=hd d Y;let⟨mA,hn,_⟩:=(show ∃mA,s.heap.Ns1 d mA/\∀g,fN (fs.lookup g) (mA g) from I.aF d _ ed);let⟨od,ho,_⟩:=A4 hn;calc⟨_,U od,ht,Y,Y,ho⟩
theorem Wl:g9 X (.builtin "isinstance") (λxs H Q=>∃a C dx y c b,xs=[.ref a,y]/\oq y=U c/\H a=U (eE a C dx)/\bo X.K C/\(∀d,dx=U d->∃fs,H d=U (.xd fs))/\q0r X.K (.ref C) c=U b/\Q (.bl b) H):=by
 ext pins s σ H xs us Q I rv h;let⟨a,C,dx,y,c,b,rfl,hc,ea,cl,hd,e,q⟩:=h;let⟨u,w',rfl,rx,ry⟩:=rv.two;cases rx
 rw[IA ry hc];calc Wk I ea cl hd e λtk=>⟨.bl b,H,I.tok tk,Y,q⟩
def LV(K:xY)(ta:TE)(f:R):TE:=fun σ H Q=>ta σ H λx H1=>∃a C d fs v,x=.ref a/\H1 a=U (eE a C (U d))/\bo K C/\tO K C f/\H1 d=U (.xd fs)/\fs.lookup f=U v/\Q v H1
theorem Wm{fn:R}(he:JE X e ta)(hb:attributeBase e fn X.env (eval e X.env)=eval e X.env):JE X (.Attribute e fn pos) (LV X.K ta fn):=by
 calc⟨?_⟩;ext pins s σ H Q I h;calc Pq hb (a_ (he pins s σ H _ I h) λu s1 ⟨x,H1,I1,rx,a,C,d,fs,v,ex,ea,c,n,ed,l,q⟩=>?_);subst ex;obtain rfl:u=q0w a:=rx;let⟨vs,sl,ht⟩:=LP (I1.aF a _ ea);let⟨mA,hn,hr⟩:=(show ∃mA,s1.heap.Ns1 d mA/\∀g,fN (fs.lookup g) (mA g) from I1.aF d _ ed);let⟨od,ho,hl⟩:=A4 hn;let⟨cd,e7,hm,eU⟩:=c.cd;let Wn:q7T s1.heap a ⟨.ref C,U d,.fields vs,sl⟩ C (U od):=⟨ht,Y,Y,ho⟩;let r:=hr fn;rw[l] at r;let⟨u,eu,ru⟩:=r.some_of;calc QQ I1.dz Wn c.ga c.gh c.base (PySem.W.findObj_own (by rw[q6H,e7];simpa using eU) n Y (by rw[hl,eu])) (Po ru) ?_;calc⟨v,H1,I1.tok _,ru,q⟩
end
theorem gm.xc{P:n}{w:ω}{K:xY}{mg:R->Option B}{base:I}{x qual:R}{st:o}{f:O}{fd:FuncData}{N ps:-R}{k:Nat}{sp:Sp}(F:gm K x qual st f fd)(S:mT N ps (cw st))(len:∀vs H Q E,sp vs H Q E->↑vs=↑ps)
  (d6:∀(aO:B)(A:Β)(outer:-Ζ)(s:L)(H:Hp)(vs:-V)(Q:VK)(E:XK),aX k (A.deeper (envOfC qual (cw st) ⇑s f aO))->sp vs H Q E →
   ∃t,cj (aS (cH P w) P w K mg base N qual (cw st) f aO A outer s H E) (d8 st) t/\t {nx:=λ_ H'=>Q .non H',rt:=Q} (start N vs) H):bK P w K mg base (cH P w) (k+1) f fd ps sp:=by
 let⟨oc,od,kV,doc,pm,an,aO,ct,mU,rfl,lk,e7⟩:=F.ex;calc A_ lk e7 S len λA outer s H vs Q E hr h=>?_;let⟨t,g,q⟩:=d6 aO A outer s H vs Q E hr h;calc⟨t,g,q⟩
variable[aC]
structure Kp(H H':Hp):Prop where
 keep:∀a o,H a=U o->a∉aC.ad->H' a=U o
 tab:aC.ok H'
theorem Kp.none{H H':Hp}(x:Kp H H'){a:O}(h:H' a=Z):H a=Z:=by
 cases e:H a with
 |none=>rfl
 |some o =>
  by_cases c:a∈aC.ad
  .let⟨ps,q⟩:=aC.tb x.tab c
   rw[h] at q;cases q
  .rw[x.keep a o e c] at h;cases h
theorem Wo{H:Hp}{a:O}{o:HO}(h:H a=Z):gy (upd H a o) a=H:=by
 funext b;unfold gy upd;split
 .rename_i e;rw[e];exact h.symm
 .rfl
abbrev Wq(Kf:xY):-V->Hp->VK->Prop:=λxs H Q=>∃p ys,xs=[.ref p]/\((bh Kf H p ys/\∀l,H l=Z->Q (.ref l) (upd H l (.tup ys)))\/(bz Kf H p ys/\Q (.ref p) H))
end L2
namespace LJ
open PySem L2
structure ExcAt(H:Hp)(a C:O)(dx:Option O):Prop where
 ob:H a=U (eE a C dx)
 dd:∀d,dx=U d->∃fs,H d=U (.xd fs)
theorem ExcAt.same{H H':Hp}{a C:O}{dx:Option O}(x:ExcAt H a C dx)(s:av H H'):ExcAt H' a C dx:=⟨s _ _ x.ob,λd e=>let⟨fs,h⟩:=x.dd d e;⟨fs,s _ _ h⟩⟩
structure Ek(K:xY)(L:O)(Cs:-O):Prop where
 len:↑Cs=13
 each:∀(j:Nat)(C:O),Cs[j]?=U C->bo K C/\q0r K (.ref C) (.ref L)=U θ/\q0r K (.ref C) (.type "ValueError")=U θ/\∀(i:Nat)(C':O),Cs[i]?=U C'->q0r K (.ref C) (.ref C')=U (J (i=j))
 above:bo K L/\q0r K (.ref L) (.ref L)=U θ/\q0r K (.ref L) (.type "ValueError")=U θ/\∀(i:Nat)(C':O),Cs[i]?=U C'->q0r K (.ref L) (.ref C')=U ι
 gX:∀(j:Nat)(C:O),Cs[j]?=U C->tO K C "place"
noncomputable def dg:-R:=["way", "join", "step", "house", "web", "price", "many", "closed", "free", "nothing", "number", "text", "line"]
theorem mx{H:Hp}{a:O}{o:HO}(h:H a=Z):av H (upd H a o):=λb u e=>by rw[aA (bR e h)];calc e
noncomputable def names13:-R:=["NoWay", "NoJoin", "NoStep", "NoHouse", "NoWeb", "NoPrice", "TooMany", "Closed", "Free", "Nothing", "NoNumber", "NoText", "NoLine"]
noncomputable def eF:-R:=["way", "join", "step", "house", "web", "price", "many", "closed", "free", "nothing", "number", "text"]
structure El(mg:R->Option B)(L:O)(Cs:-O):Prop where
 Em:mg "isinstance" = Z
 VE:mg "ValueError" = Z
 Wr:mg "LotError" = U (.ref L)
 cls:∀(j:Nat)(x:R),names13[j]?=U x->∃C,Cs[j]?=U C/\mg x=U (.ref C)
theorem Ws:bootBuiltins "ValueError" = U (.type "ValueError"):=by decide +kernel
section
variable{X:Cx}{a C:O}{dx:Option O}
def xf(a C:O)(dx:Option O)(v:Bool):TE:=fun σ H Q=>σ[0]?=U (U (.ref a))/\ExcAt H a C dx/\Q (.bl v) H
def pL(a C:O)(dx:Option O)(vs:-Bool):TA:=fun σ H Q=>σ[0]?=U (U (.ref a))/\ExcAt H a C dx/\Q (vs.map V.bl) H
def sT(a C:O)(dx:Option O)(vs:-Bool):TE:=fun σ H Q=>σ[0]?=U (U (.ref a))/\ExcAt H a C dx/\∀(l:O)(H':Hp),av H H'->H' l=U (.lst (vs.map V.bl))->Q (.ref l) H'
def my(a C:O)(dx:Option O)(us vs:-Bool):TE:=fun σ H Q=>∃l:O,σ[0]?=U (U (.ref a))/\σ[1]?=U (U (.ref l))/\H l=U (.lst (us.map V.bl))/\ExcAt H a C dx/\∀(l':O)(H':Hp),av H H'->H' l'=U (.lst ((us++vs).map V.bl))->Q (.ref l') H'
theorem En{y z:R}{p q r pos:Ε}{cv:V}{c:B}{v:Bool}(h0:JE X (.Name y q) (gi 0))(hz:JE X (.Name z r) (tC cv))(hc:oq cv=U c)(cl:bo X.K C)(kt:q0r X.K (.ref C) c=U v)(hg:Gl X "isinstance")(hm:X.mg "isinstance" = Z):
  JE X (.Call (.Name "isinstance" p) [.Name y q,.Name z r] [] pos) (xf a C dx v) :=
 (vi Wl hg hm q4h (jT h0 (jT hz aY)) (by decide) (by decide) Y Y).weak fun σ H Q ⟨e0,e,q⟩↦⟨_,e0,a,C,dx,_,_,_,Y,hc,e.ob,cl,e.dd,kt,q⟩
theorem xg:JA X [] (pL a C dx []):=aY.weak fun σ H Q ⟨_,_,q⟩↦q
theorem j_{f:M}{as es:-M}{k:-Keyword}{p:y}{v:Bool}{vs:-Bool}(h:JE X (.Call f as k p) (xf a C dx v))(r:JA X es (pL a C dx vs)):JA X (.Call f as k p::es) (pL a C dx (v::vs)) :=
 (jU h r).weak fun σ H Q ⟨e0,e,q⟩↦⟨e0,e,e0,e,q⟩
theorem xh{es:-M}{pos:y}{vs:-Bool}(h:JA X es (pL a C dx vs))(hl:↑vs<=20):JE X (.List es pos) (sT a C dx vs) :=
 (n6 h).weak fun σ H Q ⟨e0,e,q⟩↦⟨e0,e,(by rw[rO];calc iu hl),λl hl=>q l _ (mx hl) bj⟩
theorem zx{n:R}{q p pos:y}{es:-M}{us vs:-Bool}(h1:JE X (.Name n q) (gi 1))(h:JE X (.List es p) (sT a C dx vs))(hl:↑us+↑vs<=20):JE X (.BinOp (.Name n q) .Add (.List es p) pos) (my a C dx us vs) :=
 (rB xX h1 h).weak fun σ H Q ⟨l,e0,e1,gN,e,q⟩↦⟨_,e1,e0,e,λm H1 s hm=>⟨l,m,_,_,Y,Y,s _ _ gN,hm,(by rw[rO,rO];calc iu hl),λp hp=>q p _ (s.trans (mx hp)) (by rw[q0K];calc bj)⟩⟩
theorem Wt{es:-M}{pos:y}(ss:-R)(h:strsOf es=U ss)(hl:↑ss<=20):JE X (.List es pos) (λ_ H Q=>∀p,H p=Z->Q (.ref p) (upd H p (.lst (ss.map V.str)))):=Rn h (iu hl)
theorem Wu{e:M}{ta:TE}{fn:R}{pos:y}(he:JE X e ta)(hb:attributeBase e fn X.env (eval e X.env)=eval e X.env):JE X (.Attribute e fn pos) (LV X.K ta fn):=⟨Wm he hb⟩
end
noncomputable def eG(b:Nat->Bool):-Bool:=[b 0,b 1,b 2,b 3,b 4,b 5,b 6,b 7,b 8,b 9,b 10,b 11,b 12]
noncomputable def cnt(us:-Bool):Nat:=(us.map V.bl).countP λz=>fP z (.bl θ)
theorem Eo:∀us:-Bool,(us.map V.bl).all jq=θ
 |[]=>Y
 |_::us=>by rw[q0o,q2W,Eo us];rfl
theorem Wv{j:Nat}(h:j<4):(eF.map V.str)[j]?=U (.str (dg.getD j "")):=by
 rcases j with _|_|_|_|j
 .rfl
 .rfl
 .rfl
 .rfl
 .omega
theorem Ww{j:Nat}(h:j<13):(eF.map V.str++[V.str "line"])[j]?=U (.str (dg.getD j "")):=by
 rcases j with _|_|_|_|_|_|_|_|_|_|_|_|_|j
 .rfl
 .rfl
 .rfl
 .rfl
 .rfl
 .rfl
 .rfl
 .rfl
 .rfl
 .rfl
 .rfl
 .rfl
 .rfl
 .omega
noncomputable def nH(j:Nat)(n:Int):-V:=if j<4 then[.str (dg.getD j ""),.int n] else[.str (dg.getD j "")]
def mz(Cs:-O):Sp:=λvs H Q _=>∃(j:Nat)(n:Int)(a C:O)(dx:Option O),vs=[.ref a]/\j<13/\Cs[j]?=U C/\ExcAt H a C dx/\(j<4->∃d,dx=U d/\H d=U (.xd [("place",.int n)]))/\∀(l:O)(H':Hp),av H H'->H l=Z->H' l=U (.lst (nH j n))->Q (.ref l) H'
theorem Wx:∀j:Nat,j<13->cnt (eG λi=>J (i=j))=1:=by decide
theorem LW{b:Nat->Bool}{i:Nat}{z:V}(h:((eG b).map V.bl)[i]?=U z):z=.bl (b i):=by
 unfold eG at h;rcases i with _|_|_|_|_|_|_|_|_|_|_|_|_|i<;>simp at h<;>calc h.symm
end LJ
namespace LJ
open PySem L2 PySem.Spec PySem.W PyProof.Rows
def sU(C:O):Sp:=λvs H Q _=>∃(a:O)(n:Int),vs=[.ref a,.int n]/\H a=U (bS a C Z)/\∀d,H d=Z->Q .non (upd (upd H d (.xd [("place",.int n)])) a (bS a C (U d)))
def Ep(c:Nat)(n:Int)(dx:Option O)(H:Hp):Prop:=(c<4/\∃d,dx=U d/\H d=U (.xd [("place",.int n)]))\/(4<=c/\dx=Z)
abbrev gY:=Nat->Int->Prop
section
variable[aC]
def Kept(H0:Hp):-O->-(Option OV)->Hp->Prop:=λad mu H=>∀b o,H0 b=U o->b∉aC.ad->H b=U o/\¬ Lv ad mu b
@[reducible] noncomputable def LX (ok:gY) (H0:Hp):bU:=⟨ok,Kept H0,λE k b o e n=>by
 let⟨h1,h2⟩:=k b o e n;calc⟨E.keep b o h1 h2 n,λl=>?_⟩;rcases E.b8 b l with z|z
 .exact h2 z
 .rw[h1] at z;cases z⟩
def LY(Cs:-O)(G:gY->GD)(n:Nat):Sp:=λvs H Q E=>∃ok:gY,m_ (G ok) n vs H Q E/\∀c p,ok c p->∀C dx H',Cs[c]?=U C->Kp H H'->Ep c p dx H'->E (.ref C) dx H'
structure gz[bU](Cs:-O)(E:XK)(H0:Hp):Prop where
 go:∀{c p C dx ad mu H'},bU.ok c p->bU.kp ad mu H'->aC.ok H'->Cs[c]?=U C->Ep c p dx H'->E (.ref C) dx H'
 fr:∀{ad mu H' a},bU.kp ad mu H'->aC.ok H'->H' a=Z->H0 a=Z
structure LZ(P:n)(w:Q)(K:xY)(mg:R->Option B)(base:I)(x:R)(C:O):Prop where
 m:mg x=U (.ref C)
 ex:∃f fd,qi K C (U (.ref f))/\q5d K (.ref f)=θ/\bK P w K mg base fJ 1 f fd ["self", "place"] (sU C)/\Binds K fd ["self", "place"] []
def qS(ok:gY)(c:Nat)(fa:WA):WS:=λ_ δ=>fa δ λxs _=>∃n,xs=[.p (.int n)]/\ok c n
def Er(ok:gY)(c:Nat):WS:=λ_ _=>ok c 0
section
variable{P:n}{w:Q}{K:xY}{mg:R->Option B}{base:I}{N:-R}{qual:R}{scope:S}{f:O}{cd:B}{A:q}{outer:-t}{s:L}{H:Hp}{E:XK}{Cs:-O}{c:Nat}{C:O}{x:R}{e:M}{fe:WA}{p p2 pos:y}
theorem Wz[bU](I:LZ P w K mg base x C)(R:gz Cs E H)(hC:Cs[c]?=U C)(h4:c<4)(hr:aX 2 (A.deeper (envOfC qual scope ⇑s f cd)))(he:JA (aS (cH P w) P w K mg base N qual scope f cd A outer s H E) [e] (bM fe))
  (hg:Gl (aS (cH P w) P w K mg base N qual scope f cd A outer s H E) x:=by rfl) (cS:bx x:=by decide)
  (hs:starEach [e] (aS (cH P w) P w K mg base N qual scope f cd A outer s H E).env=(ι,eval e (aS (cH P w) P w K mg base N qual scope f cd A outer s H E).env)::starEach [] (aS (cH P w) P w K mg base N qual scope f cd A outer s H E).env:=by rfl) (cU:(backTo p2 (starEach [] (aS (cH P w) P w K mg base N qual scope f cd A outer s H E).env)).any (·.1)=ι:=by rfl) :
  JS (aS (cH P w) P w K mg base N qual scope f cd A outer s H E) (.Raise (U (.Call (.Name x p) [e] [] p2)) Z pos) (cX (qS bU.ok c fe)):=by
 let⟨hm,fi,fdi,M,jK,FI,bI⟩:=I;calc JS.weak ⟨LO Y (Q_ M jK FI hr bI vz hg hm he cS hs cU)⟩ λD σ H1 ⟨F,ad,δ,K1,S,q,k⟩=>?_;calc⟨F,ad,δ,λxs _=>∃n,xs=[.p (.int n)]/\bU.ok c n,S,q,λxs δ1 h1 vs F1 aN H2 E1 S1 V1=>?_⟩;let⟨n,rfl,o⟩:=h1;let⟨v,r,rfl,W1,W2⟩:=V1;let W2:r=[]:=W2;subst W2;let W1:v=.int n:=W1;subst W1;refine⟨by show 1<=sizeLine;decide,λa ha=>⟨a,n,Y,bj,λd hd=>⟨Y,a,C,U d,_,Y,bj,M,?_,?_⟩⟩⟩
 .exact R.fr (k.ext E1).kp S1.tab ha
 .let ax:d≠a:=λz=>by rw[z,bj] at hd;cases hd
  let uQ:H2 d=Z:=by rw[aA ax] at hd;exact hd
  let eq:gy (upd (upd (upd H2 a (bS a C Z)) d (.xd [("place",.int n)])) a (bS a C (U d))) a=upd H2 d (.xd [("place",.int n)]):=by
   funext b;unfold gy;split
   .rename_i z;subst z;rw[aA (λz=>ax z.symm)];exact ha.symm
   .rename_i z
    rw[aA z]
    by_cases y:b=d
    .subst y;rw[bj,bj]
    .rw[aA y,aA y,aA z]
  rw[eq];let sm:av H2 (upd H2 d (.xd [("place",.int n)])):=bL uQ;calc R.go o (bU.st (Ext.al S1 sm) (k.ext E1).kp) (aC.same S1.tab sm) hC (.inl ⟨h4,d,Y,bj⟩)
theorem WB[bU]{t:π}(M:qi K C Z)(R:gz Cs E H)(hC:Cs[c]?=U C)(h4:4<=c)(hm:mg x=U (.ref C))(hg:Gl (aS (cH P w) P w K mg base N qual scope f cd A outer s H E) x:=by rfl)(cS:bx x:=by decide)
  (he:JA (aS (cH P w) P w K mg base N qual scope f cd A outer s H E) [e] (jl (tC (.str t)) jL))
  (hs:starEach [e] (aS (cH P w) P w K mg base N qual scope f cd A outer s H E).env=(ι,eval e (aS (cH P w) P w K mg base N qual scope f cd A outer s H E).env)::starEach [] (aS (cH P w) P w K mg base N qual scope f cd A outer s H E).env:=by rfl) (cU:(backTo p2 (starEach [] (aS (cH P w) P w K mg base N qual scope f cd A outer s H E).env)).any (·.1)=ι:=by rfl) :
  JS (aS (cH P w) P w K mg base N qual scope f cd A outer s H E) (.Raise (U (.Call (.Name x p) [e] [] p2)) Z pos) (cX (Er bU.ok c)):=by
 calc JS.weak ⟨LO Y (Q8 M hg hm he cS hs cU)⟩ λD σ H1 ⟨F,ad,δ,K1,S,q,k⟩=>?_;calc⟨by show 1<=sizeLine;decide,λa ha=>⟨a,C,Z,Z,Y,bj,M,R.fr k.kp S.tab ha,?_⟩⟩;rw[Wo ha];calc R.go q k.kp S.tab hC (.inr ⟨h4,Y⟩)
structure Fy(V:Ev)(Cs:-O)(k:Nat)(x:R)(ps:-R)(n:Nat)(G:gY->GD):Prop where
 ex:∃f fd,bK V.P V.w V.K V.mg V.base (cH V.P V.w) k f fd ps (LY Cs G n)/\V.mg x=U (.ref f)/\q08 V.K (.ref f)=θ/\Binds V.K fd ps []
section
variable{X:Cx}{j k n:Nat}{ps:-R}{G:gY->GD}{es:-M}{fa:WA}
theorem WC[bU](R:gz Cs E H){σ:L2.St}{H1:Hp}{Q:VK}{F:Hp}{ad:-O}{δ:ay}{K1:DV->ay->Prop}(S:SR F ad δ σ H1)(q:ar n (G bU.ok) fa δ K1)(kp:bU.kp ad δ.mu H1)(kk:∀x δ',K1 x δ'->∀v F' ax H',Ext F ad δ.mu H1 F' ax δ'.mu H'->SR F' ax δ' σ H'->eg F' ax x v->Q v H'):tP (LY Cs G n) [] E (bM fa) σ H1 Q :=
 ⟨F,ad,δ,_,S,q,λxs δ1 h1 vs F1 aN H2 E1 S1 V1=>⟨bU.ok,Jt kk h1 E1 S1 V1,λc p o C dx H' hC z pl=>R.go o (bU.st (Ext.zk S1 z.keep z.tab) (bU.st E1 kp)) z.tab hC pl⟩⟩
theorem L5[bU](Fy:Fy ⟨X.prog,X.w,X.K,X.mg,X.base⟩ Cs j x ps n G)(R:gz Cs E H)(hp:p_ (cH X.prog X.w) X E)(hr:aX k X.A)(ha:JA X (e::es) (bM fa))(hj:q9h j k=θ:=by rfl)(hg:Gl X x:=by rfl)(cS:bx x:=by decide)
  (hs:dI X e es:=by rfl) (cU:eS X p2 es:=by rfl) (hw:swapsWith (.Call (.Name x p) (e::es) [] p2) Z pos.line X.env=pure ι:=by rfl) :
  JS X (.Expr (.Call (.Name x p) (e::es) [] p2) pos) (cX (lM (ar n (G bU.ok) fa))):=by
 let⟨g,fd,F1,hm,hk,hb⟩:=Fy.ex;calc(Hi (vg F1 (hr.mono (q2X hj)) hg hm hk hb .nil hp ha cS hs cU) hw).weak λD σ H1 ⟨F,ad,δ,K1,S,q,k⟩↦WC R S q k.kp λx δ1 h1 v F1 aN H1 E1 S1 V1=>k.nx _ h1 _ _ _ _ E1 S1
end
end
def EI(V:Ev)(Cs:-O)(c:Nat)(x:R):Prop:=c<4/\∃C,Cs[c]?=U C/\LZ V.P V.w V.K V.mg V.base x C
def ET(V:Ev)(Cs:-O)(c:Nat)(x:R):Prop:=4<=c/\∃C,Cs[c]?=U C/\qi V.K C Z/\V.mg x=U (.ref C)
section
variable{V:Ev}{N:-R}{qual:R}{scope:S}{f:O}{cd:B}{A:q}{outer:-t}{s:L}{H:Hp}{E:XK}{Cs:-O}{x:R}{e:M}{fe:WA}{p p2 pos:y}{k:Nat}
theorem WD[bU]{c:Nat}(XS:EI V Cs c x)(R:gz Cs E H)(hr:aX k (A.deeper (envOfC qual scope ⇑s f cd)))(he:JA (aS (cH V.P V.w) V.P V.w V.K V.mg V.base N qual scope f cd A outer s H E) [e] (bM fe))(hk:q9h 2 k=θ:=by rfl)
  (hg:Gl (aS (cH V.P V.w) V.P V.w V.K V.mg V.base N qual scope f cd A outer s H E) x:=by rfl) (cS:bx x:=by decide)
  (hs:starEach [e] (aS (cH V.P V.w) V.P V.w V.K V.mg V.base N qual scope f cd A outer s H E).env=(ι,eval e (aS (cH V.P V.w) V.P V.w V.K V.mg V.base N qual scope f cd A outer s H E).env)::starEach [] (aS (cH V.P V.w) V.P V.w V.K V.mg V.base N qual scope f cd A outer s H E).env:=by rfl) (cU:(backTo p2 (starEach [] (aS (cH V.P V.w) V.P V.w V.K V.mg V.base N qual scope f cd A outer s H E).env)).any (·.1)=ι:=by rfl) :
  JS (aS (cH V.P V.w) V.P V.w V.K V.mg V.base N qual scope f cd A outer s H E) (.Raise (U (.Call (.Name x p) [e] [] p2)) Z pos) (cX (qS bU.ok c fe)) :=
 let⟨h4,_,hC,I⟩:=XS
 Wz I R hC h4 (hr.mono (q2X hk)) he hg cS hs cU
theorem WH[bU]{c:Nat}{t:π}(XS:ET V Cs c x)(R:gz Cs E H)(he:JA (aS (cH V.P V.w) V.P V.w V.K V.mg V.base N qual scope f cd A outer s H E) [e] (jl (tC (.str t)) jL))
  (hg:Gl (aS (cH V.P V.w) V.P V.w V.K V.mg V.base N qual scope f cd A outer s H E) x:=by rfl) (cS:bx x:=by decide)
  (hs:starEach [e] (aS (cH V.P V.w) V.P V.w V.K V.mg V.base N qual scope f cd A outer s H E).env=(ι,eval e (aS (cH V.P V.w) V.P V.w V.K V.mg V.base N qual scope f cd A outer s H E).env)::starEach [] (aS (cH V.P V.w) V.P V.w V.K V.mg V.base N qual scope f cd A outer s H E).env:=by rfl) (cU:(backTo p2 (starEach [] (aS (cH V.P V.w) V.P V.w V.K V.mg V.base N qual scope f cd A outer s H E).env)).any (·.1)=ι:=by rfl) :
  JS (aS (cH V.P V.w) V.P V.w V.K V.mg V.base N qual scope f cd A outer s H E) (.Raise (U (.Call (.Name x p) [e] [] p2)) Z pos) (cX (Er bU.ok c)) :=
 let⟨h4,_,hC,M,hm⟩:=XS
 WB M R hC h4 hm hg cS he hs cU
end
theorem xc{V:Ev}{Cs:-O}{x:π}{st:χ}{N ps:-π}{k:Nat}{G:gY->GD}(D:Dx V x st)(bd:iG x st ps)(hG:∀ok ys ovs K,G ok ys ovs K->ovs=[])(h:∀{aO:ν} {A:q} {outer:-t} {s:L} {H:Hp} {E:XK} {f:O} [bU],gz Cs E H->aX k (A.deeper (envOfC x (cw st) ⇑s f aO))->N.Nodup->(A.deeper (envOfC x (cw st) ⇑s f aO)).units+64<cLine →
   ∃B:WS,cj (aS (cH V.P V.w) V.P V.w V.K V.mg V.base N x (cw st) f aO A outer s H E) (d8 st) (cX B)/\∀ys ovs K',↑ys=↑ps->G bU.ok ys ovs K'->B (gO ↑ovs K') ⟨ys.map U++q0d (↑N-↑ps) Z,ovs.map U⟩)(sc:w9 N ps (cw st)=θ:=by decide +kernel):Fy V Cs (k+1) x ps ↑ps G:=by
 let⟨f,fd,a,F⟩:=D;calc⟨f,fd,F.xc (fV sc) (λvs H Q E h=>let⟨_,h,_⟩:=h;h.1) (λaO A outer s H vs Q E hr hh=>?_),a,F.kp,F.binds bd⟩;let⟨ok,⟨hl,Fz,ad,ys,ovs,K',S0,g,kk⟩,hE⟩:=hh;let ho:=hG ok ys ovs K' g;subst ho;let ea:ad=[]:=q2c.mp S0.cJ;subst ea;letI:bU:=LX ok H;let R:gz Cs E H:=⟨λ{c p C dx ad mu H'} o kp tb hC pl=>hE c p o C dx H' hC ⟨λb u e n=>(kp b u e n).1,tb⟩ pl,λ{ad mu H' a} kp tb e=>Kp.none ⟨λb u e n=>(kp b u e n).1,tb⟩ e⟩;let⟨B,jb,hb⟩:=h R hr (fV sc).nd hr.units
 let hy:↑ys=↑ps:=by
  let:=S0.len;rw[rO] at this;rw[<-hl,this];show _=↑(ys.map U);rw[rO]
 refine⟨_,jb,Fz,[],⟨ys.map U++q0d (↑N-↑ps) Z,[]⟩,gO 0 K',by rw[<-hl];calc S0.start,hb ys [] K' hy g,⟨fun δ' h F' ax σ' H' E' S'=>?_,fun δ' h=>h.elim,fun δ' h=>h.elim,λy δ' h v F' ax σ' H' E' S' V=>?_,λb o e n=>⟨e,λ⟨k,ov,z,_⟩↦by simp at z⟩⟩⟩
 .exact ua (ovs:=[]) (σ':=σ') S0 E' S' (x:=.p .non) (v:=.non) Y h kk
 .calc ua (ovs:=[]) (σ':=σ') S0 E' S' V h kk
end
end LJ
namespace LJ
open PySem L2 PySem.Spec PySem.W
variable[aC]
noncomputable def zy(c:Nat)(n:Int):-D:=if c<4 then[.str (dg.getD c ""),.int n] else[.str (dg.getD c "")]
noncomputable def ux(tup:Bool)(c:Nat)(n:Int):D:=if tup then .tup (zy c n) else .lst (zy c n)
noncomputable def Es(tup:Bool)(c:Nat)(n:Int):HO:=if tup then .tup (nH c n) else .lst (nH c n)
theorem L6{F:Hp}(c:Nat)(n:Int):ae F (zy c n) (nH c n):=by
 unfold zy nH;split
 .exact⟨_,_,Y,Y,⟨_,_,Y,Y,Y⟩⟩
 .calc⟨_,_,Y,Y,Y⟩
def L7(ic ie:Nat)(B:gY->WS)(f1:WE)(tup:Bool):WS:=λK δ=>(δ.mu=[]/\ic<↑δ.sl/\ie<↑δ.sl)/\B (λc p=>K.rt (.p (ux tup c p)) ⟨[],[]⟩) ⟨fun δ1=>δ1.sl[ic]?=U (U (.p .non))/\f1 δ1 K.rt,λ_ _=>False,λ_=>False,λ_=>False⟩ δ
theorem L8{F H H' H4:Hp}{ad:-O}{mu:-(Option OV)}{δ:ay}{σ:St}{K:KS}{D:Ends}{tup:Bool}{c:Nat}{n:Int}{z:O}(S:SR F [] δ σ H)(hm:δ.mu=[])(k:t9 F [] δ.mu H K D)(kp:Kept H ad mu H')(tb:aC.ok H')(sm:av H' H4)(hz:H' z=Z)(ez:H4 z=U (Es tup c n))(h:K.rt (.p (ux tup c n)) ⟨[],[]⟩):D.rt (.ref z) H4:=by
 let t4:aC.ok H4:=aC.same tb sm
 let zt:z∉aC.ad:=λy=>by
  let⟨ps,q⟩:=aC.tb tb y;rw[hz] at q;cases q
 let Et:H z=Z:=by
  cases q:H z with
  |none=>rfl
  |some o=>rw[(kp z o q zt).1] at hz;cases hz
 let fz:F z=Z:=by
  cases q:F z with
  |none=>rfl
  |some o=>rw[S.sub z o q] at Et;cases Et
 let keep:∀b o,H b=U o->b∉aC.ad->H4 b=U o:=λb o e n=>sm b o (kp b o e n).1
 let E':Ext F [] δ.mu H (upd F z (Es tup c n)) [] [] H4:=by
  refine⟨λb o e=>?_,λb o e=>?_,λb o e _ nt=>keep b o e nt,λk a e=>e,λa ⟨k,ov,y,_⟩↦by simp at y,λb o e=>?_⟩
  .rw[aA (bR e fz)];exact e
  .by_cases y:b=z
   .subst y;exact .inr (.inl Et)
   .rw[aA y] at e;exact .inl e
  .by_cases y:b∈aC.ad
   .let⟨ps,q⟩:=aC.tb t4 y;exact⟨_,q⟩
   .exact⟨o,keep b o e y⟩
 let S':SR (upd F z (Es tup c n)) [] ⟨[],[]⟩ [] H4:=by
  refine⟨λb o e=>?_,λa ⟨k,ov,y,_⟩↦by simp at y,Y,λk l a ov ow e=>by simp at e,λk ov e=>by simp at e,λi x e=>by simp at e,Y,t4,λa ha=>?_⟩
  .by_cases y:b=z
   .subst y;rw[bj] at e;cases e;exact ez
   .rw[aA y] at e
    exact keep b o (S.sub b o e) λw=>by rw[S.nt b w] at e;cases e
  .rw[aA (λy=>zt (by rw[<-y];calc ha))];exact S.nt a ha
 calc k.rt _ _ h (.ref z) _ _ _ _ E' S' ?_;show Is _ (ux tup c n) _;unfold ux;cases tup
 .rw[ZJ q0b]
  erw[Is];exact⟨z,nH c n,Y,bj,L6 c n⟩
 .rw[ZK Y]
  erw[Is];calc⟨z,nH c n,Y,bj,L6 c n⟩
def L9(Kf:xY)(Cs:-O)(ic:Nat):Bool->TE
 |false=>tP (mz Cs) [] E0 (jl (gi ic) jL)
 |true=>xS (Wq Kf) (jl (tP (mz Cs) [] E0 (jl (gi ic) jL)) jL)
theorem WJ{F H H':Hp}{ad:-O}{mu:-(Option OV)}{δ:ay}{σ σ':St}{K:KS}{D:Ends}{Kf:xY}{Cs:-O}{tup:Bool}{c ic:Nat}{n:Int}{a C:O}{dx:Option O}(S:SR F [] δ σ H)(hm:δ.mu=[])(k:t9 F [] δ.mu H K D)(kp:Kept H ad mu H')(tb:aC.ok H')(h:K.rt (.p (ux tup c n)) ⟨[],[]⟩)(hc:c<13)(hC:Cs[c]?=U C)(pl:Ep c n dx H')(ha:H' a=Z)(hs:σ'[ic]?=U (U (.ref a))):
  L9 Kf Cs ic tup σ' (upd H' a (eE a C dx)) D.rt:=by
 let s1:av H' (upd H' a (eE a C dx)):=bL ha
 let E:ExcAt (upd H' a (eE a C dx)) a C dx:=by
  calc⟨bj,λd e=>?_⟩;rcases pl with⟨_,d',e',h'⟩|⟨_,e'⟩
  .rw[e] at e';cases e';exact⟨_,s1 _ _ h'⟩
  .rw[e] at e';cases e'
 let P:c<4->∃d,dx=U d/\upd H' a (eE a C dx) d=U (.xd [("place",.int n)]):=λh4=>by
  rcases pl with⟨_,d',e',h'⟩|⟨g4,_⟩
  .exact⟨d',e',s1 _ _ h'⟩
  .omega
 let nn:∀{l},upd H' a (eE a C dx) l=Z->H' l=Z:=λ{l} e=>by
  cases q:H' l with
  |none=>rfl
  |some o=>rw[s1 l o q] at e;cases e
 cases tup
 .exact⟨.ref a,hs,c,n,a,C,dx,Y,hc,hC,E,P,λl H3 sm hl e=>L8 (tup:=false) S hm k kp tb (s1.trans sm) (nn hl) e h⟩
 .refine⟨.ref a,hs,c,n,a,C,dx,Y,hc,hC,E,P,λl H3 sm hl e=>⟨l,_,Y,.inl ⟨bh.of e,λt ht=>?_⟩⟩⟩
  let s3:av H3 (upd H3 t (.tup (nH c n))):=bL ht;refine L8 (tup:=true) S hm k kp tb ((s1.trans sm).trans s3) ?_ bj h
  cases q:H' t with
  |none=>rfl
  |some o=>rw[(s1.trans sm) t o q] at ht;cases ht
section
variable{X:Cx}{body gF:-o}{b0 st:o}{x n:R}{p1 p2 pos:y}{L:O}{ic ie:Nat}{B:gY->WS}{f1:WE}{tup:Bool}{Cs:-O}
theorem WK(g8:X.stack=X.env::X.outer)(kE:X.env.frame=U X.env.locals)(nd:X.N.Nodup)(hi:X.N[ie]?=U n)(hk:X.env.scope.names.lookup n=U .local)(hg:Gl X x)(hm:X.mg x=U (.ref L))(hL:∀(c:Nat) (C:O),Cs[c]?=U C->c<13/\q3R X.K (.ref C) (.ref L)=U θ)(fh:ic≠ie)
  (hb:∀{pn xe E H0}[bU],p_ (cH X.prog X.w) {X with pn:=pn,xe:=xe} E->gz Cs E H0->cj {X with pn:=pn,xe:=xe} body (cX (B bU.ok))) (hs:∀A xe,cj {X with A:=A,calm:=false,xe:=xe} (b0::gF) (dJ (gi ie) (jj ic)))
  (hr:JS X st (u3 (Hh (tB (uX (gi ic))) (tD f1) (L9 X.K Cs ic tup)))) (cS:bx x:=by decide) :
  cj X [.Try body [.ExceptHandler (U (.Name x p1)) (U n) (b0::gF) p2] [] [] pos,st] (cX (L7 ic ie B f1 tup)):=by
 refine(tM (Wi (tb:=λE D σ H=>∃ex:bU,@gz _ ex Cs E H/\@cX _ ex (B ex.ok) D σ H) g8 kE nd hi hk hg hm cS (λpn xe E hp=>⟨λpins s σ H D I h=>?_⟩) λA xe=>(hs A xe)) (nX hr)).weak λD σ H ⟨F,ad,δ,K,S,⟨⟨BR,cq,hle⟩,q⟩,k⟩=>?_
 .let⟨ex,R,h⟩:=h
  exact(hb hp R) pins s σ H D I h
 .let ea:ad=[]:=q2c.mp (by rw[S.cJ,BR];rfl)
  subst ea;let WL:=k.rt;letI ex:bU:=LX (λc p=>K.rt (.p (ux tup c p)) ⟨[],[]⟩) H;refine⟨ex,?_,F,[],δ,⟨fun δ1=>δ1.sl[ic]?=U (U (.p .non))/\f1 δ1 K.rt,λ_ _=>False,λ_=>False,λ_=>False⟩,S,q,?_⟩
  .refine⟨λ{c p C dx ad mu H'} o kp tb hC pl=>?_,λ{ad mu H' a} kp tb e=>Kp.none ⟨λb u e n=>((show Kept H ad mu H' from kp) b u e n).1,tb⟩ e⟩
   let⟨WM,hx⟩:=hL c C hC;calc⟨C,Y,hx,λa ha=>?_⟩;let hl:=S.len;let e0:((q0d ↑σ (Z:Option V)).set ie (U (.ref a)))[ie]?=U (U (.ref a)):=q0R (by rw[q1z];symm)
   let e1:((((q0d ↑σ (Z:Option V)).set ie (U (.ref a))).set ic (U (.ref a))).set ie Z)[ic]?=U (U (.ref a)):=by
    rw[q0Y (λz=>fh z.symm),q0R (by rw[q1G,q1z];symm)]
   calc⟨.ref a,e0,.ref a,e1,ι,Y,?_⟩;dsimp only;rw[ZJ q0b];exact WJ S BR k kp tb o WM hC pl ha e1
  .refine⟨fun δ1 ⟨h1,h2⟩ F' ax σ' H' E' S'=>?_,fun δ' h=>h.elim,fun δ' h=>h.elim,λx δ' h=>h.elim,λb o e n=>⟨e,λ⟨k,ov,z,_⟩↦by simp at z⟩⟩
   let⟨v,e1,e2⟩:=S'.sl ic _ h1;let e2:v=.non:=e2;subst e2;calc⟨.non,e1,θ,Y,?_⟩;dsimp only;rw[ZK Y];calc⟨F',ax,δ1,_,S',h2,λx δ' h v F2 cn H2 E2 S2 V2=>WL _ _ h _ _ _ _ _ (E'.trans E2) S2 V2⟩
end
end LJ
namespace LJ
open PySem L2
variable[aC]
noncomputable def intOf:D->Int
 |.int k=>k
 |_=>0
noncomputable def nJ(n:Nat):-Int->Nat->-D->Option Int
 |_,_,[]=>Z
 |seen,i,d::r=>if dS d 0 ((n:Int)-1)=ι\/intOf d∈seen then U i else nJ n (seen++[intOf d]) (i+1) r
noncomputable def iO(n:Nat):D->Option Int
 |.lst ds=>nJ n [] 0 ds
 |_=>U 0
theorem within_int{n:Nat}{d:D}(h:dS d 0 ((n:Int)-1)=θ):d=.int (intOf d)/\0<=intOf d/\intOf d<n:=by
 cases d with
 |int i =>
  let h:(J (0<=i)&&J (i<=(n:Int)-1))=θ:=h;rw[q0k,decide_eq_true_iff,decide_eq_true_iff] at h;exact⟨Y,h.1,show i<n by symm⟩
 |_=>cases h
theorem L_{n:Nat}:∀{ds:-D}{seen:-Int}{i:Nat},nJ n seen i ds=Z->seen.Nodup->∃us:-Int,ds=us.map D.int/\(seen++us).Nodup/\∀x∈us,0<=x/\x<(n:Int)
 |[],seen,i,_,nd=>⟨[],Y,by rw[q2h];calc nd,λx h=>nomatch h⟩
 |d::r,seen,i,h,nd=>by
  unfold nJ at h;split at h
  .cases h
  .rename_i c
   let c1:dS d 0 ((n:Int)-1)=θ:=by
    cases q:dS d 0 ((n:Int)-1) with
    |true=>rfl
    |false=>exact absurd (.inl q) c
   let⟨e,h0,h1⟩:=within_int c1;let⟨us,e2,n2,u2⟩:=L_ h (q1p.mpr ⟨nd,by simp,λa ha b hb z=>c (.inr (by rw[q0l] at hb;rw[<-hb,<-z];calc ha))⟩);calc⟨intOf d::us,by rw[q0o,<-e,e2],by rw[q1K] at n2;calc n2,λx hx=>?_⟩;rcases My.mp hx with rfl|hx
   .exact⟨h0,h1⟩
   .calc u2 x hx
theorem Eu{n:Nat}:∀{us seen:-Int}{i:Nat},(∀x∈us,0<=x/\x<(n:Int))->(seen++us).Nodup->nJ n seen i (us.map D.int)=Z
 |[],_,_,_,_=>Y
 |x::r,seen,i,hu,nd=>by
  let⟨h0,h1⟩:=hu x Qk;rw[q0o];unfold nJ;let nx:x∉seen:=λh=>(q1p.mp nd).2.2 x h x Qk Y
  let wi:dS (.int x) 0 ((n:Int)-1)=θ:=by
   show(J (0<=x)&&J (x<=(n:Int)-1))=θ;rw[q0c h0,q0c (show x<=(n:Int)-1 by symm)];rfl
  rw[ZJ (λz=>z.elim (λz=>by rw[wi] at z;cases z) nx)];calc Eu (λy hy=>hu y (Qm _ hy)) (by rw[q1K];calc nd)
theorem Ma{n:Nat}{d:D}(h:iO n d=Z):∃us:-Int,d=cP us/\us.Nodup/\∀x∈us,0<=x/\x<(n:Int):=by
 cases d with
 |lst ds =>
  let⟨us,rfl,nd,hu⟩:=L_ (seen:=[]) h q25;exact⟨us,Y,nd,hu⟩
 |_=>cases h
noncomputable def mB:D->Int×Int×Int
 |.tup [.int i,.int j,.int p]=>(i,j,p)
 |_=>(0,0,0)
theorem Ew{d:D}(h:cb d=θ):∃m ws,d=aU m ws/\gK m ws:=by
 unfold cb at h;split at h
 .rename_i m ws
  rw[q0k] at h;let⟨h1,h2⟩:=h;split at h2
  .rename_i i
   cases ws with
   |tup us =>
    let h2:(J (↑us<=30)&&(us.all (bD i)&&J ((us.map pairOf).Nodup)))=θ:=h2;erw[q0k,q1D] at h2;let⟨a,b,c⟩:=h2;let h1:(J (1<=i)&&J (i<=12))=θ:=h1;erw[q0k,q1D] at h1;let all:∀w∈us,bD i w=θ:=q0T.mp b
    let e:us=(us.map mB).map b_:=by
     rw[q0D]
     conv=>lhs;rw[<-q3a us]
     calc q1d λw hw=>?_;let⟨x,y,z,rfl,_⟩:=wO (all w hw);rfl
    refine⟨i,us.map mB,by show D.tup [.int i,.tup us]=.tup [.int i,.tup _];rw[<-e],?_⟩
    let pe:(us.map mB).map (λy=>(y.1,y.2.1))=us.map pairOf:=by
     rw[q0D];calc q1d λw hw=>?_;let⟨x,y,z,rfl,_⟩:=wO (all w hw);rfl
    calc⟨h1.1,h1.2,by rw[rO];calc a,λy hy=>?_,by rw[pe];calc c⟩;let⟨w,hw,rfl⟩:=q0t.mp hy;let⟨x,y,z,rfl,q⟩:=wO (all w hw);exact q
   |_=>cases h2
  .cases h2
 .cases h
def zz(ok:gY):GD:=λys ovs K=>∃d,ys=[.p d]/\ovs=[]/\(cb d=ι->ok 4 0)/\(cb d=θ->K (.p .non) [])
theorem WN:∀ok ys ovs K,zz ok ys ovs K->ovs=[]:=λok ys ovs K ⟨_,_,h,_⟩↦h
def Ex(ok:gY):WS:=(bc (cy (dT (ar 1 y6 (ag (aa 0) af)))) (Er ok 4) cE)
theorem WQ(ok:gY):Sem 1 0 (zz ok) (Ex ok):=by
 ext ys ovs K'-⟨d,rfl,rfl,k0,k⟩;unfold Ex;calc j6 λA1 B1 hA hB=>?_;simp!;calc⟨d,Y,Y,?_⟩;simp!
 cases q:cb d with
 |false =>
  simp!;subst hA;exact k0 q
 |true =>
  simp!;subst hB;calc cA (k q)
def zA(ok:gY):GD:=λys ovs K=>∃(dw d:D),ys=[.p dw,.p d]/\ovs=[]/\(cb dw=ι->ok 4 0)/\∀(m:Int)(ws:-Wy),dw=aU m ws->gK m ws->(∀ds,d=.lst ds->↑ds<=900)/\(∀p,iO ↑ws d=U p->ok 0 p)/\(iO ↑ws d=Z->K (.p .non) [])
theorem WR:∀ok ys ovs K,zA ok ys ovs K->ovs=[]:=λok ys ovs K ⟨_,_,_,h,_⟩↦h
def Ey(ok:gY):WS:=(ak (lM (ar 1 (zz ok) (ag (aa 0) af))) (ak (bc (cy (dT (d1 (aa 1) (bB "list")))) (qS ok 0 (ag (dC (.int 0)) af)) cE) (ak (aD 2 (d2 (dN (ag (d2 (aa 0) (dC (.int 1)) aW) af) bE) (dC (.int 1)) (oI λi j=>.int (i-j)))) (ak (aD 3 D6) (cK (gP (ag (aa 1) af)) (iz 2 (eA (br 4) (eA (br 5) hU))) (ak (bc (iY (cy (dT (ar 3 qI (ag (aa 5) (ag (dC (.int 0)) (ag (aa 2) af)))))) (dT (pH ι (aa 5) (aa 3)))) (qS ok 0 (ag (aa 4) af)) cE) (D7 (dC (.bl θ)) (aa 3) (aa 5))))))))
theorem WU(ok:gY):Sem 2 4 (zA ok) (Ey ok):=by
 ext ys ovs K'-⟨dw,d,rfl,rfl,k0,k⟩;unfold Ey;calc aI λN hN=>?_;simp!;calc⟨dw,Y,Y,k0,λhw=>?_⟩;let⟨m,ws,rfl,W⟩:=Ew hw;let⟨dl,kb,kg⟩:=k m ws Y W;show N _;subst hN;calc aI λN hN=>?_;refine j6 λA1 B1 hA hB=>?_
 let no:(∀ds,d≠.lst ds)->A1 ⟨[U (.p (aU m ws)),U (.p d),Z,Z,Z,Z],[]⟩:=λh=>by
  let:iO ↑ws d=U 0:=by
   cases d with
   |lst ds=>exact absurd Y (h ds)
   |_=>rfl
  subst hA;simp![qS];exact⟨0,Y,kb 0 this⟩
 cases d with
 |lst ds =>
  simp![bA,aH,q5e];subst hB;show N _;subst hN;let dl:=dl ds Y;calc aI λN hN=>?_;simp![f7,aU];subst hN;calc aI λN hN=>?_;simp![D6];subst hN;let el:↑(jE 0 ds)=↑ds:=by rw[ni]
  calc qH λg' b' K2 hg hb' hK=>?_;simp!;subst hg hb' hK;refine j5 (λi δ=>∃(aq:-(Key×D))(ns:-Int),↑aq<=i/\(∀n:Int,(df aq (.inl n)).isSome=J (n∈ns))/\iO ↑ws (.lst ds)=nJ ↑ws ns i (ds.drop i)/\δ=⟨[U (.p (.tup [.int m,.tup (ws.map b_)])),U (.p (.lst ds)),U (.p (.int (↑ws-1))),U (.o 0),Z,Z],[U (.dct aq)]⟩) ⟨[],[],BA _,λn=>by simp[df],Y,Y⟩ ?_ ?_
  .ext i d δ L hi ⟨aq,ns,kl,kv,eb,rfl⟩ hL
   let⟨e,h1,h2⟩:=oJ hi;rw[q0J] at h2;subst h2;let⟨il,ei⟩:=tU.mp h1;rw[q0V il,ei] at eb;unfold nJ at eb;calc⟨trivial,?_⟩;erw[iz,eA,hU,br,fw,gO,HY,q1n,q0o,q2b,q02,q03,q0J,q6g,and_self,true_and,q1Y,q1o];calc aI λN2 bW=>?_;refine j6 λA1 B1 hA hB=>?_
   let bad:iO ↑ws (.lst ds)=U (i:Int)->A1 ⟨[U (.p (.tup [.int m,.tup (ws.map b_)])),U (.p (.lst ds)),U (.p (.int (↑ws-1))),U (.o 0),U (.p (.int (i:Nat))),U (.p e)],[U (.dct aq)]⟩:=λh=>by
    subst hA;simp![qS];exact⟨i,Y,kb i h⟩
   simp!;refine⟨e,0,↑ws-1,Y,Y,?_⟩
   cases q:dS e 0 ((↑ws:Int)-1) with
   |false =>
    rw[ZK (.inl q)] at eb;simp!;exact bad eb
   |true =>
    let⟨ee,e0,e1⟩:=within_int q;rw[ee] at bad ⊢;generalize intOf e=x at ee e0 e1 eb bad;simp![pH,j9,j8];rw[kv x]
    by_cases c:x∈ns
    .rw[ZK (.inr c)] at eb
     rw[q0c c,ZK (by decide)];exact bad eb
    .rw[ZJ (λz=>z.elim (λz=>by rw[q] at z;cases z) c)] at eb
     rw[q0e c,ZJ (by decide)];subst hB;show N2 _;subst bW
     let vn:df aq (.inl x)=Z:=by
      cases y:df aq (.inl x) with
      |none=>rfl
      |some d=>let:=kv x;rw[y,q0e c] at this;cases this
     simp![D7,j9,j8];calc⟨by rw[el] at *;symm,?_⟩;calc hL _ ⟨putD aq (.inl x) (.bl θ),ns++[x],q0Q VM ⋯,λn=>?_,eb,Y⟩;rw[VL vn]
     by_cases y:n=x
     .subst y;rw[ZK Y,q0c (q0q _ (.head _))];rfl
     .rw[ZJ (λz=>y (by cases z;rfl)),kv n]
      by_cases w:n∈ns
      .rw[q0c w,q0c (q1g _ w)]
      .rw[q0e w,q0e λz=>(q0U.mp z).elim w λz=>y (q0l.mp z)]
  .ext δ ⟨aq,ns,kl,kv,eb,rfl⟩
   rw[el,q48] at eb;exact⟨trivial,cA (kg eb)⟩
 |_=>simp![bA,aH];calc no λds z=>nomatch z
noncomputable def pM(ws:-Wy):-Int×-Int->-Int->Nat->Option Nat
 |_,[],_=>Z
 |st,n::r,k=>if st.1.getD (bp ws n).1.toNat 0=st.1.getD (bp ws n).2.1.toNat 0 then U k else pM ws (LH ws st n) r (k+1)
noncomputable def nK(m:Int)(ws:-Wy)(ns:-Int):Option Nat:=pM ws (bY m.toNat,q0d m.toNat 0) ns 0
structure mC(m:Int)(ws:-Wy)(ns:-Int)(i:Nat)(fs tk:-Int):Prop where
 fl:fs.length=m.toNat
 tl:↑tk=m.toNat
 jn:nK m ws ns=pM ws (fs,tk) (ns.drop i) i
theorem mC.start{m:Int}{ws:-Wy}{ns:-Int}:mC m ws ns 0 (bY m.toNat) (q0d m.toNat 0):=⟨Ly _,q1z,Y⟩
theorem mC.at{m:Int}{ws:-Wy}{ns:-Int}{j:Nat}{fs tk:-Int}{n:Int}{i k:Nat}(M:mC m ws ns j fs tk)(h:ns[j]?=U n)(x1:(bp ws n).1.toNat=i)(x2:(bp ws n).2.1.toNat=k):
  (fs.getD i 0=fs.getD k 0->nK m ws ns=U j)/\(fs.getD i 0≠fs.getD k 0->∀p q,zr fs (fs.getD i 0) (fs.getD k 0)=(p,q)->mC m ws ns (j+1) (f_ p q fs) (nG fs (f_ p q fs) tk)):=by
 let⟨fl,tl,jn⟩:=M;let⟨hl,e⟩:=tU.mp h;rw[q0V hl,e] at jn;unfold pM at jn;rw[x1,x2] at jn;dsimp only at jn
 constructor
 .ext c
  rw[ZK c] at jn;exact jn
 .ext c p q pe
  rw[ZJ c] at jn;calc⟨by unfold f_;rw[rO];calc fl,by unfold nG;rw[rO,q0Z];calc fl,?_⟩;rw[jn];unfold LH;dsimp only;rw[x1,x2,pe]
theorem mC.fin{m:Int}{ws:-Wy}{ns:-Int}{fs tk:-Int}(M:mC m ws ns ns.length fs tk):nK m ws ns=Z:=by
 rw[M.jn,q48];rfl
def zB(ok:gY):GD:=λys ovs K=>∃(dw d:D),ys=[.p dw,.p d]/\ovs=[]/\(cb dw=ι->ok 4 0)/\∀(m:Int)(ws:-Wy),dw=aU m ws->gK m ws->(∀ds,d=.lst ds->↑ds<=900)/\(∀p,iO ↑ws d=U p->ok 0 p) ∧
 ∀us:-Int,d=cP us->Nums ws us->us.Nodup->(∀i,nK m ws us=U i->ok 1 (i:Nat))/\(nK m ws us=Z->∀r,K (.p r) [])
theorem WV:∀ok ys ovs K,zB ok ys ovs K->ovs=[]:=λok ys ovs K ⟨_,_,_,h,_⟩↦h
def Ez(ok:gY):WS:=(ak (lM (ar 2 (zA ok) (ag (aa 0) (ag (aa 1) af)))) (ak (aD 2 (uh (ag (d2 (aa 0) (dC (.int 0)) aW) af))) (ak (aD 3 (d2 (bt (ag (dC (.int 0)) af)) (d2 (aa 0) (dC (.int 0)) aW) fA)) (ak (cK (gP (ag (aa 1) af)) (iz 2 (eA (br 4) (eA (br 5) hU))) (ak (aD 6 (d2 (d2 (aa 0) (dC (.int 1)) aW) (aa 5) aW)) (ak (bc (dT (d2 (d2 (aa 2) (d2 (aa 6) (dC (.int 0)) aW) aW) (d2 (aa 2) (d2 (aa 6) (dC (.int 1)) aW) aW) oEq)) (qS ok 1 (ag (aa 4) af)) cE) (ak (aD 7 (ar 3 D_ (ag (aa 2) (ag (d2 (aa 6) (dC (.int 0)) aW) (ag (d2 (aa 6) (dC (.int 1)) aW) af))))) (ak (aD 3 (e_ (gP (ag (aa 7) af)) [Z,Z,U 3,U 2] (iz 2 (eA (br 0) (eA (br 1) hU))) cF (qo (dT (d2 (d2 (aa 3) (aa 0) aW) (aa 1) oEq)) (d2 (aa 2) (aa 0) aW) (d2 (d2 (aa 2) (aa 0) aW) (dC (.int 1)) bV)))) (aD 2 (aa 7))))))) (aE (cx (ag (aa 2) (ag (aa 3) af))))))))
theorem WW(ok:gY):Sem 2 6 (zB ok) (Ez ok):=by
 ext ys ovs K'-⟨dw,d,rfl,rfl,k0,kk⟩;unfold Ez;calc aI λN hN=>?_;simp!;calc⟨dw,d,Y,Y,k0,λm ws ew W=>?_⟩;let⟨dl,kb,kg⟩:=kk m ws ew W;calc⟨dl,kb,λhb=>?_⟩;let⟨ns,rfl,nd,hn⟩:=Ma hb;let⟨kj,k⟩:=kg ns Y hn nd;subst ew;let hl:=dl _ Y;rw[rO] at hl;let m1:=W.m1;let mZ:=W.mZ;show N _;subst hN;calc aI λN hN=>?_;simp![fU,aU];calc⟨⟨⋯,⋯⟩,?_⟩;rw[oM];subst hN;calc aI λN hN=>?_;simp![fU];calc⟨⟨⋯,⋯,⋯⟩,?_⟩;rw[LF];subst hN;refine aI λN hN=>?_
 let il:∀(j:Nat)(d:D),(jE 0 (ns.map D.int))[j]?=U d->∃n:Int,ns[j]?=U n/\d=D.tup [.int (j:Int),.int n]:=λj d hd=>by
  let⟨e,h1,h2⟩:=oJ hd;rw[Qi] at h1;let⟨n,h3,rfl⟩:=ZM.mp h1;exact⟨n,h3,by rw[h2,q0J]⟩
 rw[show cP ns=.lst (ns.map D.int) from Y];erw[cK,gP,ag,aa,af,q1Y,q1o,lQ];refine j5 (λi δ=>∃fs tk,mC m ws ns i fs tk/\δ=⟨[U (.p (.tup [.int m,.tup (ws.map b_)])),U (.p (.lst (ns.map D.int))),U (.p (.lst (fs.map D.int))),U (.p (.lst (tk.map D.int))),Z,Z,Z,Z],[]⟩) ⟨_,_,mC.start,Y⟩ ?_ ?_
 .ext j d δ L hj ⟨fs,tk,M,rfl⟩ hL
  let⟨n,nD,rfl⟩:=il j d hj;let⟨n0,n1⟩:=hn n (q0v nD);let⟨y,ey,hy,ea,i,k2,e1,e2,h1,h2,_⟩:=y8 W n0 n1;let fl:=M.fl;let x1:(bp ws n).1.toNat=i:=by unfold bp;rw[ey,e1];rfl
  let x2:(bp ws n).2.1.toNat=k2:=by unfold bp;rw[ey,e2];rfl
  let⟨y1,y2⟩:=M.at nD x1 x2;let ai:=j7 (ns:=fs) (i:=i) ⋯;let aj:=j7 (ns:=fs) (i:=k2) ⋯;calc⟨trivial,?_⟩;erw[iz,eA,hU,br,fw,q02,q03,HY,q1n];calc⟨trivial,?_⟩;calc aI λN2 bW=>?_;simp![f7,ea];subst bW;calc aI λN2 bW=>?_;calc j6 λA1 B1 hA hB=>?_;simp![b_,fU,f7,e1,e2,ai,aj];rw[qQ]
  by_cases ne:fs.getD i 0=fs.getD k2 0
  .rw[q0c ne]
   simp!;subst hA;simp![qS];exact⟨_,Y,kj j (y1 ne)⟩
  rw[q0e ne];simp!;subst hB;show N2 _;subst bW;calc aI λN2 bW=>?_;simp![fU,f7,e1,e2];calc⟨fs,i,k2,Y,Y,⋯,⋯,⋯,λp q pq le kl=>?_⟩;let M2:=y2 ne p q (LG ne pq kl);show N2 _;subst bW;let gl:↑(f_ p q fs)=fs.length:=by unfold f_;rw[rO]
  let mj:∀(h:Nat),h<fs.length->dm (fs.map D.int) (h:Int)=U (.int (fs.getD h 0)):=λh hh=>j7 hh;let tj:∀(h:Nat),h<fs.length->dm (tk.map D.int) (h:Int)=U (.int (tk.getD h 0)):=λh hh=>j7 (by rw[M.tl,<-fl];calc hh);let gd:∀(h:Nat)(x:Int),(f_ p q fs)[h]?=U x->(f_ p q fs).getD h 0=x:=λh x e=>by rw[HX,e];rfl
  generalize f_ p q fs=gs at M2 gl gd;calc aI λN2 bW=>?_;rw[show cP gs=.lst (gs.map D.int) from Y];simp!
  refine jF (λd=>match d with
   |.tup [.int h,.int x]=>.int (if fs.getD h.toNat 0=x then tk.getD h.toNat 0 else tk.getD h.toNat 0+1)
   |_=>.non) (by rw[ni,rO];symm) trivial ?_ ?_
  .ext d hd acc L' ha h
   let⟨z,hz⟩:=q0i.mp hd;let⟨e,z1,z2⟩:=oJ hz;rw[Qi] at z1;let⟨x,z3,rfl⟩:=ZM.mp z1;rw[q0J] at z2;subst z2;let zl:z<fs.length:=by rw[<-gl];exact(tU.mp z3).1
   dsimp only at h;rw[q0x] at h;simp![mj z zl,tj z zl];rw[qQ]
   by_cases c:fs.getD z 0=x
   .rw[q0c c]
    rw[ZK c] at h;simp!;exact⟨ha,h⟩
   .rw[q0e c]
    rw[ZJ c] at h;simp!;exact⟨ha,h⟩
  let et:(jE 0 (gs.map D.int)).map (λd=>match d with
   |.tup [.int h,.int x]=>.int (if fs.getD h.toNat 0=x then tk.getD h.toNat 0 else tk.getD h.toNat 0+1)
   |_=>.non)=(nG fs gs tk).map D.int:=by
   calc q11 λh=>?_;rw[Qi,Qi]
   by_cases hh:h<fs.length
   .let pU:h<↑(jE 0 (gs.map D.int)):=by rw[ni,rO,gl];exact hh
    let⟨e,z1,z2⟩:=oJ (rN pU);rw[Qi] at z1;let⟨x,z3,rfl⟩:=ZM.mp z1;rw[q0J] at z2;rw[rN pU,z2]
    let:(nG fs gs tk)[h]?=U (if fs.getD h 0=gs.getD h 0 then tk.getD h 0 else tk.getD h 0+1):=by
     unfold nG;rw[Qi,q1a hh];rfl
    rw[this,gd h x z3];erw[q3o,q0x]
   .rw[q0W (by rw[ni,rO,gl];symm),q0W (by unfold nG;rw[rO,q0Z];symm)]
    rfl
  rw[et];subst bW;simp!;exact hL _ ⟨gs,nG fs gs tk,M2,Y⟩
 .ext δ ⟨fs,tk,M,rfl⟩
  calc⟨trivial,?_⟩;rw[ni,rO] at M;subst hN;dsimp only;simp!;calc cA (k M.fin _)
def EA:GD:=λys ovs K=>∃(m:Int)(ws:-Wy)(ns:-Int),gK m ws/\Nums ws ns/\ns.Nodup/\ns.length<=900/\ys=[.p (aU m ws),.p (cP ns)]/\ovs=[] ∧
 (∀i,nK m ws ns=U i->K (.p (.lst [.str "join",.int (i:Nat)])) [])/\(nK m ws ns=Z->∀a b,K (.p (.tup [a,b])) [])
def EB:WS:=(ak (aD 2 (uh (ag (d2 (aa 0) (dC (.int 0)) aW) af))) (ak (aD 3 (d2 (bt (ag (dC (.int 0)) af)) (d2 (aa 0) (dC (.int 0)) aW) fA)) (ak (cK (gP (ag (aa 1) af)) (iz 2 (eA (br 4) (eA (br 5) hU))) (ak (i5 (e_ (bN (c_ (d2 (d2 (aa 0) (dC (.int 1)) aW) (aa 5) aW) cZ (iB (dC (.int 2))))) [Z,U 2] (br 0) cF (d2 (aa 1) (aa 0) aW)) (iz 2 (eA (br 6) (eA (br 7) hU)))) (ak (bc (dT (d2 (aa 6) (aa 7) oEq)) (aE (bt (ag (dC (.str "join")) (ag (aa 4) af)))) cE) (ak (i5 (dN (ag (bt (ag (cx (ag (i7 (aa 2) (ag (aa 6) af) bu) (ag (d2 (dC (.int 0)) (aa 6) (oI λi j=>.int (i-j))) (ag (aa 6) af)))) (ag (cx (ag (i7 (aa 2) (ag (aa 7) af) bu) (ag (d2 (dC (.int 0)) (aa 7) (oI λi j=>.int (i-j))) (ag (aa 7) af)))) af))) af) zo) (iz 2 (eA (br 8) (eA (br 9) hU)))) (ak (aD 3 (e_ (lR (ag (d2 (aa 0) (dC (.int 0)) aW) af)) [Z,U 3,U 2,U 8] (br 0) cF (d2 (d2 (aa 1) (aa 0) aW) (dN (ag (d2 (d2 (aa 2) (aa 0) aW) (d2 (aa 3) (dC (.int 2)) aW) oEq) af) pI) bV))) (aD 2 (e_ (bN (aa 2)) [Z,U 9,U 8] (br 0) cF (qo (dT (d2 (aa 0) (d2 (aa 2) (dC (.int 2)) aW) oEq)) (d2 (aa 1) (dC (.int 2)) aW) (aa 0))))))))) (aE (cx (ag (aa 2) (ag (aa 3) af)))))))
theorem WX:Sem 2 8 EA EB:=by
 ext ys ovs K'-⟨m,ws,ns,W,hn,nd,hl,rfl,rfl,kj,k⟩;let m1:=W.m1;let mZ:=W.mZ;unfold EB;calc aI λN hN=>?_;simp![fU,aU];calc⟨⟨⋯,⋯⟩,?_⟩;rw[oM];subst hN;calc aI λN hN=>?_;simp![fU];calc⟨⟨⋯,⋯,⋯⟩,?_⟩;rw[LF];subst hN;refine aI λN hN=>?_
 let il:∀(j:Nat)(d:D),(jE 0 (ns.map D.int))[j]?=U d->∃n:Int,ns[j]?=U n/\d=D.tup [.int (j:Int),.int n]:=λj d hd=>by
  let⟨e,h1,h2⟩:=oJ hd;rw[Qi] at h1;let⟨n,h3,rfl⟩:=ZM.mp h1;exact⟨n,h3,by rw[h2,q0J]⟩
 rw[show cP ns=.lst (ns.map D.int) from Y];erw[cK,gP,ag,aa,af,q1Y,q1o,lQ];refine j5 (λi δ=>∃fs tk,mC m ws ns i fs tk/\δ=⟨[U (.p (.tup [.int m,.tup (ws.map b_)])),U (.p (.lst (ns.map D.int))),U (.p (.lst (fs.map D.int))),U (.p (.lst (tk.map D.int))),Z,Z,Z,Z,Z,Z],[]⟩) ⟨_,_,mC.start,Y⟩ ?_ ?_
 .ext j d δ L hj ⟨fs,tk,M,rfl⟩ hL
  let⟨n,nD,rfl⟩:=il j d hj;let wK:=(tU.mp nD).1;let en:ns.getD j 0=n:=by rw[HX,nD];rfl
  let⟨n0,n1⟩:=hn n (q0v nD);let⟨y,ey,hy,ea,i,k2,e1,e2,h1,h2,_⟩:=y8 W n0 n1;let fl:=M.fl;let x1:(bp ws n).1.toNat=i:=by unfold bp;rw[ey,e1];rfl
  let x2:(bp ws n).2.1.toNat=k2:=by unfold bp;rw[ey,e2];rfl
  let⟨y1,y2⟩:=M.at nD x1 x2;let a1:=j7 (ns:=fs) (i:=i) ⋯;let a2:=j7 (ns:=fs) (i:=k2) ⋯;calc⟨trivial,?_⟩;erw[iz,eA,hU,br,fw,q02,q03,HY,q1n];calc⟨trivial,?_⟩;calc aI λN2 bW=>?_;let ec:cutD [D.int y.1,D.int y.2.1,D.int y.2.2] Z (U 2)=[D.int i,D.int k2]:=by rw[<-e1,<-e2];rfl
  simp![f7,ea,b_,ec]
  refine L2.jF (λd=>match d with
   |.int z=>.int (fs.getD z.toNat 0)
   |_=>.non) (by show 2<=1000;decide) trivial ?_ ?_
  .ext d hd acc L' ha h'
   erw[My,q0j,q1q] at hd;rcases hd with rfl|rfl
   .simp![a1]
    erw[q0x] at h';exact⟨ha,h'⟩
   .simp![a2]
    erw[q0x] at h';exact⟨ha,h'⟩
  simp![q0x];generalize hp:fs.getD i 0=pa at y1 y2;generalize hq:fs.getD k2 0=pb at y1 y2;subst bW;calc aI λN2 bW=>?_;calc j6 λAy Bn hA hB=>?_;simp!;rw[qQ]
  by_cases ne:pa=pb
  .rw[q0c ne]
   simp!;subst hA;simp!;exact cA (kj j (y1 ne))
  rw[q0e ne];simp!;subst hB;show N2 _;subst bW;calc aI λN2 bW=>?_;simp![i7,tH,bu,D9,LC,bu.dE,zo];refine⟨pJ,.inl λd hd=>?_,λout pm pw=>?_⟩
  .rcases My.mp hd with rfl|hd
   .exact⟨(by ext z;cases z),Y⟩
   .rw[q0l.mp hd];exact⟨(by ext z;cases z),Y⟩
  let⟨p,q,rfl,pq,kl⟩:∃p q,out=[eY fs p,eY fs q]/\((p=pa/\q=pb)\/(p=pb/\q=pa))/\kle (dU fs p) (dU fs q):=by
   let⟨u,r,rfl⟩:=List.exists_cons_of_length_eq_add_one pm.length_eq;let⟨v,rfl⟩:=q5g.mp (q61 pm.length_eq)
   let kk:∀x z,kle (pJ (eY fs x)) (pJ (eY fs z))->kle (dU fs x) (dU fs z):=λx z h=>by
    let h:kle ([(cf fs x:Int),0-x]++[x]) ([(cf fs z:Int),0-z]++[z]):=h;let:=VD (a:=[(cf fs x:Int),0-x]) (b:=[(cf fs z:Int),0-z]) Y h;rw[q9i,q9i] at this;exact this
   let pw:=(q1U.mp pw).1 (pJ v) (by simp);rcases My.mp (pm.mem_iff.mp (Qk (a:=u) (l:=[v]))) with e|e
   .let e:u=eY fs pa:=e
    subst e;let ev:v=eY fs pb:=by simpa[eY] using pm.cons_inv.mem_iff.mp (q0l.mpr Y)
    subst ev;exact⟨pa,pb,Y,.inl ⟨Y,Y⟩,kk _ _ pw⟩
   .let e:u=eY fs pb:=q0l.mp e
    let p2:=pm.trans (q24 (eY fs pb) (eY fs pa) []);subst e;let ev:v=eY fs pa:=by simpa[eY] using p2.cons_inv.mem_iff.mp (q0l.mpr Y)
    subst ev;exact⟨pb,pa,Y,.inr ⟨Y,Y⟩,kk _ _ pw⟩
  let le:cf fs p<=cf fs q:=by
   let h:HT.lexLt [(cf fs q:Int),-(q:Int)] [(cf fs p:Int),-(p:Int)]=ι:=kl;rw[HT.mW] at h;split at h
   .omega
   .let:=q2I h;symm
  let qp:q≠p:=by rcases pq with⟨rfl,rfl⟩|⟨rfl,rfl⟩<;>symm
  let M2:=y2 ne p q (LG ne pq kl);let hL:=hL _ ⟨_,_,M2,Y⟩;calc⟨Y,?_⟩;show N2 _;subst bW;let t2:∀x,dm [D.int (cf fs x:Nat),D.int (0-x),D.int x] 2=U (.int x):=λx=>at2;let mj:∀(h:Nat),h<fs.length->dm (fs.map D.int) (h:Int)=U (.int (fs.getD h 0)):=λh hh=>j7 hh;let tj:∀(h:Nat),h<fs.length->dm (tk.map D.int) (h:Int)=U (.int (tk.getD h 0)):=λh hh=>j7 (by rw[M.tl,<-fl];calc hh);calc aI λN2 bW=>?_;simp![fU,eY];refine⟨⋯,?_⟩
  refine jF (λd=>match d with
   |.int h=>.int (tk.getD h.toNat 0+if J (fs.getD h.toNat 0=p)=θ then 1 else 0)
   |_=>.non) (by rw[lT];symm) trivial ?_ ?_
  .ext d hd acc L' ha h
   let⟨z,hz⟩:=q0i.mp hd;let⟨zl,rfl⟩:=nh hz;let z0:(0+(z:Int))=z:=by symm
   rw[z0] at h ⊢;dsimp only at h;rw[q0x] at h;let zf:z<fs.length:=by symm
   simp![mj z zf,tj z zf,t2,pI];rw[qQ];exact⟨ha,h⟩
  let et:(cz 0 m.toNat).map (λd=>match d with
   |.int h=>.int (tk.getD h.toNat 0+if J (fs.getD h.toNat 0=p)=θ then 1 else 0)
   |_=>.non)=(nG fs (f_ p q fs) tk).map D.int:=by
   rw[oM];unfold bY nG;rw[fl,q0D,q0D,q0D];calc q1d λh hh=>?_;let hh:h<fs.length:=by rw[fl];exact q0G.mp hh
   show D.int (tk.getD ((h:Int)).toNat 0+if J (fs.getD ((h:Int)).toNat 0=p)=θ then 1 else 0)=D.int (if fs.getD h 0=(f_ p q fs).getD h 0 then tk.getD h 0 else tk.getD h 0+1);rw[q0x,VR hh]
   by_cases c:fs.getD h 0=p
   .rw[q0c c,ZK Y,ZK c,ZJ (by rw[c];calcλz=>qp z.symm)]
   .rw[q0e c,ZJ (by decide),ZJ c,ZK Y,Int.add_zero]
  rw[et];subst bW;simp!
  refine L2.jF (λd=>match d with
   |.int x=>.int (if x=p then q else x)
   |_=>.non) (by rw[rO];symm) trivial ?_ ?_
  .ext d hd acc L' ha h
   let⟨x,hx,rfl⟩:=q0t.mp hd;simp![t2];rw[qQ]
   by_cases e:x=p
   .rw[q0c e]
    simp!;calc⟨ha,?_⟩;dsimp only at h;rw[ZK e] at h;exact h
   .rw[q0e e]
    simp!;calc⟨ha,?_⟩;dsimp only at h;rw[ZJ e] at h;exact h
  .let e:(fs.map D.int).map (λd=>match d with
    |.int x=>.int (if x=p then q else x)
    |_=>.non)=(f_ p q fs).map D.int:=by
    unfold f_;rw[q0D,q0D];rfl
   rw[e];exact hL
 .ext δ ⟨fs,tk,M,rfl⟩
  calc⟨trivial,?_⟩;rw[ni,rO] at M;subst hN;dsimp only;simp!;exact cA (k M.fin _ _)
mutual
noncomputable def ka:D->Nat
 |.tup ds=>max ↑ds (fW ds)
 |.lst ds=>max ↑ds (fW ds)
 |_=>0
noncomputable def fW:-D->Nat
 |[]=>0
 |d::ds=>max (ka d) (fW ds)
end
theorem eI{l:Nat}:∀{ds:-D},fW ds<=l↔∀d∈ds,ka d<=l
 |[]=>by simp[fW]
 |d::r=>by
  erw[fW,My,forall_eq_or_imp,<-eI (ds:=r)];symm
theorem eJ{l:Nat}:∀{ds:-D},aZ ds<=l↔∀d∈ds,dep d<=l
 |[]=>by simp[aZ]
 |d::r=>by
  erw[aZ,My,forall_eq_or_imp,<-eJ (ds:=r)];symm
def Bd(l m:Nat)(d:D):Prop:=ka d<=l/\dep d<=m
theorem Bd.mono{l l' m m':Nat}{d:D}(h:Bd l m d)(h1:l<=l')(h2:m<=m'):Bd l' m' d:=⟨q0Q h.1 h1,q0Q h.2 h2⟩
theorem bQ{l m:Nat}{ds:-D}:Bd l (m+1) (.tup ds)↔↑ds<=l/\∀d∈ds,Bd l m d:=by
 unfold Bd;erw[ka,dep]
 constructor
 .ext ⟨h1,h2⟩
  let a:fW ds<=l:=by symm
  let b:aZ ds<=m:=by symm
  exact⟨⋯,λd hd=>⟨eI.mp a d hd,eJ.mp b d hd⟩⟩
 .ext ⟨h1,h2⟩
  let a:fW ds<=l:=eI.mpr λd hd=>(h2 d hd).1;let b:aZ ds<=m:=eJ.mpr λd hd=>(h2 d hd).2;symm
theorem sV{l m:Nat}{ds:-D}:Bd l (m+1) (.lst ds)↔↑ds<=l/\∀d∈ds,Bd l m d:=by
 unfold Bd;erw[ka,dep]
 constructor
 .ext ⟨h1,h2⟩
  let a:fW ds<=l:=by symm
  let b:aZ ds<=m:=by symm
  exact⟨⋯,λd hd=>⟨eI.mp a d hd,eJ.mp b d hd⟩⟩
 .ext ⟨h1,h2⟩
  let a:fW ds<=l:=eI.mpr λd hd=>(h2 d hd).1;let b:aZ ds<=m:=eJ.mpr λd hd=>(h2 d hd).2;symm
theorem zC{α:Type}{xs:-α}{k:Int}(h0:0<=k)(h1:k<(↑xs:Int)):∃x∈xs,dm xs k=U x:=by
 let⟨i,rfl⟩:∃i:Nat,k=i:=⟨k.toNat,⋯⟩;let hi:i<↑xs:=by symm
 calc⟨xs[i],q1W hi,kC (rN hi)⟩
theorem xi{ds:-D}{lo hi:Option Int}{d:D}(h:d∈cutD ds lo hi):d∈ds:=q22 (q3c h)
theorem xj(ds:-D)(lo hi:Option Int):↑(cutD ds lo hi)<=↑ds:=by
 unfold cutD;rw[q0y,q06];symm
def nM(n:Nat):GD:=λys ovs K=>∃(N deep:Int)(l m:Nat)(d:D)(o:OV),ys=[.o 0,.p d,.p (.int deep)]/\ovs=[o]/\aP N o/\N+10*(n+1)<2 ^ 30/\deep<=n/\n<=3/\Bd l m d/\l<=400/\1<=l/\m<=40 ∧
 ∀d' o',Bd (l+1) (m+1) d'->aP (N+4*(n+1)) o'->K (.p d') [o']
noncomputable def sW:-D:=[.non,.bl θ,.bl ι,.str "",.str "0",.tup [],.lst [],.int (10 ^ q2t 20),.int (-1),.int 0,.int 1,.int (10 ^ q2t 9),.int (10 ^ q2t 9+1),.tup [.int 0],.lst [.int 0],.int 12]
theorem WY:∀x∈sW,Bd 1 1 x:=by
 ext x hx;erw[sW,My,q0j,q1q] at hx;rcases hx with rfl|rfl|rfl|rfl|rfl|rfl|rfl|rfl|rfl|rfl|rfl|rfl|rfl|rfl|rfl|rfl<;>calc⟨by simp[ka,fW],by simp[dep,aZ]⟩
def EC(nM:GD):WS:=(ak (aD 3 (ar 2 f9 (ag (aa 0) (ag (dC (.int 8)) af)))) (ak (aD 4 (ar 2 f9 (ag (aa 0) (ag (dC (.int 16)) af)))) (ak (aD 5 (d2 (ar 2 f9 (ag (aa 0) (ag (dC (.int 9)) af))) (dC (.int 2)) (oI λi j=>.int (i-j)))) (ak (bc (iy (dT (d1 (aa 1) (bB "tuple"))) (iy (dT (d2 (aa 1) (cx af) lU)) (iy (dT (d2 (aa 2) (dC (.int 0)) (oI λi j=>.bl (J (j<i))))) (dT (d2 (aa 4) (dC (.int 3)) (oI λi j=>.bl (J (j<i)))))))) (ak (aD 6 (ar 2 f9 (ag (aa 0) (ag (dN (ag (aa 1) af) bE) af)))) (aE (d2 (d2 (c_ (aa 1) cZ (iB (aa 6))) (cx (ag (ar 3 nM (ag (aa 0) (ag (d2 (aa 1) (aa 6) aW) (ag (d2 (aa 2) (dC (.int 1)) (oI λi j=>.int (i-j))) af)))) af)) bV) (c_ (aa 1) (iB (d2 (aa 6) (dC (.int 1)) bV)) cZ) bV))) cE) (ak (aD 7 (bt (ag (dC .non) (ag (dC (.bl θ)) (ag (dC (.bl ι)) (ag (dC (.str "")) (ag (dC (.str "0")) (ag (cx af) (ag (bt af) (ag (d2 (dC (.int 10)) (dC (.int 20)) (dy dM λi j=>.int (i ^ j.toNat))) (ag (d1 (dC (.int 1)) iC) (ag (dC (.int 0)) (ag (dC (.int 1)) (ag (d2 (dC (.int 10)) (dC (.int 9)) (dy dM λi j=>.int (i ^ j.toNat))) (ag (d2 (d2 (dC (.int 10)) (dC (.int 9)) (dy dM λi j=>.int (i ^ j.toNat))) (dC (.int 1)) bV) (ag (cx (ag (dC (.int 0)) af)) (ag (bt (ag (dC (.int 0)) af)) (ag (dC (.int 12)) af)))))))))))))))))) (ak (bc (dT (d1 (aa 1) (bB "tuple"))) (ak (aD 8 (bt (ag (dN (ag (aa 1) af) yI) (ag (d2 (aa 1) (c_ (aa 1) cZ (iB (dC (.int 1)))) bV) (ag (c_ (aa 1) cZ (iB (d1 (dC (.int 1)) iC))) (ag (d1 (aa 1) yW) (ag (d2 (aa 1) (cx (ag (aa 5) af)) bV) (ag (c_ (aa 1) (iB (dC (.int 1))) cZ) (ag (cx (ag (aa 1) af)) af))))))))) (aE (d2 (d2 (aa 8) (bt (ag (d2 (aa 7) (aa 4) aW) af)) bV) (aa 3) aW))) cE) (ak (bc (dT (ar 1 y7 (ag (aa 1) af))) (aE (d2 (bt (ag (d2 (aa 1) (dC (.int 1)) bV) (ag (d2 (aa 1) (dC (.int 1)) (oI λi j=>.int (i-j))) (ag (d2 (dC (.int 0)) (aa 1) (oI λi j=>.int (i-j))) (ag (aa 5) (ag (aa 5) (ag (d2 (aa 1) (dC (.int 1)) oEq) (ag (d2 (dC (.int 13)) (aa 1) (oI λi j=>.int (i-j))) (ag (d2 (aa 7) (aa 4) aW) af))))))))) (aa 3) aW)) cE) (aE (d2 (aa 7) (aa 4) aW)))))))))
def ED(g:Nat->GD):Nat->GD
 |0=>λ_ _ _=>False
 |n+1=>g n
theorem WZ(n:Nat):Sem 3 6 (nM n) (EC (ED nM n)):=by
 ext ys ovs K'-⟨N,deep,l,m,d,o,rfl,rfl,P,hN1,Mb,hn3,bd,hl,W0,hm,fin⟩;unfold EC;let back:∀(d':D)(o':OV)(sl:-(Option DV))(mu:-(Option OV)),Bd (l+1) (m+1) d'->aP (N+4*(n+1)) o'->gr 1 K' (.p d') ⟨sl,U o'::mu⟩:=λd' o' sl mu h1 h2=>⟨[o'],Y,Y,fin d' o' h1 h2⟩;calc aI λN' hN=>?_;simp!;calc⟨N,8,o,Y,Y,P,⋯,⋯,⋯,λkind o1 k0 k8 P1=>?_⟩;simp!;subst hN;calc aI λN' hN=>?_;simp!;calc⟨N+1,16,o1,Y,Y,P1,⋯,⋯,⋯,λpick o2 p0 p16 P2=>?_⟩;simp!;subst hN;refine aI λN' hN=>?_
 simp!;calc⟨N+1+1,9,o2,Y,Y,P2,⋯,⋯,⋯,λnr o3 n0 n9 P3=>?_⟩;simp!;subst hN;let Pe:aP (N+4*(n+1)) o3:=P3.mono ⋯;let⟨od,W5,Mc⟩:=zC (xs:=sW) (k:=pick) p0 (by show pick<16;symm);let EE:Bd (l+1) (m+1) od:=(WY od W5).mono ⋯ ⋯;let tail:∀N':ay->Prop,True:=λ_=>trivial;refine aI λN' hN=>?_
 by_cases ht:∃ds,d=.tup ds
 .let⟨ds,rfl⟩:=ht
  let⟨mm,rfl⟩:∃mm,m=mm+1:=⟨m-1,by let:=bd.2;erw[dep] at this;symm⟩;let⟨b1,b2⟩:=bQ.mp bd
  let rest:N' ⟨[U (.o 0),U (.p (.tup ds)),U (.p (.int deep)),U (.p (.int kind)),U (.p (.int pick)),U (.p (.int (nr-2))),Z,Z,Z],[U o3]⟩:=by
   subst hN;calc aI λN' hN=>?_;simp!;calc⟨⟨by decide,by decide,by decide⟩,⟨by decide,by decide,by decide⟩,⟨by decide,by decide,by decide⟩,?_⟩;subst hN;calc aI λN' hN=>?_;let c1:=xj ds Z (U 1);let pN:dm [D.non,D.bl θ,D.bl ι,D.str (q0O ""),D.str (q0O "0"),D.tup [],D.lst [],D.int (10 ^ q2t 20),D.int (-1),D.int 0,D.int 1,D.int (10 ^ q2t 9),D.int (10 ^ q2t 9+1),D.tup [D.int 0],D.lst [D.int 0],D.int 12] pick=U od:=Mc;simp![bA,show aH "tuple" "tuple" = θ from Y,pN];let⟨r,hr,er⟩:=zC (xs:=[D.lst ds,D.tup (ds++cutD ds Z (U 1)),D.tup (cutD ds Z (U (-1))),D.tup ds.reverse,D.tup (ds++[D.int (nr-2)]),D.tup (cutD ds (U 1) Z),D.tup [D.tup ds],od]) (k:=kind) k0 (by show kind<8;symm)
   rw[er];calc⟨⋯,⋯,back _ _ _ _ ?_ Pe⟩;erw[My,q0j,q1q] at hr;let up:∀y∈ds,Bd (l+1) (mm+1) y:=λy hy=>(b2 y hy).mono ⋯ ⋯;let ib:Bd (l+1) (mm+1) (.int (nr-2)):=⟨q0u _,q0u _⟩;rcases hr with rfl|rfl|rfl|rfl|rfl|rfl|rfl|rfl
   .exact sV.mpr ⟨⋯,up⟩
   .refine bQ.mpr ⟨?_,λy hy=>?_⟩
    .rw[Ql]
     let:↑(cutD ds Z (U 1))<=1:=by
      unfold cutD;rw[q0y];let:HT.aV ↑ds ↑ds (U 1)=min 1 ↑ds:=HT.qd ↑ds ↑ds 1;rw[this];symm
     symm
    .rcases q0U.mp hy with hy|hy
     .exact up y hy
     .exact up y (xi hy)
   .exact bQ.mpr ⟨by let:=xj ds Z (U (-1));symm,λy hy=>up y (xi hy)⟩
   .exact bQ.mpr ⟨by rw[q2A];symm,λy hy=>up y (List.mem_reverse.mp hy)⟩
   .refine bQ.mpr ⟨by rw[Ql,q0F];symm,λy hy=>?_⟩
    rcases q0U.mp hy with hy|hy
    .exact up y hy
    .rw[q0l.mp hy];exact ib
   .exact bQ.mpr ⟨by let:=xj ds (U 1) Z;symm,λy hy=>up y (xi hy)⟩
   .refine bQ.mpr ⟨by show 1<=l+1;symm,λy hy=>?_⟩
    rw[q0l.mp hy];exact bd.mono ⋯ ⋯
   .exact EE
  simp![bA,show aH "tuple" "tuple" = θ from Y,aw];calc⟨by let:=bd.2;erw[dep] at this;symm,?_⟩;cases q:dq ds []
  .erw[q2p,q17]
   by_cases hd:0<deep
   .rw[ZK (q0c hd)]
    by_cases hp:3<pick
    .rw[ZK (q0c hp)]
     let dn:0<↑ds:=by
      cases ds with
      |nil=>cases q
      |cons _ _=>exact q3D _
     calc⟨N+1+1+1,↑ds,o3,Y,Y,P3,⋯,⋯,⋯,λat_ o4 a0 a1 P4=>?_⟩;let⟨x,hx,ex⟩:=zC (xs:=ds) (k:=at_) a0 a1;let⟨nn,rfl⟩:∃nn:Nat,n=nn+1:=⟨n-1,⋯⟩;simp![ex];calc⟨N+1+1+1+1,deep-1,l,mm,x,o4,Y,Y,P4,⋯,⋯,⋯,b2 x hx,hl,W0,⋯,λd' o5 b5 P5=>?_⟩;let c1:=xj ds Z (U at_);let c2:=xj ds (U (at_+1)) Z;simp!;refine⟨⋯,⋯,back _ _ _ _ (bQ.mpr ⟨?_,λy hy=>?_⟩) (P5.mono ⋯)⟩
     .let e1:↑(cutD ds Z (U at_))=at_.toNat:=by
       unfold cutD;rw[q0y,q06];let:HT.aV ↑ds 0 Z=0:=Y
       let h2:HT.aV ↑ds ↑ds (U at_)=min at_.toNat ↑ds:=by
        let⟨ii,rfl⟩:∃ii:Nat,at_=ii:=⟨at_.toNat,⋯⟩;exact HT.qd ↑ds ↑ds ii
       rw[this,h2];symm
      let e2:↑(cutD ds (U (at_+1)) Z)=↑ds-(at_.toNat+1):=by
       unfold cutD;rw[q0y,q06];let:HT.aV ↑ds ↑ds Z=↑ds:=Y
       let h2:HT.aV ↑ds 0 (U (at_+1))=min (at_.toNat+1) ↑ds:=by
        let⟨ii,rfl⟩:∃ii:Nat,at_=ii:=⟨at_.toNat,⋯⟩;exact HT.qd ↑ds 0 (ii+1)
       rw[this,h2];symm
      rw[Ql,Ql,e1,e2,q0F];symm
     .rcases q0U.mp hy with hy|hy
      .rcases q0U.mp hy with hy|hy
       .exact (b2 y (xi hy)).mono ⋯ ⋯
       .rw[q0l.mp hy];exact b5
      .exact (b2 y (xi hy)).mono ⋯ ⋯
    .rw[ZJ (by rw[q0e hp];decide)]
     exact rest
   .rw[ZJ (by rw[q0e hd];decide)]
    exact rest
  .erw[q1b,q0a,q0X]
   exact rest
 .let nt:∀K2:KS,True:=λ_=>trivial
  let pN:dm [D.non,D.bl θ,D.bl ι,D.str (q0O ""),D.str (q0O "0"),D.tup [],D.lst [],D.int (10 ^ q2t 20),D.int (-1),D.int 0,D.int 1,D.int (10 ^ q2t 9),D.int (10 ^ q2t 9+1),D.tup [D.int 0],D.lst [D.int 0],D.int 12] pick=U od:=Mc
  let Md:aH (bA d) "tuple" = ι:=by
   cases d with
   |tup ds=>exact absurd ⟨ds,Y⟩ ht
   |_=>rfl
  simp![Md];subst hN;calc aI λN' hN=>?_;simp!;calc⟨⟨by decide,by decide,by decide⟩,⟨by decide,by decide,by decide⟩,⟨by decide,by decide,by decide⟩,?_⟩;subst hN;calc aI λN' hN=>?_;simp![Md];subst hN;calc aI λN' hN=>?_;simp!;calc⟨d,Y,Y,?_⟩;simp!
  by_cases hi:∃i,d=.int i
  .let⟨i,rfl⟩:=hi
   simp![y0,pN,aw];let⟨r,hr,er⟩:=zC (xs:=[D.int (i+1),D.int (i-1),D.int (0-i),D.int (nr-2),D.int (nr-2),D.bl (i==1),D.int (13-i),od]) (k:=kind) k0 (by show kind<8;symm);rw[er];calc back _ _ _ _ ?_ Pe;erw[My,q0j,q1q] at hr;rcases hr with rfl|rfl|rfl|rfl|rfl|rfl|rfl|rfl
   all_goals first|exact EE|exact⟨q0u _,q0u _⟩
  .let hw:y0 d=ι:=by
    cases d with
    |int i=>exact absurd ⟨i,Y⟩ hi
    |_=>rfl
   rw[hw];erw[q0a,q0X];subst hN;simp![pN];calc back _ _ _ _ EE Pe
end LJ
namespace PySem
open Sem (wp)
structure ZG(z TI TO i j:O)(fp gp:-O):Prop where
 a1:TI≠z
 a2:TO≠z
 a3:i≠z
 a4:j≠z
 a5:TI≠TO
 a6:TI≠i
 a7:TI≠j
 a8:TO≠i
 a9:TO≠j
 b1:i≠j
 f1:z∉fp
 f2:TO∉fp
 f3:j∉fp
 g1:z∉gp
 g2:TO∉gp
 g3:i∉gp
theorem bk{a:O}{h h':I}(hs:q2J a h h'){b:O}{o:u}(n:b≠a)(e:h.get? b=U o):h'.get? b=U o:=(hs.2 b n).trans e
section
variable{prog:ψ}{w:Q}{A:q}{E:aJ}{s:L}{z TI TO i j:O}{fp gp:-O}{n m k:Nat}{P P':Nat->B->Prop}{St kh:Nat->I->Prop}{a b:B}
theorem W6{Q:aJ}(D:Draws prog w A i fp n P St)(D':Draws prog w A j gp m P' kh)(Z:ZG z TI TO i j fp gp)
  (hz:IsZip s.heap z TI TO .none) (hI:IsPair s.heap TI (.ref i) (.ref j)) (hO:IsPair s.heap TO a b) (st:St k s.heap) (eN:kh k s.heap) (hk:k<n) (g_:k<m)
  (hQ:∀x y h' tk,P k x->P' k y->IsZip h' z TI TO (rawInt ⇑s)->IsPair h' TO x y->St (k+1) h'->kh (k+1) h'->IsPair h' ⇑s x y →
   (∀c o,c≠z->c≠TO->c≠i->c≠j->s.heap.get? c=U o->h'.get? c=U o)->Q (.ref ⇑s) {s with heap:=h',toks:=tk}) :
  G (g prog w) A (Builtin.«zip.__next__» ⟨[.ref z],[]⟩) (λfin s'=>∃v,fin=.done (.ret v)/\Q v s') E s:=by
 show G _ _ (field (.ref z) 2 >>= _) _ _ _;calc oj (q1h hz Y (x:=.bool ι) Y ?_);show G _ _ (field (.ref z) 3 >>= _) _ _ _;calc oj (q1h hz Y (x:=.ref TI) Y (oj (q12 hI Y ?_)));show G _ _ (q1P (.ref z) >>= _) _ _ _;calc oj ?_;unfold q1P;calc oj (q1h hz Y (x:=.none) Y (vw ?_));erw[q17];calc oj (q3Y (oj (q1h hz Y (x:=.ref TO) Y (oj (q2q hz (by simp) λk1 z1 s1=>?_)))));let z1:IsZip k1 z TI TO .ellipsis:=z1;calc oj ?_;erw[q7j,q7G,q5n,q5I];calc oj (oj (q36 ?_));show G _ _ (q1J (.ref i) >>= _) _ _ _;refine oj (D.item k {s with heap:=k1} _ _ hk (D.frame k _ _ st λc hc o e=>bk s1 (λy=>Z.f1 (y▸hc)) e) λx k2 t2 px jf s2=>vw ?_)
 let o2:IsPair k2 TO a b:=bk s2 Z.a8 (bk s1 Z.a2 hO);calc oj (q12 o2 Y (oj (q39 o2 λk3 o3 s3=>?_)));let o3:IsPair k3 TO x b:=o3;calc oj (q5N (vw (oj (oj (q36 ?_)))));show G _ _ (q1J (.ref j) >>= _) _ _ _;let sX:kh k k3:=D'.frame k _ _ eN λc hc o e=>bk s3 (λy=>Z.g2 (y▸hc)) (bk s2 (λy=>Z.g3 (y▸hc)) (bk s1 (λy=>Z.g1 (y▸hc)) e));let pZ:St (k+1) k3:=D.frame _ _ _ jf λc hc o e=>bk s3 (λy=>Z.f2 (y▸hc)) e;calc oj (D'.item k {s with heap:=k3,toks:=t2} _ _ g_ sX λy k4 t4 py W7 s4=>vw ?_);let o4:IsPair k4 TO x b:=bk s4 Z.a9 o3;refine oj (q12 o4 Y (oj (q39 o4 λk5 o5 s5=>?_)))
 let o5:IsPair k5 TO x y:=o5;calc oj (q5N (vw (vw (oj (q12 o5 Y (oj (q5M ?_)))))));let sz:k5.objs.size=⇑s:=by rw[s5.1,s4.1,s3.1,s2.1,s1.1]
 let z5:IsZip k5 z TI TO .ellipsis:=bk s5 Z.a2.symm (bk s4 Z.a4.symm (bk s3 Z.a2.symm (bk s2 Z.a3.symm z1)));let kp:∀c o,c≠z->c≠TO->c≠i->c≠j->s.heap.get? c=U o->k5.get? c=U o:=λc o c1 c2 c3 c4 e=>bk s5 c2 (bk s4 c4 (bk s3 c2 (bk s2 c3 (bk s1 c1 e))));let t5:St (k+1) k5:=D.frame _ _ _ pZ λc hc o e=>bk s5 (λy=>Z.f2 (y▸hc)) (bk s4 (λy=>Z.f3 (y▸hc)) e);let W8:kh (k+1) k5:=D'.frame _ _ _ W7 λc hc o e=>bk s5 (λy=>Z.g2 (y▸hc)) e;let zl:z<k5.objs.size:=Qj z5;show G _ _ (q3i (.ref z) (.ref k5.objs.size) >>= _) _ _ _;calc oj ?_;unfold q3i;refine oj (q2q (show IsZip (k5.push {cls:=.type "tuple",data:=.seq #[x,y]}) z TI TO .ellipsis from rM _ z5) (by simp) λk7 z7 s7=>?_)
 let z7:IsZip k7 z TI TO (rawInt k5.objs.size):=z7;calc q2q z7 (by simp) λk8 z8 s8=>?_;let z8:IsZip k8 z TI TO (rawInt k5.objs.size):=z8;let up:∀c o,c≠z->k5.get? c=U o->k8.get? c=U o:=λc o c1 e=>bk s8 c1 (bk s7 c1 (rM _ e));let p8:IsPair k8 k5.objs.size x y:=bk s8 (q1B zl) (bk s7 (q1B zl) (ZI _ Y));rw[sz] at z8 p8;calc vw ⟨_,Y,?_⟩;show Q (.ref k5.objs.size) _;rw[sz];calc hQ x y k8 t4 px py z8 (up _ _ Z.a2 o5) (D.frame _ _ _ t5 λc hc o e=>up c o (λy=>Z.f1 (y▸hc)) e) (D'.frame _ _ _ W8 λc hc o e=>up c o (λy=>Z.g1 (y▸hc)) e) p8 λc o c1 c2 c3 c4 e=>up c o c1 (kp c o c1 c2 c3 c4 e)
theorem W9{Q:Fin->L->Prop}(D:Draws prog w A i fp n P St)(D':Draws prog w A j gp m P' kh)(Z:ZG z TI TO i j fp gp)
  (hz:IsZip s.heap z TI TO .none) (hI:IsPair s.heap TI (.ref i) (.ref j)) (hO:IsPair s.heap TO a b) (st:St k s.heap) (eN:kh k s.heap) (hk:k=n\/(k<n/\k=m))
  (hE:∀h' e tk,(∀c o,c≠z->c≠TO->c≠i->c≠j->s.heap.get? c=U o->h'.get? c=U o)->(∃o,h'.get? e=U o/\o.cls=.type "StopIteration")->E (.ref e) {s with heap:=h',toks:=tk}) :
  G (g prog w) A (Builtin.«zip.__next__» ⟨[.ref z],[]⟩) Q E s:=by
 show G _ _ (field (.ref z) 2 >>= _) _ _ _;calc oj (q1h hz Y (x:=.bool ι) Y ?_);show G _ _ (field (.ref z) 3 >>= _) _ _ _;calc oj (q1h hz Y (x:=.ref TI) Y (oj (q12 hI Y ?_)));show G _ _ (q1P (.ref z) >>= _) _ _ _;calc oj ?_;unfold q1P;calc oj (q1h hz Y (x:=.none) Y (vw ?_));erw[q17];calc oj (q3Y (oj (q1h hz Y (x:=.ref TO) Y (oj (q2q hz (by simp) λk1 z1 s1=>?_)))));let z1:IsZip k1 z TI TO .ellipsis:=z1;calc oj ?_;erw[q7j,q7G,q5n,q5I];calc oj (oj (q36 ?_));show G _ _ (q1J (.ref i) >>= _) _ _ _;let iP:St k k1:=D.frame k _ _ st λc hc o e=>bk s1 (λy=>Z.f1 (y▸hc)) e
 rcases hk with rfl|⟨hk,rfl⟩
 .refine oj (D.done {s with heap:=k1} _ _ iP λk2 e s2 he=>?_)
  let⟨oe,ho,hc⟩:=he;let z2:IsZip k2 z TI TO .ellipsis:=s2 _ _ Z.a3.symm z1;let ez:e≠z:=λx=>by subst x;rw[z2] at ho;cases ho;simp at hc
  exact q2q z2 (by simp) λk3 _ s3=>hE k3 e _ (λc o c1 _ c3 _ x=>bk s3 c1 (s2 _ _ c3 (bk s1 c1 x))) ⟨oe,bk s3 ez ho,hc⟩
 .refine oj (D.item k {s with heap:=k1} _ _ hk iP λx k2 t2 px jf s2=>vw ?_)
  let o2:IsPair k2 TO a b:=bk s2 Z.a8 (bk s1 Z.a2 hO);calc oj (q12 o2 Y (oj (q39 o2 λk3 o3 s3=>?_)));calc oj (q5N (vw (oj (oj (q36 ?_)))));show G _ _ (q1J (.ref j) >>= _) _ _ _;let sX:kh k k3:=D'.frame k _ _ eN λc hc o e=>bk s3 (λy=>Z.g2 (y▸hc)) (bk s2 (λy=>Z.g3 (y▸hc)) (bk s1 (λy=>Z.g1 (y▸hc)) e));calc oj (D'.done {s with heap:=k3,toks:=t2} _ _ sX λk4 e s4 he=>?_);let⟨oe,ho,hc⟩:=he;let z4:IsZip k4 z TI TO .ellipsis:=s4 _ _ Z.a4.symm (bk s3 Z.a2.symm (bk s2 Z.a3.symm z1));let ez:e≠z:=λx=>by subst x;rw[z4] at ho;cases ho;simp at hc
  calc q2q z4 (by simp) λk5 _ s5=>hE k5 e _ (λc o c1 c2 c3 c4 x=>bk s5 c1 (s4 _ _ c4 (bk s3 c2 (bk s2 c3 (bk s1 c1 x))))) ⟨oe,bk s5 ez ho,hc⟩
theorem W_{Q:Option B->L->Prop}(D:Draws prog w A.in1 i fp n P St)(D':Draws prog w A.in1 j gp m P' kh)(Z:ZG z TI TO i j fp gp)
  (hz:IsZip s.heap z TI TO .none) (hI:IsPair s.heap TI (.ref i) (.ref j)) (hO:IsPair s.heap TO a b) (st:St k s.heap) (eN:kh k s.heap) (hk:k<n) (g_:k<m)
  (hQ:∀x y h' tk,P k x->P' k y->IsZip h' z TI TO (rawInt ⇑s)->IsPair h' TO x y->St (k+1) h'->kh (k+1) h'->IsPair h' ⇑s x y →
   (∀c o,c≠z->c≠TO->c≠i->c≠j->s.heap.get? c=U o->h'.get? c=U o)->Q (U (.ref ⇑s)) {s with heap:=h',toks:=tk}):G (g prog w) A (pyNext (.ref z)) Q E s:=by
 let hT:s.TypeIs (.ref z) "zip" := ⟨_,hz,Y⟩;unfold pyNext;calc oj (q2U (q0_ (name:=q0O "__next__") hT q4i (q1e q4i hT q7k (W6 D D' Z hz hI hO st eN hk g_ λx y h' tk a1 a2 a3 a4 a5 a6 a7 a8=>vw (hQ x y h' tk a1 a2 a3 a4 a5 a6 a7 a8)) (q62 _))))
theorem Xa{Q:Option B->L->Prop}(D:Draws prog w A.in1 i fp n P St)(D':Draws prog w A.in1 j gp m P' kh)(Z:ZG z TI TO i j fp gp)
  (hz:IsZip s.heap z TI TO .none) (hI:IsPair s.heap TI (.ref i) (.ref j)) (hO:IsPair s.heap TO a b) (st:St k s.heap) (eN:kh k s.heap) (hk:k=n\/(k<n/\k=m))
  (hQ:∀h' tk,(∀c o,c≠z->c≠TO->c≠i->c≠j->s.heap.get? c=U o->h'.get? c=U o)->Q η {s with heap:=h',toks:=tk}):G (g prog w) A (pyNext (.ref z)) Q E s:=by
 let hT:s.TypeIs (.ref z) "zip" := ⟨_,hz,Y⟩;unfold pyNext;calc oj (q2U (q0_ (name:=q0O "__next__") hT q4i (q1e q4i hT q7k (W9 D D' Z hz hI hO st eN hk λh' e tk kp he=>?_) (q62 _))));let⟨o,ho,hc⟩:=he;calc oj (q4Z (T:="StopIteration") (b:=true) ⟨o,ho,hc⟩ q7R (vw (hQ _ _ kp)))
end
def dW(h:I)(t:Bool)(l:O)(xs:Array B):Prop:=match t with
 |true=>h.IsTuple l xs
 |false=>h.IsList l xs
noncomputable abbrev ja(t:Bool)(l:O)(k:Nat):u:={cls:=.type (match t with|true=>"tuple_iterator" | false=>"list_iterator"),data:=.fields #[.ref l,.int k 0]}
def fE(h:I)(t:Bool)(it l:O)(k:Nat):Prop:=match t with
 |true=>h.IsTupleIter it l k
 |false=>h.IsListIter it l k
theorem dW.lt{h:I}{t:Bool}{l:O}{xs:Array B}(x:dW h t l xs):l<h.objs.size:=by
 cases t<;>(let⟨o,e,_⟩:=x;calc Qj e)
theorem dW.at{h h':I}{t:Bool}{l:O}{xs:Array B}(x:dW h t l xs)(k:∀o,h.get? l=U o->h'.get? l=U o):dW h' t l xs:=by
 cases t with
 |true=>exact Heap.IsTuple.at x k
 |false=>calc Heap.IsList.at x k
theorem fE.at{h h':I}{t:Bool}{i l:O}{n:Nat}(x:fE h t i l n)(k:∀o,h.get? i=U o->h'.get? i=U o):fE h' t i l n:=by
 cases t with
 |true=>exact Heap.IsTupleIter.at x k
 |false=>calc Heap.IsListIter.at x k
theorem fE.obj{h:I}{t:Bool}{i l:O}{n:Nat}(x:fE h t i l n):∃o,h.get? i=U o/\∀v,o.data≠.cell v:=by
 cases t<;>(let⟨o,e,_,d⟩:=x;calc⟨o,e,λv z=>by rw[d] at z;cases z⟩)
theorem fE.new{h:I}{t:Bool}{i l:O}(e:h.get? i=U (ja t l 0)):fE h t i l 0:=by
 cases t<;>calc⟨_,e,Y,Y⟩
section
variable{prog:n}{w:Q}{A:q}{E:aJ}{s:L}
theorem zD(hh:A.handled=Z)(t:Bool)(it l:O)(fh:l≠it)(items:Array B):Draws prog w A it [it,l] items.size (λi v=>items[i]?=U v) (λi h=>fE h t it l i/\dW h t l items):=by
 cases t
 .exact Draws.list hh it l fh items
 .calc Cp hh it l fh items
theorem Me{t:Bool}{l:O}{xs:Array B}{Q:aJ}(hl:dW s.heap t l xs)(h:Q (.ref ⇑s) {s with heap:=s.heap.push (ja t l 0)}):G (g prog w) A (pyIter (.ref l)) Q E s:=by
 cases t
 .exact q2w hl h
 .calc q2P hl h
end
noncomputable abbrev zE(h:I)(t:Bool)(l:O):I:=h.push (ja t l 0)
noncomputable abbrev zF(h:I)(t u:Bool)(l m:O):I:=(zE h t l).push (ja u m 0)
noncomputable abbrev zG(h:I)(t u:Bool)(l m:O):I:=(zF h t u l m).push {cls:=.type "tuple",data:=.seq #[.ref h.objs.size,.ref (zE h t l).objs.size]}
noncomputable abbrev zH(h:I)(t u:Bool)(l m:O):I:=(zG h t u l m).push {cls:=.type "tuple",data:=.seq #[.none,.none]}
noncomputable abbrev uy(h:I)(t u:Bool)(l m:O):I:=(zH h t u l m).push {cls:=.type "zip",data:=.fields #[.none,.bool ι,.bool ι,.ref (zF h t u l m).objs.size,.ref (zG h t u l m).objs.size]}
theorem Xb(t u:Bool)(l m:O)(xs ys:Array B):
  Meets (Builtin.«zip.__new__» ⟨[.type "zip",.ref l,.ref m],[]⟩) (λ_ R s=>dW s.heap t l xs/\dW s.heap u m ys/\R (.ok (.ret (.ref (zH s.heap t u l m).objs.size))) {s with heap:=uy s.heap t u l m}) :=
 .of_wp λprog w A R s h=>by
  let⟨hp,g,d,tk,os⟩:=s;let⟨h1,h2,h⟩:=h;let Cj:=sub_zip;let e1:dW (q7r ⟨hp,g,d,tk,os⟩) t l xs:=h1;let e2:dW (q7r ⟨hp.push (ja t l 0),g,d,tk,os⟩) u m ys:=dW.at h2 λo e=>rM _ e
  wp_walk using Me e1,Me e2
  calc⟨_,Y,h⟩
section
variable{prog:n}{w:Q}{A:q}{E:aJ}{s:L}
theorem Xc{t u:Bool}{l m:O}{xs ys:Array B}{Q:aJ}(h1:dW s.heap t l xs)(h2:dW s.heap u m ys)
  (h:∀h',IsZip h' (⇑s+4) (⇑s+2) (⇑s+3) .none->IsPair h' (⇑s+2) (.ref ⇑s) (.ref (⇑s+1)) →
   IsPair h' (⇑s+3) .none .none->fE h' t ⇑s l 0->fE h' u (⇑s+1) m 0->(∀c o,s.heap.get? c=U o->h'.get? c=U o)->Q (.ref (⇑s+4)) {s with heap:=h'}) :
  G (g prog w) A (call (.type "zip") [.ref l,.ref m]) Q E s:=by
 calc callType_new F.called_zip (by decide) (F.typeCall_zip_2 _ _) (F.newCall_zip_2 _ _) (λobj=>F.args_object_init_3 obj _ _) F.entry_zip_new (Xb t u l m xs ys) ⟨h1,h2,?_⟩;let z1:(zE s.heap t l).objs.size=⇑s+1:=q1w ..;let z2:(zF s.heap t u l m).objs.size=⇑s+2:=by rw[q1w,z1]
 let z3:(zG s.heap t u l m).objs.size=⇑s+3:=by rw[q1w,z2]
 let z4:(zH s.heap t u l m).objs.size=⇑s+4:=by rw[q1w,z3]
 let q5:(uy s.heap t u l m).get? (zH s.heap t u l m).objs.size=U _:=ZI _ Y;let q4:(uy s.heap t u l m).get? (zG s.heap t u l m).objs.size=U _:=rM _ (ZI _ Y);let q3:(uy s.heap t u l m).get? (zF s.heap t u l m).objs.size=U _:=rM _ (rM _ (ZI _ Y));let q2:(uy s.heap t u l m).get? (zE s.heap t l).objs.size=U (ja u m 0):=rM _ (rM _ (rM _ (ZI _ Y)));let q1:(uy s.heap t u l m).get? ⇑s=U (ja t l 0):=rM _ (rM _ (rM _ (rM _ (ZI _ Y))));show _/\_;rw[z2,z3,z4] at q5;rw[z1,z2] at q3;rw[z3] at q4;rw[z1] at q2;rw[z4];calc⟨⟨_,q5,Y⟩,h _ q5 q3 q4 (.new q1) (.new q2) λc o x=>rM _ (rM _ (rM _ (rM _ (rM _ x))))⟩
end
end PySem
namespace L2
open PySem PySem.Spec PyProof.Rows
def ki(K:xY)(H:Hp)(t:Bool)(a:O)(xs:-V):Prop:=match t with
 |true=>bz K H a xs
 |false=>bh K H a xs
section
variable{X:Cx}{pins:au}{σ:St}{H:Hp}{s:L}
theorem Inv.sq{t:Bool}{a:O}{xs:-V}(I:Inv X pins σ H s)(h:ki X.K H t a xs):∃ah:-B,Vals xs ah/\dW s.heap t a ah.toArray:=by
 cases t
 .let⟨ah,r,p,_⟩:=I.list h;exact⟨ah,r,p.isList⟩
 .let⟨ah,r,⟨o,o1,o2,n,o3⟩,_⟩:=I.tuple h;calc⟨ah,r,o,o1,o2,n,o3⟩
theorem Inv.mD{t:Bool}{a:O}{xs ys:-V}(I:Inv X pins σ H s)(h:ki X.K H t a xs)(h':ki X.K H t a ys):xs=ys:=by
 cases t
 .exact I.fO h h'
 .calc I.eT h h'
end
noncomputable def xk(K:xY)(t u:Bool)(a b:O):It :=
 ⟨λi H=>∃xs ys x y,ki K H t a xs/\ki K H u b ys/\xs[i]?=U x/\ys[i]?=U y,
  λi H v H'=>∃T x y,v=.ref T/\H T=Z/\H'=upd H T (.tup [x,y])/\(∀xs,ki K H t a xs->xs[i]?=U x)/\∀ys,ki K H u b ys->ys[i]?=U y,
  λi H=>∃xs ys,ki K H t a xs/\ki K H u b ys/\((↑xs=i)\/(i<↑xs/\↑ys=i))⟩
structure EF(t u:Bool)(z TI TO i1 i2 l1 l2:O)(i:Nat)(h:I):Prop where
 hz:IsZip h z TI TO .none
 kO:IsPair h TI (.ref i1) (.ref i2)
 mE:∃x y,IsPair h TO x y
 h1:fE h t i1 l1 i
 h2:fE h u i2 l2 i
theorem Xd{P:n}{w:ω}{K:xY}{elts:-M}{x1}{tp:Ε}{t u:Bool}{z TI TO i1 i2 l1 l2:O}(D:ZG z TI TO i1 i2 [i1,l1] [i2,l2])(n1:l1≠i1)(n2:l2≠i2):
  Turn P w K (.Tuple elts x1 tp) (xk K t u l1 l2) [z,TI,TO,i1,i2] z (EF t u z TI TO i1 i2 l1 l2) where
 mem:=by simp
 obj:=λi h st b hb=>by
  let⟨hz,kO,⟨x,y,mE⟩,g1,g2⟩:=st;erw[My,q0j,q1q] at hb;rcases hb with rfl|rfl|rfl|rfl|rfl
  .exact⟨_,hz,λv z=>by cases z⟩
  .exact⟨_,kO,λv z=>by cases z⟩
  .exact⟨_,mE,λv z=>by cases z⟩
  .exact g1.obj
  .exact g2.obj
 keep:=λi h h' st k=>by
  let⟨hz,kO,⟨x,y,mE⟩,g1,g2⟩:=st;exact⟨k z (by simp) _ hz,k TI (by simp) _ kO,⟨x,y,k TO (by simp) _ mE⟩,g1.at λo q=>k i1 (by simp) o q,g2.at λo q=>k i2 (by simp) o q⟩
 item:=by
  ext X hP hw hK hc i pins s σ H E I hf st hg;subst hP hw hK;let⟨hz,kO,⟨a,b,mE⟩,g1,g2⟩:=id st;let⟨xs,ys,x,y,uz,uA,hx,hy⟩:=hg;let⟨ah,rv,p⟩:=I.sq uz;let⟨bf,xm,p2⟩:=I.sq uA;let hh:X.A.in1.handled=Z:=by rw[q2O];exact I.ok.hd hc
  let lx:=(tU.mp hx).1;let ly:=(tU.mp hy).1;calc W_ (zD hh t i1 l1 n1 ah.toArray) (zD hh u i2 l2 n2 bf.toArray) D hz kO mE ⟨g1,p⟩ ⟨g2,p2⟩ (by rw[HW,<-↑rv];calc lx) (by rw[HW,<-↑xm];calc ly) λcu cv k1 tk pu pv z1 t1 a1 a2 Xe zI=>⟨_,Y,?_⟩;let⟨u',hu,ru⟩:=rv.get hx;let⟨v',hv,Xf⟩:=xm.get hy;let pu:ah[i]?=U cu:=by simpa using pu
  let pv:bf[i]?=U cv:=by simpa using pv
  rw[hu] at pu;rw[hv] at pv;obtain rfl:=q0A pu;obtain rfl:=q0A pv;calc wpAny_letOwnedTupleGo_zip z1 λk2 z2 dZ=>?_;let Xg:⇑s≠z:=q1B (Qj hz);let Xh:IsPair k2 ⇑s u' v':=(dZ.2 _ Xg).trans Xe
  let Xi:∀b o,b∉[z,TI,TO,i1,i2]->s.heap.get? b=U o->k2.get? b=U o:=λb o hb q=>by
   erw[My,q0j,q1q,q5A] at hb;exact(dZ.2 _ hb.1).trans (zI b o hb.1 hb.2.2.1 hb.2.2.2.1 hb.2.2.2.2 q)
  let hn:H ⇑s=Z:=I.aF.fresh (BA _);refine⟨.ref ⇑s,upd H ⇑s (.tup [x,y]),I.fQ (ch:=[z,TI,TO,i1,i2]) (t':=tk) hf Xi (BA _) ?_,Y,⟨_,x,y,Y,hn,Y,λzs hy=>by rw[I.mD hy uz];calc hx,λzs uq=>by rw[I.mD uq uA];calc hy⟩,⟨z2,?_,⟨u',v',(dZ.2 _ D.a2).trans t1⟩,a1.1.at λo q=>(dZ.2 _ D.a3).trans q,a2.1.at λo q=>(dZ.2 _ D.a4).trans q⟩,λb hb=>?_⟩
  .exact⟨by show 2<=sizeLine;decide,[u',v'],.cons ru (.cons Xf .nil),_,Xh,Y,_,Y⟩
  .exact (dZ.2 _ D.a1).trans (zI TI _ D.a1 D.a5 D.a6 D.a7 kO)
  .let:b<⇑s:=by
    let⟨o1,q1,_⟩:=g1.obj;let⟨o2,q2,_⟩:=g2.obj;erw[My,q0j,q1q] at hb;rcases hb with rfl|rfl|rfl|rfl|rfl
    .exact Qj hz
    .exact Qj kO
    .exact Qj mE
    .exact Qj q1
    .exact Qj q2
   rw[aA (ZN this)];exact(hf b hb).1
 done:=by
  ext X hP hw hK hc i pins s σ H E I hf st hg;subst hP hw hK;let⟨hz,kO,⟨a,b,mE⟩,g1,g2⟩:=id st;let⟨xs,ys,uz,uA,hx⟩:=hg;let⟨ah,rv,p⟩:=I.sq uz;let⟨bf,xm,p2⟩:=I.sq uA;let hh:X.A.in1.handled=Z:=by rw[q2O];exact I.ok.hd hc
  let hl:=↑rv;let tT:=↑xm;refine Xa (zD hh t i1 l1 n1 ah.toArray) (zD hh u i2 l2 n2 bf.toArray) D hz kO mE ⟨g1,p⟩ ⟨g2,p2⟩ ?_ λk1 tk zI=>⟨Y,I.jS (t':=tk) (ch:=[z,TI,TO,i1,i2]) hf λb o hb q=>?_⟩
  .rw[HW,HW];symm
  .erw[My,q0j,q1q,q5A] at hb
   exact zI b o hb.1 hb.2.2.1 hb.2.2.2.1 hb.2.2.2.2 q
 self:=λA i s Q E st h=>q7l st.hz h
theorem Xj(n l1 l2:Nat)(q1:l1<n)(q2:l2<n):ZG (n+4) (n+2) (n+3) n (n+1) [n,l1] [n+1,l2]:=by
 constructor<;>first|(show @Ne Nat _ _;symm)|(ext h;erw[My,q0j,q1q] at h;rcases h with h|h<;>(let h:(_:Nat)=_:=h;symm))
section
variable{X:Cx}{elts:-M}{x1:Nat}{tp:y}
def Xk(K:xY)(ta:TA):TI:=fun σ H R=>ta σ H λvs H1=>∃a b t u,vs=[.ref a,.ref b]/\(∃xs,ki K H1 t a xs)/\(∃ys,ki K H1 u b ys)/\R (xk K t u a b) H1
theorem Xl{a b:M}{ta:TA}{p pos:y}(hg:Gl X "zip")(hm:X.mg "zip" = Z)(ha:JA X [a,b] ta)(hs:starEach [a,b] X.env=[(ι,eval a X.env),(ι,eval b X.env)]:=by rfl)(dZ:starEach [b] X.env=[(ι,eval b X.env)]:=by rfl):
  JI X (.Tuple elts x1 tp) (.Call (.Name "zip" p) [a,b] [] pos) (Xk X.K ta):=by
 calc⟨λpins s σ H R I h=>?_⟩;calc Call_ (nW I hg hm QG (q1C (a_ (ha pos pins s σ H _ I h) λus s1 h0_=>el5 h0_ λvs H1 I1 r1 q1=>?_) (by rw[hs,dZ]) (by rw[dZ];rfl)));let⟨l1,l2,t,u,e,⟨xs,uz⟩,⟨ys,uA⟩,q⟩:=q1;subst e
 cases r1 with
 |cons r rr =>
  cases rr with
  |cons r' Xm =>
   cases Xm
   cases r
   cases r'
   let⟨ah,rv,p⟩:=I1.sq uz;let⟨bf,xm,p2⟩:=I1.sq uA;let b1:l1<⇑s1:=p.lt;let b2:l2<⇑s1:=p2.lt;calc Xc p p2 λh' hz kO mE vG oN hk=>?_;let I2:Inv X pins σ H1 {s1 with heap:=h'}:=I1.kept (t':=s1.toks) hk;let D:=Xj ⇑s1 l1 l2 b1 b2;calc q7l hz ?_;refine⟨_,_,_,_,H1,Y,I2,Xd D (ZN b1) (ZN (q00 b2)),⟨hz,kO,⟨_,_,mE⟩,vG,oN⟩,λb hb=>?_,q⟩
   let hb':⇑s1<=b:=by
    erw[My,q0j,q1q] at hb;rcases hb with rfl|rfl|rfl|rfl|rfl
    .exact q1_ _ _
    .exact q1_ _ _
    .exact q1_ _ _
    .exact BA _
    .exact q1_ _ _
   calc I1.gH hb' (I1.aF.fresh hb')
end
section
variable[aC]{X:Cx}{a b:M}{fa:WA}
def zJ(fa:WA):WI:=fun δ K=>fa δ λxs δ1=>match xs with
 |[x,y]=>lQ x δ1 λi=>lQ y δ1 λj=>K ⟨cG i.items j.items,fun δ'=>i.bw δ'/\j.bw δ'⟩ δ1
 |_=>False
theorem Mf{F H:Hp}{ad:-O}{δ:ay}{σ:St}{x:DV}{v:V}{K0:xY}{K:qr->Prop}(S:SR F ad δ σ H)(hv:eg F ad x v)(h:lQ x δ K):∃a it t,v=.ref a/\K it/\(∃xs,ki K0 H t a xs) ∧
  ∀(F':Hp)(ax:-O)(δ':ay)(σ':St)(H':Hp),av F F'->(∀(k:Nat)(a:O),ad[k]?=U a->ax[k]?=U a)->SR F' ax δ' σ' H'->it.bw δ'->∃ws,ki K0 H' t a ws/\ae F' it.items ws:=by
 let⟨a,it,e,hk,r⟩:=Cw S hv h;rcases r with⟨⟨vs,e1⟩,r⟩|⟨⟨vs,e1⟩,r⟩
 .exact⟨a,it,ι,e,hk,⟨vs,bh.of e1⟩,λF' ax δ' σ' H' s pre S' ck=>let⟨ws,q1,q2⟩:=r F' ax δ' σ' H' s pre S' ck;⟨ws,bh.of q1,q2⟩⟩
 .calc⟨a,it,θ,e,hk,⟨vs,bz.of e1⟩,λF' ax δ' σ' H' s pre S' ck=>let⟨ws,q1,q2⟩:=r F' ax δ' σ' H' s pre S' ck;⟨ws,bz.of q1,q2⟩⟩
theorem Xn{elts:-M}{x1:Nat}{tp p pos:Ε}(hg:Gl X "zip")(hm:X.mg "zip" = Z)(ha:JA X [a,b] (bM fa))(hs:starEach [a,b] X.env=[(ι,eval a X.env),(ι,eval b X.env)]:=by rfl)(dZ:starEach [b] X.env=[(ι,eval b X.env)]:=by rfl):
  JI X (.Tuple elts x1 tp) (.Call (.Name "zip" p) [a,b] [] pos) (jC (zJ fa)):=(Xl hg hm ha hs dZ).weak fun σ H R h0_=>el7 h0_ λF ad δ K S q k =>⟨F,ad,δ,_,S,q,λxs δ1 h1 vs F1 aN H1 E1 S1 V1=>by
 match xs,h1,V1 with
 |[x,y],g1,⟨v,r,e,W1,w,r2,e2,W2,W3⟩ =>
  subst e;subst e2;let W4:r2=[]:=W3;subst W4;let⟨a,it,t,rfl,yU,tJ,r⟩:=Mf (K0:=X.K) S1 W1 g1;let⟨b,jt,u,rfl,hk,dZ,r'⟩:=Mf (K0:=X.K) S1 W2 yU;calc⟨a,b,t,u,Y,tJ,dZ,k _ _ hk _ _ _ _ E1 S1 λF' ax δ' σ' H' s pre S' ck=>?_⟩;let⟨ws,e1,e2⟩:=r F' ax δ' σ' H' s pre S' ck.1;let⟨zs,e3,e4⟩:=r' F' ax δ' σ' H' s pre S' ck.2;refine⟨⟨ws,zs,e1,e3,?_⟩,λi d ed=>?_⟩
  .rw[↑e2,↑e4,yz];symm
  .let⟨d1,d2,Xo,Xp,rfl⟩:=Jw ed
   let⟨w1,f1,g1⟩:=qv e2 Xo;let⟨w2,f2,g2⟩:=qv e4 Xp;calc⟨⟨ws,zs,w1,w2,e1,e3,f1,f2⟩,λy kF ⟨T,v1,v2,ey,hT,eh,Xq,Xr⟩=>?_⟩;subst eh ey;let q1:=Xq ws e1;let q2:=Xr zs e3;rw[f1] at q1;cases q1;rw[f2] at q2;cases q2;exact⟨bL hT,Cy S'.sub hT g1 g2⟩
 |[],h1,_=>exact h1.elim
 |[_],h1,_=>exact h1.elim
 |_::_::_::_,h1,_=>calc h1.elim⟩
end
end L2
namespace LJT
open PySem L2 LJ
variable[aC]
mutual
noncomputable def kP:D->Bool
 |.lst ds=>J (↑ds<=1000)&&jc ds
 |.tup ds=>J (↑ds<=1000)&&jc ds
 |_=>θ
noncomputable def jc:-D->Bool
 |[]=>θ
 |d::r=>kP d&&jc r
end
theorem gZ:∀{ds:-D},jc ds=θ->∀d∈ds,kP d=θ
 |[],_,d,h=>nomatch h
 |a::r,hn,d,h=>by
  erw[jc,q0k] at hn;rcases My.mp h with rfl|h
  .exact hn.1
  .calc gZ hn.2 d h
def aK(n:Nat):GD:=λys ovs K=>∃d,dep d<=n/\n<=50/\kP d=θ/\ys=[.p d,.p d]/\ovs=[]/\K (.p (.bl θ)) []
def aB(EG:GD):WS:=(ak (bc (dT (d2 (aa 1) (dC .non) lX)) (aE (d2 (aa 0) (dC .non) lX)) cE) (ak (bc (iY (dT (d1 (aa 1) (bB "bool"))) (dT (d1 (aa 0) (bB "bool")))) (aE (jz (d1 (aa 1) (bB "bool")) (jz (d1 (aa 0) (bB "bool")) (d2 (aa 0) (aa 1) oEq)))) cE) (ak (bc (dT (d1 (aa 1) (bB "int"))) (aE (jz (d1 (aa 0) (bB "int")) (d2 (aa 0) (aa 1) oEq))) cE) (ak (bc (dT (d1 (aa 1) (bB "str"))) (aE (jz (d1 (aa 0) (bB "str")) (d2 (aa 0) (aa 1) oEq))) cE) (ak (bc (iY (dT (d2 (d1 (aa 1) (bB "tuple")) (d1 (aa 0) (bB "tuple")) lU)) (dT (d2 (d1 (aa 1) (bB "list")) (d1 (aa 0) (bB "list")) lU))) (aE (dC (.bl ι))) cE) (ak (bc (dT (d2 (dN (ag (aa 0) af) bE) (dN (ag (aa 1) af) bE) lU)) (aE (dC (.bl ι))) cE) (aE (d2 (dC (.bl ι)) (e_ (zJ (ag (aa 0) (ag (aa 1) af))) [Z,Z] (iz 2 (eA (br 0) (eA (br 1) hU))) cF (ar 2 EG (ag (aa 0) (ag (aa 1) af)))) (qA θ)))))))))
def iH(g:Nat->GD):Nat->GD
 |0=>λ_ _ _=>False
 |n+1=>g n
theorem Xs(g:GD){K':RV->-OV->Prop}(k:K' (.p (.bl θ)) []):aB g (gO 0 K') ⟨[U (.p .non),U (.p .non)],[]⟩:=by
 unfold aB;calc aI λN hN=>?_;simp![bA,oV,oW,oX,oY,oZ,aw];calc cM k
theorem Xt(g:GD){K':RV->-OV->Prop}(b:Bool)(k:K' (.p (.bl θ)) []):aB g (gO 0 K') ⟨[U (.p (.bl b)),U (.p (.bl b))],[]⟩:=by
 unfold aB;calc aI λN hN=>?_;simp![bA,nq,nv,ny,nA,nB,f6];subst hN;calc aI λN hN=>?_;simp![bA,nq,nv,ny,nA,nB,f6];calc cM k
theorem same_int(g:GD){K':RV->-OV->Prop}(b:Int)(k:K' (.p (.bl θ)) []):aB g (gO 0 K') ⟨[U (.p (.int b)),U (.p (.int b))],[]⟩:=by
 unfold aB;calc aI λN hN=>?_;simp![bA,l6,l7,l8,l9,l_,f6];subst hN;calc aI λN hN=>?_;simp![bA,l6,l7,l8,l9,l_,f6];subst hN;calc aI λN hN=>?_;simp![bA,l6,l7,l8,l9,l_,f6];calc cM k
theorem same_str(g:GD){K':RV->-OV->Prop}(b:R)(k:K' (.p (.bl θ)) []):aB g (gO 0 K') ⟨[U (.p (.str b)),U (.p (.str b))],[]⟩:=by
 unfold aB;calc aI λN hN=>?_;simp![bA,kI,kJ,kK,kM,kN,f6];subst hN;calc aI λN hN=>?_;simp![bA,kI,kJ,kK,kM,kN,f6];subst hN;calc aI λN hN=>?_;simp![bA,kI,kJ,kK,kM,kN,f6];subst hN;calc aI λN hN=>?_;simp![bA,kI,kJ,kK,kM,kN,f6];calc cM k
theorem Xu{n:Nat}{K':RV->-OV->Prop}{ds:-D}(hd:dep (.lst ds)<=n)(hn:n<=50)(nd:kP (.lst ds)=θ)(k:K' (.p (.bl θ)) []):aB (iH aK n) (gO 0 K') ⟨[U (.p (.lst ds)),U (.p (.lst ds))],[]⟩:=by
 unfold aB;calc aI λN hN=>?_;simp![bA,oV,oW,oX,oY,oZ,nq,nv,ny,nA,nB,l6,l7,l8,l9,l_,kI,kJ,kK,kM,kN,o8,o9,o_,pd,pf,ph,pA,pB,pC,pD];subst hN;calc aI λN hN=>?_;simp![bA,oV,oW,oX,oY,oZ,nq,nv,ny,nA,nB,l6,l7,l8,l9,l_,kI,kJ,kK,kM,kN,o8,o9,o_,pd,pf,ph,pA,pB,pC,pD];subst hN;calc aI λN hN=>?_;simp![bA,oV,oW,oX,oY,oZ,nq,nv,ny,nA,nB,l6,l7,l8,l9,l_,kI,kJ,kK,kM,kN,o8,o9,o_,pd,pf,ph,pA,pB,pC,pD];subst hN;calc aI λN hN=>?_;simp![bA,oV,oW,oX,oY,oZ,nq,nv,ny,nA,nB,l6,l7,l8,l9,l_,kI,kJ,kK,kM,kN,o8,o9,o_,pd,pf,ph,pA,pB,pC,pD];subst hN;calc aI λN hN=>?_;simp![bA,ph,pA,pB,pC,pD]
 subst hN;erw[f6,q1b,q0a,q0X];calc aI λN hN=>?_;simp![f6];subst hN;let⟨m,rfl⟩:∃m,n=m+1:=⟨n-1,by erw[dep] at hd;symm⟩;let EH:aZ ds<=m:=by erw[dep] at hd;symm
 let EJ:jc ds=θ:=by erw[kP,q0k] at nd;exact nd.2
 let xn:↑ds<=1000:=by erw[kP,q0k,q1D] at nd;exact nd.1
 let zl:↑(cG ds ds)<=1000:=by rw[yz];symm
 simp![zJ];refine L2.jF (λd=>.bl θ) zl trivial ?_ ?_
 .ext d uT acc L ha h
  let⟨a,rfl,ma⟩:=DC uT;simp!;calc⟨a,q0Q (DB ma) EH,⋯,gZ EJ a ma,Y,Y,?_⟩;simp!;exact⟨ha,h⟩
 .simp!
  let e1:((cG ds ds).map λ_=>D.bl θ).any (λe=>aw e (.bl ι))=ι:=by
   rw[q2e];ext x hx;let⟨_,_,rfl⟩:=q0t.mp hx;simp[aw]
  let e2:aZ ((cG ds ds).map λ_=>D.bl θ)<=55:=DD _;calc⟨e2,by rw[e1];calc cM k⟩
theorem mF{n:Nat}{K':RV->-OV->Prop}{ds:-D}(hd:dep (.tup ds)<=n)(hn:n<=50)(nd:kP (.tup ds)=θ)(k:K' (.p (.bl θ)) []):aB (iH aK n) (gO 0 K') ⟨[U (.p (.tup ds)),U (.p (.tup ds))],[]⟩:=by
 unfold aB;calc aI λN hN=>?_;simp![bA,oV,oW,oX,oY,oZ,nq,nv,ny,nA,nB,l6,l7,l8,l9,l_,kI,kJ,kK,kM,kN,o8,o9,o_,pd,pf,ph,pA,pB,pC,pD];subst hN;calc aI λN hN=>?_;simp![bA,oV,oW,oX,oY,oZ,nq,nv,ny,nA,nB,l6,l7,l8,l9,l_,kI,kJ,kK,kM,kN,o8,o9,o_,pd,pf,ph,pA,pB,pC,pD];subst hN;calc aI λN hN=>?_;simp![bA,oV,oW,oX,oY,oZ,nq,nv,ny,nA,nB,l6,l7,l8,l9,l_,kI,kJ,kK,kM,kN,o8,o9,o_,pd,pf,ph,pA,pB,pC,pD];subst hN;calc aI λN hN=>?_;simp![bA,oV,oW,oX,oY,oZ,nq,nv,ny,nA,nB,l6,l7,l8,l9,l_,kI,kJ,kK,kM,kN,o8,o9,o_,pd,pf,ph,pA,pB,pC,pD];subst hN;calc aI λN hN=>?_;simp![bA,o8,o9,o_,pd,pf]
 subst hN;erw[f6,q1b,q0a,q0X];calc aI λN hN=>?_;simp![f6];subst hN;let⟨m,rfl⟩:∃m,n=m+1:=⟨n-1,by erw[dep] at hd;symm⟩;let EH:aZ ds<=m:=by erw[dep] at hd;symm
 let EJ:jc ds=θ:=by erw[kP,q0k] at nd;exact nd.2
 let xn:↑ds<=1000:=by erw[kP,q0k,q1D] at nd;exact nd.1
 let zl:↑(cG ds ds)<=1000:=by rw[yz];symm
 simp![zJ];refine L2.jF (λd=>.bl θ) zl trivial ?_ ?_
 .ext d uT acc L ha h
  let⟨a,rfl,ma⟩:=DC uT;simp!;calc⟨a,q0Q (DB ma) EH,⋯,gZ EJ a ma,Y,Y,?_⟩;simp!;exact⟨ha,h⟩
 .simp!
  let e1:((cG ds ds).map λ_=>D.bl θ).any (λe=>aw e (.bl ι))=ι:=by
   rw[q2e];ext x hx;let⟨_,_,rfl⟩:=q0t.mp hx;simp[aw]
  let e2:aZ ((cG ds ds).map λ_=>D.bl θ)<=55:=DD _;calc⟨e2,by rw[e1];calc cM k⟩
theorem fX(n:Nat):Sem 2 0 (aK n) (aB (iH aK n)):=by
 ext ys ovs K'-⟨d,hd,hn,nd,rfl,rfl,k⟩
 .cases d with
  |tup ds=>exact mF hd hn nd k
  |non=>exact Xs _ k
  |bl b=>exact Xt _ b k
  |int b=>exact same_int _ b k
  |str b=>exact same_str _ b k
  |lst ds=>calc Xu hd hn nd k
end LJT
namespace LJ
open PySem L2
variable[aC]
theorem Xv{ds:-D}{t:Nat}(h:t<=↑ds):cutD ds (U (t:Int)) Z=ds.drop t:=by
 unfold cutD;rw[HT.qd ↑ds 0 t,HT.Bf,q7H h,q04 (by rw[q06];symm)]
theorem Mg{ds:-D}{t:Nat}(h:t<=↑ds):cutD ds Z (U (t:Int))=ds.take t:=by
 unfold cutD;rw[HT.Bf,HT.qd ↑ds ↑ds t,q7H h,q3F,q5a]
end LJ
namespace L2
open PySem PySem.Spec PyProof.Rows
mutual
noncomputable def mG:D->PyData
 |.non=>.none
 |.bl b=>.bool b
 |.int i=>.int i
 |.str x=>.str x
 |.tup ds=>.tuple (cg ds)
 |.lst ds=>.list (cg ds)
noncomputable def cg:-D->-PyData
 |[]=>[]
 |d::r=>mG d::cg r
end
noncomputable def rep(d:D):R:=(mG d).shown
def zK(d:D):Prop:=(mG d).showable=θ/\(mG d).depth<=8/\↑(rep d)<=sizeLine
def sY:-D->(D->Prop)->Prop
 |[d],K=>zK d/\K (.str (rep d))
 |_,_=>False
mutual
theorem EK:∀d:D,(mG d).hasDict=ι
 |.non=>Y
 |.bl _=>Y
 |.int _=>Y
 |.str _=>Y
 |.tup ds=>by erw[mG,q8a];exact EL ds
 |.lst ds=>by erw[mG,q8a];calc EL ds
theorem EL:∀ds:-D,q63 (cg ds)=ι
 |[]=>Y
 |d::r=>by erw[cg,q63,EK d,EL r];rfl
end
variable[aC]{X:Cx}{pins:au}{σ:St}{F H:Hp}{s:L}
mutual
theorem Mh (I:Inv X pins σ H s) (sub:av F H):∀{d:D}{v:V}{u:B},Is F d v->RelV v u->∃as,Reads s.heap u (mG d) as
 |.non,_,_,h,r=>by cases(show _=V.non from h);cases r;exact⟨_,.none⟩
 |.bl b,_,_,h,r=>by cases(show _=V.bl b from h);cases r;exact⟨_,.bool b⟩
 |.int i,_,_,h,r=>by cases(show _=V.int i from h);let⟨t,rfl⟩:=r;exact⟨_,.int i t⟩
 |.str x,_,_,h,r=>by cases(show _=V.str x from h);let⟨t,rfl⟩:=r;exact⟨_,.str x t⟩
 |.tup ds,_,_,h,r=>by
  erw[Is] at h;let⟨a,vs,rfl,h1,h2⟩:=h;cases r
  let⟨_,ah,q,o,e1,e2,n,e3⟩:=(show az X.prog X.w H s.heap a (.tup vs) from I.aF a _ (sub _ _ h1));let⟨as,ra⟩:=EM I sub h2 q;exact⟨as,.tuple e1 e2 e3 ra⁻¹⟩
 |.lst ds,_,_,h,r=>by
  erw[Is] at h;let⟨a,vs,rfl,h1,h2⟩:=h;cases r
  let⟨_,ah,n,q,e1⟩:=(show az X.prog X.w H s.heap a (.lst vs) from I.aF a _ (sub _ _ h1));let⟨as,ra⟩:=EM I sub h2 q;calc⟨_,.list e1 Y Y ra⁻¹⟩
theorem EM (I:Inv X pins σ H s) (sub:av F H):∀{ds:-D}{vs:-V}{us:-B},ae F ds vs->Vals vs us->∃as,ReadsAll s.heap us (cg ds) as
 |[],_,_,h,r=>by erw[ae] at h;subst h;cases r;exact⟨_,.nil⟩
 |d::ds,_,_,h,r=>by
  erw[ae] at h;let⟨v,t,rfl,h1,h2⟩:=h
  cases r with
  |cons r1 r2 =>
   let⟨as,a1⟩:=Mh I sub h1 r1;let⟨bs,b1⟩:=EM I sub h2 r2;calc⟨_,.cons a1 b1⟩
end
theorem Xw(hg:X.A.guards=U [])(hu:X.A.units+64<cLine):cW X (.builtin "repr") sY:=by
 ext pins s σ H xs us Q I r ⟨F,ds,K,sub,rd,q,md⟩;unfold sY at q;split at q
 .rename_i d
  let⟨⟨h1,h2,h3⟩,q⟩:=q;let⟨v,rfl,hv⟩:=cB rd;let⟨u,rfl,rx⟩:=vals1 r;let hv:=gA.is sub hv;let⟨as,ra⟩:=Mh I (λ_ _ e=>e) hv rx;let fin:∀t (s':L),Inv X pins σ H s'->∃v' H',Inv X pins σ H' s'/\RelV v' (.str (rep d) t)/\Q v' H':=λt s' J=>⟨.str (rep d),H,J,⟨_,Y⟩,md _ _ _ q (λ_ _ e=>e) Y⟩;unfold rep at h3
  cases d with
  |non=>cases(show v=V.non from hv);cases rx;exact PySem.P.repr_of_none (fin _ _ (I.tok _))
  |bl b=>cases(show v=V.bl b from hv);cases rx;exact PySem.P.repr_of_bool (fin _ _ (I.tok _))
  |int i=>cases(show v=V.int i from hv);let⟨t,rfl⟩:=rx;exact PySem.P.repr_of_int (by simpa[mG,PyData.showable] using h1) (fin _ _ (I.tok _))
  |str x=>cases(show v=V.str x from hv);let⟨t,rfl⟩:=rx;exact PySem.P.repr_of_str (hsz:=h3) (fin _ _ (I.tok _))
  |tup ds =>
   erw[Is] at hv;let⟨a,vs,rfl,_,_⟩:=hv;cases rx
   exact q8b (hsz:=h3) ra h1 (λz=>by rw[EK] at z;cases z) hg ⋯ (λ_ _ e=>e) λh' u tk k=>fin _ _ (I.kept k)
  |lst ds =>
   erw[Is] at hv;let⟨a,vs,rfl,_,_⟩:=hv;cases rx
   exact q8b (hsz:=h3) ra h1 (λz=>by rw[EK] at z;cases z) hg ⋯ (λ_ _ e=>e) λh' u tk k=>fin _ _ (I.kept k)
 .calc q.elim
end L2
namespace LJ
open PySem L2
theorem Xx:bootBuiltins "repr" = U (.builtin "repr"):=by decide +kernel
def Rp(d:D):Prop:=(mG d).showable=θ/\(mG d).depth<=5/\↑(rep d)<=100
theorem xo{i:Int}(h:i.natAbs<10 ^ 30):Rp (.int i):=by
 refine⟨?_,q0u _,?_⟩
 .show J (i.natAbs.log2<1920)=θ
  refine q0c ?_
  by_cases z:i.natAbs=0
  .rw[z];decide
  .exact (Nat.log2_lt z).mpr (q0f h (by decide))
 .show ↑(q0O (toString i))<=100
  rw[ofString_length];let:=int_text_length_le10 (k:=30) (by decide) h;symm
theorem EN:∀ds:-D,↑(cg ds)=↑ds
 |[]=>Y
 |_::r=>by erw[cg,HY,EN r]
theorem EO:∀{ds:-D},(∀d∈ds,Rp d)->q6x (cg ds)=θ
 |[],_=>Y
 |d::r,h=>by
  erw[cg,q6x,q0k];calc⟨(h d Qk).1,EO λe he=>h e (Qm _ he)⟩
theorem ER:∀{ds:-D},(∀d∈ds,Rp d)->q4j (cg ds)<=5
 |[],_=>q0u _
 |d::r,h=>by
  erw[cg,q4j];let:=(h d Qk).2.1;let:=ER λe he=>h e (Qm _ he);symm
theorem ES:∀{ds:-D},(∀d∈ds,Rp d)->∀t∈q16 (cg ds),↑t<=100
 |[],_,t,ht=>by simp[cg,q16] at ht
 |d::r,h,t,ht=>by
  erw[cg,q16] at ht;rcases My.mp ht with rfl|ht
  .exact (h d Qk).2.2
  .calc ES (λe he=>h e (Qm _ he)) t ht
theorem EU:∀ds:-PyData,↑(q16 ds)=↑ds
 |[]=>Y
 |_::r=>by erw[q16,HY,EU r]
theorem Mi:∀(ts:-R)(k:Nat)(acc:R),(∀t∈ts,↑t<=100)->↑(textFrom k acc ts)<=↑acc+102*↑ts
 |[],k,acc,_=>by show ↑acc<=_;symm
 |t::r,k,acc,h=>by
  let ih:=Mi r (k+1) (acc++(if k>0 then ", " else "" : String)++t) λe he=>h e (Qm _ he);let h1:=h t Qk
  let e:↑(acc++(if k>0 then ", " else "" : String)++t)<=↑acc+2+↑t:=by
   rw[q20,q20];split
   .let:↑(q0O ", ")=2:=by decide +kernel
    symm
   .let:↑(q0O "")=0:=by decide +kernel
    symm
  show↑(textFrom (k+1) _ r)<=_;rw[HY];symm
theorem Mj:∀ts:-R,(∀t∈ts,↑t<=100)->piled ts<=102*↑ts
 |[],_=>q0u _
 |t::r,h=>by
  let ih:=Mj r λe he=>h e (Qm _ he);let h1:=h t Qk;let e:piled (t::r)=↑t+2+piled r:=by simp[piled]
  rw[e,HY];symm
theorem Xy{ds:-D}(h:∀d∈ds,Rp d)(hl:↑ds<=300):zK (.lst ds):=by
 let e1:=EO h;let e2:=ER h;calc⟨e1,by show q4j (cg ds)+1<=8;symm,?_⟩;show↑(listText (q16 (cg ds)))<=2 ^ 24;unfold listText;rw[q20]
 let:=Mi _ 0 "[" (ES h)
 let a1:↑(q0O "[")=1:=by decide +kernel
 let a2:↑(q0O "]")=1:=by decide +kernel
 rw[EU,EN] at this;symm
theorem Xz{ds:-D}(h:∀d∈ds,Rp d)(hl:↑ds<=300):zK (.tup ds):=by
 let e1:=EO h;let e2:=ER h;calc⟨e1,by show q4j (cg ds)+1<=8;symm,?_⟩;show↑(tupleText (q16 (cg ds)))<=2 ^ 24;let el:↑(q16 (cg ds))=↑ds:=by rw[EU,EN]
 let hp:=Mj _ (ES h);generalize q16 (cg ds)=ts at el hp;unfold tupleText;rw[q20,q20]
 let a1:↑(q0O "(")=1:=by decide +kernel
 let a2:↑(q0O (if ↑ts==1 then ",)" else ")"))<=2:=by split<;>decide +kernel
 let a3:↑(Str.join ", " ts)<=102*↑ts:=by
  cases ts with
  |nil=>decide +kernel
  |cons t r=>let:=join_length_add (t::r) (by simp);symm
 let e:↑((if ↑ts==1 then ",)" else ")" : String):R)=↑(q0O (if ↑ts==1 then ",)" else ")")):=Y
 symm
theorem EV{m:Int}{ws:-(Int×Int×Int)}(h:gK m ws):cb (aU m ws)=θ:=by
 show(dS (.int m) 1 12&&nk m (.tup (ws.map b_)))=θ
 let h1:dS (.int m) 1 12=θ:=by
  show(J (1<=m)&&J (m<=12))=θ;rw[q0c h.m1,q0c h.mZ];rfl
 rw[h1,q3m];show(J (↑(ws.map b_)<=30)&&((ws.map b_).all (bD m)&&J (((ws.map b_).map pairOf).Nodup)))=θ
 let h2:(ws.map b_).all (bD m)=θ:=by
  calc q0T.mpr λd hd=>?_;let⟨y,hy,rfl⟩:=q0t.mp hd;let⟨a,b,c,d,e⟩:=h.ends y hy;show(((J (0<=y.1)&&J (y.1<=m-1))&&(J (y.1+1<=y.2.1)&&J (y.2.1<=m-1)))&&(J (0<=y.2.2)&&J (y.2.2<=1000000000)))=θ;rw[q0c a,q0c (by symm:y.1<=m-1),q0c (by symm:y.1+1<=y.2.1),q0c (by symm:y.2.1<=m-1),q0c d,q0c e];rfl
 let h3:(ws.map b_).map pairOf=ws.map λy=>(y.1,y.2.1):=by rw[q0D];rfl
 rw[h2,h3,q0c h.unlike,rO,q0c h.kr];rfl
variable[aC]
noncomputable def XA:D->Int
 |.tup [.int m,_]=>m
 |_=>0
noncomputable def pO:D->-Wy
 |.tup [_,.tup us]=>us.map mB
 |_=>[]
theorem EW(m:Int)(ws:-Wy):pO (aU m ws)=ws:=by
 show(ws.map b_).map mB=ws;rw[q0D]
 conv=>rhs;rw[<-q3a ws]
 calc q1d λy _=>Y
noncomputable def mH(dw d:D):D:=if cb dw=θ then match iO ↑(pO dw) d with
 |some p=>.lst [.str "way",.int p]
 |none=>.non
 else .lst [.str "web"]
noncomputable def fF(dw d:D):D:=if cb dw=θ then match iO ↑(pO dw) d with
 |some p=>.lst [.str "way",.int p]
 |none=>match d with
  |.lst ds=>match nK (XA dw) (pO dw) (ds.map intOf) with
   |some i=>.lst [.str "join",.int (i:Nat)]
   |none=>.lst [.str "told"]
  |_=>.non
 else .lst [.str "web"]
theorem Ml{dw d:D}(h:cb dw=ι):fF dw d=.lst [.str "web"]:=by unfold fF;rw[h];rfl
theorem Mm{dw d:D}(h:cb dw=ι):mH dw d=.lst [.str "web"]:=by unfold mH;rw[h];rfl
theorem Mn{m:Int}{ws:-Wy}(W:gK m ws){d:D}{p:Int}(h:iO ↑ws d=U p):fF (aU m ws) d=.lst [.str "way",.int p]:=by
 unfold fF;rw[EV W,EW,h];rfl
theorem Mo{m:Int}{ws:-Wy}(W:gK m ws){d:D}:mH (aU m ws) d=match iO ↑ws d with
 |some p=>.lst [.str "way",.int p]
 |none=>.non:=by
 unfold mH;rw[EV W,EW];rfl
theorem EX{m:Int}{ws:-Wy}(W:gK m ws){us:-Int}(h:iO ↑ws (cP us)=Z):fF (aU m ws) (cP us)=match nK m ws us with
  |some i=>.lst [.str "join",.int (i:Nat)]
  |none=>.lst [.str "told"]:=by
 unfold fF;rw[EV W,EW,h]
 show(match nK m ws ((us.map D.int).map intOf) with
  |some i=>D.lst [.str "join",.int (i:Nat)]
  |none=>.lst [.str "told"])=_
 let e:(us.map D.int).map intOf=us:=by
  rw[q0D]
  conv=>rhs;rw[<-q3a us]
  exact q1d λ_ _=>Y
 rw[e]
def EY:GD:=λys ovs K=>∃(dw d:D),(∀ds,d=.lst ds->↑ds<=900)/\ys=[.p dw,.p d]/\ovs=[]/\K (.p (fF dw d)) []
def EZ:WS:=(ak (aD 2 (dC .non)) (L7 2 3 (λok=>(lM (ar 2 (zB ok) (ag (aa 0) (ag (aa 1) af))))) (bt (ag (dC (.str "told")) af)) ι))
theorem XB:Sem 2 2 EY EZ:=by
 ext ys ovs K'-⟨dw,d,dl,rfl,rfl,k⟩;unfold EZ;calc aI λN hN=>?_;simp!;subst hN;calc⟨⟨Y,(show 2<4 by decide),(show 3<4 by decide)⟩,?_⟩;simp!;refine⟨dw,d,Y,Y,λhw=>?_,λm ws ew W=>⟨dl,λp hp=>?_,λus ed hu nd=>⟨λi hi=>?_,λhj r=>?_⟩⟩⟩
 .rw[Ml hw] at k
  exact cA k
 .subst ew
  rw[Mn W hp] at k;exact cA k
 .subst ew ed
  rw[EX W (Eu (seen:=[]) hu nd),hi] at k;exact cA k
 .subst ew ed
  rw[EX W (Eu (seen:=[]) hu nd),hj] at k;simp!;calc cA k
def E5:GD:=λys ovs K=>∃(dw d:D),(∀ds,d=.lst ds->↑ds<=900)/\ys=[.p dw,.p d]/\ovs=[]/\K (.p (mH dw d)) []
def E7:WS:=(ak (bc (cy (dT (ar 1 Dz (ag (aa 0) af)))) (aE (bt (ag (dC (.str "web")) af))) cE) (ak (bc (cy (dT (d1 (aa 1) (bB "list")))) (aE (bt (ag (dC (.str "way")) (ag (dC (.int 0)) af)))) cE) (ak (cK (gP (ag (aa 1) af)) (iz 2 (eA (br 2) (eA (br 3) hU))) (bc (iY (cy (dT (ar 3 sM (ag (aa 3) (ag (dC (.int 0)) (ag (d2 (dN (ag (d2 (aa 0) (dC (.int 1)) aW) af) bE) (dC (.int 1)) (oI λi j=>.int (i-j))) af)))))) (dT (d2 (aa 3) (c_ (aa 1) cZ (iB (aa 2))) (qA ι)))) (aE (bt (ag (dC (.str "way")) (ag (aa 2) af)))) cE)) (aE (dC .non)))))
theorem XC:Sem 2 2 E5 E7:=by
 ext ys ovs K'-⟨dw,d,dl,rfl,rfl,k⟩;unfold E7;calc aI λN hN=>?_;calc j6 λA1 B1 hA hB=>?_;simp!;calc⟨dw,Y,Y,?_⟩;simp!
 cases qw:cb dw with
 |false =>
  rw[Mm qw] at k;simp!;subst hA;simp!;exact cA k
 |true =>
 let⟨m,ws,rfl,W⟩:=Ew qw;rw[Mo W] at k;simp!;subst hB;show N _;subst hN;calc aI λN hN=>?_;refine j6 λA1 B1 hA hB=>?_
 let no:(∀ds,d≠.lst ds)->A1 ⟨[U (.p (aU m ws)),U (.p d),Z,Z],[]⟩:=λh=>by
  let:iO ↑ws d=U 0:=by
   cases d with
   |lst ds=>exact absurd Y (h ds)
   |_=>rfl
  rw[this] at k;subst hA;simp!;exact cA k
 cases d with
 |lst ds =>
  simp![bA,aH,q5e];subst hB;show N _;subst hN;let dl:=dl ds Y;let el:↑(jE 0 ds)=↑ds:=by rw[ni]
  calc aI λN hN=>?_;calc qH λg' b' K2 hg hb' hK=>?_;simp!;subst hg hb' hK;refine j5 (λi δ=>∃ns:-Int,ds.take i=ns.map D.int/\iO ↑ws (.lst ds)=nJ ↑ws ns i (ds.drop i)/\δ=⟨[U (.p (aU m ws)),U (.p (.lst ds)),Z,Z],[]⟩) ⟨[],Y,Y,Y⟩ ?_ ?_
  .ext i d δ L hi ⟨ns,en,eb,rfl⟩ hL
   let⟨e,h1,h2⟩:=oJ hi;rw[q0J] at h2;subst h2;let⟨il,ei⟩:=tU.mp h1;rw[q0V il,ei] at eb;unfold nJ at eb;calc⟨trivial,?_⟩;erw[iz,eA,hU,br,fw,gO,HY,q1n,q0o,q2b,q02,q03,q0J,q6g,and_self,true_and,q1Y,q1o];refine j6 λA1 B1 hA hB=>?_
   let bad:iO ↑ws (.lst ds)=U (i:Int)->A1 ⟨[U (.p (aU m ws)),U (.p (.lst ds)),U (.p (.int (i:Nat))),U (.p e)],[]⟩:=λh=>by
    rw[h] at k;subst hA;simp!;exact cA k
   simp![aU,f7] at bad ⊢;refine⟨e,0,↑ws-1,Y,Y,?_⟩
   cases q:dS e 0 ((↑ws:Int)-1) with
   |false =>
    rw[ZK (.inl q)] at eb;simp!;exact bad eb
   |true =>
    let⟨ee,e0,e1⟩:=within_int q;let et:ds.take (i+1)=ds.take i++[e]:=by rw[q2o,h1];rfl
    rw[en] at et;rw[ee] at bad et ⊢;generalize intOf e=x at ee e0 e1 eb bad et;let d0:=D8 ns;simp!;rw[Mg ⋯,en];calc⟨⋯,?_⟩;rw[VP]
    by_cases c:x∈ns
    .rw[ZK (.inr c)] at eb
     rw[q0c c];simp!;exact bad eb
    .rw[ZJ (λz=>z.elim (λz=>by rw[q] at z;cases z) c)] at eb
     rw[q0e c];simp!;subst hB;refine hL _ ⟨ns++[x],by rw[et,q0K];rfl,eb,Y⟩
  .ext δ ⟨ns,en,eb,rfl⟩
   rw[el,q48] at eb;rw[eb] at k;calc⟨trivial,?_⟩;subst hN;simp!;exact cA k
 |_=>simp![bA,aH];calc no λds z=>nomatch z
def E8:GD:=λys ovs K=>∃(dw d:D),(∀ds,d=.lst ds->↑ds<=900)/\ys=[.p dw,.p d]/\ovs=[]/\K (.p (fF dw d)) []
def E9:WS:=(ak (aD 2 (ar 2 E5 (ag (aa 0) (ag (aa 1) af)))) (ak (bc (dT (d2 (aa 2) (dC .non) yX)) (aE (aa 2)) cE) (ak (aD 3 (ar 2 EA (ag (aa 0) (ag (aa 1) af)))) (aE (qo (dT (d1 (aa 3) (bB "list"))) (aa 3) (bt (ag (dC (.str "told")) af)))))))
theorem XD:Sem 2 2 E8 E9:=by
 ext ys ovs K'-⟨dw,d,dl,rfl,rfl,k⟩;unfold E9;calc aI λN hN=>?_;simp!;refine⟨dw,d,dl,Y,Y,?_⟩
 cases qw:cb dw with
 |false =>
  rw[Ml qw] at k;rw[Mm qw];simp!;subst hN;calc aI λN hN=>?_;simp!;exact cA k
 |true =>
 let⟨m,ws,rfl,W⟩:=Ew qw;rw[Mo W]
 cases q:iO ↑ws d with
 |some p =>
  rw[Mn W q] at k;simp!;subst hN;calc aI λN hN=>?_;simp!;exact cA k
 |none =>
  let⟨us,rfl,nd,hu⟩:=Ma q;let ul:=dl _ Y;rw[rO] at ul;rw[EX W q] at k;simp!;subst hN;calc aI λN hN=>?_;simp!;subst hN;calc aI λN hN=>?_;simp!;refine⟨m,ws,us,W,hu,nd,ul,Y,Y,λi hi=>?_,λhj a b=>?_⟩
  .rw[hi] at k
   simp!;subst hN;simp![bA,aH,q5e];exact cA k
  .rw[hj] at k
   simp!;subst hN;simp![bA,aH];calc cA k
abbrev EG:=LJT.aK 1
theorem XE(dw d:D):dep (fF dw d)<=1/\LJT.kP (fF dw d)=θ:=by
 let z:∀(x:R),dep (.lst [.str x])<=1/\LJT.kP (.lst [.str x])=θ:=λx=>⟨by simp[dep,aZ],Y⟩;let y:∀(x:R)(i:Int),dep (.lst [.str x,.int i])<=1/\LJT.kP (.lst [.str x,.int i])=θ:=λx i=>⟨by simp[dep,aZ],Y⟩;unfold fF;split
 .split
  .exact y _ _
  .split
   .split
    .exact y _ _
    .exact z _
   .exact⟨by simp[dep],Y⟩
 .calc z _
noncomputable abbrev KL:KS:=⟨λ_=>False,λx _=>x=.p (.bl θ),λ_=>False,λ_=>False⟩
def E_:WS:=(ak (cK (lR (ag (dC (.int 5)) af)) (br 2) (ak (aD 3 (ar 3 Dh (ag (ar 1 C7 (ag (aa 1) af)) (ag (dC (.int 12)) (ag (dC (.int 30)) af))))) (ak (aD 4 (ar 3 (nM 3) (ag (aa 1) (ag (aa 3) (ag (dC (.int 3)) af))))) (ak (aD 5 (ar 2 Eb (ag (aa 1) (ag (aa 3) af)))) (ak (aD 6 (ar 3 zb (ag (aa 1) (ag (aa 3) (ag (dC (.int 30)) af))))) (ak (aD 7 (ar 2 f9 (ag (aa 1) (ag (d2 (dN (ag (aa 6) af) bE) (dC (.int 1)) bV) af)))) (ak (aD 8 (d2 (bt (ag (dC .non) (ag (d1 (dC (.int 1)) iC) (ag (dN (ag (d2 (aa 3) (dC (.int 1)) aW) af) bE) (ag (dC (.bl θ)) (ag (dC (.bl ι)) (ag (dC (.str "0")) (ag (cx (ag (dC (.int 0)) af)) (ag (bt (ag (dC (.int 0)) af)) (ag (d2 (dC (.int 10)) (dC (.int 20)) (dy dM λi j=>.int (i ^ j.toNat))) af)))))))))) (ar 2 f9 (ag (aa 1) (ag (dC (.int 9)) af))) aW)) (ak (aD 9 (bt (ag (aa 5) (ag (aa 6) (ag (d2 (aa 5) (aa 6) bV) (ag (d2 (d2 (c_ (aa 6) cZ (iB (aa 7))) (bt (ag (aa 8) af)) bV) (c_ (aa 6) (iB (aa 7)) cZ) bV) (ag (d2 (aa 6) (bt (ag (aa 8) af)) bV) (ag (d2 (aa 6) (c_ (aa 6) cZ (iB (dC (.int 1)))) bV) af)))))))) (cK (bN (d2 (aa 9) (bt (ag (dN (ag (aa 5) af) wm) (ag (dC .non) (ag (dC (.str "")) (ag (d2 (aa 5) (bt (ag (aa 8) (ag (d1 (dC (.int 1)) iC) af))) bV) (ag (uh (ag (dN (ag (d2 (aa 3) (dC (.int 1)) aW) af) bE) af)) af)))))) bV)) (br 10) (cK (bN (bt (ag (aa 3) (ag (aa 4) af)))) (br 11) (ak (aD 12 (dN (ag (aa 10) af) sY)) (ak (aD 13 (ar 2 E8 (ag (aa 11) (ag (aa 10) af)))) (bc (iY (cy (dT (ar 2 EG (ag (ar 2 EY (ag (aa 11) (ag (aa 10) af))) (ag (aa 13) af))))) (dT (d2 (dN (ag (aa 10) af) sY) (aa 12) lU))) (aE (dC (.bl ι))) cE))))))))))))) (aE (dC (.bl θ))))
theorem XF{xs:-D}{k:Int}(h0:0<=k)(h1:k<↑xs):∃r∈xs,dm xs k=U r:=by
 let⟨t,rfl⟩:∃t:Nat,k=t:=⟨k.toNat,⋯⟩;let ht:t<↑xs:=by symm
 calc⟨xs[t],q1W ht,kC (rN ht)⟩
structure Itm(d:D):Prop where
 l:∀ds,d=.lst ds->↑ds<=900
 r:zK d
theorem qT{ds:-D}(h:∀d∈ds,Rp d)(l:↑ds<=300):Itm (.lst ds):=⟨λes e=>by cases e;symm,Xy h l⟩
theorem XG{m:Int}{ws:-(Int×Int×Int)}(h:gK m ws):Bd 30 3 (aU m ws):=by
 calc bQ.mpr ⟨by show 2<=30;symm,λd hd=>?_⟩;erw[My,q0j,q1q] at hd;rcases hd with rfl|rfl
 .exact⟨q0u _,q0u _⟩
 .refine bQ.mpr ⟨by rw[rO];calc h.kr,λd hd=>?_⟩
  let⟨y,_,rfl⟩:=q0t.mp hd;calc bQ.mpr ⟨by show 3<=30;symm,λd hd=>?_⟩;erw[My,q0j,q1q] at hd;rcases hd with rfl|rfl|rfl<;>calc⟨q0u _,q0u _⟩
theorem uB{n:Nat}{us:-Int}(h:∀x∈us,0<=x/\x<(n:Int))(kr:n<=100):∀d∈us.map D.int,Rp d:=by
 ext d hd;let⟨x,hx,rfl⟩:=q0t.mp hd;let⟨a,b⟩:=h x hx;calc xo (q0f (m:=1000) ?_ (by decide));symm
theorem uC{a b:-D}(h:∀d∈a,Rp d)(h':∀d∈b,Rp d):∀d∈a++b,Rp d:=λd hd=>(q0U.mp hd).elim (h d) (h' d)
theorem Fb{x:D}(h:Rp x):∀d∈[x],Rp d:=λd hd=>by rw[q0l.mp hd];calc h
theorem XH(ns:-Int)(hn:ns.length<=63):E_ KL ⟨Z::U (.o 0)::q0d 12 Z,[U (i8 ns 0 0)]⟩:=by
 unfold E_;calc aI λN hN=>?_;simp!;calc⟨by decide,?_⟩;refine j5 (λi δ=>∃o,aP (1000*i) o/\δ=⟨Z::U (.o 0)::q0d 12 Z,[U o]⟩) ⟨i8 ns 0 0,⟨ns,0,0,Y,hn,⋯,⋯⟩,Y⟩ ?_ ?_
 .ext j d δ L hj ⟨o,P,rfl⟩ hL
  let⟨Mp,rfl⟩:=nh hj;let Mp:j<5:=Mp;calc⟨trivial,?_⟩;erw[br,q1c,q55,q02,q03];generalize(0+(j:Int))=jt;calc aI λN2 bW=>?_;simp!;calc⟨1000*j,o,Y,Y,P,λo1 P1=>?_⟩;simp!;calc⟨1000*j,12,30,o1,Y,Y,P1,⋯,⋯,⋯,⋯,⋯,λm ws o2 W _ _ P2=>?_⟩;let Ld:=W.kr;simp!;subst bW;calc aI λN2 bW=>?_;simp!;calc⟨1000*j+400,3,30,3,aU m ws,o2,Y,Y,P2.mono ⋯,⋯,by decide,by decide,XG W,by decide,by decide,by decide,λbad o3 Bb P3=>?_⟩;simp!;subst bW;refine aI λN2 bW=>?_
  simp!;calc⟨1000*j+450,m,ws,o3,W,Y,Y,P3.mono ⋯,⋯,λvs o4 hv vd v30 _ P4=>?_⟩;simp!;subst bW;calc aI λN2 bW=>?_;simp!;calc⟨1000*j+500,m,30,ws,o4,W,Y,Y,P4.mono ⋯,⋯,⋯,⋯,λus o5 hu nd u8 ul P5=>?_⟩;simp!;subst bW;calc aI λN2 bW=>?_;simp!;calc⟨1000*j+550,↑us+1,o5,Y,Y,P5.mono ⋯,⋯,⋯,⋯,λr o6 r0 r1 P6=>?_⟩;let⟨t,rfl⟩:∃t:Nat,r=t:=⟨r.toNat,⋯⟩;let tl:t<=↑us:=by symm
  simp!;subst bW;calc aI λN2 bW=>?_;simp![aU,f7];refine⟨?_,?_⟩
  .unfold dM;decide
  calc⟨1000*j+560,9,o6,Y,Y,P6.mono ⋯,⋯,⋯,⋯,λc o7 c0 c1 P7=>?_⟩;let⟨odd,sZ⟩:∃odd:-D,odd=[D.non,D.int (-1),D.int ↑ws,D.bl θ,D.bl ι,D.str "0",D.tup [D.int 0],D.lst [D.int 0],D.int (10 ^ q2t 20)]:=⟨_,Y⟩;let ol:↑odd=9:=by rw[sZ];rfl
  let od:∀x∈odd,Rp x:=by
   ext x hx;rw[sZ] at hx;erw[My,q0j,q1q] at hx;rcases hx with rfl|rfl|rfl|rfl|rfl|rfl|rfl|rfl|rfl
   .exact⟨Y,q0u _,by decide +kernel⟩
   .exact xo (by decide)
   .exact xo (q0f (m:=1000) ⋯ (by decide))
   .exact⟨Y,q0u _,by decide +kernel⟩
   .exact⟨Y,q0u _,by decide +kernel⟩
   .exact⟨Y,q0u _,by decide +kernel⟩
   .exact⟨by decide +kernel,by decide +kernel,by decide +kernel⟩
   .exact⟨by decide +kernel,by decide +kernel,by decide +kernel⟩
   .exact xo (by decide)
  rw[<-sZ];let⟨x1,XI,e1⟩:=XF (xs:=odd) (k:=c) c0 (by rw[ol];symm);let Fc:=od x1 XI;simp![e1];subst bW;calc aI λN2 bW=>?_;let c1:cutD (us.map D.int) Z (U (t:Int))=(us.take t).map D.int:=by rw[Mg (by rw[rO];calc tl),<-q6h]
  let c2:cutD (us.map D.int) (U (t:Int)) Z=(us.drop t).map D.int:=by rw[Xv (by rw[rO];calc tl),<-q6i]
  let⟨l3,c3,c4,c5⟩:∃l3:-Int,cutD (us.map D.int) Z (U 1)=l3.map D.int/\↑l3<=30/\∀x∈l3,x∈us:=by
   calc⟨_,Ue us Z (U 1),?_,λx hx=>q22 (q3c hx)⟩;let:=q59 (HT.aV ↑us ↑us (U 1)-HT.aV ↑us 0 Z) (us.drop (HT.aV ↑us 0 Z));rw[q0y,q06];symm
  let la:=q59 t us;let lb:↑(us.drop t)<=↑us:=by rw[q06];symm
  simp![c1,c2,c3];calc⟨⋯,⋯,⋯,⋯,⋯,?_⟩;let rv:=uB hv ⋯;let ru:=uB hu ⋯;let rm:=uC (uC (uB (us:=us.take t) (λx hx=>hu x (q3c hx)) ⋯) (Fb Fc)) (uB (us:=us.drop t) (λx hx=>hu x (q22 hx)) ⋯);let r3:=uB (us:=l3) (λx hx=>hu x (c5 x hx)) ⋯;let n1:∀d∈[D.int (-1)],Rp d:=Fb (xo (by decide))
  let rn:∀d∈(bY ↑ws).map D.int,Rp d:=uB (n:=ws.length) (λx hx=>by
   let⟨i,hi,rfl⟩:=q0t.mp hx;let:=q0G.mp hi
   calc⟨q6r _,by show((i:Nat):Int)<_;symm⟩) ⋯
  subst bW;calc qH λg' b' K2 hg hb' hK=>?_;simp![f7];calc⟨⋯,⟨⋯,⋯⟩,?_⟩;rw[show((↑ws:Int)).toNat=↑ws from Y,oM];let⟨ah,hits⟩:∃ah:-D,ah=[D.lst (q1Q D.int vs),D.lst (q1Q D.int us),D.lst (q1Q D.int vs++q1Q D.int us),D.lst (q1Q D.int (q8E t us)++[x1]++q1Q D.int (q66 t us)),D.lst (q1Q D.int us++[x1]),D.lst (q1Q D.int us++q1Q D.int l3),D.tup (q1Q D.int vs),D.non,D.str "",D.lst (q1Q D.int vs++[x1,D.int (-1)]),D.lst ((bY ↑ws).map D.int)]:=⟨_,Y⟩
  let all:∀d∈ah,Itm d:=by
   ext d hd;rw[hits] at hd;erw[My,q0j,q1q] at hd;rcases hd with rfl|rfl|rfl|rfl|rfl|rfl|rfl|rfl|rfl|rfl|rfl
   .exact qT rv (by rw[rO];symm)
   .exact qT ru (by rw[rO];symm)
   .exact qT (uC rv ru) (by erw[Ql,rO];symm)
   .exact qT rm (by erw[Ql,rO,HY,q1n];symm)
   .exact qT (uC ru (Fb Fc)) (by erw[Ql,rO,HY,q1n];symm)
   .exact qT (uC ru r3) (by erw[Ql,rO];symm)
   .exact⟨λds z=>(nomatch z),Xz rv (by rw[rO];symm)⟩
   .exact⟨λds z=>(nomatch z),Y,q0u _,by decide +kernel⟩
   .exact⟨λds z=>(nomatch z),Y,q0u _,by decide +kernel⟩
   .exact qT (uC rv λd hd=>(My.mp hd).elim (λe=>by rw[e];calc Fc) (n1 d)) (by erw[Ql,rO,HY,q1n];symm)
   .exact qT rn (by rw[rO,Ly];symm)
  rw[<-hits];generalize(D.lst [D.lst (q1Q D.int vs),D.lst (q1Q D.int us),D.lst (q1Q D.int vs++q1Q D.int us),D.lst (q1Q D.int (q8E t us)++[x1]++q1Q D.int (q66 t us)),D.lst (q1Q D.int us++[x1]),D.lst (q1Q D.int us++q1Q D.int l3)])=Ls;rw[show D.tup [.int m,.tup (ws.map b_)]=aU m ws from Y];subst hg hb' hK;generalize D.lst (q1Q D.int vs)=Dv;generalize D.lst (q1Q D.int us)=Du;refine j5 (λ_ δ=>δ=⟨[Z,U (.o 0),U (.p (.int jt)),U (.p (aU m ws)),U (.p bad),U (.p Dv),U (.p Du),U (.p (.int t)),U (.p x1),U (.p Ls),Z,Z,Z,Z],[U o7]⟩) Y ?_ ?_
  .ext i d δ L3 hi rfl Fd
   let Fd:=Fd _ Y;let⟨i1,i2⟩:=all d (q0v hi);calc⟨trivial,?_⟩;erw[br,q02,q03];calc qH λg' b' K2 hg hb' hK=>?_;simp!;subst hg hb' hK;refine j5 (λ_ δ=>δ=⟨[Z,U (.o 0),U (.p (.int jt)),U (.p (aU m ws)),U (.p bad),U (.p Dv),U (.p Du),U (.p (.int t)),U (.p x1),U (.p Ls),U (.p d),Z,Z,Z],[U o7]⟩) Y ?_ ?_
   .ext i3 dw δ L4 hi3 rfl Fe
    let Fe:=Fe _ Y;let⟨s1,s2⟩:=XE dw d;calc⟨trivial,?_⟩;erw[br,q02,q03];calc aI λN2 bW=>?_;simp![sY];calc⟨i2,?_⟩;subst bW;calc aI λN2 bW=>?_;simp!;calc⟨dw,d,i1,Y,Y,?_⟩;simp!;subst bW;calc j6 λA1 B1 hA hB=>?_;simp![sY];calc⟨dw,d,i1,Y,Y,?_⟩;simp!;calc⟨fF dw d,s1,by decide,s2,Y,Y,?_⟩;simp![sY];calc⟨i2,?_⟩;rw[f6];simp!;subst hB;exact Fe
   .ext δ rfl
    exact⟨trivial,Fd⟩
  .ext δ rfl
   exact⟨trivial,hL _ ⟨o7,P7.mono ⋯,Y⟩⟩
 .ext δ ⟨o,P,rfl⟩
  calc⟨trivial,?_⟩;subst hN;simp!
end LJ
namespace HT
open PySem PySem.Spec PyProof.Rows
section
open PySem.SeqAt
open PySem.AutoSeq1 (wpAny_loadPart')
open PySem.MeetsSeq PySem.MeetsSeq2 PySem.MeetsSeq3
end
section
variable{prog:n}{w:Q}{A:q}{E:aJ}{s:L}
end
end HT
namespace L2
open PySem PySem.Spec PyProof.Rows PySem.W
section
variable{X:Cx}{pins:au}{σ:St}{H:Hp}{s:L}{E:aJ}{l q I S:O}{P:-V->Hp->Prop}{xs:-V}{d:B}{R:Result->L->Prop}
end
variable[aC]
section
variable{X:Cx}{params:Arguments}{body:M}{scope:S}{gx:y}{x:R}{Nb:-R}{cp:-(Option Nat)}{fb:WE}{T:O}
variable{e:M}{f:WE}{p1 q1 jN XJ:y}
end
end L2
namespace L2
open PySem PySem.Spec PyProof.Rows
noncomputable def XM:M->-R
 |.Name x _=>[x]
 |.Tuple es _ _=>es.filterMap fun
  |.Name x _=>U x
  |_=>Z
 |_=>[]
noncomputable def cN(N:-R)(cp:-(Option Nat))(tg:M):-R:=XM tg++cp.filterMap λc=>c.bind λi=>N[i]?
variable[aC]
section
variable{X:Cx}{tg iter elt:M}{ifs:-M}{scope:S}{pos:y}{w:WI}{g:WG}{t:WT}{f:WE}{cp:-(Option Nat)}
theorem XN(hi:JI X tg iter (jC w))(hg:∀d,(cN X.N cp tg).Nodup->JG (cm X scope (cN X.N cp tg) d) tg (jB g))(hf:∀d,JF (cm X scope (cN X.N cp tg) d) ifs (cO t))(he:∀d,JE (cm X scope (cN X.N cp tg) d) elt (tD f))(hc:X.calm=θ:=by rfl)(hn:J (cN X.N cp tg).Nodup=θ:=by kernel_rfl)
  (hk:scope.kind=.function:=by rfl) (ho:lq X.N X.env.scope scope (cN X.N cp tg) cp=θ:=by kernel_rfl) (hs:∀x,foldedSetIterable iter X.env x=pure x:=by ext _;rfl) :
  JE X (.ListComp elt [⟨tg,iter,ifs,0⟩] scope pos) (tD (e_ w cp g t f)):=Cd cp _ hc hi (λd=>hg d (q1f hn)) hf he hk ho hs
theorem XO(hi:JI X tg iter (jC w))(hg:∀d,(cN X.N cp tg).Nodup->JG (cm X scope (cN X.N cp tg) d) tg (jB g))(hf:∀d,JF (cm X scope (cN X.N cp tg) d) ifs (cO t))(he:∀d,JE (cm X scope (cN X.N cp tg) d) elt (tD f))(hc:X.calm=θ:=by rfl)(hn:J (cN X.N cp tg).Nodup=θ:=by kernel_rfl)
  (hk:scope.kind=.function:=by rfl) (ho:lq X.N X.env.scope scope (cN X.N cp tg) cp=θ:=by kernel_rfl) (hs:∀x,foldedSetIterable iter X.env x=pure x:=by ext _;rfl) :
  JE X (.ListComp elt [⟨tg,iter,ifs,0⟩] scope pos) (tD (qt w cp g t f)):=R0 cp _ hc hi (λd=>hg d (q1f hn)) hf he hk ho hs
theorem XQ[bU]{i:Nat}{x:R}{pos' ir:y}(hN:X.N.Nodup)(hit:JI X tg iter (jC w))(hg:∀d,(cN X.N cp tg).Nodup->JG (cm X scope (cN X.N cp tg) d) tg (jB g))(hf:∀d,JF (cm X scope (cN X.N cp tg) d) ifs (cO t))(he:∀d,JE (cm X scope (cN X.N cp tg) d) elt (tD f))(hi:X.N[i]?=U x:=by rfl)(hx:Loc X.env.scope x:=by trivial)(hc:X.calm=θ:=by rfl)(hn:J (cN X.N cp tg).Nodup=θ:=by kernel_rfl)
  (hk:scope.kind=.function:=by rfl) (ho:lq X.N X.env.scope scope (cN X.N cp tg) cp=θ:=by kernel_rfl) (hs:∀x,foldedSetIterable iter X.env x=pure x:=by ext _;rfl)
  (vF:swapsWith (.ListComp elt [⟨tg,iter,ifs,0⟩] scope pos) (U (.Name x pos')) ir.line X.env=pure θ:=by rfl)
  (jK:fq X x:=by first|exact .inl Y|exact .inr Y|assumption) :
  JS X (.Assign [.Name x pos'] (.ListComp elt [⟨tg,iter,ifs,0⟩] scope pos) ir) (cX (aD i (e_ w cp g t f))):=R1 cp _ hN hi hx hc hit (λd=>hg d (q1f hn)) hf he hk ho hs vF jK
end
end L2
namespace LJ
open PySem L2 PySem.Spec PySem.W PyProof.Rows
variable[aC]{X:Cx}{Z:Ev}{x:R}{ps:-R}{G:GD}{e:M}{es:-M}{fa:WA}{p pos:y}{j k n:Nat}
end LJ
namespace LJ
open PySem L2
noncomputable def top(i:Nat):o:=PySem.Challenge.pw_lotjoin_k41_marks_refused.main.body.getD i (.Pass ⟨0,0,0,0⟩)
section
variable[aC]{Z:Ev}
set_option hygiene false
local macro_rules | `(tactic| ac_rfl) => `(tactic| repeat' first|(show JE _ (.Name _ _) _;(first|exact dv _|exact VX (by assumption)))|(show JE _ (.Constant _ _ _) _;(first|exact dB|exact t8|exact vW|exact yi))|(show JA _ _ _;(first|exact dP|refine bT ?_ ?_|refine dQ ?_ ?_|refine lJ ?_ ?_|refine gM ?_ ?_|refine oy ?_ ?_|refine ou ?_ ?_|refine jy ?_ ?_))|(show JE _ (.Call _ _ _ _) _;(first|refine iF (by assumption) hr ?_|refine VW (by assumption) hr ?_|refine oz (Xw hr.gd hu) (by rfl) B.repr Xx ?_|refine oz yJ (by rfl) B.len q3S ?_|refine oz (SK rfl) (by rfl) B.all RH ?_|refine oz (SM rfl) (by rfl) B.min Ta ?_|refine oz (Vx hu) (by rfl) B.sorted yQ ?_|refine oz SJ (by rfl) B.sorted yQ ?_|refine B6 SI (by rfl) B.tuple tY ?_|refine B6 VV (by rfl) B.int yh ?_|refine hV CK (by rfl) B.isinstance (by rfl) B.int yh ?_|refine hV wt (by rfl) B.isinstance (by rfl) B.bool vR ?_|refine hV wu (by rfl) B.isinstance (by rfl) B.tuple tY ?_|refine hV CL (by rfl) B.isinstance (by rfl) B.list tZ ?_|refine SN rfl (by rfl) B.list tZ (by rfl) B.range Kj ?_|refine Tb rfl (by rfl) B.list tZ (by rfl) B.range Kj ?_|refine TM rfl (by rfl) B.sorted yQ (by rfl) B.set IU ?_|refine Ur rfl hu (by rfl) B.len q3S (by rfl) B.set IU ?_|refine(rJ q1E PySem.F.slot_list_append PySem.F.type_list_append HR ?_ ?_).weak SU|refine(rJ q1E PySem.F.slot_list_extend PySem.F.type_list_extend Qd ?_ ?_).weak SV|refine(rJ q1E PySem.F.slot_list_pop PySem.F.type_list_pop Qe ?_ ?_).weak SW|refine(rJ q1E q3A q3B BS ?_ ?_).weak J7))|(show JE _ (.Subscript _ _ _) _;(first|refine lH lV ?_ ?_ λ_ _=>rfl|refine uo ?_ ?_ ?_))|(show JE _ (.BinOp _ _ _ _) _;(first|refine fZ (op:=.Add) oQ ?_ ?_|refine fZ (op:=.Sub) ue ?_ ?_|refine fZ (op:=.Mult) Sq ?_ ?_|refine fZ (op:=.Mod) Ss ?_ ?_|refine fZ (op:=.FloorDiv) Sr ?_ ?_|refine fZ (op:=.Pow) yD ?_ ?_|refine Tc ?_ ?_))|(show JE _ (.Compare _ _ _ _) _;(first|refine ot (op:=.Eq) (sj hu) ?_ ?_ (by rfl)|refine ot (op:=.Lt) (JL hu) ?_ ?_ (by rfl)|refine ot (op:=.Gt) yE ?_ ?_ (by rfl)|refine Sz JM JM ?_ ?_ ?_))|(show JE _ _ _;(first|refine oB ?_|refine RO ?_|refine qm ?_|refine v3 ?_ ?_|refine yo ?_|refine RS ?_|refine yG ?_|refine Jg ?_ ?_ ?_|exact VF|refine XN ?_ (λd nd=>?_) (λd=>?_) λd=>?_|refine XO ?_ (λd nd=>?_) (λd=>?_) λd=>?_))|(show JS _ _ _;(first|refine L5 (by assumption) R Wc hr ?_|refine WD (by assumption) R hr ?_|refine WH (by assumption) R (iV uV aY)|refine jY ?_|refine m9 ?_ ?_ ?_|refine XQ nd ?_ (λd nd=>?_) (λd=>?_) λd=>?_|refine oC nd rfl (by trivial) ?_|refine RW ?_|refine VJ hu ?_ ?_ ?_|refine(AR ?_ (Hl ?_ ?_ set_list)).weak SX|refine RX ?_ ?_|refine Jj q7I rfl ?_ ?_ ?_|refine Jj PassesOwn.leaving rfl ?_ ?_ ?_))|(show cj _ _ _;(first|refine jA ?_|refine hJ ?_ ?_|exact m8))|(show JT _ _ _;(first|refine iZ (op:=.Eq) (sj hu) ?_ ?_ (by rfl)|refine iZ (op:=.NotEq) (wg hu) ?_ ?_ (by rfl)|refine iZ (op:=.Lt) (JL hu) ?_ ?_ (by rfl)|refine iZ (op:=.Gt) yE ?_ ?_ (by rfl)|refine iZ (op:=.GtE) Su ?_ ?_ (by rfl)|refine iZ (op:=.In) (Sx hu) ?_ ?_ (by rfl)|refine iZ (op:=.IsNot) T9 ?_ ?_ (by rfl)|refine VI hu ?_ ?_|refine RP ?_|refine JW.jt (yn ?_ ?_)|refine JW.jt (vZ ?_ ?_)|refine qq ?_))|(show JW _ _ _;(first|refine yn ?_ ?_|refine B7 ?_|refine vZ ?_ ?_|refine Jf ?_))|exact uf|refine ug ?_|refine Sm (by rfl) B.range ?_|refine Sn (by rfl) B.range ?_|refine Sl (by rfl) B.enumerate ?_|refine Jy ?_|exact yp nd rfl (by trivial)|refine Ji rfl ?_|exact Jh|refine B8 ?_ ?_|exact Ca|refine RY ?_)
noncomputable abbrev Mq:o:=top 19
abbrev Mr(Z:Ev):Prop:=Fx Z 1 "is_whole" ["thing"] 1 y3
theorem XR(D:Dx Z "is_whole" Mq)(B:BT Z.mg):Mr Z:=fD (N:=["thing"]) D qR λhr nd hu=>⟨Dj,(by ac_rfl),K6⟩
noncomputable abbrev Ms:o:=top 20
abbrev xp(Z:Ev):Prop:=Fx Z 2 "is_within" ["thing", "least", "most"] 3 qI
theorem XT(D:Dx Z "is_within" Ms)(B:BT Z.mg)(z0N:Mr Z):xp Z:=fD (N:=["thing", "least", "most"]) D pK λhr nd hu=>⟨Dl,(by ac_rfl),K7⟩
noncomputable abbrev Mt:o:=top 21
abbrev Ff(Z:Ev):Prop:=Fx Z 1 "is_tuple_of" ["thing", "size"] 2 y4
theorem XU(D:Dx Z "is_tuple_of" Mt)(B:BT Z.mg):Ff Z:=fD (N:=["thing", "size"]) D iN λhr nd hu=>⟨Dm,(by ac_rfl),Us⟩
noncomputable abbrev Mu:o:=top 22
abbrev Mv(Z:Ev):Prop:=Fx Z 3 "are_ends" ["many", "one", "other"] 3 Dp
theorem XW(D:Dx Z "are_ends" Mu)(B:BT Z.mg)(Fg:xp Z):Mv Z:=fD (N:=["many", "one", "other"]) D pK λhr nd hu=>⟨Dq,(by ac_rfl),Ut⟩
noncomputable abbrev Mw:o:=top 23
abbrev Mx(Z:Ev):Prop:=Fx Z 4 "is_way" ["many", "thing"] 2 Dr
theorem XX(D:Dx Z "is_way" Mw)(B:BT Z.mg)(x8J:Ct Z "MOST_PRICE" 1000000000)(XY:Ff Z)(z0P:Mv Z)(Fg:xp Z):Mx Z:=fD (N:=["many", "thing"]) D iN λhr nd hu=>⟨Ds,(by ac_rfl),Uu⟩
noncomputable abbrev Mz:o:=top 24
abbrev MA(Z:Ev):Prop:=Fx Z 5 "are_ways" ["many", "thing"] 2 Dt
theorem XZ(D:Dx Z "are_ways" Mz)(B:BT Z.mg)(z0K:Ct Z "MOST_WAYS" 30)(z2s:Mx Z):MA Z:=fD (N:=["many", "thing"]) D iN λhr nd hu=>⟨Dw,(by ac_rfl),Uv⟩
noncomputable abbrev MB:o:=top 25
abbrev MC(Z:Ev):Prop:=Fx Z 6 "is_web" ["thing"] 1 y6
theorem X0(D:Dx Z "is_web" MB)(B:BT Z.mg)(x7O:Ct Z "MOST_HOUSES" 12)(XY:Ff Z)(Fg:xp Z)(z0O:MA Z):MC Z:=fD (N:=["thing"]) D qR λhr nd hu=>⟨Dy,(by ac_rfl),Ux⟩
noncomputable abbrev MD:o:=top 30
abbrev ME(Z:Ev):Prop:=Fx Z 4 "joined_marks" ["marks", "one", "other"] 3 D_
theorem X1{T:O}(D:zu Z "joined_marks" MD T ⟨80,50,80,89⟩ ((("joined_marks" : R)++".<locals>.")++"<lambda>"))(B:BT Z.mg):ME Z:=V7 (N:=["marks", "one", "other", "pair"]) D pK λLD hc hr nd hu=>⟨Ea,(hJ (oC (i:=3) nd Y (by trivial) (Vi (mf.mk (x:="mark") (Nb:=["marks"]) (cp:=[U 0]) ⟨LD.env hc,LD.ng,LD.blt⟩ LD.tbl Y Y (by first|rfl|kernel_rfl) Y Y (λ_ _ _ _ _=>Y) ⟨0,hr.mono (by decide),λd hr=>(qm (lJ ((rJ q1E q3A q3B BS (dv 1) (bT (dv 0) dP)).weak J7) (jy (yG (dv 0)) dP)))⟩) (by rfl) B.sorted yQ (ou (oB (gM (lH lV (dv 0) (dv 1) (λ_ _=>Y)) (gM (lH lV (dv 0) (dv 2) (λ_ _=>Y)) dP))) dP))) (jA (jY (Cd [η,U 3] ["mark", "pair"] Y (Jy (dv 0)) (λd=>(yp (i:=0) (show(["mark", "pair"]:-R).Nodup by decide +kernel) Y (by trivial))) (λd=>Ca) (λd=>(Jg (iZ (sj hu) (dv 0) (lH lV (dv 1) dB (λ_ _=>Y)) (by rfl)) (lH lV (dv 1) dB (λ_ _=>Y)) (dv 0))))))),VQ⟩
noncomputable abbrev MF:o:=top 33
abbrev MG(Z:Ev):Prop:=Fx Z 1 "_law_spread" ["cell", "at"] 2 C5
theorem X7(D:Dx Z "_law_spread" MF)(B:BT Z.mg):MG Z:=fD (N:=["cell", "at", "primes", "one", "two", "three"]) D iN λhr nd hu=>⟨C6,(by ac_rfl),Ua⟩
noncomputable abbrev MH:o:=top 35
abbrev MI(Z:Ev):Prop:=Fx Z 1 "_law_anew" ["pen"] 1 C7
theorem X8(D:Dx Z "_law_anew" MH)(B:BT Z.mg):MI Z:=fD (N:=["pen"]) D qR λhr nd hu=>⟨C8,(by ac_rfl),Ub⟩
noncomputable abbrev MJ:o:=top 36
abbrev s_(Z:Ev):Prop:=Fx Z 2 "_law_take" ["pen", "many"] 2 f9
theorem X9(D:Dx Z "_law_take" MJ)(B:BT Z.mg)(x7M:MG Z):s_ Z:=fD (N:=["pen", "many", "at", "cell", "found"]) D iN λhr nd hu=>⟨C9,(by ac_rfl),Uc⟩
noncomputable abbrev MK:o:=top 37
abbrev zL(Z:Ev):Prop:=Fx Z 1 "_law_is_whole" ["thing"] 1 y7
theorem X_(D:Dx Z "_law_is_whole" MK)(B:BT Z.mg):zL Z:=fD (N:=["thing"]) D qR λhr nd hu=>⟨K_,(by ac_rfl),Uy⟩
noncomputable abbrev ML:o:=top 39
abbrev MM(Z:Ev):Prop:=Fx Z 3 "_law_pairs_of" ["pen", "kind", "many"] 3 C_
theorem Ya(D:Dx Z "_law_pairs_of" ML)(B:BT Z.mg)(mI:s_ Z):MM Z:=fD (N:=["pen", "kind", "many", "every", "other", "ring", "half"]) D pK λhr nd hu=>⟨Dc,(by ac_rfl),Uh⟩
noncomputable abbrev MN:o:=top 40
abbrev MO(Z:Ev):Prop:=Fx Z 4 "_law_web" ["pen", "houses", "most"] 3 Dh
theorem Yb(D:Dx Z "_law_web" MN)(B:BT Z.mg)(mI:s_ Z)(x5W:MM Z):MO Z:=fD (N:=["pen", "houses", "most", "kind", "prices", "many", "pairs", "ways", "k", "one", "other", "price"]) D pK λhr nd hu=>⟨Di,(by ac_rfl),Ui⟩
noncomputable abbrev MP:o:=top 41
abbrev MQ(Z:Ev):Prop:=Fx Z 1 "_law_marks_by" ["web", "ways"] 2 DF
theorem Yc(D:Dx Z "_law_marks_by" MP)(B:BT Z.mg):MQ Z:=fD (N:=["web", "ways", "found", "number", "one", "other"]) D iN λhr nd hu=>⟨y9,(by ac_rfl),UG⟩
noncomputable abbrev MR:o:=top 42
abbrev MS(Z:Ev):Prop:=Fx Z 2 "_law_lots" ["web", "ways"] 2 y_
theorem Yd(D:Dx Z "_law_lots" MR)(B:BT Z.mg)(x5X:MQ Z):MS Z:=fD (N:=["web", "ways", "marks"]) D iN λhr nd hu=>⟨za,(by ac_rfl),UI⟩
noncomputable abbrev MT:o:=top 43
abbrev Fh(Z:Ev):Prop:=Fx Z 2 "_law_is_in" ["thing", "low", "high"] 3 sM
theorem Ye(D:Dx Z "_law_is_in" MT)(B:BT Z.mg)(xq:zL Z):Fh Z:=fD (N:=["thing", "low", "high"]) D pK λhr nd hu=>⟨La,(by ac_rfl),Uz⟩
noncomputable abbrev MU:o:=top 44
abbrev MV(Z:Ev):Prop:=Fx Z 3 "_law_is_web" ["thing"] 1 Dz
theorem Yf(D:Dx Z "_law_is_web" MU)(B:BT Z.mg)(Yg:Fh Z):MV Z:=fD (N:=["thing", "pairs", "way"]) D qR λhr nd hu=>⟨DA,(by ac_rfl),UB⟩
noncomputable abbrev MW:o:=top 45
abbrev MX(Z:Ev):Prop:=Fx Z 4 "_law_ways_due" ["web", "ways"] 2 E5
theorem Yh(D:Dx Z "_law_ways_due" MW)(B:BT Z.mg)(x7N:MV Z)(Yg:Fh Z):MX Z:=fD (N:=["web", "ways", "place", "number"]) D iN λhr nd hu=>⟨E7,(by ac_rfl),XC⟩
noncomputable abbrev MY:o:=top 47
abbrev Fi(Z:Ev):Prop:=Fx Z 3 "_law_some_ways" ["pen", "web", "most"] 3 zb
theorem Yi(D:Dx Z "_law_some_ways" MY)(B:BT Z.mg)(mI:s_ Z):Fi Z:=fD (N:=["pen", "web", "most", "left", "found", "k"]) D pK λhr nd hu=>⟨DG,(by ac_rfl),UL⟩
noncomputable abbrev MZ:o:=top 49
abbrev M3(Z:Ev):Prop:=Fx Z 1 "_law_marks" ["web", "ways"] 2 EA
theorem Yj(D:Dx Z "_law_marks" MZ)(B:BT Z.mg):M3 Z:=fD (N:=["web", "ways", "marks", "often", "place", "number", "one", "other", "few", "many"]) D iN λhr nd hu=>⟨EB,(by ac_rfl),WX⟩
noncomputable abbrev M5:o:=top 50
abbrev M6(Z:Ev):Prop:=Fx Z 4 "_law_joins" ["pen", "web"] 2 Eb
theorem Yk(D:Dx Z "_law_joins" M5)(B:BT Z.mg)(Yl:Fi Z)(z0I:MS Z):M6 Z:=fD (N:=["pen", "web", "found", "number"]) D iN λhr nd hu=>⟨Ec,(by ac_rfl),VT⟩
noncomputable abbrev M7:o:=top 52
abbrev M8(Z:Ev):Prop:=Fx Z 5 "_law_due" ["web", "ways"] 2 E8
theorem Ym(D:Dx Z "_law_due" M7)(B:BT Z.mg)(x5V:MX Z)(x8H:M3 Z):M8 Z:=fD (N:=["web", "ways", "due", "found"]) D iN λhr nd hu=>⟨E9,(by ac_rfl),XD⟩
noncomputable abbrev M9:o:=top 26
abbrev M_(Z:Ev)(Cs:-O):Prop:=Fy Z Cs 7 "need_web" ["web"] 1 zz
theorem Yn{Cs:-O}(D:Dx Z "need_web" M9)(B:BT Z.mg)(zM:ET Z Cs 4 "NoWeb")(z2r:MC Z):M_ Z Cs:=xc (N:=["web"]) D qR WN λR hr nd hu=>⟨Ex bU.ok,(by ac_rfl),WQ bU.ok⟩
noncomputable abbrev Na:o:=top 28
abbrev Nc(Z:Ev)(Cs:-O):Prop:=Fy Z Cs 8 "need_ways" ["web", "ways"] 2 zA
theorem Yo{Cs:-O}(D:Dx Z "need_ways" Na)(B:BT Z.mg)(zN:EI Z Cs 0 "NoWay")(Fg:xp Z)(z0M:M_ Z Cs):Nc Z Cs:=xc (N:=["web", "ways", "last", "seen", "place", "number"]) D iN WR λR hr nd hu=>⟨Ey bU.ok,(by ac_rfl),WU bU.ok⟩
noncomputable abbrev Nd:o:=top 31
abbrev Nf(Z:Ev)(Cs:-O):Prop:=Fy Z Cs 9 "marks_of" ["web", "ways"] 2 zB
theorem Yp{Cs:-O}(D:Dx Z "marks_of" Nd)(B:BT Z.mg)(xr:EI Z Cs 1 "NoJoin")(x5Z:ME Z)(z0E:Nc Z Cs):Nf Z Cs:=xc (N:=["web", "ways", "marks", "taken", "place", "number", "way", "later"]) D iN WV λR hr nd hu=>⟨Ez bU.ok,(by ac_rfl),WW bU.ok⟩
noncomputable abbrev xt:o:=inClass (top 2) 0
theorem Yq{f C:O}{fd:FuncData}(F:gm Z.K "__init__" "NoWay.__init__" xt f fd)(c:bo Z.K C)(n:tO Z.K C "place"):bK Z.P Z.w Z.K Z.mg Z.base fJ 1 f fd ["self", "place"] (sU C):=by
 refine F.tV (N:=["self", "place"]) (fV (by decide +kernel)) (λvs H Q E h=>?_) (λaO A outer s H vs Q E hr h=>?_)
 .let⟨a,n,rfl,_⟩:=h
  rfl
 .let⟨a,m,rfl,ha,fin⟩:=h
  calc⟨_,nX (Iy (jv 0) (jv 1) Y),⟨_,Y,_,Y,a,C,Y,ha,c,n,fin⟩⟩
noncomputable abbrev xu:o:=inClass (top 3) 0
theorem Yr{f C:O}{fd:FuncData}(F:gm Z.K "__init__" "NoJoin.__init__" xu f fd)(c:bo Z.K C)(n:tO Z.K C "place"):bK Z.P Z.w Z.K Z.mg Z.base fJ 1 f fd ["self", "place"] (sU C):=by
 refine F.tV (N:=["self", "place"]) (fV (by decide +kernel)) (λvs H Q E h=>?_) (λaO A outer s H vs Q E hr h=>?_)
 .let⟨a,n,rfl,_⟩:=h
  rfl
 .let⟨a,m,rfl,ha,fin⟩:=h
  calc⟨_,nX (Iy (jv 0) (jv 1) Y),⟨_,Y,_,Y,a,C,Y,ha,c,n,fin⟩⟩
noncomputable abbrev eK:o:=top 48
noncomputable abbrev Ng:o:=eK
noncomputable abbrev xR(Z:Ev)(f:O)(aO:B)(A:q)(outer:-t)(s:L)(H:Hp)(E:XK):Cx:=(aS fJ Z.P Z.w Z.K Z.mg Z.base ["caught", "some", "words", "at"] "_law_refusal" (cw eK) f aO A outer s H E).lh
theorem qU:mT ["caught", "some", "words", "at"] ["caught"] (cw eK):=fV (by decide +kernel)
theorem Ys{f L:O}{Cs:-O}{fd:FuncData}{sp:Sp}(F:gm Z.K "_law_refusal" "_law_refusal" eK f fd)(T:El Z.mg L Cs)(len:∀vs H Q E,sp vs H Q E->↑vs=1)
  (mV:∀vs H Q E,sp vs H Q E->∃(a C:O)(dx:Option O)(b:Nat->Bool),vs=[.ref a]/\ExcAt H a C dx/\bo Z.K C/\(∀(i:Nat)(C':O),Cs[i]?=U C'->q0r Z.K (.ref C) (.ref C')=U (b i))/\q0r Z.K (.ref C) (.ref L)=U θ/\q0r Z.K (.ref C) (.type "ValueError")=U θ ∧
   (cnt (eG b)≠1->∀(l:O)(H':Hp),av H H'->H' l=U (.lst [.str "odd"])->Q (.ref l) H') ∧
   (cnt (eG b)=1->∃j:Nat,j<13/\(∀z,((eG b).map V.bl)[j]?=U z->fP z (.bl θ)=θ)/\(∀m z,m<j->((eG b).map V.bl)[m]?=U z->fP z (.bl θ)=ι) ∧
    (j<4->tO Z.K C "place" /\ ∃(d:O)(n:Int),dx=U d/\H d=U (.xd [("place",.int n)])/\∀(l:O)(H':Hp),av H H'->H l=η->H' l=U (.lst [.str (dg.getD j ""),.int n])->Q (.ref l) H') ∧
    (4<=j->∀(l:O)(H':Hp),av H H'->H l=η->H' l=U (.lst [.str (dg.getD j "")])->Q (.ref l) H'))):bK Z.P Z.w Z.K Z.mg Z.base fJ 1 f fd ["caught"] sp:=by
 calc F.tV qU (λvs H Q E h=>len vs H Q E h) (λaO A outer s H vs Q E hr h=>?_);let⟨a,C,dx,b,rfl,E0,cl,kt,kL,kV,odd,good⟩:=mV vs H Q E h;let nd:=qU.nd;let gI:Gl (xR Z f aO A outer s H E) "isinstance" := by rfl
 let v0:∀q,JE (xR Z f aO A outer s H E) (.Name "caught" q) (gi 0):=λq=>jv 0;let v1:∀q,JE (xR Z f aO A outer s H E) (.Name "some" q) (gi 1):=λq=>jv 1
 let nI:∀(i:Nat)(x:R),names13[i]?=U x->Gl (xR Z f aO A outer s H E) x->bx x->∀p q r t,JE (xR Z f aO A outer s H E) (.Call (.Name "isinstance" p) [.Name "caught" q,.Name x r] [] t) (xf a C dx (b i)):=λi x hx g d p q r t=>by
  let⟨c,e,m⟩:=T.cls i x hx;exact En (v0 q) (AE (v:=.ref c) g m Y d) Y cl (kt i c e) gI T.Em
 let nL:∀p q r t,JE (xR Z f aO A outer s H E) (.Call (.Name "isinstance" p) [.Name "caught" q,.Name "LotError" r] [] t) (xf a C dx θ):=λp q r t=>En (v0 q) (AE (v:=.ref L) (by rfl) T.Wr Y) Y cl kL gI T.Em;let nV:∀p q r t,JE (xR Z f aO A outer s H E) (.Call (.Name "isinstance" p) [.Name "caught" q,.Name "ValueError" r] [] t) (xf a C dx θ):=λp q r t=>En (v0 q) (Hd (by rfl) T.VE Ws (v:=.ty "ValueError") Y) Y cl kV gI T.Em;let h0:JS (xR Z f aO A outer s H E) ((d8 eK).getD 0 (.Pass ⟨0,0,0,0⟩)) (dJ (sT a C dx [b 0,b 1,b 2]) (jj 1)):=IE nd Y (q3C Y) (xh (j_ (nI 0 _ Y Y Y _ _ _ _) (j_ (nI 1 _ Y Y Y _ _ _ _) (j_ (nI 2 _ Y Y Y _ _ _ _) xg))) (by show 3<=20;decide)) (.inr Y)
 let h1:JS (xR Z f aO A outer s H E) ((d8 eK).getD 1 (.Pass ⟨0,0,0,0⟩)) (dJ (my a C dx ([b 0,b 1,b 2]) [b 3,b 4,b 5]) (jj 1)):=x_ nd Y (q3C Y) (zx (v1 _) (xh (j_ (nI 3 _ Y Y Y _ _ _ _) (j_ (nI 4 _ Y Y Y _ _ _ _) (j_ (nI 5 _ Y Y Y _ _ _ _) xg))) (by show 3<=20;decide)) (by show 3+3<=20;decide)) (.inr Y);let h2:JS (xR Z f aO A outer s H E) ((d8 eK).getD 2 (.Pass ⟨0,0,0,0⟩)) (dJ (my a C dx ([b 0,b 1,b 2]++[b 3,b 4,b 5]) [b 6,b 7,b 8]) (jj 1)):=x_ nd Y (q3C Y) (zx (v1 _) (xh (j_ (nI 6 _ Y Y Y _ _ _ _) (j_ (nI 7 _ Y Y Y _ _ _ _) (j_ (nI 8 _ Y Y Y _ _ _ _) xg))) (by show 3<=20;decide)) (by show 6+3<=20;decide)) (.inr Y)
 let h3:JS (xR Z f aO A outer s H E) ((d8 eK).getD 3 (.Pass ⟨0,0,0,0⟩)) (dJ (my a C dx ([b 0,b 1,b 2]++[b 3,b 4,b 5]++[b 6,b 7,b 8]) [b 9,b 10,b 11]) (jj 1)):=x_ nd Y (q3C Y) (zx (v1 _) (xh (j_ (nI 9 _ Y Y Y _ _ _ _) (j_ (nI 10 _ Y Y Y _ _ _ _) (j_ (nI 11 _ Y Y Y _ _ _ _) xg))) (by show 3<=20;decide)) (by show 9+3<=20;decide)) (.inr Y);let h4:JS (xR Z f aO A outer s H E) ((d8 eK).getD 4 (.Pass ⟨0,0,0,0⟩)) (dJ (my a C dx ([b 0,b 1,b 2]++[b 3,b 4,b 5]++[b 6,b 7,b 8]++[b 9,b 10,b 11]) [b 12]) (jj 1)):=x_ nd Y (q3C Y) (zx (v1 _) (xh (j_ (nI 12 _ Y Y Y _ _ _ _) xg) (by show 1<=20;decide)) (by show 12+1<=20;decide)) (.inr Y)
 let h5:JS (xR Z f aO A outer s H E) ((d8 eK).getD 5 (.Pass ⟨0,0,0,0⟩)) (λD σ H1=>∃l:O,σ[0]?=U (U (.ref a))/\σ[1]?=U (U (.ref l))/\H1 l=U (.lst ((eG b).map V.bl))/\ExcAt H1 a C dx/\(cnt (eG b)≠1->∀(l':O)(H':Hp),av H1 H'->H' l'=U (.lst [.str "odd"])->D.rt (.ref l') H')/\(cnt (eG b)=1->D.nx σ H1)):=by
  calc(Hj (JW.jt (AH (A3 O_ (rJ q1E q3A q3B BS (v1 _) (iV AD aY)) k_ (Hv _)) (AH (AI (AF (nL _ _ _ _))) (Hg (AI (AF (nV _ _ _ _))))))) (nX (u4 (n6 (iV uV aY)))) jh).weak ?_;ext D σ H1 ⟨l,e0,e1,hl,e,od,gd⟩;refine⟨_,e1,.inl ⟨Y,_,bh.of hl⟩,l,_,_,Y,Y,bh.of hl,Y,Eo _,Y,_,Y,?_⟩
  by_cases hc:cnt (eG b)=1
  .refine Qn (congrArg (λn:Nat=>V.int n) hc) ?_
   exact⟨e0,e,_,Y,rP ⟨e0,e,_,Y,rP (gd hc)⟩⟩
  .refine Rq (λz=>hc (q4W (V.int.inj z))) ?_
   exact BB ⟨iu (by show 1<=20;decide),λp hp=>od hc p _ (mx hp) bj⟩
 let h6:JS (xR Z f aO A outer s H E) ((d8 eK).getD 6 (.Pass ⟨0,0,0,0⟩)) (dJ (λ_ H Q=>∀p,H p=η->Q (.ref p) (upd H p (.lst (eF.map V.str)))) (jj 2)):=IE (i:=2) nd Y (q3C Y) (Wt eF Y (by decide)) (.inr Y)
 let h7:JS (xR Z f aO A outer s H E) ((d8 eK).getD 7 (.Pass ⟨0,0,0,0⟩)) (λD σ H1=>∃(l:O)(j:Nat),σ[1]?=U (U (.ref l))/\H1 l=U (.lst ((eG b).map V.bl))/\j<13/\(∀z,((eG b).map V.bl)[j]?=U z->fP z (.bl θ)=θ)/\(∀m z,m<j->((eG b).map V.bl)[m]?=U z->fP z (.bl θ)=ι)/\D.nx (σ.set 3 (U (.int (j:Nat)))) H1):=by
  calc(Ro (i:=3) nd Y (q3C Y) (rJ q1E PySem.F.slot_list_index PySem.F.type_list_index Rg (v1 _) (iV AD aY)) (.inr Y)).weak ?_;ext D σ H1 ⟨l,j,e1,hl,hj,i1,i2,gd⟩;exact⟨_,e1,.inl ⟨Y,_,bh.of hl⟩,l,_,_,j,Y,Y,bh.of hl,Y,Eo _,hj,i1,i2,gd⟩
 let h8:JS (xR Z f aO A outer s H E) ((d8 eK).getD 8 (.Pass ⟨0,0,0,0⟩)) _:=u4 (AJ (A3 Hu (jv 3) k_ (Hv _)) (n6 (rS (xV xW (jv 2) (jv 3) (λ_ _=>Y)) (BW (Wu (v0 _) Y) aY))) (n6 (rS (xV xW (rB xX (jv 2) (n6 (iV uV aY))) (jv 3) (λ_ _=>Y)) aY)));calc⟨_,Rt (ql (by decide) h0 (ql (by decide) h1 (ql (by decide) h2 (ql (by decide) h3 (ql (by decide) h4 (ql (by decide) h5 (ql (by decide) h6 (ql (by decide) h7 (Rr (by rfl) h8))))))))),?_⟩;calc⟨Y,E0,λl1 H1 s1 q1=>?_⟩;calc⟨l1,Y,Y,q1,E0.same s1,λl2 H2 s2 q2=>?_⟩;let Nh:=s1.trans s2;refine⟨l2,Y,Y,q2,E0.same Nh,λl3 H3 s3 q3=>?_⟩
 let Ni:=Nh.trans s3;calc⟨l3,Y,Y,q3,E0.same Ni,λl4 H4 s4 q4=>?_⟩;let Nj:=Ni.trans s4;calc⟨l4,Y,Y,q4,E0.same Nj,λl5 H5 s5 q5=>?_⟩;let Fj:=Nj.trans s5;calc⟨l5,Y,Y,q5,E0.same Fj,λnc l H' sH hH=>odd nc l H' (Fj.trans sH) hH,λhc=>?_⟩;let⟨j,hj,i1,i2,h_,many⟩:=good hc;ext p hp;let uD:av H (upd H5 p (.lst (eF.map V.str))):=Fj.trans (mx hp);calc⟨l5,j,Y,(mx hp) _ _ q5,hj,i1,i2,?_⟩;refine⟨_,Y,_,_,Y,Y,_,Y,BC (λcq=>?_) (λuv=>?_)⟩
 .let xv:j<4:=by let:=q1f cq;symm
  let⟨na,d,n,ed,hd,fin⟩:=h_ xv;subst ed;let E6:=E0.same uD;calc⟨_,Y,_,Y,p,_,_,_,Y,Y,bh.of bj,kC (Wv xv),_,Y,a,C,d,_,_,Y,E6.ob,cl,na,uD _ _ hd,Y,iu (by show 2<=20;decide),λl hl=>?_⟩;exact fin l _ (uD.trans (mx hl)) (uD.free hl) bj
 .let Fl:4<=j:=by
   by_cases z:j<4
   .exact absurd (q0c (show(j:Int)<4 by symm)) uv
   .omega
  calc⟨_,Y,iu (by show 1<=20;decide),λm hm=>⟨p,m,_,_,Y,Y,(by rw[aA (bR bj hm)];calc bj),bj,iu (by show 13<=20;decide),λr hr=>⟨_,Y,r,_,_,_,Y,Y,bh.of bj,kC (Ww hj),iu (by show 1<=20;decide),λl hl=>?_⟩⟩⟩;calc many Fl l _ (((uD.trans (mx hm)).trans (mx hr)).trans (mx hl)) (((uD.trans (mx hm)).trans (mx hr)).free hl) bj
theorem Yt{f L:O}{Cs:-O}{fd:FuncData}(F:gm Z.K "_law_refusal" "_law_refusal" eK f fd)(T:El Z.mg L Cs)(W:Ek Z.K L Cs):bK Z.P Z.w Z.K Z.mg Z.base fJ 1 f fd ["caught"] (mz Cs):=by
 refine Ys F T (λvs H Q E h=>?_) (λvs H Q E h=>?_)
 .let⟨_,_,_,_,_,rfl,_⟩:=h;rfl
 .let⟨j,n,a,C,dx,rfl,hj,hC,E0,hd,fin⟩:=h
  let⟨cl,kL,kV,kt⟩:=W.each j C hC;refine⟨a,C,dx,λi=>J (i=j),Y,E0,cl,kt,kL,kV,λnc=>absurd (Wx j hj) nc,λ_=>⟨j,hj,λz hz=>?_,λm z hm hz=>?_,λh4=>?_,λh4 l H' s hl hH=>fin l H' s hl ?_⟩⟩
  .rw[LW hz];show fP (.bl (J (j=j))) (.bl θ)=θ;rw[q0c Y];rfl
  .rw[LW hz];show fP (.bl (J (m=j))) (.bl θ)=ι;rw[q0e ⋯];rfl
  .let⟨d,ed,hd⟩:=hd h4
   calc⟨W.gX j C hC,d,n,ed,hd,λl H' s hl hH=>fin l H' s hl ?_⟩;rw[hH,nH,ZK h4]
  .rw[hH,nH,ZJ ⋯]
noncomputable abbrev Nk:o:=top 51
abbrev Nl(Z:Ev):Prop:=Fx Z 10 "_law_told" ["web", "ways"] 2 EY
theorem Yu{Cs:-O}{L fR:O}{Fm:FuncData}(D:Dx Z "_law_told" Nk)(B:BT Z.mg)(GR:Fn Z.P Z.w Z.K Z.mg Z.base 1 "_law_refusal" ["caught"] (mz Cs) fR Fm)(hL:Z.mg "LotError" = U (.ref L))(hX:∀(c:Nat) (C:O),Cs[c]?=U C->c<13/\q3R Z.K (.ref C) (.ref L)=U θ)(Yv:Nf Z Cs):Nl Z:=fD (N:=["web", "ways", "caught", "e"]) D iN λhr nd hu=>⟨EZ,(hJ (oC (i:=2) nd Y (by trivial) vW) (WK (tup:=false) Y Y nd Y Y (by rfl) hL hX (by decide) (λhp R=>(jA (L5 Yv R hp hr (bT (dv 0) (bT (dv 1) dP))))) (λA xe=>nX (rq (i:=2) nd Y (by trivial) (jv 3))) (u4 (AJ (He (OD (jv 2))) (oB (dQ yi dP)) (vg GR.ok (hr.mono (by decide)) (by rfl) GR.yg GR.kp GR.bd .nil vz (jT (jv 2) aY)))))),XB⟩
noncomputable abbrev Fp:o:=top 38
theorem Fq{x:R}{st:o}{ps:-R}{n:Nat}(D:Dx Z x st)(bd:iG x st ps):Fx Z 0 x ps n (λ_ _ _=>False) :=
 let⟨f,fd,a,F⟩:=D
 ⟨f,fd,⟨λvs H Q E h=>by let⟨_,_,_,_,_,_,_,hF,_⟩:=h;calc hF.elim,λA outer s H args us vs Q E _ _ _ _ h=>by let⟨_,_,_,_,_,_,_,hF,_⟩:=h;calc hF.elim⟩,a,F.kp,F.binds bd⟩
theorem Nm(D:Dx Z "_law_same" Fp)(B:BT Z.mg)(n:Nat)(Nn:Fx Z n "_law_same" ["found", "due"] 2 (LJT.iH LJT.aK n)):Fx Z (n+1) "_law_same" ["found", "due"] 2 (LJT.aK n):=fD (N:=["found", "due"]) D iN λhr nd hu=>⟨LJT.aB (LJT.iH LJT.aK n),(hJ (m9 (iZ KW (dv 1) vW (by rfl)) (jA (jY (ot KW (dv 0) vW (by rfl)))) m8) (hJ (m9 (JW.jt (yn (qq (hV wt (by rfl) B.isinstance (by rfl) B.bool vR (dv 1))) (B7 (qq (hV wt (by rfl) B.isinstance (by rfl) B.bool vR (dv 0)))))) (jA (jY (v3 (hV wt (by rfl) B.isinstance (by rfl) B.bool vR (dv 1)) (v3 (hV wt (by rfl) B.isinstance (by rfl) B.bool vR (dv 0)) (yo (ot (sj hu) (dv 0) (dv 1) (by rfl))))))) m8) (hJ (m9 (qq (hV CK (by rfl) B.isinstance (by rfl) B.int yh (dv 1))) (jA (jY (v3 (hV CK (by rfl) B.isinstance (by rfl) B.int yh (dv 0)) (yo (ot (sj hu) (dv 0) (dv 1) (by rfl)))))) m8) (hJ (m9 (qq (hV JY (by rfl) B.isinstance (by rfl) B.str IT (dv 1))) (jA (jY (v3 (hV JY (by rfl) B.isinstance (by rfl) B.str IT (dv 0)) (yo (ot (sj hu) (dv 0) (dv 1) (by rfl)))))) m8) (hJ (m9 (JW.jt (yn (iZ (wg hu) (hV wu (by rfl) B.isinstance (by rfl) B.tuple tY (dv 1)) (hV wu (by rfl) B.isinstance (by rfl) B.tuple tY (dv 0)) (by rfl)) (B7 (iZ (wg hu) (hV CL (by rfl) B.isinstance (by rfl) B.list tZ (dv 1)) (hV CL (by rfl) B.isinstance (by rfl) B.list tZ (dv 0)) (by rfl))))) (jA (jY t8)) m8) (hJ (m9 (iZ (wg hu) (oz yJ (by rfl) B.len q3S (bT (dv 0) dP)) (oz yJ (by rfl) B.len q3S (bT (dv 1) dP)) (by rfl)) (jA (jY t8)) m8) (jA (jY (ot (Sy hu) t8 (Cd [η,η] ["one", "other"] Y (Xn (by rfl) B.zip (bT (dv 0) (bT (dv 1) dP))) (λd=>(Ji Y (B8 (yp (i:=0) (show(["one", "other"]:-R).Nodup by decide +kernel) Y (by trivial)) (B8 (yp (i:=1) (show(["one", "other"]:-R).Nodup by decide +kernel) Y (by trivial)) Jh)))) (λd=>Ca) (λd=>(iF (hj:=q5v (BA _)) Nn hr (bT (dv 0) (bT (dv 1) dP))))) (by rfl)))))))))),LJT.fX n⟩
abbrev Yw(Z:Ev):Prop:=Fx Z 2 "_law_same" ["found", "due"] 2 (LJT.aK 1)
theorem Yx(D:Dx Z "_law_same" Fp)(B:BT Z.mg)(n:Nat):Fx Z (n+1) "_law_same" ["found", "due"] 2 (LJT.aK n):=by
 induction n with
 |zero=>exact Nm D B 0 (Fq D iN)
 |succ m ih=>calc Nm D B (m+1) ih
noncomputable abbrev Fs:o:=top 46
theorem Ft{k:Nat}{x:R}{st:o}{ps:-R}{n:Nat}(D:Dx Z x st)(bd:iG x st ps):Fx Z k x ps n (λ_ _ _=>False) :=
 let⟨f,fd,a,F⟩:=D
 ⟨f,fd,⟨λvs H Q E h=>by let⟨_,_,_,_,_,_,_,hF,_⟩:=h;calc hF.elim,λA outer s H args us vs Q E _ _ _ _ h=>by let⟨_,_,_,_,_,_,_,hF,_⟩:=h;calc hF.elim⟩,a,F.kp,F.binds bd⟩
theorem Np(D:Dx Z "_law_bent" Fs)(B:BT Z.mg)(mI:s_ Z)(xq:zL Z)(n:Nat)(Nq:Fx Z (n+2) "_law_bent" ["pen", "thing", "deep"] 3 (ED nM n)):Fx Z (n+3) "_law_bent" ["pen", "thing", "deep"] 3 (nM n):=fD (N:=["pen", "thing", "deep", "kind", "pick", "number", "at", "odd", "some"]) D pK λhr nd hu=>⟨EC (ED nM n),(hJ (oC (i:=3) nd Y (by trivial) (iF mI hr (bT (dv 0) (dQ dB dP)))) (hJ (oC (i:=4) nd Y (by trivial) (iF mI hr (bT (dv 0) (dQ dB dP)))) (hJ (oC (i:=5) nd Y (by trivial) (fZ ue (iF mI hr (bT (dv 0) (dQ dB dP))) dB)) (hJ (m9 (JW.jt (vZ (qq (hV wu (by rfl) B.isinstance (by rfl) B.tuple tY (dv 1))) (vZ (iZ (wg hu) (dv 1) (qm dP) (by rfl)) (vZ (iZ yE (dv 2) dB (by rfl)) (Jf (iZ yE (dv 4) dB (by rfl))))))) (hJ (oC (i:=6) nd Y (by trivial) (iF mI hr (bT (dv 0) (lJ (oz yJ (by rfl) B.len q3S (bT (dv 1) dP)) dP)))) (jA (jY (fZ oQ (fZ oQ (uo (dv 1) uf (ug (dv 6))) (qm (lJ (iF (hj:=q5v (BA _)) Nq hr (bT (dv 0) (gM (lH lV (dv 1) (dv 6) (λ_ _=>Y)) (jy (fZ ue (dv 2) dB) dP)))) dP))) (uo (dv 1) (ug (fZ oQ (dv 6) dB)) uf))))) m8) (hJ (oC (i:=7) nd Y (by trivial) (oB (dQ vW (dQ t8 (dQ t8 (dQ yi (dQ yi (oy (qm dP) (ou (oB dP) (jy (fZ yD dB dB) (jy (yG dB) (dQ dB (dQ dB (jy (fZ yD dB dB) (jy (fZ oQ (fZ yD dB dB) dB) (oy (qm (dQ dB dP)) (ou (oB (dQ dB dP)) (dQ dB dP)))))))))))))))))) (hJ (m9 (qq (hV wu (by rfl) B.isinstance (by rfl) B.tuple tY (dv 1))) (hJ (oC (i:=8) nd Y (by trivial) (oB (lJ (B6 SH (by rfl) B.list tZ (bT (dv 1) dP)) (jy (fZ oQ (dv 1) (uo (dv 1) uf (ug dB))) (gM (uo (dv 1) uf (ug (yG dB))) (gM (T8 (dv 1)) (jy (fZ oQ (dv 1) (qm (bT (dv 5) dP))) (gM (uo (dv 1) (ug dB) uf) (oy (qm (bT (dv 1) dP)) dP))))))))) (jA (jY (lH lV (fZ oQ (dv 8) (oB (gM (lH lV (dv 7) (dv 4) (λ_ _=>Y)) dP))) (dv 3) (λ_ _=>Y))))) m8) (hJ (m9 (qq (iF xq hr (bT (dv 1) dP))) (jA (jY (lH lV (oB (jy (fZ oQ (dv 1) dB) (jy (fZ ue (dv 1) dB) (jy (fZ ue dB (dv 1)) (bT (dv 5) (bT (dv 5) (jy (ot (sj hu) (dv 1) dB (by rfl)) (jy (fZ ue dB (dv 1)) (gM (lH lV (dv 7) (dv 4) (λ_ _=>Y)) dP))))))))) (dv 3) (λ_ _=>Y)))) m8) (jA (jY (lH lV (dv 7) (dv 4) (λ_ _=>Y))))))))))),WZ n⟩
abbrev Yy(Z:Ev):Prop:=Fx Z 6 "_law_bent" ["pen", "thing", "deep"] 3 (nM 3)
theorem Yz(D:Dx Z "_law_bent" Fs)(B:BT Z.mg)(mI:s_ Z)(xq:zL Z)(n:Nat):Fx Z (n+3) "_law_bent" ["pen", "thing", "deep"] 3 (nM n):=by
 induction n with
 |zero=>exact Np D B mI xq 0 (Ft D pK)
 |succ m ih=>calc Np D B mI xq (m+1) ih
noncomputable abbrev zO:o:=top 34
theorem mJ:mT ["script", "cells", "k", "cell"] ["script"] (cw zO):=fV (by decide +kernel)
theorem YA{f:O}{fd:FuncData}(F:gm Z.K "_law_open" "_law_open" zO f fd)(h1:Z.mg "list" = η)(h2:Z.mg "enumerate" = η):bK Z.P Z.w Z.K Z.mg Z.base fJ 1 f fd ["script"] (Le Z.K):=by
 refine F.tV mJ (λvs H Q E h=>?_) (λaO A outer s H vs Q E hr h=>?_)
 .let⟨a,ns,rfl,_⟩:=h
  rfl
 .let⟨a,ns,rfl,hS,hlen,fin⟩:=h
  let nd:=mJ.nd
  refine⟨_,tM (rq (i:=1) nd Y (q3C Y) (qa Br (by rfl) h1 PyProof.Rows.boot_list (jm (Bg gJ (jv 0) HF (xU k_)) aY)))
   (tM (Hq q7I Y (QH (by rfl) h2 (jm (Bg gJ (jv 0) (xU k_) (xU k_)) aY)) (Hk Y (AO (AM (i:=2) nd Y (q3C Y)) (AO (AM (i:=3) nd Y (q3C Y)) jk)))
    (nX (AR (rB Hs (xV xW (jv 1) (rB A0 (jv 2) k_) (λ_ _=>Y)) (jv 3)) (Hl (jv 1) (rB A0 (jv 2) k_) set_list))))
   (nX (u4 (n6 (jm (jv 1) (jm k_ (jm k_ aY))))))),?_⟩
  calc⟨_,Y,_,Y,a,_,Y,hS,λl1 n1=>⟨l1,_,Y,.inl (bh.of bj),λc nc=>?_⟩⟩;let s1:av H (upd (upd H l1 (.lst (cV (ns.map V.int) η (U 12)))) c (.lst (cV (ns.map V.int) η (U 12)))):=(uu n1).trans (uu nc);calc⟨_,Y,_,Y,_,Y,a,_,Y,s1.seq hS,λl2 n2=>⟨l2,Y,⟨_,bh.of bj⟩,?_⟩⟩;let YB:H c=η:=(uu n1).free nc;let YC:=n2
  let hcc:∃ms:-Int,↑ms=min 12 ns.length/\cV (ns.map V.int) η (U 12)=ms.map V.int:=by
   calc⟨_,?_,DH ns η (U 12)⟩;rw[q0y,q06];let e1:HT.aV ns.length 0 η=0:=HT.Bf _ _;let e2:HT.aV ns.length ns.length (U 12)=min 12 ns.length:=HT.qd ns.length ns.length 12;rw[e1,e2];symm
  let qG:↑(cV (ns.map V.int) (U 12) (U 63))=ns.length-12:=by
   rw[DH,rO,q0y,q06];let e1:HT.aV ns.length 0 (U 12)=min 12 ns.length:=HT.qd ns.length 0 12;let e2:HT.aV ns.length ns.length (U 63)=min 63 ns.length:=HT.qd ns.length ns.length 63;rw[e1,e2];symm
  let Nr:∀i x,(cV (ns.map V.int) (U 12) (U 63))[i]?=U x->∃n:Int,x=V.int n:=λi x e=>by
   rw[DH,Qi] at e
   cases q:((ns.drop (HT.aV ns.length 0 (U 12))).take (HT.aV ns.length ns.length (U 63)-HT.aV ns.length 0 (U 12)))[i]? with
   |none=>rw[q] at e;cases e
   |some n=>rw[q] at e;exact⟨n,(q0A e).symm⟩
  generalize cV (ns.map V.int) (U 12) (U 63)=rest at qG Nr n2 ⊢;let⟨ms,YD,YE⟩:=hcc
  refine Ri (K:=Z.K) (a:=l2) (xs:=rest) (λi σ H2=>∃(ks:-Int)(v1 v2:Option V),σ=[U (.ref a),U (.ref c),v1,v2]/\H2 c=U (.lst (ks.map V.int))/\↑ks=min 12 ns.length/\H2 l2=U (.lst rest)/\av H H2)
   ⟨ms,η,η,Y,?_,YD,bj,?_⟩ (λi σ H2 _ ⟨_,_,_,_,_,_,q,_⟩↦bh.of q) ?_ ?_
  .rw[aA (bR bj n2),bj,YE]
  .exact s1.trans (uu n2)
  .ext i x T σ H2 hi ⟨ks,v1,v2,rfl,hc,hk,tT,sm⟩ hT
   let⟨n,rfl⟩:=Nr i x hi;let r_:i<↑rest:=(tU.mp hi).1;let YF:↑ks=12:=by symm
   let cT:c≠T:=bR hc hT;let kA:upd H2 T (.tup [.int i,.int n]) c=U (.lst (ks.map V.int)):=by rw[aA cT];exact hc
   let j0:0<=((i:Int))%12:=q1R _ (by decide);let j1:((i:Int))%12<12:=q1s _ (by decide);let⟨m,em⟩:=UM (ns:=ks) j0 ⋯
   let ix:jP ↑(ks.map V.int) ((i:Int)%12)=U ((i:Int)%12).toNat:=by
    unfold jP;rw[ZK j0,ZK (by rw[rO];symm)]
   calc⟨T,_,Y,bz.of bj,Y,_,_,Y,_,_,Y,Y,?_⟩;calc⟨_,Y,_,Y,_,_,Y,Y,(show(0:Int)<12 by decide),_,_,_,_,Y,Y,bh.of kA,em,_,Y,_,_,Y,Y,_,Y,_,Y,_,_,Y,Y,(show(0:Int)<12 by decide),_,_,_,_,Y,Y,kA,ix,?_⟩;refine⟨ks.set ((i:Int)%12).toNat (m+n),_,_,Y,?_,by rw[q1G];calc hk,?_,?_⟩
   .rw[bj,List.map_set]
   .let YG:l2≠c:=by
     ext z;subst z;exact absurd YC (by rw[bj];ext y;cases y)
    rw[aA YG,aA (bR tT hT)];exact tT
   .ext b o e
    rw[aA (bR e YB)];exact uu hT b o (sm b o e)
  .ext σ H2 ⟨ks,v1,v2,rfl,hc,hk,tT,sm⟩
   calc⟨_,Y,(by show 3<=sizeLine;decide),λp np=>?_⟩;let YH:H p=η:=sm.free np;calc fin p c _ (sm.trans (uu np)) YH ⟨bj,⟨ks,by rw[aA (bR hc np)];calc hc,⋯⟩,Int.le_refl 0⟩
noncomputable abbrev uE:o:=top 53
theorem YI{f tu:O}{fd pP:FuncData}(F:gm Z.K "law" "law" uE f fd)(B:BT Z.mg)(GO:Fn Z.P Z.w Z.K Z.mg Z.base 1 "_law_open" ["script"] (Le Z.K) tu pP)(z0Q:MO Z)(z0J:MI Z)(Nq:Yy Z)(x8I:M6 Z)(Yl:Fi Z)(mI:s_ Z)(z0R:M8 Z)(Nn:Yw Z)(z0H:Nl Z):bK Z.P Z.w Z.K Z.mg Z.base fJ 21 f fd ["script"] (zd Z.K):=by
 let sc:mT ["script", "pen", "turn", "web", "bad", "ways", "every", "at", "odd", "lists", "some", "thing", "before", "due"] ["script"] (cw uE):=fV (by decide +kernel);refine F.tV (k:=20) sc (λvs H Q E h=>?_) (λaO A outer s H vs Q E hr h=>?_)
 .let⟨a,ns,rfl,_⟩:=h
  rfl
 let⟨a,ns,rfl,hS,hlen,hT,fin⟩:=h;let nd:=sc.nd;let hu:=hr.units;let rest:cj (aS fJ Z.P Z.w Z.K Z.mg Z.base ["script", "pen", "turn", "web", "bad", "ways", "every", "at", "odd", "lists", "some", "thing", "before", "due"] "law" (cw uE) f aO A outer s H E).lh ((d8 uE).drop 1) (cX E_):=(by ac_rfl);calc⟨_,tM (rq (i:=1) nd Y (by trivial) (vg GO.ok (hr.mono (by decide)) (by rfl) GO.yg GO.kp GO.bd .nil vz (jT (jv 0) aY))) rest,?_⟩;calc⟨_,Y,a,ns,Y,hS,hlen,λp c H1 sm hp N1=>?_⟩;let⟨F',ms,hm,S⟩:=UN (a:=a) (n:=12) (aC.same hT sm) N1;calc UO S (XH ms hm) fin
end
noncomputable def dX:-me:=[⟨274,⟨80,50,80,89⟩,(("joined_marks" : R)++".<locals>.")++"<lambda>"⟩]
noncomputable def Fu:-(R×o×O):=[("joined_marks",MD,274)]
noncomputable def zP(K:xY)(C:O):Bool :=
 (match PySem.W.clsIn K C with|some cd=>d9 cd.mro&&cd.hasDict|none=>ι) &&
 (q13 K (.ref C) "__getattribute__" == U (U (.builtin "BaseException.__getattribute__"))) &&
 (q13 K (.ref C) "__getattr__" == U Z) &&
 (q13 K (.ref C) "__setattr__" == U (U (.builtin "object.__setattr__"))) &&
 (q13 K (.ref C) "__class__" == U (U (.builtin "object.__class__"))) &&
 (q6I K (.builtin "object.__class__") "__get__" == U (U (.builtin "getset_descriptor.__get__"))) &&
 (q7y K (.builtin "object.__class__")==U θ)
theorem Nt{K:xY}{C:O}(h:zP K C=θ):bo K C:=by
 unfold zP at h;erw[q0k] at h;let⟨⟨⟨⟨⟨⟨h1,h2⟩,h3⟩,h4⟩,h5⟩,h6⟩,h7⟩:=h;calc⟨?_,q0m h2,q0m h3,q0m h4,q0m h5,q0m h6,q0m h7⟩;split at h1
 .rename_i cd e
  erw[q0k] at h1;exact⟨cd,e,h1.1,h1.2⟩
 .cases h1
noncomputable def Fv(K:xY)(L:O)(Cs:-O):Bool :=
 zP K L&&(q0r K (.ref L) (.ref L)==U θ)&&(q0r K (.ref L) (.type "ValueError")==U θ) &&
 (Cs.zipIdx.all λz=>q0r K (.ref L) (.ref z.1)==U ι) &&
 (Cs.zipIdx.all λy=>zP K y.1&&(q13 K (.ref y.1) "place" == U Z)&&(q0r K (.ref y.1) (.ref L)==U θ)&&(q0r K (.ref y.1) (.type "ValueError")==U θ) &&
  Cs.zipIdx.all λz=>q0r K (.ref y.1) (.ref z.1)==U (J (z.2=y.2)))
theorem YJ{K:xY}{L:O}{Cs:-O}(hl:↑Cs=13)(h:Fv K L Cs=θ):Ek K L Cs:=by
 unfold Fv at h;erw[q0k] at h;let⟨⟨⟨⟨h1,h2⟩,h3⟩,h4⟩,h5⟩:=h;let at_:∀{i:Nat}{C:O},Cs[i]?=U C->(C,i)∈Cs.zipIdx:=λ{i C} e=>List.mk_mem_zipIdx_iff_getElem?.mpr e;let each:∀(j:Nat)(C:O),Cs[j]?=U C->_:=λj C e=>q0T.mp h5 (C,j) (at_ e);refine⟨hl,λj C e=>?_,⟨Nt h1,q0m h2,q0m h3,λi C' e=>q0m (q0T.mp h4 (C',i) (at_ e))⟩,λj C e=>?_⟩
 .let:=each j C e
  erw[q0k] at this;let⟨⟨⟨⟨a,_⟩,c⟩,d⟩,f⟩:=this;exact⟨Nt a,q0m c,q0m d,λi C' e'=>q0m (q0T.mp f (C',i) (at_ e'))⟩
 .let:=each j C e
  erw[q0k] at this;calc q0m this.1.1.1.2
noncomputable def nsOk(K:xY)(N:O)(name:R)(r:Option B):Bool:=match q7q N K with
 |some ⟨_,_,.dict es _,_⟩=>(es.all λe=>match e.key with|.str _ _=>θ|_=>ι)&&(nsFind es name==r)
 |_=>ι
theorem Nu{K:xY}{N:O}{name:R}{r:Option B}(h:nsOk K N name r=θ):vN K N name r:=by
 unfold nsOk at h;split at h
 .rename_i oc od es ep sl e
  erw[q0k] at h;exact⟨oc,od,es,ep,sl,e,h.1,q0m h.2⟩
 .cases h
theorem Fw{K:xY}{L C N:O}{nm q:R}{bs:-B}{eU:Bool}{sn:-R}{sub:-B}{ab:Bool}{col:Option Bool}{dd:Option O}{k0 k1 k2 k3 k5:Option B}{lB:Option B}(T:b9 K (.ref L::oo))
  (l:K.lookup C=U (excClassObj nm q C N bs (.ref L::oo) eU sn sub ab col dd k0 k1 k2 k3 k5 "ValueError.__new__")) (n:nsOk K N "__init__" lB=θ) (kp:q08 K (.ref C)=θ):qi K C lB :=
 ⟨⟨_,_,N,_,_,_,_,_,_,_,_,_,_,_,_,_,l,T,Nu n⟩,kp⟩
noncomputable abbrev dp(x:R)(s:o):R×o:=(x,s)
noncomputable def Nv:-(R×o):=[dp "is_whole" Mq,dp "is_within" Ms,dp "is_tuple_of" Mt,dp "are_ends" Mu,dp "is_way" Mw,dp "are_ways" Mz,dp "is_web" MB,dp "need_web" M9,dp "need_ways" Na,dp "marks_of" Nd,dp "_law_spread" MF,dp "_law_open" zO,dp "_law_anew" MH,dp "_law_take" MJ,dp "_law_is_whole" MK,dp "_law_same" Fp,dp "_law_pairs_of" ML,dp "_law_web" MN,dp "_law_marks_by" MP,dp "_law_lots" MR,dp "_law_is_in" MT,dp "_law_is_web" MU,dp "_law_ways_due" MW,dp "_law_bent" Fs,dp "_law_some_ways" MY,dp "_law_refusal" Ng,dp "_law_marks" MZ,dp "_law_joins" M5,dp "_law_told" Nk,dp "_law_due" M7,dp "law" uE]
theorem YK{l:q7E}{w:Q}{K:xY}{h:I}{mg:R->Option ν}{fa:O}{L N0 c0 c1 c2 c3 c4 c5 c6 c7 c8 c9 km kn kq:O}{YL YM:R}{YN:-ν}{YO:Bool}{YQ:-R}{FA:-ν}{YR:Bool}{FC:Option Bool}{YS:Option O}{YT YU YV YW YX:Option ν}{M0:O}{FD FE:R}{FF:-ν}{FG:Bool}{FH:-R}{xw:-ν}{FJ:Bool}{xx:Option Bool}{FK:Option O}{FL FN FO FP FQ:Option ν}{uF:O}{YY YZ:Option O}{uO:Array (Option ν)}{Y0 Y1 Y2 Y3 Nx Y4:ν}{M1:O}{FT FU:R}{FV:-ν}{FW:Bool}{FX:-R}{xy:-ν}{FY:Bool}{xA:Option Bool}{FZ:Option O}{F0 F7 F8 F9 F_:Option ν}{uG:O}{Y5 Y6:Option O}{Y7:Array (Option ν)}{Y8 Y9 Y_ mO Ny Za:ν}{M4:O}{Ga Gb:R}{Gd:-ν}{Ge:Bool}{Gf:-R}{xB:-ν}{Gg:Bool}{xC:Option Bool}{Gh:Option O}{Gi Gj Gk Gm Gn:Option ν}(X:K.In h)(G:h.Ns mainGlobals mg)(Zb:mg "law" = U (.ref fa))(DS:gW K Nv)(LS:eZ K Fu)(N:∀x∈Ee,q0M K mainGlobals x=U η)(g5:Ck K "MOST_HOUSES" 12)(jd:Ck K "MOST_WAYS" 30)(iI:Ck K "MOST_PRICE" 1000000000)(aL:q0M K mainGlobals "LotError" = U (U (.ref L)))(lL:K.lookup L=U (excClassObj YL YM L N0 YN (oo) YO YQ FA YR FC YS YT YU YV YW YX "ValueError.__new__"))(nL:nsOk K N0 "__init__" η=θ)(aC0:q0M K mainGlobals "NoWay" = U (U (.ref c0)))(aC1:q0M K mainGlobals "NoJoin" = U (U (.ref c1)))(aC2:q0M K mainGlobals "NoStep" = U (U (.ref c2)))(aC3:q0M K mainGlobals "NoHouse" = U (U (.ref c3)))(aC4:q0M K mainGlobals "NoWeb" = U (U (.ref c4)))(aC5:q0M K mainGlobals "NoPrice" = U (U (.ref c5)))(aC6:q0M K mainGlobals "TooMany" = U (U (.ref c6)))(aC7:q0M K mainGlobals "Closed" = U (U (.ref c7)))(aC8:q0M K mainGlobals "Free" = U (U (.ref c8)))(aC9:q0M K mainGlobals "Nothing" = U (U (.ref c9)))(aC10:q0M K mainGlobals "NoNumber" = U (U (.ref km)))(aC11:q0M K mainGlobals "NoText" = U (U (.ref kn)))(aC12:q0M K mainGlobals "NoLine" = U (U (.ref kq)))(kit:Fv K L [c0,c1,c2,c3,c4,c5,c6,c7,c8,c9,km,kn,kq]=θ)(exm:([c0,c1,c2,c3,c4,c5,c6,c7,c8,c9,km,kn,kq].all λc=>q3R K (.ref c) (.ref L)==U θ)=θ)(zVE:q0M K mainGlobals "ValueError" = U η)(aI0:q13 K (.ref c0) "__init__" = U (U (.ref uF)))(lI0:K.lookup uF=U ⟨Y0,YY,.func (q1I "__init__" "NoWay.__init__" (kD xt) (d8 xt) (cw xt) .none Y1 Y2 Y3 YZ Nx Y4),uO⟩)(qI0:q2F K Nx "NoWay.__init__" = θ)(kI0:q08 K (.ref uF)=θ)(iI0:q5d K (.ref uF)=θ)(lC0:K.lookup c0=U (excClassObj FD FE c0 M0 FF (.ref L::oo) FG FH xw FJ xx FK FL FN FO FP FQ "ValueError.__new__"))(nC0:nsOk K M0 "__init__" (U (.ref uF))=θ)(kC0:q08 K (.ref c0)=θ)(aI1:q13 K (.ref c1) "__init__" = U (U (.ref uG)))(lI1:K.lookup uG=U ⟨Y8,Y5,.func (q1I "__init__" "NoJoin.__init__" (kD xu) (d8 xu) (cw xu) .none Y9 Y_ mO Y6 Ny Za),Y7⟩)(qI1:q2F K Ny "NoJoin.__init__" = θ)(kI1:q08 K (.ref uG)=θ)(iI1:q5d K (.ref uG)=θ)(lC1:K.lookup c1=U (excClassObj FT FU c1 M1 FV (.ref L::oo) FW FX xy FY xA FZ F0 F7 F8 F9 F_ "ValueError.__new__"))(nC1:nsOk K M1 "__init__" (U (.ref uG))=θ)(kC1:q08 K (.ref c1)=θ)(lC4:K.lookup c4=U (excClassObj Ga Gb c4 M4 Gd (.ref L::oo) Ge Gf xB Gg xC Gh Gi Gj Gk Gm Gn "ValueError.__new__"))(nC4:nsOk K M4 "__init__" η=θ)(kC4:q08 K (.ref c4)=θ)
  : ∃fd:FuncData,(∀(s:ο)(v:ν),BindsTo s fd ⟨[v],[]⟩ [("script",v)])/\∀base:I,K.In base->base.Ns mainGlobals mg->(∀t∈dX,base.BuiltinsAt mg t.T)->bK l.prog w K mg base fJ 21 fa fd ["script"] (@zd (pG dX) K):=by
 let⟨f,fd,a,F⟩:=DS.at (x:="law") (st:=uE) 30 Y;cases Zb.symm.trans (q0N X G a)
 letI:aC:=pG dX;let B:=V_ X G N;calc⟨fd,λs v=>by let⟨_,_,_,_,_,_,_,_,_,rfl,_⟩:=F.ex;calc .of_eq Y,λbase KB _ hB=>?_⟩;let D:∀(i:Nat){x:R}{st:o},Nv[i]?=U (x,st)->Dx ⟨l.prog,w,K,mg,base⟩ x st:=λi _ _ e=>(DS.at i e).v X G;let M:∀(i:Nat){x:R}{st:o}{T:O}{lp:y}{q:R},Fu[i]?=U (x,st,T)->dX[i]?=U ⟨T,lp,q⟩->zu ⟨l.prog,w,K,mg,base⟩ x st T lp q:=λi _ _ _ _ _ e e2=>(LS.at i e).v X G KB hB (by decide) (by decide) (q0v e2);let W:Ek K L [c0,c1,c2,c3,c4,c5,c6,c7,c8,c9,km,kn,kq]:=YJ Y kit
 let T:El mg L [c0,c1,c2,c3,c4,c5,c6,c7,c8,c9,km,kn,kq]:=by
  calc⟨B.isinstance,q6v X G zVE,q0N X G aL,λj x hx=>?_⟩;unfold names13 at hx;rcases j with _|_|_|_|_|_|_|_|_|_|_|_|_|j<;>simp at hx<;>subst hx
  .exact⟨_,Y,q0N X G aC0⟩
  .exact⟨_,Y,q0N X G aC1⟩
  .exact⟨_,Y,q0N X G aC2⟩
  .exact⟨_,Y,q0N X G aC3⟩
  .exact⟨_,Y,q0N X G aC4⟩
  .exact⟨_,Y,q0N X G aC5⟩
  .exact⟨_,Y,q0N X G aC6⟩
  .exact⟨_,Y,q0N X G aC7⟩
  .exact⟨_,Y,q0N X G aC8⟩
  .exact⟨_,Y,q0N X G aC9⟩
  .exact⟨_,Y,q0N X G aC10⟩
  .exact⟨_,Y,q0N X G aC11⟩
  .exact⟨_,Y,q0N X G aC12⟩
 let TL:b9 K (.ref L::oo):=.own lL (Nu nL) .base;let hX:∀(c:Nat)(C:O),([c0,c1,c2,c3,c4,c5,c6,c7,c8,c9,km,kn,kq]:-O)[c]?=U C->c<13/\q3R K (.ref C) (.ref L)=U θ:=λc C e=>⟨(tU.mp e).1,q0m (q0T.mp exm C (q0v e))⟩;let Nz:=xZ (st:=xt) lI0 qI0 kI0;let tw:EI ⟨l.prog,w,K,mg,base⟩ [c0,c1,c2,c3,c4,c5,c6,c7,c8,c9,km,kn,kq] 0 "NoWay" := ⟨by decide,c0,Y,q0N X G aC0,uF,_,Fw TL lC0 nC0 kC0,iI0,Yq Nz (W.each 0 c0 Y).1 (W.gX 0 c0 Y),Nz.binds (ps:=["self", "place"]) λ_ _ _ _ _ _ us hl=>by let⟨_,_,rfl⟩:=zv hl;rfl⟩;let NA:=xZ (st:=xu) lI1 qI1 kI1;let pQ:EI ⟨l.prog,w,K,mg,base⟩ [c0,c1,c2,c3,c4,c5,c6,c7,c8,c9,km,kn,kq] 1 "NoJoin" := ⟨by decide,c1,Y,q0N X G aC1,uG,_,Fw TL lC1 nC1 kC1,iI1,Yr NA (W.each 1 c1 Y).1 (W.gX 1 c1 Y),NA.binds (ps:=["self", "place"]) λ_ _ _ _ _ _ us hl=>by let⟨_,_,rfl⟩:=zv hl;rfl⟩
 let tE:ET ⟨l.prog,w,K,mg,base⟩ [c0,c1,c2,c3,c4,c5,c6,c7,c8,c9,km,kn,kq] 4 "NoWeb" := ⟨by decide,c4,Y,Fw TL lC4 nC4 kC4,q0N X G aC4⟩;let Zc:=XR (D 0 Y) B;let zQ:=XT (D 1 Y) B Zc;let NB:=XU (D 2 Y) B;let Zd:=XW (D 3 Y) B zQ;let Ze:=XX (D 4 Y) B (iI.v X G) NB Zd zQ;let Zf:=XZ (D 5 Y) B (jd.v X G) Ze;let Zg:=X0 (D 6 Y) B (g5.v X G) NB zQ Zf;let Zh:=Yn (Cs:=[c0,c1,c2,c3,c4,c5,c6,c7,c8,c9,km,kn,kq]) (D 7 Y) B tE Zg;let Zi:=Yo (Cs:=[c0,c1,c2,c3,c4,c5,c6,c7,c8,c9,km,kn,kq]) (D 8 Y) B tw zQ Zh;let Zj:=X1 (M 0 Y Y) B;let Zk:=Yp (Cs:=[c0,c1,c2,c3,c4,c5,c6,c7,c8,c9,km,kn,kq]) (D 9 Y) B pQ Zj Zi
 let Zl:=X7 (D 10 Y) B;let Zm:=X8 (D 12 Y) B;let xD:=X9 (D 13 Y) B Zl;let NC:=X_ (D 14 Y) B;let Zn:=Yx (D 15 Y) B 1;let Zo:=Ya (D 16 Y) B xD;let Zp:=Yb (D 17 Y) B xD Zo;let Zq:=Yc (D 18 Y) B;let Zr:=Yd (D 19 Y) B Zq;let ND:=Ye (D 20 Y) B NC;let Zs:=Yf (D 21 Y) B ND;let Zt:=Yh (D 22 Y) B Zs ND;let Zu:=Yz (D 23 Y) B xD NC 3;let NF:=Yi (D 24 Y) B xD;let⟨fR,Fm,aR,FR⟩:=D 25 (x:="_law_refusal") (st:=Ng) Y;let GR:Fn l.prog w K mg base 1 "_law_refusal" ["caught"] (mz [c0,c1,c2,c3,c4,c5,c6,c7,c8,c9,km,kn,kq]) fR Fm:=⟨Yt (Z:=⟨l.prog,w,K,mg,base⟩) FR T W,aR,FR.kp,FR.binds qR⟩
 let Zv:=Yj (D 26 Y) B;let Zw:=Yk (D 27 Y) B NF Zr;let Zx:=Yu (D 28 Y) B GR (q0N X G aL) hX Zk;let Zy:=Ym (D 29 Y) B Zt Zv;let⟨fo,fdo,ao,Fo⟩:=D 11 (x:="_law_open") (st:=zO) Y;calc YI (Z:=⟨l.prog,w,K,mg,base⟩) F B ⟨YA Fo B.list B.enumerate,ao,Fo.kp,Fo.binds qR⟩ Zp Zm Zu Zw NF xD Zy Zn Zx
theorem Zz{K:xY}{h:I}(X:K.In h)(LS:eZ K Fu):∀t∈dX,∃cc,q7_ h cc t.T:=λt ht=>LS.code X t.T (show t.T∈dX.map (·.T) from q4o ht)
end LJ
open PySem PySem.W PyProof.Rows
end
open LJ L2
inductive PySem.W.Fast:Prop|tw9247047876451104580|tw15997574927002444389|tw13070758370512328589|tw4835970450517825661|tw18296471595846523680|tw16556555424045257578|tw7425052923850150249|tw10750496422306809816|tw15483574679372748634|tw6558831363185595395|tw1843645525504536591|tw7414903260290754090|tw14160042571992139016|tw3398236477031123170|tw14844094673849537106|tw9217888878894916245|tw14445552625218075855|tw11251279251090495533|tw17224061805257569944|tw6690938968166794984|tw16371346451417629093|tw4701782723967479282|tw11914342727598573272|tw13427701156199143342|tw7126555991282684295|tw12284202445566594624|tw14655708178222268478|tw11642305601269763374|tw4825580608828821269|tw12704546922001677060|tw18075262313440388631|tw10542003405770827962|tw10063891950473449896|tw1017398761311413006|tw13641721493580390505|tw5029176827883227159|tw16231243360842804579|tw91108682844757455|tw6494911089001617787|tw12179891782401674953|tw3816950786890092961|tw2339498778217789554|tw5334734315728248830|tw17037650294261716436|tw15472517889843192389|tw125824158686940414|tw3891796542591820329|tw2611563646828367168|tw15190393324338353860|tw2088750579151219912|tw8622066025530855056|tw5005554426778385938|tw14590065165216753243|tw10897208937128836836|tw6998910614480471813|tw2163621281109857870|tw14850208783103879241|tw10980801807331588714|tw1089714821769723804|tw5301741891366552600|tw17578554763552179196|tw15414520921253755077|tw12517493793671057261|tw160250890971866685|tw3343798985902483488|tw2883976192710516642|tw15726027186514464848|tw1854731167928739172|tw6936705898972564519|tw8394801480463851691|tw6248966104558876982|tw16934170182070581317|tw5759534559589833085|tw9953836171960470352|tw3359471246487984726|tw13443305115704877616|tw6527573739272507077|tw8418429104702794480|tw7069472192481952856|tw9935320562565078961|tw5235178310770439737|tw6428177465515114783|tw6854891622442584441|tw15625038436333442750|tw18318954298802888548|tw2960653560446756273|tw10175614847541261937|tw1117561422244656105|tw13018983700254925488|tw418721387726798617|tw8946783105443538481|tw4434289715235154907|tw5138984218176543973|tw4266384844102850073|tw7073559549215303839|tw9974637870061214561|tw15405006591640126694|tw3674645852569879184|tw15329051599616340051|tw524275278628359090|tw12126778409685567533|tw15706934385317930682|tw11129595708043210959|tw7030875175993334252|tw4659264671983325500|tw15183258015150643328|tw2623004757348680993|tw1301128005211340205|tw3418380004419190145|tw4642727938409352488|tw15376449936879775417|tw5514264791342539643|tw3606827358732354081|tw16862924672373167797|tw5296585828135076201|tw3467173028517295269|tw14486983201259412853|tw3343991862074847177|tw12782570205244979960|tw4222543181605392696|tw9286324151366894057|tw10446652838505070948|tw11672657622142730041|tw16702786510634911771|tw12579533702043029998|tw4598765069123399563|tw12348378591028841022|tw18014991968842318983|tw12837920913027049584|tw10274045800337731143|tw9350165738614130193|tw18005245274925616844|tw9474028157339507332|tw11219090859048255734|tw15373402556131124636|tw11765962409587219218|tw5904609386656677527|tw1181768238873475289|tw3344703735460000853|tw1954658525669940734|tw13542285599721700287|tw430355849207964835|tw10138993466713659984|tw10579320122293422655|tw17436317980326306134|tw7692346935547920950|tw41889246008366022|tw3648431779122993747|tw5957882666075527214|tw17340639602076579821|tw4737183743778125476|tw11821055126728397285|tw1569562838641637682|tw29072036361310344|tw10957910353875281284|tw17762937350491820754|tw6259982370431025271|tw3682273154630817301|tw6930110868238137937|tw8787004557897857965|tw10529112532719052976|tw14462771528209737924|tw15424517621434041104|tw14646351284093587973|tw9480611655255223165|tw8598852893141109673|tw14634254318496448977|tw4797250106513743593|tw13673622722465939896|tw8855642389667606400|tw14237023908087623550|tw3907643970203743475|tw5728358679683501196|tw652140812741017742|tw3027882696511354905|tw17937237897271347809|tw10641917736321491686|tw11698968327890468163|tw10945987559078130997|tw470696415339808292|tw6571598887422667566|tw4391456333143345099|tw2403809544550649918|tw9522918816972286157|tw16728233322803880351|tw4626000439549527363|tw11378087420212037595|tw8698759601264887195|tw7214764164773442298|tw17239295550598936272|tw10622750331465782930|tw6448473121136622743|tw12154043970437472970|tw15956246718975589181|tw13694362386930227121|tw10101309709607144230|tw13763490762388473137|tw3599014390491492008|tw1503080137770741872|tw7935085504699692852|tw1516100259678711697|tw16547628445063925030|tw9851771436081943753|tw18217265970590756835|tw17171500015604035392|tw18281482597815168654|tw8251760304563462537|tw7360031725961195490|tw15469167522312845717|tw9047747668400150256|tw1992911950190831434|tw15379802292441393287|tw526791875490651688|tw4343922181091416268|tw7902538448721820121|tw4813905322111851871|tw15375567702069386412|tw14611021427631787366|tw2767620772714664021|tw15015212083259606173|tw16911624065675891448|tw1145489007144952690|tw5372482707688600795|tw15994956641596167743|tw11038288613938574602|tw3534991359051072350|tw13576909851925069319|tw1314656746655836018|tw748820165142950881|tw4643484712533673552|tw16347632304755543235|tw5907100985140681352|tw2593801946409592109|tw11533341450083443192|tw17439333232246334458|tw16677597537486519730|tw14232056854975026178|tw6523738076768199570|tw3617084271280092791|tw17884459990339082438|tw14666159973793070800|tw229412165913194139|tw3895514584916566269|tw9625831816107012307|tw10272468682701907563|tw11227053428139076030|tw12558300976714567186|tw13666689962319791883|tw16289796384457055157|tw10019623035090856109|tw2048262670958819083|tw1036880171321867557|tw16580631416875770980|tw503995662906566910|tw386817940466440823|tw7015833652674739944|tw13224656689226986133|tw14704466585198321867|tw4614493733315915825|tw17472348951676145123|tw108658593060269407|tw3859614908450933835|tw8247300831608608803|tw13481517663786813460|tw3846286899180853783|tw6901227152628156651|tw11038951773838505761|tw17267494530600130969|tw6220213636202602196|tw16267721753713050637|tw993341778833974305|tw17435236530992057381|tw16401180736145747423|tw12147045544703780965|tw8977812913304815343
set_option maxRecDepth 100000 in
set_option maxHeartbeats 0 in
theorem PySem.Challenge.cw_lotjoin_k41_marks_refused_holds : PySem.Challenge.rw_lotjoin_k41_marks_refused.Holds := by
 w_on;o_law;k_head;(case hw=>w_witness2)
 k_fill
 refine LJ.Vz (l:=PySem.Challenge.rw_lotjoin_k41_marks_refused) (kk:=21) LJ.dX rfl rfl rfl ⟨rfl,by decide,by decide,rfl⟩ ?C (λP=>by kernel_rfl) ?F
 case C =>
  intro w h KX;refine LJ.Zz KX ?_
  repeat' first|exact LJ.eZ.nil|refine LJ.w_ (by k_is) (by k_is) (by k_is) (by k_is) (by kernel_rfl) ?_
 case F =>
  intro w mg fa h KX G oh;refine' LJ.YK KX G oh ?dD ?dL ?dN ⟨_,by k_is,_,rfl⟩ ⟨_,by k_is,_,rfl⟩ ⟨_,by k_is,_,rfl⟩ ?aL ?lL ?nL ?aC0 ?aC1 ?aC2 ?aC3 ?aC4 ?aC5 ?aC6 ?aC7 ?aC8 ?aC9 ?aC10 ?aC11 ?aC12 ?kit ?exm ?zVE ?aI0 ?lI0 ?qI0 ?kI0 ?iI0 ?lC0 ?nC0 ?kC0 ?aI1 ?lI1 ?qI1 ?kI1 ?iI1 ?lC1 ?nC1 ?kC1 ?lC4 ?nC4 ?kC4
  (case dD=>repeat' first|exact LJ.gW.nil|refine LJ.Ed (by k_is) (by k_is) (by k_is) (by k_is) ?_)
  (case dL=>repeat' first|exact LJ.eZ.nil|refine LJ.w_ (by k_is) (by k_is) (by k_is) (by k_is) (by kernel_rfl) ?_)
  (case dN=>repeat' first|exact List.forall_mem_nil _|refine LJ.V8 (by k_is) ?_)
  (case aL=>k_is)
  (case aC0=>k_is)
  (case aC1=>k_is)
  (case aC2=>k_is)
  (case aC3=>k_is)
  (case aC4=>k_is)
  (case aC5=>k_is)
  (case aC6=>k_is)
  (case aC7=>k_is)
  (case aC8=>k_is)
  (case aC9=>k_is)
  (case aC10=>k_is)
  (case aC11=>k_is)
  (case aC12=>k_is)
  (case lL=>k_is)
  (case nL=>kernel_rfl)
  (case kit=>kernel_rfl)
  (case exm=>kernel_rfl)
  (case zVE=>k_is)
  (case aI0=>k_is)
  (case lI0=>k_is)
  (case qI0=>k_is)
  (case kI0=>k_is)
  (case iI0=>k_is)
  (case lC0=>k_is)
  (case nC0=>kernel_rfl)
  (case kC0=>k_is)
  (case aI1=>k_is)
  (case lI1=>k_is)
  (case qI1=>k_is)
  (case kI1=>k_is)
  (case iI1=>k_is)
  (case lC1=>k_is)
  (case nC1=>kernel_rfl)
  (case kC1=>k_is)
  (case lC4=>k_is)
  (case nC4=>kernel_rfl)
  (case kC4=>k_is)
