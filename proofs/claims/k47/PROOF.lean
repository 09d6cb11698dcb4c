import PyProof.Rows.All
import Wide.All
import OpenK.AllK
import Wide.FinOn
import Lean
import PyProof.Rows.SetFrom
import PyProof.TupleKey
import PyProof.SetRoads
import PySem.SetOps
import PyProof.EqAt
import PyProof.EqKinds
import PyProof.TupleCall
import KE.KDictList
import KE.KDictLaws
import PyProof.NeKinds
import PyProof.Draws
import KE.KSortTup
import KE.KLam
import PyProof.ListRange
import PyProof.TupleOfSeq
import KE.KNestM
import KE.KMinKey
import PyProof.MinMaxWalk
import PySem.Challenge.RW_lotjoin_k47_stands_behind_events
set_option bootstrap.genMatcherCode false
open List renaming append_nil->oO,foldl_cons->sd,foldl_nil->tV,getElem?_eq_getElem->vD,length_map->BE,getElem?_eq_some_iff->Il,length_cons->Ip,length_append->Qs,size_toArray->Qt,mem_cons->Qu,getD_eq_getElem?_getD->Qv,getElem?_map->Qw,getElem?_append_left->Z_,getElem?_append_right->q0b,replicate->q0h,mem_iff_getElem?->q0j,mem_cons_of_mem->q0l,mem_cons_self->q0m,mem_append_right->q0p,mem_map->q0q,map_cons->q0r,not_mem_nil->q0s,lookup_cons->q0v,map_append->q0w,mem_append->q0z,range->q0C,length_take->q0D,map_map->q0I,mem_singleton->q0K,getElem?_take_of_lt->q0N,length_filter_le->q0P,mem_filter->q0R,mem_of_getElem?->q0S,length_singleton->q0W,set_cons_zero->q0Y,set_cons_succ->q0Z,mem_range->q05,length_range->q07,getElem?_set_self->q08,getElem?_set_ne->q09,filter_cons->q1h,length_nil->q1n,replicate_succ->q1s,mem_append_left->q1x,pairwise_cons->q1y,length_set->q1C,take_of_length_le->q1F,all_eq_true->q1V,length_eq_zero_iff->q1X,getElem_mem->q1Y,nodup_append->q14,filter_map->q17,getElem?_eq_none->q18,zip_cons_cons->q2a,map_nil->q2b,any_eq_false->q2c,getElem?_range->q2f,length_drop->q2k,getElem?_toArray->q2r,drop_eq_getElem_cons->q2t,nodup_cons->q2u,append_assoc->q2v,mem_iff_getElem->q2w,flatten_cons->q2x,toArray->q2y,any_cons->q2C,map_congr_left->q2E,Perm.refl->q2G,take_length->q2I,lookup->q2K,find?_cons->q2Q,ext_getElem?->q2R,pairwise_map->q2S,zip_nil_left->q2T,range_eq_range'->q2V,pairwise_iff_getElem->q2Y,mem_map_of_mem->q20,eq_of_mem_replicate->q22,mem_filterMap->q28,getElem?_replicate->q2_,drop_of_length_le->q3l,take_succ->q3n,length_filterMap_eq_countP->q3o,length_replicate->q3r,countP_cons->q3s,getElem_map->q3y,mem_of_mem_drop->q3A,filterMap_cons->q3L,drop_zero->q3T,length_eraseIdx_of_lt->q3U,Perm.swap->q3V,zip_nil_right->q30,take_zero->q36,filter_append->q37,mem_or_eq_of_mem_set->q4a,extract_eq_take_drop->q4b,range'->q4j,nodup_range->q4w,getElem_inj->q4D,cons_append->q4I,getElem?_cons_succ->q4J,filter_cons_of_neg->q4L,filter_cons_of_pos->q4M,pairwise_lt_range->q4P,find?_cons_of_pos->q4Z,find?_cons_of_neg->q40,of_mem_zip->q46,nil_append->q47,forIn_cons->q48,contains_iff_mem->q5c,countP_eq_length->q5d,Perm.append_left->q5e,mem_of_mem_take->q5o,Perm.cons->q5p,nodup_nil->q5s,forIn_nil->q5z,map_id->q5A,take_succ_cons->q5F,filter_eq_self->q5G,replicate_zero->q5H,filter_sublist->q5I,forall_mem_nil->q5K,filterMap_map->q5T,getElem?_drop->q53,take_sublist->q57,Pairwise.nil->q5_,Sublist.refl->q6u,foldl_append->q6v,flatMap_cons->q6A,mem_flatMap->q6J,any_eq_true->q6L,range'_succ->q6M,zipIdx_cons->q6O,find?_some->q6W,range_succ->q6Z,zipIdx_nil->q7a,foldl->q7p,take_nil->q7T,map_take->q7X,cons.inj->q7Y,sum_cons->q70,Perm->q72,any_map->q8G,map_set->q8O,filter->q9Y,drop->x1b
open Nat renaming reduceBEq->r_,le_refl->Im,ne_of_lt->q0g,lt_of_lt_of_le->q0o,le_trans->q0B,zero_add->q0G,lt_succ_of_lt->q0O,lt_succ_self->q0T,sub_self->q03,zero_le->q06,le_of_lt->q1e,le_of_ble_eq_true->q1u,lt_irrefl->q1L,ne_of_gt->q1P,le_add_right->q19,lt_of_le_of_lt->q29,le_of_lt_succ->q3c,le_of_not_lt->q3t,le_succ->q3C,succ_le_succ->q4G,succ_ne_self->q4H,add_sub_cancel_left->q4K,lt_trans->q4N,ble->q41,min_eq_left->q5b,sub_zero->q56,le_of_eq->q6e,le_of_succ_le->q6p,lt_of_succ_le->q6q,min_self->q6t,le_succ_of_le->q6x,succ.inj->q6y,mul_le_mul->q7B,reduceAdd->q7V,succ_add->q8f,succ_pos->q8g,mul_comm->q8h,succ_mul->q8o,add_zero->q8N,mod_lt->x0u,not_lt->x0I
open PySem renaming wpAny_bind->sf,Heap.get?_push_of_some->yd,wpAny_pure->Io,W.Frag->My,Heap.lt_size->q0a,Heap.get?_push_size->q0c,Spec->q0t,Value.none->q0E,Value.ref->q0J,wpAny_holding->q0M,Heap.SameBut.update->q0Q,F.plainAttrs_list->q0V,Heap.size_push->q00,Heap.get?_update_self->q01,Str.ofString->q02,Value.int->q04,W.keepIn->q0_,W.fnOf->q1a,Obj.mapSeq->q1c,wpAny_callSpecial?_slot->q1f,wpAny_call_entry->q1g,F.called_set->q1j,Heap.get?_update_other->q1k,W.kitOne->q1l,wpAny_loadPart'->q1m,boot_len->q1o,F.slot_list_append->q1p,F.type_list_append->q1q,mem_of_lookup->q1r,W.findIn->q1z,codeAny_builtin->q1A,W.kia_one->q1B,Builtin.SmallTypes.nextOf->q1G,wpAny_newObj_type->q1H,W.emptyDict->q1I,wpAny_field->q1J,wpAny_seqItems->q1K,NameKind.cell->q1M,Builtin.SmallTypes.ownedTupleIsFree->q1N,W.nsIn->q1R,PassesOwn.never->q1S,Value.type->q1T,wpAny_mono->q1U,sizeLine_eq->q1W,Around.under_plainId->q1Z,NameKind.free->q11,wpAny_setState_of->q13,wpAny_pyIter_list->q15,wpAny_truthy_bool->q16,wpAny_pyIter_enum->q2d,W.instObj->q2e,SetTable.layClean.free->q2i,plainId_quiet->q2j,Obj.data_mapFields->q2l,wpAny_Call_Name_kw->q2m,Around.in1_handled->q2n,wpAny_pyIter_tuple->q2o,F.slot_tuple_iterator_next->q2p,wpAny_setField_rec->q2q,Builtin.Slice.slicePlaces->q2s,SetTable.fill->q2z,Builtin.Tuple.tupleExact->q2A,Builtin.List.listTooLong->q2B,SetTable->q2F,Heap.SameBut->q2L,Obj.putSet->q2M,codeAny_mono->q2O,Value.bool->q2P,W.codeIn->q2U,wpAny_askSetting->q2W,Builtin.Slice.sliceAdjust->q2Z,Builtin.SmallTypes.ownedTupleHandOut->q21,wpAny_standAt->q23,F.args_tuple_add_2->q24,W.mg_of->q25,wpAny_updateSeq->q26,wpAny_passesOwn->q27,F.entry_tuple_add->q3a,wpAny_letGo->q3b,SetTable.probe.go->q3d,wpAny_storeSet_of->q3g,wpAny_setField->q3i,W.cellsFrom_some->q3j,F.slot_tuple_add->q3k,Builtin.Tuple.tupleCompareSizes->q3p,Obj.isFreed_of_fields->q3q,intKind_is->q3u,wpAny_rule->q3v,Walks.list->q3w,W.plainGet->q3x,SetTable.fits->q3z,wpAny_updateSeq_pair->q3D,wpAny_specialOf->q3E,Builtin.Frozenset.updateFrom->q3F,wpAny_execs_nil->q3G,F.args_tuple_iterator_next_1->q3I,F.slot_zip_next->q3J,wpAny_setEntries_of->q3K,W.plainGet_of->q3M,wpAny_typeOf->q3O,F.entry_tuple_iterator_next->q3P,wpAny_runValue->q3W,Calls.Name_function_global->q3X,W.lookIn->q3Y,W.callWith_K->q3Z,Builtin.Slice.sliceApplied->q31,Builtin.Tuple.tupleItemsOf->q32,wpAny_letOwnedTupleGo_enum->q34,tupleKind_room_in1->q35,wpAny_tryCatch->q39,Calls.call_function_entry->q4c,Obj.cls_mapFields->q4e,W.methodObj->q4h,W.hasDictIn->q4i,wpAny_attempt->q4n,Builtin.List.listSameRef->q4o,AutoSeq1.sub_tuple_tuple->q4q,wpAny_newList->q4r,wpAny_onRaise->q4t,F.slot_list_extend->q4u,F.type_list_extend->q4v,putSet_of->q4y,wpAny_forIn_list->q4z,wpAny_isInstance->q4A,Value.str->q4B,wpAny_eqBool_int->q4C,Builtin.Range.rangeSize->q4E,noFill_tuple_add->q4F,wpAny_call->q4Q,SeqAt.EqAt->q4S,W.isFn->q4T,richCompare_meets_room->q4V,Calls.callWith_builtin->q4X,call_meets->q4Y,codeAny_of_tree->q43,wpAny_ite_split->q44,W.takerIn->q45,SeqAt.EqAt.same->q49,weight_type_call_type->q5f,builtinLookup_eq_fast->q5g,wpAny_isTrue_Compare1->q5h,W.methodCall_KW->q5i,F.slot_dict_pop->q5j,codeAny_call_builtin->q5q,F.sub_list_frozenset->q5r,wpAny_of_eq->q5t,isSubtype_type->q5u,Around.frames_deeper->q5w,Value.notImplemented->q5x,Calls.evalArgs_plain->q5y,W.callWith_K0->q5C,call_enumerate_list->q5E,W.codeHd_of_K->q5J,Paired.length->q5N,seq_tuple_add->q5O,PlainL.isList->q5Q,Code.quiet_builtin->q5U,Around.under_plain->q5V,SeqAt.EqAt.int_str->q5X,SeqAt.EqAt.str_int->q5Y,Calls.spliced_cons->q5Z,SeqAt.EqAt.int_int->q50,SeqAt.EqAt.of_refs->q52,Value.isInt_shape->q58,F.entry_type_call->q59,wpAny_pyIter_slot->q6a,Within->q6b,wpAny_assign_Name->q6c,W.plainOver->q6d,W.kitx_list->q6f,W.kitx_dict->q6g,Around.under->q6h,Code.isFrame->q6i,Calls.spliced_nil->q6j,concat_meets->q6k,wpAny_sequenceKey->q6l,seqIndex_neg->q6m,slot_list_getitem->q6n,wpAny_collect_seq->q6w,F.args_zip_next_1->q6z,F.typeCall_set_1->q6B,F.entry_set_init->q6C,check_set_init_1->q6D,wpAny_execs_cons->q6E,W.handedIn->q6F,W.codeHdIn->q6N,F.entry_zip_next->q6P,wpAny_pyIter_zip->q6Q,Value.float->q6S,seqIndex_of->q6T,Shared.heap->q6U,F.plain_set_new->q60,typeLookup_type->q61,F.slot_set_iter->q62,W.makesIn->q63,F.slot_int_rmul->q65,pushCells_keeps->q66,W.OpenLaw->q6_,SetTable.grown->q7e,F.sub_list_set->q7g,entryFor_alias->q7i,wpAny_load->q7j,isSubtype_stop->q7k,wpAny_Name->q7l,typeIs_int->q7o,fitsIndex_both->q7r,call->q7t,SeqAt.RcAt->q7u,wpAny_newTuple->q7z,W.CodeHd->q7A,Shared.TypeIs->q7F,Obj.mapFields->q7G,wpAny_handled->q7H,Value.isStrOf->q7J,rangeSize_one->q7K,intBits_le_64->q7L,evalPart_none->q7N,call_list_seq->q7O,Sem->x1s
open Array renaming length_toList->q0d,getElem?_eq_getElem->q0u,getElem?_toList->q0H,getD_eq_getD_getElem?->q0X,getElem?_eq_none->q1E,toList_setIfInBounds->q12,toList_replicate->q3e,toList_push->q3f,size_map->q3h,getElem?_eq_some_iff->q3R,perm_iff_toList_perm->q38,getElem_mem_toList->q4k,size_setIfInBounds->q4l,toList_filterMap->q4O,toList_extract->q5n,toList_append->q5B,foldl_toList->q5R,size_extract->q5S,getD->q5W,size_append->q55,replicate->q6X,size_push->q6Y,Perm.refl->q68,toList->q8l
open Option renaming map_eq_some_iff->q0f,some.inj->q0A,isSome_some->q33,isSome_iff_exists->q4p,getD_none->q4x,map_some->q42,isSome->q5L,isSome_map->q6r,none->q9u,map->x0w
open Int renaming toNat_natCast->q0x,emod_lt_of_pos->q1i,emod_nonneg->q1O,eq_ofNat_of_zero_le->q2J,cast_ofNat_Int->q3_,natCast_add->q5a,zero_add->q6s,ofNat->q6I,le_refl->q6V,ofNat.inj->q7P,mul_one->q9q,toNat->x1o
open Bool renaming false_ne_true->q0F,and_eq_true->q0L,false_eq_true->q1b,not_eq_true'->q3m,or_eq_true->q3H,not_true->q4m,false_and->q5v,or_false->q5M,true_and->q5P,not_eq_true->q6K,and_false->q7q,and_true->q7Q,and_self->q7U
open PyProof renaming Rows.slot_tuple_getitem->q1d,Rows.callWith_type1->q1w,Rows.F.plain_set_update_loop->q10,Rows.F.entry_set_update_loop->q2H,Rows.lt_int->q3N,Rows.subscriptTail_builtinR->q4W,Rows.get?_update_seq->q4_,Rows.entry_tuple_getitem->q5D,Rows.args_tuple_getitem->q51
open False renaming elim->q1t
open LawfulBEq renaming eq_of_beq->q1D
open ForInStep renaming yield->q1Q
open True renaming intro->q1_
open Ne renaming symm->q2h
open Classical renaming byContradiction->q2X,choose_spec->q5k,choose->x1r
open Sum renaming inl.inj->q3B,inl->q4f,inr->q4g
open Or renaming inl->q5l,inr->q5m
open Function renaming comp->q7W
open Prod renaming fst->q9w
set_option Elab.async false
set_option linter.all false
set_option maxRecDepth 100000
abbrev bA:=PySem.Value->PySem.Shared->Prop
local macro_rules | `(tactic| trivial) => `(tactic| first|exact q5l rfl|exact q5m rfl)
abbrev q0e:=@decide_eq_false
abbrev q0i:=@if_neg
abbrev q0k:=@if_pos
abbrev q0n:=@decide_eq_true
abbrev q0y:=@decide_eq_true_eq
abbrev q0U:=@of_decide_eq_true
abbrev q1v:=@or_false
abbrev q2g:=@if_false
abbrev q2D:=@beq_eq_false_iff_ne
abbrev q2N:=@if_true
abbrev q3S:=@of_decide_eq_false
abbrev q4d:=@bne_self_eq_false
abbrev q4s:=@not_not_intro
abbrev q4R:=@not_or
abbrev q4U:=@beq_iff_eq
theorem el7{α β γ ε:Type}{A B C:α→β→γ→ε→Prop}{R:Prop}(h:∃F ad δ K, A F ad δ K∧B F ad δ K∧C F ad δ K)(k:∀F ad δ K, A F ad δ K→B F ad δ K→C F ad δ K→R): R:=h.elim λF h=>h.elim λa h=>h.elim λd h=>h.elim λK h=>k F a d K h.1 h.2.1 h.2.2
theorem el5{α β:Type}{A B C:α→β→Prop}{R:Prop}(h:∃F ad, A F ad∧B F ad∧C F ad)(k:∀F ad, A F ad→B F ad→C F ad→R): R:=h.elim λF h=>h.elim λa h=>k F a h.1 h.2.1 h.2.2
theorem el3{α:Type}{A B:α→Prop}{R:Prop}(h:∃F, A F∧B F)(k:∀F, A F→B F→R): R:=h.elim λF h=>k F h.1 h.2
set_option compiler.extract_closed false
local macro_rules | `(tactic| symm) => `(tactic| first|lia|omega (config:={}))
local macro_rules | `(⋯) => `(by symm)
abbrev A2:=PySem.Value->PySem.Shared->Prop
open Option renaming some->U,some->ζ,none->Z,none->η
open Bool renaming true->θ,false->ι
open Decidable renaming decide->G,decide->μ
open PySem renaming Value->L,Value->ν,Addr->O,Addr->ξ,Shared->B,Shared->ο,Str->J,Str->π,wpAny->M,wpAny->ρ,model->g,model->ς,Expr->l,Expr->υ,Stmt->R,Stmt->χ,Program->t,Program->ψ,World->S,World->ω,Heap->I,Heap->Α,Around->o,Around->Β,Obj->Q,Obj->Γ,Scope->a,Scope->Δ,Pos->y,Pos->Ε,Env->X,Env->Ζ
theorem Y{α:Sort u}{a:α}:a=a:=rfl
section
open Lean in
def qzp(s:Syntax):Syntax:=
 let n:=λs a=>mkNode (`Lean.Parser.Tactic++s) a
 s.rewriteBottomUp λs=>if s.isIdent then n `rcasesPat.one #[s] else if s.isOfKind `Lean.Parser.Term.hole then n `rcasesPat.ignore #[mkAtom "_"] else if s.isOfKind `Lean.Parser.Term.anonymousCtor then n `rcasesPat.tuple #[mkAtom "⟨",mkNullNode (s[1].getArgs.map λx=>if x.isAtom then x else n `rcasesPatLo #[n `rcasesPatMed #[mkNullNode #[x]],mkNullNode]),mkAtom "⟩"] else s
open Lean in
local macro_rules
 |`(tactic|let $d:letDecl)=>do
  let d:=d.raw[0]
  pure (if d.isOfKind `Lean.Parser.Term.letPatDecl then mkNode `Lean.Parser.Tactic.obtain #[mkAtom "obtain",mkNullNode #[mkNode `Lean.Parser.Tactic.rcasesPatMed #[mkNullNode #[qzp d[0]]]],mkNullNode (if d[2].getNumArgs==0 then #[] else #[mkAtom ":",d[2][0][1]]),mkNullNode #[mkAtom ":=",mkNullNode #[d[4]]]] else mkNode `Lean.Parser.Tactic.tacticHave__ #[mkAtom "have",mkNode `Lean.Parser.Term.letConfig #[mkNullNode],mkNode `Lean.Parser.Term.letDecl #[d]])
open Lean in
local macro_rules
 |`(fun $bs* => $e)=>do
  if (← getRef)[1][2].getAtomVal != "↦" then Macro.throwUnsupported
  let p:=bs.map λs=>⟨mkNode `Lean.Parser.Tactic.rintroPat.one #[qzp s]⟩
  `(by rintro $p*;exact $e)
local macro_rules |`(tactic|calc $e:term)=>`(tactic|refine $e)
local macro_rules |`(tactic|ext $p*)=>`(tactic|rintro $p*)
local macro_rules |`(↑$x)=>`(($x).length)
local macro_rules |`(⇑$x)=>`(($x).heap.objs.size)
local macro_rules |`($x⁻¹)=>`(by simpa using $x)
open Lean in
local macro_rules
 |`(-$x)=>if x.raw.getKind==`Lean.Parser.Term.typeAscription||x.raw.isOfKind `num||(x.raw.isOfKind `Lean.Parser.Term.paren&&!x.raw[1].isOfKind `Lean.Parser.Term.app&&!x.raw[1].isOfKind `«term-_»&&!x.raw[1].isOfKind `«term_×_»&&!x.raw[1].isOfKind `Lean.Parser.Term.arrow) then Macro.throwUnsupported else `(List $x)
open Lean in
local macro_rules
 |`(tactic|erw[$ls,*] $[$l:location]?)=>do
  let a←ls.getElems.mapM fun r=>do
   let t:Term:=⟨r.raw[1]⟩
   if r.raw[0].getNumArgs==0 then `(Parser.Tactic.simpLemma|$t:term) else `(Parser.Tactic.simpLemma|←$t:term)
  `(tactic|simp only[$a,*] $[$l]?)
namespace LJS
open PySem PySem.SetTable
noncomputable def nx(m i:Nat):Nat:=(i*5+1)%(m+1)
noncomputable def ou(m:Nat):Nat->Nat->Nat
 |0,i=>i
 |n+1,i=>ou m n (nx m i)
theorem xJ(m:Nat):∀a b i,ou m (a+b) i=ou m b (ou m a i)
 |0,b,i=>by rw[q0G];rfl
 |a+1,b,i=>by rw[q8f];calc xJ m a b (nx m i)
noncomputable def z9(m:Nat):Nat->Nat->-Nat
 |0,_=>[]
 |n+1,i=>i::z9 m n (nx m i)
theorem GH(m:Nat):∀{n i e:Nat},e∈z9 m n i->∃k,k<n/\ou m k i=e
 |0,_,_,h=>nomatch h
 |n+1,i,e,h=>by
  rcases Qu.mp h with rfl|h
  .exact⟨0,q8g _,Y⟩
  .let⟨k,hk,e⟩:=GH m h
   calc⟨k+1,Nat.succ_lt_succ hk,e⟩
def Mk(m:Nat):Prop:=m=7\/m=31\/m=127
noncomputable def uU(m:Nat):Bool:=(q0C (m+1)).all λe=>(z9 m (m+1) 0).contains e
theorem GI(h:Mk m):uU m=θ/\ou m (m+1) 0=0:=by
 rcases h with rfl|rfl|rfl<;>calc⟨by decide +kernel,by decide +kernel⟩
theorem qo(h:Mk m)(he:e<=m):∃k,k<=m/\ou m k 0=e:=by
 let:=q1V.mp (GI h).1 e (q05.mpr (Nat.lt_succ_of_le he));let⟨k,hk,q⟩:=GH m (q5c.mp this);calc⟨k,q3c hk,q⟩
theorem Nr(h:Mk m)(hi:i<=m)(he:e<=m):∃n,n<=m/\ou m n i=e:=by
 let⟨a,ha,rfl⟩:=qo h hi;let⟨b,hb,rfl⟩:=qo h he
 by_cases GJ:a<=b
 .refine⟨b-a,⋯,?_⟩
  rw[<-xJ];congr 1;symm
 .refine⟨m+1-a+b,⋯,?_⟩
  rw[<-xJ,show a+(m+1-a+b)=(m+1)+b by symm,xJ,(GI h).2]
noncomputable def lp(m:Nat):Nat->Nat->Nat->Nat×Nat
 |0,i,p=>(i,p)
 |n+1,i,p=>lp m n (leap m i p).1 (leap m i p).2
theorem z_(m:Nat):∀a b i p,lp m (a+b) i p=lp m b (lp m a i p).1 (lp m a i p).2
 |0,b,i,p=>by rw[q0G];rfl
 |a+1,b,i,p=>by rw[q8f];calc z_ m a b _ _
theorem GL(m:Nat):∀n i,lp m n i 0=(ou m n i,0)
 |0,i=>Y
 |n+1,i=>by
  show lp m n (leap m i 0).1 (leap m i 0).2=_;let e:leap m i 0=(nx m i,0):=by unfold leap nx;simp
  rw[e];calc GL m n _
theorem Nu(m i p:Nat):(leap m i p).1<=m:=q3c (x0u _ (q8g _))
theorem GN(m:Nat):∀n i p,(lp m n i p).2=p / 32 ^ n
 |0,i,p=>by simp[lp]
 |n+1,i,p=>by
  show(lp m n (leap m i p).1 (leap m i p).2).2=_;rw[GN m n];show p / 32 / 32 ^ n=_;rw[Nat.div_div_eq_div_mul,Nat.pow_succ,q8h]
theorem reach(h:Mk m)(hp:p<2 ^ 64)(he:e<=m):∃n,n<=13+m/\(lp m n i p).1=e:=by
 let z:(lp m 13 i p).2=0:=by
  rw[GN];exact Nat.div_eq_of_lt (q4N hp (by decide))
 let q:(lp m 13 i p).1<=m:=by
  rw[z_ m 12 1];exact Nu _ _ _
 let⟨n,hn,en⟩:=Nr h q he;calc⟨13+n,⋯,?_⟩;rw[z_,z,GL];calc en
theorem GP(j:Nat):has #[] j=ι:=by unfold has;simp
theorem Aa{t:SetTable}(hd:t.dummies = #[])(j:Nat):t.slot j=.empty\/∃i,t.slot j=.live i/\i<t.place.size/\j∈t.place.toList:=by
 unfold slot;rw[hd,GP];dsimp only
 by_cases c:(t.place[below t.place j]?==U j)=θ
 .right
  rw[q0k c];let e:=q1D c;let⟨hl,ev⟩:=q3R.mp e;exact⟨_,Y,hl,by rw[<-ev];calc q4k hl⟩
 .left
  rw[q0i c];rfl
theorem Nv{t:SetTable}(hd:t.dummies = #[])(hj:j∉t.place.toList):t.slot j=.empty:=by
 rcases Aa hd j with h|⟨_,_,_,h⟩
 .exact h
 .calc absurd h hj
theorem GQ:∀{l l':-Nat},l.Nodup->(∀x∈l,x∈l')->↑l<=↑l'
 |[],_,_,_=>q06 _
 |a::l,l',hn,hs=>by
  let ha:a∈l':=hs a (q0m ..);let qp:=q2u.mp hn;let ih:=GQ (l:=l) (l':=l'.erase a) qp.2 λx hx=>(List.mem_erase_of_ne (λz=>qp.1 (by rw[<-z];calc hx))).mpr (hs x (q0l _ hx));rw[List.length_erase_of_mem ha] at ih;let:=List.length_pos_of_mem ha;rw[Ip];symm
theorem Nx{l:-Nat}(h:↑l<=m):∃e,e<=m/\e∉l:=by
 calc q2X λno=>?_;let all:∀e,e∈q0C (m+1)->e∈l:=λe he=>q2X λz=>no ⟨e,q3c (q05.mp he),z⟩;let:↑(q0C (m+1))<=↑l:=GQ q4w all;rw[q07] at this;symm
noncomputable def stateOf(t:SetTable)(i p:Nat):Probe:=⟨i,runEnd t.mask i-i,i,p,Z⟩
theorem Ny(m i:Nat):runEnd m i-i<=9:=by unfold runEnd;split<;>symm
section
variable{t:SetTable}{f:Nat->Int}{h:Int}
theorem xK(F:Nat)(p:Probe):q3d t f h (F+1) p=(match t.slot p.j with
  |.empty=>U (.empty p.j p.dummy)
  |.dummy=>q3d t f h F (t.advance {p with dummy:=U p.j})
  |.live i=>if f i==h then U (.candidate p.j i (t.advance p)) else q3d t f h F (t.advance p)):=rfl
theorem GR(hd:t.dummies = #[])(hf:∀i,i<t.place.size->f i≠h):∀(k F:Nat)(p:Probe),p.more=k->p.dummy=Z →
  (∃j,q3d t f h (F+k+1) p=U (.empty j Z))\/q3d t f h (F+k+1) p=q3d t f h F (stateOf t (leap t.mask p.i p.perturb).1 (leap t.mask p.i p.perturb).2)
 |0,F,p,hm,uV=>by
  show(∃j,q3d t f h (F+1) p=_)\/q3d t f h (F+1) p=_;rw[xK];rcases Aa hd p.j with e|⟨i,e,hi,_⟩
  .left;rw[e];exact⟨p.j,by rw[uV]⟩
  .right
   rw[e];show(if(f i==h)=θ then _ else _)=_;rw[q0i (by ext z;calc hf i hi (q1D z))];unfold advance;rw[hm,q0i ⋯,uV];rfl
 |k+1,F,p,hm,uV=>by
  let ih:=GR hd hf k F {p with j:=p.j+1,more:=p.more-1} (by show p.more-1=k;symm) uV;rw[show F+(k+1)+1=(F+k+1)+1 by symm,xK];rcases Aa hd p.j with e|⟨i,e,hi,_⟩
  .left;rw[e];exact⟨p.j,by rw[uV]⟩
  .rw[e]
   show(∃j,(if(f i==h)=θ then _ else _)=_)\/(if(f i==h)=θ then _ else _)=_;rw[q0i (by ext z;calc hf i hi (q1D z))];let ea:t.advance p={p with j:=p.j+1,more:=p.more-1}:=by unfold advance;rw[q0k ⋯]
   rw[ea];calc ih
theorem GS(hd:t.dummies = #[])(hf:∀i,i<t.place.size->f i≠h):∀(n F i p:Nat),10*(n+1)<=F->t.slot (lp t.mask n i p).1=.empty->∃j,q3d t f h F (stateOf t i p)=U (.empty j Z)
 |0,F,i,p,hF,hs=>by
  let⟨G,rfl⟩:∃G,F=G+1:=⟨F-1,⋯⟩;rw[xK];let e:t.slot (stateOf t i p).j=.empty:=hs;rw[e];exact⟨i,Y⟩
 |n+1,F,i,p,hF,hs=>by
  let hr:=Ny t.mask i;let⟨G,hG⟩:∃G,F=G+(runEnd t.mask i-i)+1:=⟨F-(runEnd t.mask i-i)-1,⋯⟩;let:=GR (f:=f) (h:=h) hd hf (runEnd t.mask i-i) G (stateOf t i p) Y Y;rw[<-hG] at this;rcases this with h1|h1
  .exact h1
  .rw[h1]
   calc GS hd hf n G _ _ ⋯ hs
theorem Ab(h:Int):bits h<2 ^ 64:=by
 unfold bits;let:=q1i h (show(0:Int)<2 ^ 64 by decide);let:=q1O h (show(2 ^ 64:Int)≠0 by decide);symm
theorem GU(hd:t.dummies = #[])(hm:Mk t.mask)(hz:t.place.size<=t.mask)(hf:∀i,i<t.place.size->f i≠h):∃j,t.probe f h (t.probeStart h)=U (.empty j Z):=by
 let⟨e,he,ne⟩:=Nx (l:=t.place.toList) (m:=t.mask) (by rw[q0d];calc hz);let⟨n,hn,en⟩:=reach hm (i:=bits h%(t.mask+1)) (Ab h) he;calc GS hd hf n _ _ _ (by unfold turns;symm) (by rw[en];calc Nv hd ne)
end
section
variable{m:Nat}{owner:Array (Option Nat)}
theorem GV(F i p:Nat):q2i m owner (F+1) i p=(match(q0C (runEnd m i+1-i)).find? λk=>(owner.getD (i+k) (U 0)).isNone with
   |some k=>U (i+k)
   |none=>q2i m owner F (leap m i p).1 (leap m i p).2):=rfl
theorem Ac:∀(n F i p:Nat),n+1<=F->(owner.getD (lp m n i p).1 (U 0)).isNone=θ->∃j,q2i m owner F i p=U j/\(owner.getD j (U 0)).isNone=θ
 |0,F,i,p,hF,hs=>by
  let⟨G,rfl⟩:∃G,F=G+1:=⟨F-1,⋯⟩;rw[GV]
  cases hc:(q0C (runEnd m i+1-i)).find? λk=>(owner.getD (i+k) (U 0)).isNone with
  |some k =>
   let:=q6W hc;exact⟨i+k,Y,this⟩
  |none =>
   let:=List.find?_eq_none.mp hc 0 (q05.mpr (by unfold runEnd;split<;>symm));exact absurd hs this
 |n+1,F,i,p,hF,hs=>by
  let⟨G,rfl⟩:∃G,F=G+1:=⟨F-1,⋯⟩;rw[GV]
  cases hc:(q0C (runEnd m i+1-i)).find? λk=>(owner.getD (i+k) (U 0)).isNone with
  |some k =>
   let:=q6W hc;exact⟨i+k,Y,this⟩
  |none=>calc Ac n G _ _ ⋯ hs
end
structure Ow(m:Nat)(owner:Array (Option Nat))(k:Nat):Prop where
 size:owner.size=m+1
 cnt:owner.toList.countP q5L=k
 lt:∀x,U x∈owner.toList->x<k
theorem Ad:∀{l:-(Option Nat)}{j k:Nat},l[j]?=U Z->(l.set j (U k)).countP q5L=l.countP q5L+1
 |[],j,k,h=>by simp at h
 |x::l,0,k,h=>by
  simp at h;subst h;rw[q0Y,q3s,q3s];rfl
 |x::l,j+1,k,h=>by
  simp at h;rw[q0Z,q3s,q3s,Ad h];symm
theorem getD_none{owner:Array (Option Nat)}(h:(owner.getD j (U 0)).isNone=θ):owner.toList[j]?=U Z:=by
 rw[q0X] at h;rw[q0H]
 cases e:owner[j]? with
 |none=>rw[e] at h;cases h
 |some x =>
  rw[e] at h
  cases x with
  |none=>rfl
  |some y=>cases h
theorem GW{owner:Array (Option Nat)}(O:Ow m owner k)(hk:k<=m):∃e,e<=m/\(owner.getD e (U 0)).isNone=θ:=by
 refine q2X λno=>?_
 let all:∀x∈owner.toList,x.isSome=θ:=by
  ext x hx;let⟨e,he⟩:=q0j.mp hx
  cases x with
  |some y=>rfl
  |none =>
   let hl:=(Il.mp he).1;rw[q0d,O.size] at hl;calc absurd ⟨e,q3c hl,?_⟩ no;rw[q0X,<-q0H,he];rfl
 let:=q5d.mpr all;rw[O.cnt,q0d,O.size] at this;symm
theorem Nz{owner:Array (Option Nat)}(hm:Mk m)(O:Ow m owner k)(hk:k<=m)(h:Int):∃j,q2i m owner (turns m) (bits h%(m+1)) (bits h)=U j/\Ow m (owner.setIfInBounds j (U k)) (k+1):=by
 let⟨e,he,hn⟩:=GW O hk;let⟨n,qp,en⟩:=reach hm (i:=bits h%(m+1)) (Ab h) he;let⟨j,ej,hj⟩:=Ac (m:=m) (owner:=owner) n (turns m) (bits h%(m+1)) (bits h) (by unfold turns;symm) (by rw[en];calc hn);refine⟨j,ej,by rw[q4l];calc O.size,?_,λx hx=>?_⟩
 .rw[q12,Ad (getD_none hj),O.cnt]
 .rw[q12] at hx
  rcases q4a hx with h|h
  .exact q0O (O.lt x h)
  .cases h;calc q0T _
theorem GX(hm:Mk m):∀(hs:-Int)(owner:Array (Option Nat))(k:Nat),Ow m owner k->k+↑hs<=m+1 →
  ∃fu,(hs.foldl (init:=U (owner,k)) λacc h=>do
   let(owner,k) <- acc
   let j <- q2i m owner (turns m) (bits h%(m+1)) (bits h)
   pure (owner.setIfInBounds j (U k),k+1))=U (fu,k+↑hs)/\Ow m fu (k+↑hs)
 |[],owner,k,O,_=>⟨owner,Y,O⟩
 |h::hs,owner,k,O,hl=>by
  rw[Ip] at hl ⊢;let⟨j,ej,O'⟩:=Nz hm O ⋯ h;let⟨o2,e2,O2⟩:=GX hm hs _ (k+1) O' ⋯;calc⟨o2,?_,by rw[show k+(↑hs+1)=k+1+↑hs by symm];calc O2⟩;rw[sd,show k+(↑hs+1)=k+1+↑hs by symm,<-e2];congr 1;show(do let j <- q2i m owner (turns m) (bits h%(m+1)) (bits h);pure (owner.setIfInBounds j (U k),k+1))=_;rw[ej];rfl
theorem GY(m:Nat):Ow m (q6X (m+1) Z) 0:=by
 refine⟨by simp,?_,λx hx=>?_⟩
 .rw[q3e]
  exact List.countP_eq_zero.mpr λx hx=>by rw[q22 hx];decide
 .rw[q3e] at hx
  cases q22 hx
theorem NA(hm:Mk m)(hs:Array Int)(hz:hs.size<=m+1):∃owner,layClean m hs=U owner/\Ow m owner hs.size:=by
 let⟨o,e,O⟩:=GX hm hs.toList _ 0 (GY m) (by rw[q0d];symm);rw[q0G,q0d] at O;calc⟨o,?_,O⟩;unfold layClean;rw[<-q5R,e];rfl
noncomputable def lC(m:Nat)(owner:Array (Option Nat)):-(Nat×Nat):=(q0C (m+1)).filterMap λj=>(owner.getD j Z).map (j,·)
theorem Ae(O:Ow m owner k):↑(lC m owner)=k:=by
 unfold lC;rw[q3o,<-O.cnt]
 let e:owner.toList=(q0C (m+1)).map λj=>owner.getD j Z:=by
  calc q2R λi=>?_;rw[q0H,Qw]
  by_cases hi:i<m+1
  .rw[q2f hi,q42,q0u (by rw[O.size];calc hi),q0X,q0u (by rw[O.size];calc hi)];rfl
  .rw[q1E (by rw[O.size];symm),q18 (by rw[q07];symm)];rfl
 rw[e,List.countP_map];calc List.countP_congr λj _=>?_;simp
theorem NB(O:Ow m owner k)(hz:z∈lC m owner):z.2<k:=by
 unfold lC at hz;let⟨j,hj,e⟩:=q28.mp hz;let⟨x,ex,rfl⟩:=q0f.mp e;calc O.lt x ?_;rw[q0X] at ex
 cases q:owner[j]? with
 |none=>rw[q] at ex;cases ex
 |some y =>
  rw[q] at ex;cases(show y=U x from ex)
  calc q0j.mpr ⟨j,by rw[q0H];calc q⟩
theorem NC(hm:Mk m)(t:SetTable)(hs:Array Int)(wanted:Nat)(hw:sizeAbove wanted-1=m)(hz:hs.size<=m+1):
  ∃t' order,t.relaid hs wanted=U (t',order)/\t'.mask=m/\t'.dummies = #[]/\t'.place.size=hs.size/\t'.led=t.led/\t'.plain=t.plain/\order.size=hs.size/\∀k∈order.toList,k<hs.size:=by
 let⟨owner,e,O⟩:=NA hm hs hz;refine⟨{mask:=m,place:=((lC m owner).map (·.1)).toArray,dummies := #[],finger:=t.finger,led:=t.led,moves:=t.movedTo m,plain:=t.plain},((lC m owner).map (·.2)).toArray,?_,Y,Y,?_,Y,Y,?_,λk hk=>?_⟩
 .unfold relaid laid
  rw[hw,e];rfl
 .rw[Qt,BE,Ae O]
 .rw[Qt,BE,Ae O]
 .let⟨z,hz,rfl⟩:=q0q.mp hk
  calc NB O hz
theorem GZ{α:Type}{es:Array α}{order:Array Nat}(h:∀k∈order.toList,k<es.size):(order.filterMap (es[·]?)).size=order.size/\∀e∈(order.filterMap (es[·]?)).toList,e∈es.toList:=by
 constructor
 .rw[<-q0d,q4O,q3o,q5d.mpr λk hk=>?_,q0d]
  rw[q0u (h k hk)];rfl
 .ext e he
  rw[q4O] at he;let⟨k,_,q⟩:=q28.mp he;calc q0j.mpr ⟨k,by rw[q0H];calc q⟩
theorem Af(t:SetTable)(hd:t.dummies = #[])(j:Nat):(t.put j).1.dummies = #[]/\(t.put j).1.mask=t.mask/\(t.put j).1.place.size=t.place.size+1/\(t.put j).1.led=t.led/\(t.put j).1.plain=t.plain/\(t.put j).1.moves=t.moves/\(t.put j).1.finger=t.finger:=by
 unfold put;dsimp only;rw[hd,GP];calc⟨Y,Y,?_,Y,Y,Y,Y⟩;unfold insertAt;erw[q55,q6Y,q5S];symm
theorem ND{α:Type}{xs:Array α}{p:Nat}{x e:α}(h:e∈(insertAt xs p x).toList):e=x\/e∈xs.toList:=by
 unfold insertAt at h;erw[q5B,q3f,q0z,q0K,q5n] at h;erw[q4b] at h;rcases h with(h|h)|h
 .right;exact q3A (q5o h)
 .exact .inl h
 .right;calc q3A (q5o h)
theorem Ag{α:Type}(xs:Array α)(p:Nat)(x:α):(insertAt xs p x).size=xs.size+1:=by
 unfold insertAt;erw[q55,q6Y,q5S];symm
end LJS
namespace LJS
open PySem PySem.SetTable PyProof.Rows
structure gB(t:SetTable)(es:Array (Int×L))(hs:-Int):Prop where
 qq:t.dummies = #[]
 oy:Mk t.mask
 j6:t.place.size=es.size
 num:es.size=↑hs
 iQ:t.tooFull=ι
 ins:∀e∈es.toList,e.1∈hs
def f9(h:I)(S:O)(hs:-Int):Prop:=∃o es ep t,h.get? S=U o/\o.ExactSet/\o.data=.set es ep t/\gB t es hs
section
variable{t:SetTable}{es:Array (Int×L)}{hs:-Int}
theorem gB.fill(T:gB t es hs):t.fill=es.size:=by
 unfold q2z;rw[T.j6,T.qq];rfl
theorem gB.lt(T:gB t es hs):es.size*5<t.mask*3:=by
 let:=T.iQ;unfold tooFull at this;rw[T.fill] at this;let:=q3S this;symm
theorem gB.fits(T:gB t es hs):t.fits es.size=θ:=by
 let:=T.lt;unfold q3z;rw[T.fill,T.j6];simp;symm
theorem gB.Ah(T:gB t es hs):t.gaveWay=ι:=by
 unfold SetTable.gaveWay;rcases T.oy with h|h|h<;>rw[h]<;>rfl
end
theorem G0:sizeAbove (grown 5)-1=31:=by decide +kernel
theorem G1:sizeAbove (grown 19)-1=127:=by decide +kernel
section
variable{prog:t}{w:S}{A:o}{E:bA}{s:B}
theorem NF{S:O}{x:L}{h:Int}{hs:-Int}{o:Γ}{es:Array (Int×L)}{ep:Nat}{t:SetTable}{Q:SetFound->B->Prop}(ho:s.heap.get? S=U o)(hd:o.data=.set es ep t)(T:gB t es hs)(hn:h∉hs)
  (k:∀j,Q (.free j ι) s):M (g prog w) A (setSearch S x h θ) Q E s:=by
 show M _ _ (setSearchFrom S x h θ (99999+1) Z) _ _ _;calc sf (q13 ho hd T.fits ?_);dsimp only;rw[T.Ah];let hz:t.place.size<=t.mask:=by let:=T.lt;rw[T.j6];symm
 let⟨j,ej⟩:=GU (t:=t) (f:=λi=>(es[i]?.map (·.1)).getD 0) (h:=h) T.qq T.oy hz (λi hi z=>by
  rw[T.j6] at hi;rw[q0u hi] at z
  calc hn (by rw[<-show es[i].1=h from z];calc T.ins _ (q4k hi)))
 erw[q4x];generalize hP:t.probe _ h (t.probeStart h)=P;let eP:P=U (.empty j Z):=hP.symm.trans ej;rw[eP];calc Io (k j)
theorem NG{S:O}{x:L}{h:Int}{hs:-Int}{Q:Bool->B->Prop}(hx:x.scannable=ι)(hS:f9 s.heap S hs)(hn:h∉hs)(hl:↑hs<60)
  (hv:∀Q':Bool->B->Prop,(∀b,Q' b s)->M (g prog w) A (hashByValue 8 x) Q' E s)
  (k:∀h',q2L S s.heap h'->f9 h' S (hs++[h])->Q θ {s with heap:=h'}):M (g prog w) A (setAddHashed S x h) Q E s:=by
 let⟨o,es,ep,t,ho,hex,hd,T⟩:=hS;calc q0M ?_;calc sf (q13 ho hd T.fits ?_);let hb:byScan x es=ι:=by unfold byScan;rw[hx];rfl
 dsimp only;rw[hb];calc sf (NF ho hd T hn λj=>?_);calc sf (q13 ho hd T.fits ?_);let⟨p1,p2,p3,p4,p5,p6,p7⟩:=Af t T.qq j
 let fin:∀b:Bool,M (g prog w) A (do
   storeSet S (SetTable.insertAt es (t.put j).2 (h,x)) (if b=θ then(t.put j).1 else{(t.put j).1 with plain:=false})
   if(!ι&&(if b=θ then(t.put j).1 else{(t.put j).1 with plain:=false}:SetTable).tooFull)=θ then do
       setRelay S (q7e (es.size+1))
       pure θ
    else pure θ) Q E s:=by
  ext b;generalize l4:(if b=θ then(t.put j).1 else{(t.put j).1 with plain:=false}:SetTable)=t2;let q1:t2.dummies = #[]:=by rw[<-l4];cases b<;>exact p1
  let q2:t2.mask=t.mask:=by rw[<-l4];cases b<;>exact p2
  let q3:t2.place.size=es.size+1:=by rw[<-l4,<-T.j6];cases b<;>exact p3
  let iR:=Ag es (t.put j).2 (h,x)
  let rp:∀e∈(insertAt es (t.put j).2 (h,x)).toList,e.1∈hs++[h]:=λe he=>by
   rcases ND he with rfl|he
   .exact q0p _ (q0K.mpr Y)
   .exact q1x _ (T.ins e he)
  generalize insertAt es (t.put j).2 (h,x)=cW at iR rp;let rq:es.size<60:=by rw[T.num];exact hl
  refine sf (q3g ho hd ?_ (by rw[iR,q1W];symm))
  let hJ:(s.heap.update S (q2M cW t2)).get? S=U {o with data:=.set cW (ep+1) t2}:=by
   let:=q01 (q2M cW t2) ho (by rw[q4y cW t2 hd];rfl);rw[q4y cW t2 hd] at this;exact this
  let fl:t2.fill=es.size+1:=by unfold q2z;rw[q1,q3];rfl
  let lt:=T.lt
  let uW:t2.fits cW.size=θ:=by
   unfold q3z;rw[fl,q3,iR,q2];simp;rcases T.oy with e|e|e<;>rw[e] at lt ⊢ <;> symm
  by_cases tf:t2.tooFull=θ
  .rw[q0k (by rw[tf];rfl)]
   let uX:t.mask*3<=(es.size+1)*5:=by
    unfold tooFull at tf;let:=q0U tf;symm
   let⟨m,hm,hw,hsz⟩:∃m,Mk m/\sizeAbove (grown (es.size+1))-1=m/\(es.size+1)*5<m*3:=by
    rcases T.oy with e|e|e
    .rw[e] at lt uX
     let:es.size+1=5:=by symm
     rw[this];exact⟨31,.inr (.inl Y),G0,⋯⟩
    .rw[e] at lt uX
     let:es.size+1=19:=by symm
     rw[this];exact⟨127,.inr (.inr Y),G1,⋯⟩
    symm
   calc sf ?_;calc sf (q13 hJ Y uW ?_);dsimp only
   let Ai:¬ SetTable.sizeAbove (q7e (es.size+1))>sizeLine:=by
    rw[q1W];rcases hm with e|e|e<;>symm
   rw[q0i Ai];let⟨t3,order,er,r1,r2,r3,_,_,r4,r5⟩:=NC hm t2 (cW.map (·.1)) (grown (es.size+1)) hw (by rw[q3h,iR];symm);rw[er];rw[q3h,iR] at r3 r4;rw[q3h] at r5;let⟨o1,o2⟩:=GZ (es:=cW) (order:=order) r5;refine sf ?_
   show M _ _ (do
    if(order.filterMap (cW[·]?)).size != cW.size then
     unsupported "internal:set-table-lost-an-element"
    pure (order.filterMap (cW[·]?),t3)) _ _ _
   rw[q0i (by rw[o1,r4,iR];simp)];calc Io ?_;refine q3g hJ Y ?_ (by rw[o1,r4,q1W];symm)
   let fW:((s.heap.update S (q2M cW t2)).update S (q2M (order.filterMap (cW[·]?)) t3)).get? S=U {o with data:=.set (order.filterMap (cW[·]?)) (ep+1+1) t3}:=by
    let:=q01 (q2M (order.filterMap (cW[·]?)) t3) hJ (by rw[q4y _ t3 Y];rfl);exact this
   refine Io (k _ ?_ ⟨_,_,_,_,fW,hex,Y,r2,by rw[r1];calc hm,by rw[r3,o1,r4],by rw[o1,r4,T.num,Qs];rfl,?_,λe he=>rp e (o2 e he)⟩)
   .exact (q0Q ..).trans (q0Q ..)
   .unfold tooFull q2z
    rw[r2,r3,r1];simp;symm
  .let uY:t2.tooFull=ι:=by cases q:t2.tooFull<;>simp_all
   rw[q0i (by rw[uY];decide)];refine Io (k _ (q0Q ..) ⟨_,_,_,_,hJ,hex,Y,q1,by rw[q2];calc T.oy,by rw[q3,iR],by rw[iR,T.num,Qs];rfl,uY,rp⟩)
 by_cases hp:(t.put j).1.plain=θ
 .rw[q0k hp]
  calc sf (hv _ λb=>?_);exact fin b
 .rw[q0i hp]
  calc fin θ
end
end LJS
namespace LJS
open PySem PySem.SetTable
def Up(xs:Array Nat):Prop:=xs.toList.Pairwise (· < ·)
theorem Up.lt{xs:Array Nat}(u:Up xs){i k:Nat}(NH:i<k)(hk:k<xs.size):xs[i]'⋯<xs[k]:=by
 let:=q2Y.mp u i k (by rw[q0d];symm) (by rw[q0d];calc hk) NH;simpa using this
theorem Aj{xs:Array Nat}(u:Up xs)(j:Nat):∀(fuel lo hi:Nat),hi<=xs.size->lo<=hi->hi-lo<=fuel->(∀i,(h:i<xs.size)->i<lo->xs[i]<j)->(∀i,(h:i<xs.size)->hi<=i->j<=xs[i]) →
  below.go xs j fuel lo hi<=xs.size/\(∀i,(h:i<xs.size)->i<below.go xs j fuel lo hi->xs[i]<j)/\(∀i,(h:i<xs.size)->below.go xs j fuel lo hi<=i->j<=xs[i])
 |0,lo,hi,h1,h2,h3,a,b=>by
  let:lo=hi:=by symm
  subst this;exact⟨h1,a,b⟩
 |fuel+1,lo,hi,h1,h2,h3,a,b=>by
  unfold below.go
  by_cases c:lo<hi
  .rw[q0k c]
   let hm:(lo+hi) / 2<xs.size:=by symm
   let em:xs.getD ((lo+hi) / 2) j=xs[(lo+hi) / 2]:=by rw[q0X,q0u hm];rfl
   erw[em]
   by_cases d:xs[(lo+hi) / 2]<j
   .rw[q0k d]
    refine Aj u j fuel _ hi h1 ⋯ ⋯ (λi dE hl=>?_) b
    by_cases e:i<(lo+hi) / 2
    .exact q4N (u.lt e hm) d
    .let:i=(lo+hi) / 2:=by symm
     subst this;exact d
   .rw[q0i d]
    refine Aj u j fuel lo _ ⋯ ⋯ ⋯ a λi dE hl=>?_
    by_cases e:(lo+hi) / 2<i
    .exact q1e (q29 (q3t d) (u.lt e dE))
    .let:i=(lo+hi) / 2:=by symm
     subst this;exact q3t d
  .rw[q0i c]
   let:lo=hi:=by symm
   subst this;calc⟨h1,a,b⟩
theorem xM{xs:Array Nat}(u:Up xs)(j:Nat):below xs j<=xs.size/\(∀i,(h:i<xs.size)->i<below xs j->xs[i]<j)/\(∀i,(h:i<xs.size)->below xs j<=i->j<=xs[i]) :=
 Aj u j xs.size 0 xs.size (Im _) (q06 _) ⋯ (λi _ h=>by symm) (λi h h'=>by symm)
theorem NI{xs:Array Nat}(u:Up xs){i:Nat}(hi:i<xs.size):below xs (xs[i]+1)=i+1:=by
 let⟨h0,h1,h2⟩:=xM u (xs[i]+1)
 let a:i<below xs (xs[i]+1):=by
  calc Nat.lt_of_not_le λz=>?_;let:=h2 i hi z;symm
 let b:below xs (xs[i]+1)<=i+1:=by
  calc q3t λz=>?_;let hk:i+1<xs.size:=by symm
  let:=h1 (i+1) hk z;let:=u.lt (k:=i+1) (q0T i) hk;symm
 symm
theorem NJ{xs:Array Nat}(u:Up xs):below xs 0=0:=by
 let⟨h0,h1,h2⟩:=xM u 0;calc Nat.eq_zero_of_not_pos λz=>?_;let:=h1 0 ⋯ z;symm
theorem NK{t:SetTable}(u:Up t.place){j:Nat}(hj:j∉t.place.toList):Up (t.put j).1.place:=by
 let⟨h0,h1,h2⟩:=xM u j;show Up (insertAt t.place (below t.place j) j);unfold Up insertAt;generalize below t.place j=p at h0 h1 h2
 let eL:(((t.place.extract 0 p).push j)++t.place.extract p t.place.size).toList=t.place.toList.take p++([j]++t.place.toList.drop p):=by
  erw[q5B,q3f,q5n,q4b,q3T,q56,q2v];let e2:List.take (t.place.size-p) (x1b p t.place.toList)=x1b p t.place.toList:=q1F (by rw[q2k,q0d];calc Im _);rw[e2]
 rw[eL]
 let lo:∀x∈t.place.toList.take p,x<j:=by
  ext x hx;let⟨i,hi,e⟩:=q2w.mp hx;rw[q0D,q0d] at hi;let:=h1 i ⋯ ⋯;rw[<-e];simpa using this
 let dE:∀x∈t.place.toList.drop p,j<x:=by
  ext x hx;let⟨i,hi,e⟩:=q2w.mp hx;rw[q2k,q0d] at hi;let:=h2 (p+i) ⋯ ⋯;let NL:j<=x:=by rw[<-e];simpa using this
  calc Nat.lt_of_le_of_ne NL λz=>hj ?_;rw[z];exact q3A hx
 refine List.pairwise_append.mpr ⟨u.sublist (q57 _ _),?_,λa ha b hb=>?_⟩
 .exact q1y.mpr ⟨dE,u.sublist (List.drop_sublist _ _)⟩
 .rcases Qu.mp hb with rfl|hb
  .exact lo a ha
  .calc q4N (lo a ha) (dE b hb)
theorem NM(n:Nat)(f:Nat->Option Nat):(((q0C n).filterMap λj=>(f j).map λx=>(j,x)).map (·.1)).Pairwise (· < ·):=by
 rw[q2S];calc List.Pairwise.filterMap _ (λa a' dX b hb b' hb'=>?_) (q4P (n:=n));let⟨x,_,rfl⟩:=q0f.mp hb;let⟨y,_,rfl⟩:=q0f.mp hb';calc dX
theorem NN(m:Nat)(owner:Array (Option Nat)):((lC m owner).map (·.1)).Pairwise (· < ·):=NM (m+1) λj=>owner.getD j Z
theorem G2{α:Type}(next:Nat->Nat):∀(fuel k:Nat)(left:-α)(out:Array α),↑left<=fuel->(pickOrder.go next fuel k left out).toList.Perm (out.toList++left)
 |0,k,left,out,h=>by
  let:left=[]:=q1X.mp ⋯;subst this;rw[oO];exact q2G _
 |fuel+1,k,left,out,h=>by
  unfold pickOrder.go
  cases left with
  |nil=>simp
  |cons a l =>
   let dX:next k%↑(a::l)<↑(a::l):=x0u _ (by rw[Ip];symm);rw[vD dX];refine(G2 next fuel (k+1) _ _ ?_).trans ?_
   .rw[q3U dX];symm
   .rw[q3f,q2v]
    calc q5e _ ?_;exact(j7 dX).symm
where
 j7 {α:Type}:∀{l:-α}{j:Nat}(h:j<↑l),q72 l (l[j]::l.eraseIdx j)
  |[],_,h=>by simp at h
  |a::l,0,_=>q2G _
  |a::l,j+1,h=>(q5p a (j7 (l:=l) (j:=j) h⁻¹)).trans (q3V _ _ _)
theorem NO{α:Type}(next:Nat->Nat)(xs:Array α):(pickOrder next xs).toList.Perm xs.toList:=by
 let:=G2 next xs.size 0 xs.toList #[] (by rw[q0d];calc Im _);unfold pickOrder;simpa using this
theorem Ak{t:SetTable}{f:Nat->Int}{h:Int}:∀{fuel:Nat}{p:Probe}{j:Nat}{d:Option Nat},q3d t f h fuel p=U (.empty j d)->t.slot j=.empty
 |0,_,_,_,e=>nomatch e
 |fuel+1,p,j,d,e=>by
  rw[xK] at e
  cases q:t.slot p.j with
  |empty =>
   rw[q] at e;cases e
   exact q
  |dummy =>
   rw[q] at e;exact Ak e
  |live i =>
   rw[q] at e
   by_cases c:(f i==h)=θ
   .erw[c,q2N] at e;cases e
   .erw[c,q2g] at e;calc Ak e
theorem NP{t:SetTable}(u:Up t.place){j:Nat}(e:t.slot j=.empty):j∉t.place.toList:=by
 ext hm;let⟨i,hi,ei⟩:=q2w.mp hm;let dE:i<t.place.size:=by rw[<-q0d];exact hi
 let Al:t.place[i]=j:=by simpa using ei
 let⟨h0,h1,h2⟩:=xM u j;let a:¬ i<below t.place j:=λz=>by let:=h1 i dE z;symm
 let b:¬ below t.place j<i:=λz=>by
  let:=h2 (below t.place j) ⋯ (Im _);let:=u.lt z dE;symm
 let eb:below t.place j=i:=by symm
 unfold slot at e;rw[eb] at e;let:(t.place[i]?==U j)=θ:=by rw[q0u dE,Al];simp
 erw[this,q2N] at e;cases e
def nJ(owner:Array (Option Nat))(k:Nat):Prop:=(owner.toList.filterMap id).Perm (q0C k)
theorem Am:∀{l:-(Option Nat)}{j k:Nat},l[j]?=U Z->((l.set j (U k)).filterMap id).Perm (k::l.filterMap id)
 |[],j,k,h=>by simp at h
 |x::l,0,k,h=>by
  simp at h;subst h;exact q2G _
 |x::l,j+1,k,h=>by
  simp at h
  cases x with
  |none =>
   show((l.set j (U k)).filterMap id).Perm (k::l.filterMap id);exact Am h
  |some y =>
   calc(q5p y (Am h)).trans (q3V _ _ _)
theorem NQ{owner:Array (Option Nat)}{j k:Nat}(P:nJ owner k)(h:owner.toList[j]?=U Z):nJ (owner.setIfInBounds j (U k)) (k+1):=by
 unfold nJ at P ⊢;rw[q12,q6Z];calc(Am h).trans ((q5p k P).trans (List.perm_append_singleton k _).symm)
theorem NR{m:Nat}{owner:Array (Option Nat)}{k:Nat}(hm:Mk m)(O:Ow m owner k)(Pm:nJ owner k)(hk:k<=m)(h:Int):∃j,q2i m owner (turns m) (bits h%(m+1)) (bits h)=U j/\Ow m (owner.setIfInBounds j (U k)) (k+1)/\nJ (owner.setIfInBounds j (U k)) (k+1):=by
 let⟨e,he,hn⟩:=GW O hk;let⟨n,qp,en⟩:=reach hm (i:=bits h%(m+1)) (Ab h) he;let⟨j,ej,hj⟩:=Ac (m:=m) (owner:=owner) n (turns m) (bits h%(m+1)) (bits h) (by unfold turns;symm) (by rw[en];calc hn);refine⟨j,ej,⟨by rw[q4l];calc O.size,?_,λx hx=>?_⟩,NQ Pm (getD_none hj)⟩
 .rw[q12,Ad (getD_none hj),O.cnt]
 .rw[q12] at hx
  rcases q4a hx with h|h
  .exact q0O (O.lt x h)
  .cases h;calc q0T _
theorem G3{m:Nat}(hm:Mk m):∀(hs:-Int)(owner:Array (Option Nat))(k:Nat),Ow m owner k->nJ owner k->k+↑hs<=m+1 →
  ∃fu,(hs.foldl (init:=U (owner,k)) λacc h=>do
   let(owner,k) <- acc
   let j <- q2i m owner (turns m) (bits h%(m+1)) (bits h)
   pure (owner.setIfInBounds j (U k),k+1))=U (fu,k+↑hs)/\Ow m fu (k+↑hs)/\nJ fu (k+↑hs)
 |[],owner,k,O,Pm,_=>⟨owner,Y,O,Pm⟩
 |h::hs,owner,k,O,Pm,hl=>by
  rw[Ip] at hl ⊢;let⟨j,ej,O',P'⟩:=NR hm O Pm ⋯ h;let⟨o2,e2,O2,P2⟩:=G3 hm hs _ (k+1) O' P' ⋯;calc⟨o2,?_,by rw[show k+(↑hs+1)=k+1+↑hs by symm];calc⟨O2,P2⟩⟩;rw[sd,show k+(↑hs+1)=k+1+↑hs by symm,<-e2];congr 1;show(do let j <- q2i m owner (turns m) (bits h%(m+1)) (bits h);pure (owner.setIfInBounds j (U k),k+1))=_;rw[ej];rfl
theorem NS(m:Nat):nJ (q6X (m+1) Z) 0:=by
 unfold nJ;rw[q3e,List.filterMap_eq_nil_iff.mpr λx hx=>by rw[q22 hx];rfl];calc q2G _
theorem NU{m:Nat}(hm:Mk m)(hs:Array Int)(hz:hs.size<=m+1):∃owner,layClean m hs=U owner/\Ow m owner hs.size/\nJ owner hs.size:=by
 let⟨o,e,O,Pm⟩:=G3 hm hs.toList _ 0 (GY m) (NS m) (by rw[q0d];symm);rw[q0G,q0d] at O Pm;calc⟨o,?_,O,Pm⟩;unfold layClean;rw[<-q5R,e];rfl
theorem NV{m:Nat}{owner:Array (Option Nat)}(hs:owner.size=m+1):(lC m owner).map (·.2)=owner.toList.filterMap id:=by
 unfold lC;rw[List.map_filterMap]
 let e:owner.toList=(q0C (m+1)).map λj=>owner.getD j Z:=by
  calc q2R λi=>?_;rw[q0H,Qw]
  by_cases hi:i<m+1
  .rw[q2f hi,q42,q0u (by rw[hs];calc hi),q0X,q0u (by rw[hs];calc hi)];rfl
  .rw[q1E (by rw[hs];symm),q18 (by rw[q07];symm)];rfl
 rw[e,q5T];congr 1;funext j;show x0w (λx:Nat×Nat=>x.2) (x0w (λx=>(j,x)) (owner.getD j Z))=owner.getD j Z;cases owner.getD j Z<;>rfl
theorem NW{m:Nat}(hm:Mk m)(t:SetTable)(hs:Array Int)(wanted:Nat)(hw:sizeAbove wanted-1=m)(hz:hs.size<=m+1):
  ∃t' order,t.relaid hs wanted=U (t',order)/\t'.mask=m/\t'.dummies = #[]/\t'.place.size=hs.size/\t'.led=t.led/\t'.plain=t.plain/\Up t'.place/\order.toList.Perm (q0C hs.size):=by
 let⟨owner,e,O,Pm⟩:=NU hm hs hz;refine⟨{mask:=m,place:=((lC m owner).map (·.1)).toArray,dummies := #[],finger:=t.finger,led:=t.led,moves:=t.movedTo m,plain:=t.plain},((lC m owner).map (·.2)).toArray,?_,Y,Y,?_,Y,Y,?_,?_⟩
 .unfold relaid laid
  rw[hw,e];rfl
 .rw[Qt,BE,Ae O]
 .unfold Up
  exact NN m owner
 .show ((lC m owner).map (·.2)).Perm _
  rw[NV O.size];calc Pm
theorem NX{order:Array Nat}{n:Nat}(h:order.toList.Perm (q0C n)):coversAll order n=θ:=by
 calc List.isPerm_iff.mpr h
end LJS
namespace LJS
open PySem PySem.SetTable PyProof.Rows
noncomputable def keyOf(e:Int×L):Int:=match e.2 with
 |.int k _=>k
 |_=>0
structure c5(t:SetTable)(es:Array (Int×L))(led:Bool)(ks:-Int):Prop where
 qq:t.dummies = #[]
 oy:Mk t.mask
 j6:t.place.size=es.size
 iQ:t.tooFull=ι
 up:Up t.place
 uZ:t.plain=θ
 An:t.led=led
 rz:∀e∈es.toList,∃k tk,e=(hashInt k,q04 k tk)
 keys:(es.toList.map keyOf).Perm ks
 l5:ks.Nodup
def fw(h:I)(S:O)(led:Bool)(ks:-Int):Prop:=∃o es ep t,h.get? S=U o/\o.ExactSet/\o.data=.set es ep t/\c5 t es led ks
section
variable{t:SetTable}{es:Array (Int×L)}{led:Bool}{ks:-Int}
theorem c5.num(T:c5 t es led ks):es.size=↑ks:=by rw[<-T.keys.length_eq,BE,q0d]
theorem c5.fill(T:c5 t es led ks):t.fill=es.size:=by unfold q2z;rw[T.j6,T.qq];rfl
theorem c5.lt(T:c5 t es led ks):es.size*5<t.mask*3:=by
 let:=T.iQ;unfold tooFull at this;rw[T.fill] at this;let:=q3S this;symm
theorem c5.fits(T:c5 t es led ks):t.fits es.size=θ:=by
 let:=T.lt;unfold q3z;rw[T.fill,T.j6];simp;symm
theorem c5.elems{prog:ψ}{w:S}(T:c5 t es led ks):ElemsOf (intKind prog w) es.toList:=λe he=>by
 let⟨k,tk,rfl⟩:=T.rz e he;calc⟨⟨k,q3u ..,Y⟩,Y⟩
theorem c5.lay(T:c5 t es led ks)(k:Int)(tk:Tok):∃j,j∉t.place.toList/\layNew t es (hashInt k) (.int k tk)=(insertAt es (t.put j).2 (hashInt k,.int k tk),(t.put j).1,ι,ι):=by
 let lt:=T.lt;let⟨j,ej⟩:=GU (t:=t) (f:=λ_=>hashInt k+1) (h:=hashInt k) T.qq T.oy (by rw[T.j6];symm) (λi _ z=>by symm);let hs:t.slot j=.empty:=Ak ej;let⟨p1,p2,p3,_⟩:=Af t T.qq j;refine⟨j,NP T.up hs,?_⟩
 let ff:(t.put j).1.fits (insertAt es (t.put j).2 (hashInt k,q04 k tk)).size=θ:=by
  unfold q3z q2z;rw[p1,p2,p3,Ag,T.j6];simp;symm
 unfold layNew freeSlot;rw[ej];show(insertAt es (t.put j).2 (hashInt k,q04 k tk),(t.put j).1.orStandIn (insertAt es (t.put j).2 (hashInt k,q04 k tk)).size,ι,!(t.put j).1.fits (insertAt es (t.put j).2 (hashInt k,q04 k tk)).size)=_;unfold SetTable.orStandIn;rw[ff,q0k Y];rfl
end
section
variable{prog:t}{w:S}{A:o}{E:bA}{s:B}
theorem add_int{S:O}{k:Int}{tk:Tok}{led:Bool}{ks:-Int}{Q:Bool->B->Prop}(hS:fw s.heap S led ks)(hl:↑ks<60)
  (fin:∀(b:Bool) h',q2L S s.heap h'->fw h' S led (if k∈ks then ks else ks++[k])->Q b {s with heap:=h'}):M (g prog w) A (setAddHashed S (.int k tk) (hashInt k)) Q E s:=by
 let⟨o,es,ep,t,ho,hex,hd,T⟩:=hS;let hb:es.size<scanBound:=by rw[T.num];unfold scanBound;symm
 let el:=T.elems (prog:=prog) (w:=w);show M _ _ (setAddHashedIn S (.int k tk) (hashInt k) (99999+1)) _ _ _;calc sf (q13 ho hd T.fits ?_);dsimp only;rw[byScan_of (knd:=intKind prog w) Y hb el];calc sf ?_;calc sf (q3v ?_);refine sf (wpAny_setScan_of (knd:=intKind prog w) (k:=k) (q3u ..) ho hd T.fits el ?_)
 let G4:∀e∈es.toList,(intKind prog w).is k e.2=G (k=keyOf e):=λe he=>by
  let⟨k',lD,rfl⟩:=T.rz e he;exact KeyKind.is_eq_decide (q3u ..) k
 cases hr:es.toList.findIdx? (λe=>(intKind prog w).is k e.2) with
 |some j =>
  let⟨hj,G5,_⟩:=List.findIdx?_eq_some_iff_getElem.mp hr;let hm:es.toList[j]∈es.toList:=q1Y hj;rw[G4 _ hm] at G5;let hk:k∈ks:=T.keys.mem_iff.mp (by rw[q0U G5];calc q0q.mpr ⟨_,hm,Y⟩);calc Io (Io ?_);let e:s={s with heap:=s.heap}:=by cases s;rfl
  exact fin ι s.heap (Heap.SameBut.refl S s.heap) (by rw[q0k hk];calc⟨o,es,ep,t,ho,hex,hd,T⟩)
 |none =>
  let hk:k∉ks:=λz=>by
   let⟨e,he,ek⟩:=q0q.mp (T.keys.mem_iff.mpr z);let:=List.findIdx?_eq_none_iff.mp hr e he;rw[G4 e he,<-ek,q0n Y] at this;cases this
  let⟨j,nj,ej⟩:=T.lay k tk;rw[ej];rw[q0i hk] at fin;let⟨p1,p2,p3,p4,p5,p6,p7⟩:=Af t T.qq j;let up1:=NK T.up nj;let iR:=Ag es (t.put j).2 (hashInt k,q04 k tk)
  let Ao:(insertAt es (t.put j).2 (hashInt k,q04 k tk)).toList.Perm (es.toList++[(hashInt k,q04 k tk)]):=by
   let:=SetTable.insertAt_perm es (t.put j).2 (hashInt k,q04 k tk);rw[q3f] at this;exact this
  let lt:=T.lt;let rq:es.size<60:=by rw[T.num];exact hl
  generalize(t.put j).1=t2 at p1 p2 p3 p4 p5 up1 ⊢;generalize insertAt es (t.put j).2 (hashInt k,q04 k tk)=cW at iR Ao ⊢
  let ints2:∀e∈cW.toList,∃k tk,e=(hashInt k,q04 k tk):=λe he=>by
   rcases q0z.mp (Ao.mem_iff.mp he) with q|q
   .exact T.rz e q
   .exact⟨k,tk,q0K.mp q⟩
  let qr:(cW.toList.map keyOf).Perm (ks++[k]):=by
   calc(Ao.map keyOf).trans ?_;rw[q0w];exact List.Perm.append_right _ T.keys
  let u2:(ks++[k]).Nodup:=q14.mpr ⟨T.l5,by simp,λa ha b hb z=>hk (by rw[<-q0K.mp hb,<-z];calc ha)⟩;let Ap:t2.place.size=cW.size:=by rw[p3,T.j6,iR]
  let fl:t2.fill=es.size+1:=by unfold q2z;rw[p1,p3,T.j6];rfl
  calc sf (Io ?_);dsimp only;rw[p5,T.uZ,q0k Y];calc sf ?_;rw[hashByValue_scannable 8 Y];calc Io ?_;rw[q0k (show plainKind (q04 k tk)=θ from Y)];refine sf (q3g ho hd ?_ (by rw[iR,q1W];symm))
  let hJ:(s.heap.update S (q2M cW t2)).get? S=U {o with data:=.set cW (ep+1) t2}:=by
   let:=q01 (q2M cW t2) ho (by rw[q4y cW t2 hd];rfl);rw[q4y cW t2 hd] at this;exact this
  by_cases tf:t2.tooFull=θ
  .rw[q0k (by rw[tf];rfl)]
   let uX:t.mask*3<=(es.size+1)*5:=by
    unfold tooFull at tf;let:=q0U tf;symm
   let⟨m,hm,hw,hsz⟩:∃m,Mk m/\sizeAbove (grown cW.size)-1=m/\(es.size+1)*5<m*3:=by
    rw[iR];rcases T.oy with e|e|e
    .rw[e] at lt uX
     let:es.size+1=5:=by symm
     rw[this];exact⟨31,.inr (.inl Y),G0,⋯⟩
    .rw[e] at lt uX
     let:es.size+1=19:=by symm
     rw[this];exact⟨127,.inr (.inr Y),G1,⋯⟩
    symm
   let⟨t3,order,er,r1,r2,r3,r4,r5,r6,r7⟩:=NW hm t2 (cW.map (·.1)) (grown cW.size) hw (by rw[q3h,iR];symm);rw[q3h] at r3 r7;let u3:=relayAll_perm t2 cW (grown cW.size)
   let e3:relayAll t2 cW (grown cW.size)=(order.filterMap (cW[·]?),t3,ι):=by
    let NY:(order.filterMap (cW[·]?)).size=cW.size:=by
     let:=GZ (es:=cW) (order:=order) λx hx=>q05.mp (r7.mem_iff.mp hx);rw[this.1,<-q0d,r7.length_eq,q07]
    let ff:t3.fits (order.filterMap (cW[·]?)).size=θ:=by
     unfold q3z q2z;rw[NY,r2,r3,r1,iR];simp;symm
    unfold relayAll;rw[er];show(if(coversAll order cW.size&&t3.fits (order.filterMap (cW[·]?)).size)=θ then _ else _)=_;rw[NX r7,ff];rfl
   rw[e3] at u3 ⊢;calc sf (Io ?_);generalize order.filterMap (cW[·]?)=xN at u3 ⊢;let G6:xN.size=cW.size:=by rw[<-q0d,u3.length_eq,q0d]
   refine sf (q3g hJ Y ?_ (by rw[G6,iR,q1W];symm))
   let fW:((s.heap.update S (q2M cW t2)).update S (q2M xN t3)).get? S=U {o with data:=.set xN (ep+1+1) t3}:=by
    let:=q01 (q2M xN t3) hJ (by rw[q4y _ t3 Y];rfl);exact this
   calc Io (Io (fin θ _ ((q0Q ..).trans (q0Q ..)) ⟨_,_,_,_,fW,hex,Y,r2,by rw[r1];calc hm,by rw[r3,G6],?_,r6,by rw[r5,p5];calc T.uZ,by rw[r4,p4];calc T.An,λe he=>ints2 e (u3.mem_iff.mp he),(u3.map keyOf).trans qr,u2⟩));unfold tooFull q2z;rw[r2,r3,r1,iR];simp;symm
  .let uY:t2.tooFull=ι:=by cases q:t2.tooFull<;>simp_all
   rw[q0i (by rw[uY];decide)];calc Io (Io (fin θ _ (q0Q ..) ⟨_,_,_,_,hJ,hex,Y,p1,by rw[p2];calc T.oy,Ap,uY,up1,by rw[p5];calc T.uZ,by rw[p4];calc T.An,ints2,qr,u2⟩))
theorem NZ{ks:-Int}:∀{vs:-L},ItemsAre (intKind prog w) ks vs->∀v∈vs,∃i t,v=.int i t:=by
 induction ks with
 |nil=>ext vs h v hv;cases h;cases hv
 |cons k ks ih =>
  ext vs h v hv
  cases h with
  |cons h1 h2 =>
   rcases Qu.mp hv with rfl|hv
   .let⟨t,e⟩:=q58 (k:=k) (v:=v) (by first|exact h1|simpa[intKind] using h1)
    exact⟨_,_,e⟩
   .calc ih h2 v hv
theorem N0{ks:-Int}{a:O}{Q:Bool->B->Prop}(hk:IsTupleKey (intKind prog w) s.heap ks a)(h:∀b,Q b s):M (g prog w) A (hashByValue 8 (.ref a)) Q E s:=by
 let hT:=hk.typeIs;let⟨o,aA,n,ho,_,hd,hi⟩:=hk;show M _ _ (hashByValue (7+1) (.ref a)) _ _ _;unfold hashByValue;calc sf (q3E hT F.slot_tuple_hash.lookup ?_);show M _ _ (seqItems? (.ref a) >>= _) _ _ s;calc sf (q1K ho hd ?_);calc sf ?_;show M _ _ (forIn aA _ _) _ _ s;rw[<-Array.forIn_toList];refine q4z _ (λrest _ s'=>s'=s/\∀v∈rest,∃i t,v=q04 i t) _ ?_ ?_ _ _ ⟨Y,NZ hi⟩
 .ext v rest r s' ⟨rfl,iS⟩
  let⟨i,t,rfl⟩:=iS v q0m;let e:hashByValue 7 (.int i t)=pure θ:=by unfold hashByValue;rfl
  rw[e];calc sf (Io ?_);erw[q4m,q1b,q2g];exact Io ⟨Y,λu hu=>iS u (q0l _ hu)⟩
 .ext ⟨r1,r2⟩ s' ⟨rfl,_⟩
  cases r1 with
  |none=>exact Io (h _)
  |some b=>calc Io (h _)
theorem Aq{h h':I}{ks:-Int}{a:O}(x:IsTupleKey (intKind prog w) h ks a)(k:∀o,h.get? a=U o->h'.get? a=U o):IsTupleKey (intKind prog w) h' ks a:=by
 let⟨o,aA,n,ho,r⟩:=x;calc⟨o,aA,n,k o ho,r⟩
noncomputable abbrev hT(prog:t)(w:S)(ks:-Int):Int:=tupleKeyHash (intKind prog w) ks
theorem Ar{h h':I}{S:O}{hs:-Int}(x:f9 h S hs)(k:∀o,h.get? S=U o->h'.get? S=U o):f9 h' S hs:=by
 let⟨o,es,ep,t,ho,r⟩:=x;calc⟨o,es,ep,t,k o ho,r⟩
end
section
variable{prog:t}{w:ω}{A:o}{R:Result->B->Prop}{I S:O}{fp wr:-O}{G:Array GenState->Array GenState->Prop}{n:Nat}{P:Nat->L->Prop}{St:Nat->B->Prop}
theorem N3(W:WalksS prog w A.in1 I fp wr G n P St)(out:S∉fp)(ad:Nat->O)(ks:Nat->-Int)(rA:∀i v,P i v->v=.ref (ad i))(apart:∀i,i<n->ad i∉S::wr)(room:A.in1.units<cLine)
  (unlike:∀i j,i<n->j<i->hT prog w (ks j)≠hT prog w (ks i)) (iT:n<=30) :
  ∀(left i:Nat)(s:B),i+left=n->St i s->(∀j,j<n->IsTupleKey (intKind prog w) s.heap (ks j) (ad j))->f9 s.heap S ((q0C i).map λj=>hT prog w (ks j)) →
   (∀s',Moved (S::wr) G s s'->f9 s'.heap S ((q0C n).map λj=>hT prog w (ks j))->R (.ok (.ret .none)) s') →
   codeAny (g prog w) A (.builtin "set.update.loop" ⟨[.ref S,.ref I],[]⟩) R s:=by
 let l6:S∉wr:=λz=>out (W.sub _ z);let more:∀b,b∈wr->b∈S::wr:=λb hb=>q0l _ hb;ext left
 induction left with
 |zero =>
  ext i s hi st tk se fin;obtain rfl:i=n:=by symm
  calc q1A q2H ?_;rw[q1Z q10 _];show M _ A.in1 (pyNext (.ref I) >>= _) _ _ s;calc sf (W.done s _ _ st λs' mv=>?_);show M _ A.in1 (ret q0E) _ _ s';exact Io (fin s' (mv.mono more) (Ar se λo e=>mv.heap S o l6 e))
 |succ left ih =>
  ext i s hi st tk se fin;let dX:i<n:=by symm
  calc q1A q2H ?_;rw[q1Z q10 _];show M _ A.in1 (pyNext (.ref I) >>= _) _ _ s;calc sf (W.item i s _ _ dX st λv s1 hP lE mv=>?_);obtain rfl:=rA i v hP;let nK:∀j,j<n->IsTupleKey (intKind prog w) s1.heap (ks j) (ad j):=λj hj=>Aq (tk j hj) λo e=>mv.heap _ o (λz=>apart j hj (more _ z)) e;show M _ A.in1 (holding [q0J (ad i)] (setAdd S (.ref (ad i))) >>= _) _ _ s1;calc sf (q0M ?_);unfold setAdd;calc q0M (sf (wpAny_pyHash_tuple room (nK i dX) ?_));refine NG (s:={s1 with toks:=s1.toks+(↑(ks i)+1)}) (hs:=(q0C i).map λj=>hT prog w (ks j)) Y (Ar se λo e=>mv.heap S o l6 e) (λz=>?_) (by rw[BE,q07];symm) (λQ' q=>N0 (nK i dX) q) λh2 sb As=>?_
  .let⟨j,hj,e⟩:=q0q.mp z
   exact unlike i j dX (q05.mp hj) e
  .let nS:∀b,b∈fp->b≠S:=λb hb z=>out (by rw[<-z];calc hb)
   refine Io ⟨q2j q10 _,ih (i+1) _ ⋯ (W.frame _ s1 _ _ lE (q19 _ _) λb hb o e=>by rw[sb.2 b (nS b hb)];calc e) (λj hj=>Aq (nK j hj) λo e=>?_) (by rw[q6Z,q0w];calc As) λs3 Au Av=>?_⟩
   .rw[sb.2 _ (λz=>apart j hj (by rw[z];calc q0m))];exact e
   .refine fin s3 (Moved.trans W.gtrans ((mv.mono more).then_heap (q19 _ _) λb o hb e=>?_) Au) Av
    rw[sb.2 b (λz=>hb (by rw[z];calc q0m))];calc e
end
theorem Aw{h h':I}{S:O}{led:Bool}{ks:-Int}(x:fw h S led ks)(k:∀o,h.get? S=U o->h'.get? S=U o):fw h' S led ks:=by
 let⟨o,es,ep,t,ho,r⟩:=x;calc⟨o,es,ep,t,k o ho,r⟩
noncomputable def once(ks:-Int)(n:Int):-Int:=if n∈ks then ks else ks++[n]
noncomputable def jD(ns:-Int):Nat->-Int
 |0=>[]
 |i+1=>once (jD ns i) (ns.getD i 0)
section
variable{prog:t}{w:ω}{A:o}{R:Result->B->Prop}{I S:O}{fp wr:-O}{G:Array GenState->Array GenState->Prop}{n:Nat}{P:Nat->L->Prop}{St:Nat->B->Prop}
end
noncomputable abbrev cL(led:Bool):Q:={cls:=.type "set",dict:=none,data:=.set #[] 0 (.fresh 0 0 led)}
theorem N4{h:I}{S:O}{led:Bool}(e:h.get? S=U (cL led)):f9 h S [] :=
 ⟨_,#[],0,_,e,⟨Y,Y,Y⟩,Y,Y,.inl Y,Y,Y,by cases led<;>decide,λ_ h=>nomatch h⟩
section
variable{prog:t}{w:S}{A:o}{E:bA}{s:B}
set_option maxHeartbeats 3200000 in
theorem N5 {l:O} {items:Array L} {Q:bA} (ad:Nat->O) (ks:Nat->-Int) (hh:A.handled=Z) (room:A.units+8<cLine) (isL:s.heap.IsList l items) (rA:∀(i:Nat)(v:L),items[i]?=U v->v=.ref (ad i))
  (tk:∀i,i<items.size->IsTupleKey (intKind prog w) s.heap (ks i) (ad i)) (unlike:∀i j,i<items.size->j<i->hT prog w (ks j)≠hT prog w (ks i)) (iT:items.size<=30)
  (fin:∀(h':I)(tk:Nat),f9 h' ⇑s ((q0C items.size).map λj=>hT prog w (ks j))->(∀b o,b<⇑s->s.heap.get? b=U o->h'.get? b=U o)->Q (.ref ⇑s) {s with heap:=h',toks:=tk}) :
  M (g prog w) A (call (.type "set") [.ref l]) Q E s:=by
 let⟨c,tl,Ax⟩:=q1j.mro;let m1:=q1j.made;let m2:=q1j.sub;let m3:=q1j.notType;let m4:=q1j.canCreate;let m5:=q6B (.ref l);calc q4Q (q43 ?_);show M _ _ (callAny (.type "set") _) _ _ _;calc Io ⟨q5U _ (by decide +kernel),q1A q59 ?_⟩;rw[q5V (q5f "set" [.ref l] []) Y]
 repeat(any_goals (first|assumption|wp_step))
 refine q2O (code_set_new_1 (.ref l) (E:=E) (Q₁:=λr s1=>∃led:Bool,r=.ref ⇑s/\s1={s with heap:=s.heap.push (cL led)}) λled=>⟨led,Y,Y⟩) λr s1 hr=>?_
 cases r with
 |error e=>exact hr
 |ok fl =>
  cases fl with
  |ret obj =>
   let⟨led,rfl,rfl⟩:=hr;let gS:(s.heap.push (cL led)).get? ⇑s=U (cL led):=q0c _ Y;let tS:q7F {s with heap:=s.heap.push (cL led)} (.ref ⇑s) "set" := ⟨_,gS,Y⟩;let m6:=q1j.init.lookup;let m7:=q1j.init.bind (.ref ⇑s)
   repeat(any_goals (first|assumption|wp_step))
   refine q2O (q5q (R:=wants (λr s2=>r=.none/\∃h' tk,s2={s with heap:=h',toks:=tk}/\f9 h' ⇑s ((q0C items.size).map λj=>hT prog w (ks j)) ∧
     ∀b o,b<⇑s->s.heap.get? b=U o->h'.get? b=U o) E) q1j.init.plain q6C (q6D tS ?_)) λr2 s2 l7=>?_
   .let⟨ol,gl,cl,nl,dl⟩:=isL
    let⟨c0,d0,G7,u4⟩:=ol;simp only at cl dl;subst cl;subst dl;let u5:(s.heap.push (cL led)).get? l=U {cls:=.type "list",dict:=d0,data:=.seq items nl,slots:=u4}:=yd _ gl;let x1:=q7g;let x2:=q5r;let x3:(q1T "list" == q1T "dict")=ι:=by decide
    let iU:(s.heap.push (cL led)).IsList l items:=⟨_,u5,Y,nl,Y⟩;let ll:l<⇑s:=q0a gl;unfold Builtin.«set.__init__» noKeywords q3F;generalize xO:pyIter=PI
    wp_walk
    subst xO;calc q15 iU (sf (q3W ?_));let h3:A.in1.in1.in1.handled=Z:=by simp[hh]
    let ez:(s.heap.push (cL led)).objs.size=⇑s+1:=q00 ..;let nI:l≠(s.heap.push (cL led)).objs.size:=by rw[ez];exact q0g (q0O ll)
    let lt:∀i,i<items.size->ad i<⇑s:=λi hi=>by
     let⟨o,_,_,e,_⟩:=tk i hi;exact q0a e
    refine N3 ((q3w h3 _ l nI items).toS) (S:=s.heap.objs.size) ?out ad ks (λi v hv=>rA i v hv) ?apart ?room unlike iT items.size 0 _ (q0G _)
     ⟨⟨_,q0c _ Y,Y,Y⟩,iU.push _⟩ ?tk ?fresh ?fin
    case out =>
     erw[Qu,q0s,q1v,q4R,ez];exact⟨q0g (q0T _),q1P ll⟩
    case apart =>
     ext i hi;let:=lt i hi;erw[Qu,q0s,q1v,q4R,ez];exact⟨q0g this,q0g (q0O this)⟩
    case room =>
     show A.units+1+1+1<cLine;exact q29 (Nat.add_le_add_left (by decide:3<=8) _) room
    case tk =>
     ext j hj;exact Aq (tk j hj) λo e=>yd _ (yd _ e)
    case fresh =>
     exact N4 (led:=led) (yd _ gS)
    case fin =>
     ext s' mv se;let⟨h',g',d',lD,rB⟩:=s';obtain rfl:g'=s.gens:=mv.gens;obtain rfl:d'=s.drawn:=mv.drawn;obtain rfl:rB=s.os:=mv.os;show M _ _ _ _ _ _;calc Io ?_;show M _ _ (ret q0E) _ _ _;calc Io ⟨Y,h',lD,Y,se,λb o hb e=>?_⟩;calc mv.heap b o ?_ (yd _ (yd _ e));erw[Qu,q0s,q1v,q4R,ez];exact⟨q0g hb,q0g (q0O hb)⟩
   .cases r2 with
    |error e=>exact l7
    |ok Ay =>
     cases Ay with
     |ret r =>
      let⟨rfl,h',lD,rfl,se,kp⟩:=l7
      repeat(any_goals (first|assumption|wp_step))
      exact fin _ _ se kp
     |next=>exact l7
     |brk=>exact l7
     |cont=>exact l7
  |next=>exact hr
  |brk=>exact hr
  |cont=>calc hr
end
noncomputable abbrev iJ(w:S):Bool := !w.params.followText "set-order"
theorem G8{h:I}{S:O}{led:Bool}(e:h.get? S=U (cL led)):fw h S led [] :=
 ⟨_,#[],0,_,e,⟨Y,Y,Y⟩,Y,Y,.inl Y,Y,by cases led<;>decide,q5_,Y,Y,(λ_ h=>nomatch h),q2G _,q5s⟩
section
variable{prog:t}{w:S}{A:o}{E:bA}{s:B}
theorem N6(a:L){Q₁:bA}(h:Q₁ (.ref ⇑s) {s with heap:=s.heap.push (cL (iJ w))}):
  codeAny (ς prog w) A (.call (.builtin "set.__new__") ⟨[.type "set",a],[]⟩) (wants Q₁ E) s:=by
 calc q43 ?_;show M _ A.in1 (checkBuiltinCall "set.__new__" ⟨[.type "set",a],[]⟩ >>= λ_=>again (.builtin "set.__new__" ⟨[.type "set",a],[]⟩)) _ _ s;calc sf (q5t (F.newCall_set_1 a) (Io ⟨q2j q60 _,?_⟩));calc q1A F.entry_set_new ?_;rw[q1Z q60 _];let x1:=sub_set_self;unfold Builtin.«set.__new__» Builtin.Frozenset.newClass newSet setsByText;let⟨hp,g,d,tk,os⟩:=s;dsimp only
 wp_walk
 calc q2W (Io ?_);dsimp only;erw[newObj];calc sf (wpAny_alloc (Io (Io h)))
end
theorem bD:Slot "set_iterator" "__next__" "set_iterator.__next__" :=
 .of (owner:="set_iterator") (n:="__next__") (by rw[q61,q5g];kernel_rfl) (by decide +kernel) (by decide +kernel) (by decide +kernel)
  (by first|exact .inl (by decide +kernel)|calc .inr (by decide +kernel)) (by rw[q5u];kernel_rfl)
theorem G9:Slot "set_iterator" "__iter__" "set_iterator.__iter__" :=
 .of (owner:="set_iterator") (n:="__iter__") (by rw[q61,q5g];kernel_rfl) (by decide +kernel) (by decide +kernel) (by decide +kernel)
  (by first|exact .inl (by decide +kernel)|calc .inr (by decide +kernel)) (by rw[q5u];kernel_rfl)
theorem G_:entryFor table "set_iterator.__next__" = U Builtin.«set_iterator.__next__» := entryFor_of_fast (by kernel_rfl)
theorem N7:entryFor table "set_iterator.__iter__" = U Builtin.«dict_keyiterator.__iter__» :=
 q7i (id':="dict_keyiterator.__iter__") (by kernel_rfl) Y (by decide +kernel) (by kernel_rfl)
theorem N8:entryFor table "set.__iter__" = U Builtin.«frozenset.__iter__» :=
 q7i (id':="frozenset.__iter__") (by kernel_rfl) Y (by decide +kernel) (by kernel_rfl)
theorem Ha(a:L):argsOk "set_iterator.__next__" ⟨[a],[]⟩:=by unfold argsOk;kernel_rfl
theorem N9(a:L):argsOk "set_iterator.__iter__" ⟨[a],[]⟩:=by unfold argsOk;kernel_rfl
def cH(h:Α)(I S:O)(first:L)(i n ep:Nat):Prop:=∃o,h.get? I=U o/\o.cls=.type "set_iterator" /\ o.data=.fields #[first,.int i 0,.ref S,.int n 0,.int ep 0]
theorem cH.typeIs{s:B}{I S:O}{f:L}{i n ep:Nat}(x:cH s.heap I S f i n ep):s.TypeIs (.ref I) "set_iterator" := let⟨o,ho,hc,_⟩:=x;⟨o,ho,hc⟩
theorem cH.at{h h':Α}{I S:O}{f:L}{i n ep:Nat}(x:cH h I S f i n ep)(e:∀o,h.get? I=U o->h'.get? I=U o):cH h' I S f i n ep:=let⟨o,ho,r⟩:=x;⟨o,e _ ho,r⟩
noncomputable def iK(w:ω)(S:O)(ep:Nat)(es:Array (Int×L)):Array (Int×L):=if w.params.followText "set-order" = θ then pickOrder (w.params.setOrder S ep) es else es
theorem Az(w:ω)(S:O)(ep:Nat)(es:Array (Int×L)):(iK w S ep es).toList.Perm es.toList:=by
 unfold iK;split
 .exact NO _ _
 .calc q2G _
theorem xP(w:ω)(S:O)(ep:Nat)(es:Array (Int×L)):(iK w S ep es).size=es.size:=by
 let:=(Az w S ep es).length_eq;simpa using this
noncomputable def slotAt(t:SetTable)(i:Nat):Nat:=if i=0 then 0 else t.place.getD (i-1) 0+1
structure AA(w:ω)(I S:O)(o:Q)(es:Array (Int×L))(ep:Nat)(t:SetTable)(i:Nat)(h:Α):Prop where
 set:h.get? S=U o
 it:∃slot:Nat,cH h I S (.int slot 0) i es.size ep/\(w.params.followText "set-order" = ι->slot=slotAt t i)
section
variable{prog:ψ}{w:ω}{A:Β}{I S:O}{o:Q}{es:Array (Int×L)}{ep:Nat}{t:SetTable}{ks:-Int}
theorem N_(T:c5 t es (iJ w) ks){i:Nat}(hi:i<=es.size):below t.place (slotAt t i)=i:=by
 unfold slotAt;split
 .rename_i h;subst h;exact NJ T.up
 .rename_i h
  let hl:i-1<t.place.size:=by rw[T.j6];symm
  let e:t.place.getD (i-1) 0=t.place[i-1]:=by simp[q5W,hl]
  rw[e,NI T.up hl];symm
theorem Hb{E:bA}{s:B}{Q:Option (L×Nat)->B->Prop}(ho:s.heap.get? S=U o)(hd:o.data=.set es ep t)(T:c5 t es (iJ w) ks){slot i:Nat}(hi:i<=es.size)(hs:w.params.followText "set-order" = ι->slot=slotAt t i)
  (k:∀rC:Nat,(w.params.followText "set-order" = ι->i<es.size->rC=slotAt t (i+1))->Q (((iK w S ep es)[i]?).map λe=>(e.2,rC)) s):M (g prog w) A (setNext S slot i ep) Q E s:=by
 calc sf (q13 ho hd T.fits ?_);calc sf ?_;calc sf (q2W (Io ?_));let mw:(g prog w).w=w:=Y
 cases q:w.params.followText "set-order" with
 |true =>
  rw[mw,q];erw[q4d,q1b,q2g,q2N];calc sf ?_;calc sf (q13 ho hd T.fits ?_);calc sf ?_;calc sf (q2W (Io ?_));rw[mw,q,q0k Y];calc sf (q2W (Io ?_));calc Io ?_;let:=k slot λz=>by rw[q] at z;cases z
  unfold iK at this;rw[q0k q] at this;exact this
 |false =>
  rw[mw,q,q0i (by decide)];let Ai:=hs q;subst Ai;let hb:=N_ T hi;rw[hb];calc q44 (λh=>absurd (show(!t.plain&&G (es.size>1))=θ from h) (by rw[T.uZ];simp)) (λ_=>?_);calc sf ?_;calc q44 (c:=(!t.led && !es.isEmpty)=θ) (λh=>absurd h (by rw[T.An];unfold iJ;rw[q];simp)) (λ_=>?_);calc Io (Io ?_);let hk:=k (slotAt t (i+1)) λ_ _=>Y;unfold iK at hk;rw[q0i (by rw[q];decide)] at hk
  by_cases hl:i<es.size
  .let hp:i<t.place.size:=by rw[T.j6];exact hl
   rw[q0u hl] at hk;rw[q0u hl,q0u hp]
   let e:slotAt t (i+1)=t.place[i]+1:=by
    unfold slotAt;simp[q5W,hp]
   rw[e] at hk;exact hk
  .rw[q1E ⋯] at hk
   rw[q1E ⋯];calc hk
theorem Hc{E:bA}{s:B}{a:O}{ob:Γ}{vs:Array L}{Q:Array L->B->Prop}(ho:s.heap.get? a=U ob)(hd:ob.data=.fields vs)(h:Q vs s):M (g prog w) A (fieldsOf (.ref a)) Q E s:=by
 calc sf (q7j ho ?_);rw[hd];calc Io h
theorem Oa(hh:A.handled=Z)(gC:S≠I)(hex:o.ExactSet)(hd:o.data=.set es ep t)(T:c5 t es (iJ w) ks):
  Walks prog w A I [I,S] [I] es.size (λi v=>∃e,(iK w S ep es)[i]?=U e/\v=e.2) (AA w I S o es ep t) where
 sub:=λb hb=>by simp at hb;simp[hb]
 frame:=λi h h' st hk=>⟨hk S (by simp) _ st.set,let⟨slot,x,y⟩:=st.it;⟨slot,x.at λo e=>hk I (by simp) o e,y⟩⟩
 item:=λi s Q E hi st hQ=>by
  let⟨slot,hit,hs⟩:=st.it;let⟨oi,tK,hc,rD⟩:=id hit
  refine sf (q4n (q1f (name:=q02 "__next__") hit.typeIs bD
   (q1g bD hit.typeIs G_ ?_ (Ha _))))
  calc sf (m:=slotArgs _ _ _) (Io ?_);calc sf (Hc tK rD ?_);calc sf (q3K st.set hd T.fits ?_);rw[q0i (by simp)];calc sf (Hb st.set hd T (slot:=slot) (i:=i) ⋯ hs λrC hn=>?_);let ei:(iK w S ep es)[i]?=U ((iK w S ep es)[i]'(by rw[xP];calc hi)):=q0u _;rw[ei];calc sf (q3i tK rD (by simp) ?_);let hJ:=q01 (q7G (·.setIfInBounds 0 (rawInt rC))) tK (q3q (q2l rD _));let AB:=q2l rD (·.setIfInBounds 0 (rawInt (rC:Int)));calc sf (q3i hJ AB (by simp) ?_);let fW:=q01 (q7G (·.setIfInBounds 1 (rawInt ((i:Int)+1)))) hJ (q3q (q2l AB _));let hd2:=q2l AB (·.setIfInBounds 1 (rawInt ((i:Int)+1)))
  refine Io ⟨_,Y,Io (hQ _ _ s.toks ⟨_,ei,Y⟩ ⟨?_,rC,⟨_,fW,?_,?_⟩,λz=>hn z hi⟩ λb ob hb e=>?_)⟩
  .rw[q1k _ _ (q2h gC),q1k _ _ (q2h gC)];exact st.set
  .exact (q4e ..).trans ((q4e ..).trans hc)
  .rw[hd2];simp[rawInt]
  .let hb':I≠b:=λz=>hb (by simp[z])
   rw[q1k _ _ hb',q1k _ _ hb'];exact e
 done:=λs Q E st hQ=>by
  let⟨slot,hit,hs⟩:=st.it;let⟨oi,tK,hc,rD⟩:=id hit
  refine sf (q4n (q1f (name:=q02 "__next__") hit.typeIs bD
   (q1g bD hit.typeIs G_ ?_ (Ha _))))
  calc sf (m:=slotArgs _ _ _) (Io ?_);calc sf (Hc tK rD ?_);calc sf (q3K st.set hd T.fits ?_);rw[q0i (by simp)];calc sf (Hb st.set hd T (slot:=slot) (i:=es.size) (Im _) hs λrC hn=>?_);rw[q1E (by rw[xP];calc Im _)];calc sf (q3i tK rD (by simp) ?_);calc sf ?_;calc sf (m:=firstArgMember _ _) (q5t (a:=q0E) (by first|rfl|(erw[firstArgMember];rfl)) ?_);calc q1H ?_ (by size_fits);calc sf (q7H ?_);rw[show A.in1.handled=Z from hh];calc sf (Io (wpAny_throw ?_));calc sf (q4A (T:="StopIteration") (b:=true) ⟨_,q0c _ Y,Y⟩ q7k ?_);refine Io (hQ _ s.toks λb ob hb e=>?_)
  let hb':b≠I:=λz=>hb (by simp[z]);exact(((q0Q ..).extBut.push _).push _) b ob hb' e
 self:=λi s Q E st hQ=>by
  let⟨slot,hit,_⟩:=st.it;calc q6a hit.typeIs G9 (q1g G9 hit.typeIs N7 ?_ (N9 _));calc Io ⟨_,Y, "set_iterator",_,hit.typeIs,bD.lookup,hQ⟩
theorem Ob{E:bA}{s:B}{Q:Bool->B->Prop}(ho:s.heap.get? S=U o)(hd:o.data=.set es ep t)(T:c5 t es (iJ w) ks)(k:Q ι s):M (g prog w) A (setDrawn S) Q E s:=by
 calc sf (q13 ho hd T.fits ?_);calc sf ?_;calc sf (q2W (Io ?_));calc Io ?_;let e:(!(g prog w).w.params.followText "set-order" && (!t.plain&&G (es.size>1)))=ι:=by rw[T.uZ];simp
 calc e▸k
theorem Oc{E:bA}{s:B}{Q:bA}(ho:s.heap.get? S=U o)(hex:o.ExactSet)(hd:o.data=.set es ep t)(T:c5 t es (iJ w) ks)
  (k:∀h',(∀b ob,s.heap.get? b=U ob->h'.get? b=U ob)->AA w ⇑s S o es ep t 0 h'->Q (.ref ⇑s) {s with heap:=h'}):M (g prog w) A (pyIter (.ref S)) Q E s:=by
 let tS:s.TypeIs (.ref S) "set" := ⟨o,ho,hex.1⟩;calc q6a tS q62 (q1g q62 tS N8 ?_ (F.args_set_iter_1 _));calc sf (m:=Builtin.Frozenset.sizeOf _) ?_;calc sf (q3K ho hd T.fits (Io ?_));calc sf (Ob ho hd T ?_);calc sf (Io ?_);calc sf (wpAny_setEpoch_of ho hd T.fits ?_);calc sf (m:=newFields _ _) (q1H (Io ⟨_,Y, "set_iterator",_,⟨_,q0c _ Y,Y⟩,bD.lookup,?_⟩));calc k _ (λb ob e=>yd _ e) ⟨yd _ ho,0,⟨_,q0c _ Y,Y,Y⟩,λ_=>Y⟩
end
section
variable{prog:ψ}{w:ω}{A:Β}{S:O}{o:Q}{es:Array (Int×L)}{ep:Nat}{t:SetTable}{ks:-Int}
theorem Od{E:bA}{s:B}{Q:Bool->B->Prop}(tS:s.TypeIs (.ref S) "set")(k:Q ι s):M (g prog w) A (Builtin.List.listLengthHint (.ref S)) Q E s:=by
 calc sf (q3E tS F.slot_set_len.lookup ?_);generalize Oe:("set.__len__" : String)=Z1
 wp_delta
 subst Oe;calc sf (q4A (T:="set") (b:=true) tS (by rw[q5u];kernel_rfl) ?_);calc q44 (λGJ=>absurd GJ (by decide)) (λ_=>?_);calc sf (q3O tS ?_);calc Io k
theorem Of{E:bA}{s:B}{Q:-L->B->Prop}(hh:A.handled=Z)(ho:s.heap.get? S=U o)(hex:o.ExactSet)(hd:o.data=.set es ep t)(T:c5 t es (iJ w) ks)(hn:es.size<=1000)
  (h:∀(h':Α)(tk:Nat),(∀b ob,s.heap.get? b=U ob->h'.get? b=U ob)->⇑s<=h'.objs.size->Q ((iK w S ep es).toList.map (·.2)) {s with heap:=h',toks:=tk}):M (g prog w) A (collect (.ref S)) Q E s:=by
 let lS:S<⇑s:=q0a ho;calc sf (q3W (q1A F.entry_proto_collect ?_));calc sf (q1H ?_);calc Io ⟨q2j F.plain_list_iadd _,q1A F.entry_list_iadd ?_⟩;generalize tL:({s with heap:=s.heap.push {cls:=.type "list",data:=.seq ([]:-L).toArray}}:B)=s1;let hJ:s1.heap.get? S=U o:=by rw[<-tL];exact yd _ ho
 let gL:s1.heap.get? ⇑s=U {cls:=.type "list",data:=.seq ([]:-L).toArray}:=by rw[<-tL];exact q0c _ Y
 let z1:⇑s1=⇑s+1:=by rw[<-tL];exact q00 ..
 show M _ A.in1 (Builtin.List.listExtendWith (.ref ⇑s) (.ref S) (.ref ⇑s)) _ _ _;calc sf (q3O (T:="set") ⟨o,hJ,hex.1⟩ ?_);let h1:q4o (.ref ⇑s) (.ref S)=ι:=by simp[q4o];exact q1P lS
 let h2:(q1T "set" == q1T "list")=ι:=by decide
 let h3:(q1T "set" == q1T "tuple")=ι:=by decide
 erw[h1,h2,h3,q5M,q1b,q2g];calc sf (Oc hJ hex hd T λf_ rE j8=>?_);calc sf (q0M (Od ⟨o,rE _ _ hJ,hex.1⟩ ?_));let gC:S≠⇑s1:=by rw[z1];exact q0g (q0O lS)
 let W:=(Oa (prog:=prog) (A:=A.in1) (I:=s1.heap.objs.size) (by simp[hh]) gC hex hd T).toS
 let Og:⇑s∉[⇑s1,S]:=by
  erw[Qu,q0s,q1v,q4R,z1];exact⟨q0g (q0T _),q1P lS⟩
 let key:∀(u6:Α)(c:Nat),AA w ⇑s1 S o es ep t 0 u6->u6.get? ⇑s=U {cls:=.type "list",data:=.seq #[] c}->(∀b ob,b≠⇑s->f_.get? b=U ob->u6.get? b=U ob) →
   codeAny (g prog w) A (.builtin "list.extend.loop" ⟨[.ref ⇑s,.ref ⇑s1,.ref ⇑s],[]⟩) (λr s'=>match r with
    |.ok (.ret v)=>M (g prog w) A (match v with
     |.ref a=>do match(<- load a).data with
      |.seq xs _=>pure xs.toList
      |_=>unsupported "internal:collect"
     |_=>unsupported "internal:collect") Q E s'
    |.ok _=>False
    |.error e=>E e s') {s1 with heap:=u6}:=by
  ext u6 c st hL kp;calc codeAny_extend_loopS W (by rw[q1W];symm) _ Og _ es.size 0 _ #[] c Y (q06 _) st hL (ItemsOf.nil _) λs' fO c' hm tM rF=>?_;refine sf (q7j tM (Io ?_))
  let ea:fO.toList=(iK w S ep es).toList.map (·.2):=by
   calc q2R λi=>?_;rw[Qw]
   by_cases hi:i<es.size
   .let Hd:i<fO.size:=by rw[rF.1];exact hi
    let⟨e,he,hv⟩:=rF.2 i _ (q0u Hd);rw[q0H,q0u Hd,q0H,he,hv];rfl
   .rw[q0H,q1E (by rw[rF.1];symm),q0H,q1E (by rw[xP];symm)];rfl
  rw[ea];let⟨AD,g3,d3,Z2,Oh⟩:=s';obtain rfl:g3=s1.gens:=hm.gens;obtain rfl:d3=s1.drawn:=hm.drawn;obtain rfl:Oh=s1.os:=hm.os;subst tL;calc h _ _ (λb ob e=>?_) (q1e (q0a tM));let hb:b<⇑s:=q0a e;calc hm.heap b ob ?_ (kp b ob (q0g hb) (rE b ob (yd _ e)));erw[Qu,q0s,q1v,q4R];exact⟨q0g hb,by show b≠(s.heap.push _).objs.size;rw[q00];calc q0g (q0O hb)⟩
 let xQ:=rE _ _ gL;calc sf (q3v ?_);calc sf ?_;calc sf (q26 xQ Y ?_);let He:=q01 (q1c (·.push q0E)) xQ Y;calc q26 (hz:=by seq_fits) He Y ?_;let Oi:=q01 (q1c (·.pop)) He Y
 let AE:∀b ob,b≠⇑s->f_.get? b=U ob->((f_.update ⇑s (q1c (·.push q0E))).update ⇑s (q1c (·.pop))).get? b=U ob :=
  λb ob hb e=>(q1k _ _ (q2h hb)).trans ((q1k _ _ (q2h hb)).trans e)
 calc Io ⟨q2j F.plain_extend_loop _,key _ _ ?_ Oi AE⟩;let⟨slot,it,sl⟩:=j8.it;calc⟨AE _ _ (q0g lS) j8.set,slot,it.at λob e=>AE _ _ (by rw[z1];calc q1P (q0T _)) e,sl⟩
end
end LJS
namespace L2
open PySem PySem.Spec PyProof.Rows
abbrev Key:=Sum Int J
noncomputable def tN:Key->L->Bool
 |.inl k,v=>Value.isInt k v
 |.inr x,v=>q7J x v
noncomputable def AF(w:S):Key->Int
 |.inl k=>hashInt k
 |.inr x=>hashStr w x
theorem oz:∀{k:Key}{v:L},tN k v=θ->(∃i t,k=q4f i/\v=q04 i t)\/(∃x t,k=q4g x/\v=q4B x t)
 |.inl i,v,h=>by
  let⟨t,e⟩:=q58 (k:=i) (v:=v) h;exact .inl ⟨i,t,Y,e⟩
 |.inr x,v,h=>by
  let⟨t,e⟩:=Value.isStrOf_shape (x:=x) (v:=v) h;calc .inr ⟨x,t,Y,e⟩
theorem Oj(i:Int)(t:Tok):tN (.inl i) (.int i t)=θ:=by simp[tN,Value.isInt]
theorem Ol(x:J)(t:Tok):tN (.inr x) (.str x t)=θ:=by simp[tN,q7J]
theorem Om(a b:Int):G ((q4f a:Key)=q4f b)=(a==b):=by
 by_cases e:a=b
 .subst e;simp
 .let h:¬ (q4f a:Key)=q4f b:=λq=>e (q3B q)
  rw[q0e h];calc(q2D.mpr e).symm
theorem Oo(a b:J):G ((q4g a:Key)=q4g b)=G (a=b):=by
 by_cases e:a=b
 .subst e;simp
 .let h:¬ (q4g a:Key)=q4g b:=λq=>e (Sum.inr.inj q)
  rw[q0e h,q0e e]
theorem Oq(a:Int)(b:J):G ((q4f a:Key)=q4g b)=ι:=q0e (λq=>nomatch q)
theorem Ot(a:J)(b:Int):G ((q4g a:Key)=q4f b)=ι:=q0e (λq=>nomatch q)
noncomputable def jw(prog:ψ)(w:S):PySem.KeyKind prog w Key where
 is:=tN
 hash:=AF w
 inj:=λv a b ha hb=>by
  rcases oz ha with⟨i,t,rfl,rfl⟩|⟨x,t,rfl,rfl⟩
  .rcases oz hb with⟨j,u,rfl,e⟩|⟨y,u,rfl,e⟩
   .injection e with e1 _;rw[e1]
   .exact nomatch e
  .rcases oz hb with⟨j,u,rfl,e⟩|⟨y,u,rfl,e⟩
   .exact nomatch e
   .injection e with e1 _;rw[e1]
 byValue:=λk v h=>by
  rcases oz h with⟨i,t,rfl,rfl⟩|⟨x,t,rfl,rfl⟩<;>rfl
 pyHash:=λhv h=>by
  rcases oz hv with⟨i,t,rfl,rfl⟩|⟨x,t,rfl,rfl⟩
  .exact wpAny_pyHash_int h
  .exact wpAny_pyHash_str h
 eqBool:=λhu hv h=>by
  rcases oz hu with⟨i,t,rfl,rfl⟩|⟨x,t,rfl,rfl⟩
  .rcases oz hv with⟨j,u,rfl,rfl⟩|⟨y,u,rfl,rfl⟩
   .rw[Om] at h;exact q4C h
   .rw[Oq] at h;exact q5X i t y u _ _ _ _ h
  .rcases oz hv with⟨j,u,rfl,rfl⟩|⟨y,u,rfl,rfl⟩
   .rw[Ot] at h;exact q5Y x t j u _ _ _ _ h
   .rw[Oo] at h;exact wpAny_eqBool_str h
 «strs» := λk x t v h=>by
  rcases oz h with⟨i,u,rfl,e⟩|⟨y,u,rfl,e⟩
  .exact nomatch e
  .injection e with e1 _
   subst e1;cases v<;>rfl
theorem Ou(prog:ψ)(w:S)(i:Int)(t:Tok):(jw prog w).is (.inl i) (.int i t)=θ:=Oj i t
theorem Ov(prog:ψ)(w:S)(x:J)(t:Tok):(jw prog w).is (.inr x) (.str x t)=θ:=Ol x t
inductive V where
 |non|bl (b:Bool)|int (i:Int)|str (x:J)|byt (b:Array UInt8)|flt (b:UInt64)|ref (a:O)|ty (n:String)
 deriving DecidableEq
def RelV:V->L->Prop
 |.non,u=>u=q0E
 |.bl b,u=>u=q2P b
 |.int i,u=>∃t,u=q04 i t
 |.str x,u=>∃t,u=q4B x t
 |.byt b,u=>∃t,u=Value.bytes b t
 |.flt b,u=>∃t,u=q6S b t
 |.ref a,u=>u=q0J a
 |.ty n,u=>u=q1T n
abbrev Vals:-V->-L->Prop:=Paired RelV
theorem Vals.length{xs:-V}{us:-L}(r:Vals xs us):↑xs=↑us:=q5N r
theorem Vals.get:∀{xs:-V}{us:-L}{i:Nat}{x:V},Vals xs us->xs[i]?=U x->∃u,us[i]?=U u/\RelV x u
 |_,_,_,_,.nil,e=>by simp at e
 |_,_,0,_,.cons r _,e=>by simp at e;subst e;exact⟨_,Y,r⟩
 |_,_,i+1,x,.cons _ t,e=>by
  let⟨u,h1,h2⟩:=Vals.get (i:=i) (x:=x) t e⁻¹;calc⟨u,by simpa using h1,h2⟩
theorem Vals.set{x:V}{u:L}(r:RelV x u):∀{xs:-V}{us:-L}(i:Nat),Vals xs us->Vals (xs.set i x) (us.set i u)
 |_,_,_,.nil=>.nil
 |_,_,0,.cons _ t=>.cons r t
 |_,_,i+1,.cons q t=>.cons q (Vals.set r i t)
theorem Vals.append:∀{xs ys:-V}{us ws:-L},Vals xs us->Vals ys ws->Vals (xs++ys) (us++ws)
 |_,_,_,_,.nil,s=>s
 |_,_,_,_,.cons r t,s=>.cons r (Vals.append t s)
theorem Vals.take:∀{xs:-V}{us:-L}(n:Nat),Vals xs us->Vals (xs.take n) (us.take n)
 |_,_,0,_=>.nil
 |_,_,_+1,.nil=>.nil
 |_,_,n+1,.cons r t=>.cons r (Vals.take n t)
theorem Vals.drop:∀{xs:-V}{us:-L}(n:Nat),Vals xs us->Vals (xs.drop n) (us.drop n)
 |_,_,0,r=>r
 |_,_,_+1,.nil=>.nil
 |_,_,n+1,.cons _ t=>Vals.drop n t
def dI:Option V->Option L->Prop
 |some v,some u=>RelV v u
 |none,none=>True
 |_,_=>False
def KV{κ:Type}:-(κ×V)->-(κ×L)->Prop:=Paired λ(p:κ×V) (q:κ×Value)=>p.1=q.1/\RelV p.2 q.2
noncomputable def kV:Key->V
 |.inl i=>.int i
 |.inr x=>.str x
inductive HO where
 |lst (xs:-V)
 |tup (xs:-V)
 |dK (kvs:-(Key×V))|dT (kvs:-(-Key×V))
 |set (S:Int->Bool) (n:Nat)
 |ins (C dx:O) (fs:-(J×V))
 |own (x:O)
 |xd (fs:-(J×V))
 |met (f x:O)
 |rng (lo hi:Int)
 |frz (o:Q) (u:HO)
 |tbl (ps:Array L)
 |ext (φ:I->Prop)
abbrev Hp:=O->Option HO
noncomputable def upd(H:Hp)(a:O)(o:HO):Hp:=λb=>if b=a then U o else H b
theorem cA{H:Hp}{a:O}{o:HO}:upd H a o a=U o:=by unfold upd;rw[q0k Y]
theorem bE{H:Hp}{a b:O}{o:HO}(h:b≠a):upd H a o b=H b:=by unfold upd;rw[q0i h]
theorem Ox{H:Hp}{a b:O}{o u:HO}(h:H a=U o)(h':H b=U u)(d:o≠u):a≠b:=by
 ext e;subst e;rw[h] at h';calc d (q0A h')
theorem dY{H:Hp}{a b:O}{o:HO}(h:H a=U o)(h':H b=Z):a≠b:=by
 ext e;subst e;rw[h] at h';cases h'
section
variable(P:t)(w:S)
def bz(H:Hp)(h:I)(a:O):HO->Prop
 |.lst xs=>↑xs<=sizeLine/\∃(aA:-L)(n:Nat),Vals xs aA/\h.get? a=U {cls:=.type "list",data:=.seq aA.toArray n}
 |.tup xs=>↑xs<=sizeLine/\∃aA:-L,Vals xs aA/\IsTup h a aA.toArray
 |.dK kvs=>↑kvs<=sizeLine/\(a==sysModules)=ι/\∃vs,KV kvs vs/\h.DictOf (jw P w) a vs
 |.dT kvs=>↑kvs<=sizeLine/\(a==sysModules)=ι/\∃xs:-(-Key×O×L),
   Paired (λ(p:-Key×V) (q:-Key×Addr×Value)=>p.1=q.1/\H q.2.1=U (.tup (p.1.map kV))/\RelV p.2 q.2.2) kvs xs ∧
   ∃o es ep,h.get? a=U o/\o.ExactDict/\o.data=.dict es ep/\es.toList=xs.map (entryOfKey (tupleKind (jw P w)))/\(xs.map (·.1)).Nodup
 |.set S n=>h.SetOf (intKind P w) a S n
 |.ins C dx fs=>H dx=U (.own a)/\fs.length<=1000/\dx≠a/\h.get? a=U (q2e C dx) ∧
   ∃mA,h.Ns1 dx mA/\(∀f,dI (fs.lookup f) (mA f))/\q6b mA (fs.map (·.1))
 |.own _=>∃o,h.get? a=U o
 |.xd fs=>∃mA,h.Ns1 a mA/\∀f,dI (fs.lookup f) (mA f)
 |.rng lo hi=>∃t u v,h.get? a=U {cls:=.type "range",data:=.fields #[.int lo t,.int hi u,.int 1 v]}
 |.frz o u=>h.get? a=U o/\bz H h a u
 |.tbl ps=>h.get? a=U {cls:=.none,data:=.fields ps}
 |.met f x=>h.get? a=U (q4h (.ref f) (.ref x))
 |.ext φ=>φ h/\(∃o,h.get? a=U o)/\∀h1 h2:I,φ h1->(∀o,h1.get? a=U o->h2.get? a=U o)->φ h2
def eT(H:Hp)(h:I):Prop:=∀a o,H a=U o->bz P w H h a o
end
section
variable{P:t}{w:S}{H H':Hp}{h h':I}{a:O}{o:HO}
theorem bz.lt(x:bz P w H h a o):a<h.objs.size:=by
 cases o with
 |lst xs=>let⟨_,_,_,_,e⟩:=x;exact q0a e
 |tup xs=>let⟨_,_,_,p⟩:=x;exact p.lt
 |dK kvs=>let⟨_,_,_,_,o,_,_,e,_⟩:=x;exact q0a e
 |dT kvs=>let⟨_,_,_,_,o,_,_,e,_⟩:=x;exact q0a e
 |set S n=>let⟨o,_,_,_,e,_⟩:=x;exact q0a e
 |ins C dx fs=>let⟨_,_,_,e,_⟩:=x;exact q0a e
 |own y=>let⟨_,e⟩:=x;exact q0a e
 |xd fs=>let⟨_,⟨_,_,_,e,_⟩,_⟩:=x;exact q0a e
 |rng lo hi=>let⟨_,_,_,e⟩:=x;exact q0a e
 |frz ob u=>let⟨e,_⟩:=x;exact q0a e
 |tbl ps=>exact q0a (show h.get? a=U _ from x)
 |met f y=>exact q0a (show h.get? a=U _ from x)
 |ext φ=>let⟨_,⟨_,e⟩,_⟩:=x;calc q0a e
theorem Paired.rG{α β:Type}{F G:α->β->Prop}:∀{l₁:-α}{l₂:-β},Paired F l₁ l₂->(∀a b,F a b->G a b)->Paired G l₁ l₂
 |_,_,.nil,_=>.nil
 |_,_,.cons r t,f=>.cons (f _ _ r) (Paired.rG t f)
theorem bz.hU(x:bz P w H h a o)(k:∀b u,(b=a\/H b=U (.own a))->h.get? b=U u->h'.get? b=U u)
  (ho:∀b,H b=U (.own a)->H' b=U (.own a)) (ht:∀b xs,H b=U (.tup xs)->H' b=U (.tup xs)):bz P w H' h' a o:=by
 induction o with
 |lst xs=>let⟨z,aA,n,r,e⟩:=x;exact⟨z,aA,n,r,k _ _ (.inl Y) e⟩
 |tup xs=>let⟨z,aA,r,ob,e,c⟩:=x;exact⟨z,aA,r,ob,k _ _ (.inl Y) e,c⟩
 |dK kvs=>let⟨z,y,vs,r,ob,es,ep,e,c⟩:=x;exact⟨z,y,vs,r,ob,es,ep,k _ _ (.inl Y) e,c⟩
 |dT kvs =>
  let⟨z,y,xs,r,ob,es,ep,e,c⟩:=x;exact⟨z,y,xs,Paired.rG r λp q z=>⟨z.1,ht _ _ z.2.1,z.2.2⟩,ob,es,ep,k _ _ (.inl Y) e,c⟩
 |set S n=>let⟨ob,es,ep,t,e,c⟩:=x;exact⟨ob,es,ep,t,k _ _ (.inl Y) e,c⟩
 |ins C dx fs =>
  let⟨d,z,ne,e,mA,⟨od,es,ep,e2,c⟩,r⟩:=x;exact⟨ho _ d,z,ne,k _ _ (.inl Y) e,mA,⟨od,es,ep,k _ _ (.inr d) e2,c⟩,r⟩
 |own y=>let⟨ob,e⟩:=x;exact⟨ob,k _ _ (.inl Y) e⟩
 |xd fs=>let⟨mA,⟨od,es,ep,e,c⟩,r⟩:=x;exact⟨mA,⟨od,es,ep,k _ _ (.inl Y) e,c⟩,r⟩
 |rng lo hi=>let⟨t,u,v,e⟩:=x;exact⟨t,u,v,k _ _ (.inl Y) e⟩
 |frz ob u ih=>let⟨e,q⟩:=x;exact⟨k _ _ (.inl Y) e,ih q⟩
 |tbl ps =>
  let e:h.get? a=U {cls:=.none,data:=.fields ps}:=x;show h'.get? a=U {cls:=.none,data:=.fields ps};exact k a _ (.inl Y) e
 |met f y =>
  let e:h.get? a=U (q4h (.ref f) (.ref y)):=x;show h'.get? a=U (q4h (.ref f) (.ref y));exact k a _ (.inl Y) e
 |ext φ=>let⟨p,⟨o,e⟩,st⟩:=x;calc⟨st _ _ p λo q=>k _ _ (.inl Y) q,⟨o,k _ _ (.inl Y) e⟩,st⟩
theorem eT.lt(x:eT P w H h)(e:H a=U o):a<h.objs.size:=(x a o e).lt
theorem eT.fresh(x:eT P w H h)(e:h.objs.size<=a):H a=Z:=by
 cases q:H a with
 |none=>rfl
 |some u=>calc absurd (q0o (x.lt q) e) (q1L _)
theorem eT.kept(x:eT P w H h)(k:∀b u,h.get? b=U u->h'.get? b=U u):eT P w H h':=λa o e =>
 (x a o e).hU (λb u _ q=>k b u q) (λ_ q=>q) λ_ _ q=>q
theorem eT.laid(x:eT P w H h)(k:∀b u,h.get? b=U u->h'.get? b=U u)(hp:h.objs.size<=a)(new:bz P w (upd H a o) h' a o):eT P w (upd H a o) h':=λb u e=>by
 let hn:=x.fresh hp
 by_cases hb:b=a
 .subst hb;rw[cA] at e;cases e;exact new
 .rw[bE hb] at e
  calc(x b u e).hU (λc v _ q=>k c v q) (λc q=>by rw[bE (dY q hn)];calc q) λc xs q=>by rw[bE (dY q hn)];calc q
end
def Rd(H:Hp)(a:O)(u:HO):Prop:=H a=U u\/∃o,H a=U (.frz o u)
theorem Rd.ok{P:t}{w:S}{H:Hp}{h:I}{a:O}{u:HO}(r:Rd H a u)(x:eT P w H h):bz P w H h a u:=by
 rcases r with r|⟨o,r⟩
 .exact x a u r
 .let⟨_,q⟩:=x a _ r
  calc q
def u7:Option HO->Prop
 |some (.lst _)=>True
 |some (.dK _)=>True
 |some (.dT _)=>True
 |some (.set _ _)=>True
 |some (.ins _ _ _)=>True
 |some (.ext _)=>True
 |_=>False
section
variable{P:t}{w:S}{H:Hp}{h h':I}{x e:O}{o':HO}
theorem eT.write(ok:eT P w H h)(mu:u7 (H x))(he:e=x\/H e=U (.own x))(k:∀b u,b≠e->h.get? b=U u->h'.get? b=U u)(nL:∃u,h'.get? e=U u)
  (new:bz P w (upd H x o') h' x o'):eT P w (upd H x o') h':=λb u q=>by
 let u9:∀c y,H c=U (.own y)->c≠x:=λc y r z=>by subst z;rw[r] at mu;exact mu
 let AG:∀c xs,H c=U (.tup xs)->c≠x:=λc xs r z=>by subst z;rw[r] at mu;exact mu
 by_cases hb:b=x
 .subst hb;rw[cA] at q;cases q;exact new
 .rw[bE hb] at q
  by_cases rH:b=e
  .let q':H b=U (.own x):=by
    rcases he with z|z
    .exact absurd (rH.trans z) hb
    .rw[rH];exact z
   rw[q] at q';cases q';let⟨v,hv⟩:=nL;exact⟨v,by rw[rH];calc hv⟩
  .refine (ok b u q).hU (λc v hc r=>k c v ?_ r) (λc r=>by rw[bE (u9 c b r)];calc r) λc xs r=>by rw[bE (AG c xs r)];exact r
   rcases hc with rfl|hc
   .exact rH
   .ext rfl
    rcases he with z|z
    .exact u9 c b hc z
    .rw[hc] at z;cases z;calc hb Y
end
structure Un(fs ex:-O)(H H':Hp)(h h':I):Prop where
 keep:∀b o,h.get? b=U o->H b=Z->b∉fs->b∉ex->h'.get? b=U o
 slot:∀b o,h.get? b=U o->H b=Z->b∈fs->b∉ex->∃sl,h'.get? b=U {o with slots:=sl}
 free:∀b o,h.get? b=U o->H b=Z->b∉ex->H' b=Z
 there:∀b o,h.get? b=U o->b∉ex->∃o',h'.get? b=U o'
 fx:∀b xs,H b=U (.tup xs)->H' b=U (.tup xs)
 gD:∀b o u,H b=U (.frz o u)->H' b=U (.frz o u)
 gE:∀b ps,H b=U (.tbl ps)->∃more,H' b=U (.tbl (ps++more))
 gb:∀b xs o,H b=U (.tup xs)->h.get? b=U o->b∉ex->h'.get? b=U o
section
variable{fs Oy ex Z3:-O}{H H1 H2:Hp}{h h1 h2 h':I}{a x e:O}{o:HO}
theorem Un.any(u:Un fs ex H H1 h h1){b:O}{ob:Q}(q:h.get? b=U ob)(n:H b=Z)(hx:b∉ex):∃sl,h1.get? b=U {ob with slots:=sl}:=by
 by_cases hb:b∈fs
 .exact u.slot b ob q n hb hx
 .calc⟨ob.slots,u.keep b ob q n hb hx⟩
theorem Un.kept(k:∀b u,h.get? b=U u->h'.get? b=U u):Un fs ex H H h h' :=
 ⟨λb ob q _ _ _=>k b ob q,λb ob q _ _ _=>⟨ob.slots,k b ob q⟩,λ_ _ _ n _=>n,λb ob q _=>⟨ob,k b ob q⟩,λ_ _ q=>q,λ_ _ _ q=>q,λ_ ps q=>⟨#[],by rw[q];simp⟩,λb _ u _ q _=>k b u q⟩
theorem Un.refl:Un fs ex H H h h:=Un.kept λ_ _ q=>q
theorem Un.laid(k:∀b u,h.get? b=U u->h'.get? b=U u)(hp:h.objs.size<=a)(hn:H a=Z):Un fs ex H (upd H a o) h h' where
 keep:=λb u q _ _ _=>k b u q
 slot:=λb u q _ _ _=>⟨u.slots,k b u q⟩
 free:=λb u q n _=>by rw[bE (q0g (q0o (q0a q) hp))];exact n
 there:=λb u q _=>⟨u,k b u q⟩
 fx:=λb xs q=>by rw[bE (dY q hn)];exact q
 gD:=λb u xs q=>by rw[bE (dY q hn)];exact q
 gE:=λb ps q=>⟨#[],by rw[bE (dY q hn),q];simp⟩
 gb:=λb _ u _ q _=>k b u q
theorem Un.write(mu:u7 (H x))(he:e=x\/H e=U (.own x))(k:∀b u,b≠e->h.get? b=U u->h'.get? b=U u)(nL:∃u,h'.get? e=U u):Un fs ex H (upd H x o) h h':=by
 let hx:∀b,H b=Z->b≠x:=λb n z=>by subst z;rw[n] at mu;exact mu
 let hb:∀b,H b=Z->b≠e:=λb n z=>by
  subst z;rcases he with r|r
  .exact hx b n r
  .rw[n] at r;cases r
 let hm:∀b u,H b=U u->¬ u7 (U u)->b≠x:=λb u q nm z=>by subst z;rw[q] at mu;exact nm mu
 refine⟨λb u q n _ _=>k b u (hb b n) q,λb u q n _ _=>⟨u.slots,k b u (hb b n) q⟩,λb u q n _=>by rw[bE (hx b n)];calc n,λb u q _=>?_,
  λb xs q=>by rw[bE (hm b _ q λz=>z)];calc q,λb u xs q=>by rw[bE (hm b _ q λz=>z)];calc q,λb ps q=>⟨#[],by rw[bE (hm b _ q λz=>z),q];simp⟩,λb xs u q e _=>k b u (λz=>by
   subst z;rcases he with r|r
   .exact hm b _ q (λz=>z) r
   .rw[q] at r;cases r) e⟩
 by_cases rH:b=e
 .subst rH;exact nL
 .calc⟨u,k b u rH q⟩
end
noncomputable def xR(h:I)(H:Hp):-O:=(q0C h.objs.size).filter λa=>(H a).isSome
noncomputable def gF(h:I)(H:Hp):I:=PySem.W.hideAll h (xR h H)
theorem Oz(h:I)(H:Hp):(gF h H).objs.size=h.objs.size:=PySem.W.hideAll_size _ _
theorem OA{h:I}{H:Hp}{b:O}{o:Q}(e:h.get? b=U o)(n:H b=Z):(gF h H).get? b=U o :=
 PySem.W.hideAll_get _ e λhm=>by
  let q:(H b).isSome=θ:=(q0R.mp hm).2;rw[n] at q;simp at q
theorem Hf{h:I}{H:Hp}{b:O}{o:Q}(e:(gF h H).get? b=U o):h.get? b=U o/\H b=Z:=by
 let e':h.get? b=U o:=PySem.W.of_hideAll (xR h H) e;refine⟨e',?_⟩
 cases q:H b with
 |none=>rfl
 |some x =>
  let hm:b∈xR h H:=q0R.mpr ⟨q05.mpr (q0a e'),by simp[q]⟩;let z:(gF h H).get? b=Z:=PySem.W.hideAll_none (xR h H) hm;rw[z] at e;cases e
structure Mod(K:My)(mg:J->Option L)(base:I):Prop where
 gG:K.In base
 glob:base.Ns mainGlobals mg
 blt:∃mb,base.Ns builtinsNs mb/\∀x:J,x≠"__name__" -> mb x=bootBuiltins x
 nolimit:base.NoLimit
structure Cx where
 prog:t
 w:S
 K:My
 mg:J->Option L
 base:I
 A:o
 N:-J
 s₀:B
 H₀:Hp
 env:X
 outer:-X
 stack:-X
 ex:-O
 fn:J->Bool
 calm:Bool
 pn:-(O×Q)
 xe:L->B->Prop
noncomputable def lF(l:-X):-O:=l.filterMap (·.frame)
noncomputable abbrev Cx.fs(X:Cx):-O:=lF X.outer
def u_(sc:a)(x:J):Prop:=sc.names.lookup x=U .local\/sc.names.lookup x=U .cell\/sc.names.lookup x=U .free
def Loc(sc:a)(x:J):Prop:=sc.names.lookup x=U .local\/sc.names.lookup x=U .cell
abbrev b7(x:J):Prop:=(x==("__debug__" : J))=ι
abbrev hV(X:Cx)(x:J):Prop:=X.fn x=θ\/X.env.scope.names.lookup x=U .local
abbrev cI(X:Cx)(e:l)(es:-l):Prop:=starEach (e::es) X.env=(ι,eval e X.env)::starEach es X.env
abbrev cS(X:Cx)(p:y)(es:-l):Prop:=(backTo p (starEach es X.env)).any (·.1)=ι
abbrev aM:=-(O×Q)
def Look(env:X)(h:I)(m:J->Option L)(x:J)(u:L):Prop :=
 (env.kindOf x=U .local/\m x=U u)\/((env.kindOf x=U .cell\/env.kindOf x=U .free)/\∃c,env.cells.lookup x=U c/\h.IsCell c (U u))
structure Cx.Ok(X:Cx):Prop where
 mod:Mod X.K X.mg X.base
 kind:X.env.scope.kind=.function
 glob:X.env.globals=mainGlobals
 blt:X.env.builtins=builtinsNs
 above:⇑X.s₀<=X.env.locals
 inj:∀x y c,X.env.cells.lookup x=U c->X.env.cells.lookup y=U c->x=y
 has:∀x,(X.env.kindOf x=U .cell\/X.env.kindOf x=U .free)->∃c,X.env.cells.lookup x=U c
 qt:∀x c,X.fn x=θ->X.env.cells.lookup x=U c->⇑X.s₀<=c
 hd:X.calm=θ->X.A.handled=Z
 frames:X.A.frames=U X.stack
 tO:X.stack=X.outer\/(X.stack=X.env::X.outer/\X.env.frame=U X.env.locals)
 xS:∀b∈X.ex,b≠X.env.locals/\∀x c,X.env.cells.lookup x=U c->c≠b
 bs:∀b o,X.base.get? b=U o->X.s₀.heap.get? b=U o/\(X.H₀ b=Z\/∃xs,X.H₀ b=U (.tup xs))
 l8:X.base.objs.size<=⇑X.s₀
 iV:∀b o,X.base.get? b=U o->b∉X.ex
 kI:∀b∈X.ex,b∉X.fs
 eJ:X.s₀.heap.FunFrames X.base X.outer
 nM:∀b∈X.fs,X.H₀ b=Z
structure Inv(X:Cx)(pins:aM)(σ:-(Option V))(H:Hp)(s:B):Prop where
 ok:X.Ok
 os:s.os=X.s₀.os
 bare:AllBare s.gens
 base:Un X.fs X.ex X.H₀ H X.s₀.heap s.heap
 loc:∃m,s.heap.Ns X.env.locals m/\∀(i:Nat)(x:J)(v:V),X.N[i]?=U x->σ[i]?=U (U v)->u_ X.env.scope x->∃u,RelV v u/\Look X.env s.heap m x u
 cell:∀x c,X.env.cells.lookup x=U c->∃v,s.heap.IsCell c v
 free:H X.env.locals=Z
 cP:∀x c,X.env.cells.lookup x=U c->H c=Z
 pin:∀p∈X.pn++pins,s.heap.get? p.1=U p.2/\H p.1=Z/\p.1≠X.env.locals/\p.1∉X.fs/\∀v,p.2.data≠.cell v
 bu:eT X.prog X.w H s.heap
 len:↑σ=↑X.N
section
variable{X:Cx}{pins:aM}{σ:-(Option V)}{H H':Hp}{s:B}{h':I}
theorem Cx.Ok.AH(ok:X.Ok){b:O}{o:Q}(e:X.base.get? b=U o):b∉X.fs:=λhb=>by
 let:=(ok.eJ.mem hb).1;rw[e] at this;cases this
theorem Inv.bs(I:Inv X pins σ H s):∀b o,X.base.get? b=U o->s.heap.get? b=U o/\(H b=Z\/∃xs,H b=U (.tup xs)):=λb o e=>by
 obtain⟨e1,e2|⟨xs,e2⟩⟩:=I.ok.bs b o e
 .exact⟨I.base.keep b o e1 e2 (I.ok.AH e) (I.ok.iV b o e),.inl (I.base.free b o e1 e2 (I.ok.iV b o e))⟩
 .calc⟨I.base.gb b xs o e2 e1 (I.ok.iV b o e),.inr ⟨xs,I.base.fx b xs e2⟩⟩
theorem Inv.bk(I:Inv X pins σ H s):∀b o,X.base.get? b=U o->s.heap.get? b=U o:=λb o e=>(I.bs b o e).1
theorem Inv.mod(I:Inv X pins σ H s):Mod X.K X.mg X.base:=I.ok.mod
theorem Inv.fJ(I:Inv X pins σ H s):X.K.In s.heap:=I.ok.mod.gG.keeps I.bk
theorem Inv.nolimit(I:Inv X pins σ H s):s.heap.NoLimit:=I.ok.mod.nolimit.keeps I.bk
theorem Inv.lt(I:Inv X pins σ H s):X.env.locals<⇑s:=let⟨_,hn,_⟩:=I.loc;hn.lt
theorem Inv.sz(I:Inv X pins σ H s):⇑X.s₀<=⇑s:=q0B I.ok.above (q1e I.lt)
theorem Inv.AI(I:Inv X pins σ H s){a:O}(h:⇑s<=a):a∉X.fs:=λhb=>by
 let⟨_,o,ho,_⟩:=I.ok.eJ.mem hb;calc absurd (q0o (q0a ho) (q0B I.sz h)) (q1L _)
theorem Inv.rJ(I:Inv X pins σ H s):∀x c,X.env.cells.lookup x=U c->c≠X.env.locals:=λx c e z=>by
 let⟨v,o,ho,hd⟩:=I.cell x c e;let⟨m,⟨o',es,ep,l9,rK,_⟩,_⟩:=I.loc;rw[z,l9] at ho;cases ho;rw[rK] at hd;cases hd
theorem Inv.eJ(I:Inv X pins σ H s):s.heap.FunFrames X.base X.outer:=by
 let all:∀(l:-Ζ),(∀b∈lF l,b∈X.fs)->X.s₀.heap.FunFrames X.base l->s.heap.FunFrames X.base l:=by
  ext l
  induction l with
  |nil=>ext _ _;trivial
  |cons env r ih =>
   ext hs hl;let⟨hk,⟨L,o,hf,hn,ho,hd⟩,hr⟩:=hl;let hL:L∈X.fs:=hs L (by unfold lF;rw[q3L,hf];calc q0m);let⟨sl,e⟩:=I.base.slot L o ho (I.ok.nM L hL) hL λz=>I.ok.kI L z hL;exact⟨hk,⟨L,_,hf,hn,e,hd⟩,ih (λb hb=>hs b (by unfold lF;rw[q3L,hf];calc q0l _ hb)) hr⟩
 calc all X.outer (λ_ hb=>hb) I.ok.eJ
theorem Inv.stack(I:Inv X pins σ H s):s.heap.FunFrames X.base X.stack:=by
 rcases I.ok.tO with e|⟨e,hf⟩
 .rw[e];exact I.eJ
 .rw[e]
  let⟨m,hn,_⟩:=I.loc;calc .cons (by rw[I.ok.kind];decide) hf hn ?_ I.eJ;calc Heap.get?_none_of_le (q0B I.ok.l8 I.ok.above)
theorem Inv.hW(I:Inv X pins σ H s):∀b∈lF X.stack,b∈X.env.locals::X.fs:=λb hb=>by
 rcases I.ok.tO with e|⟨e,hf⟩
 .rw[e] at hb;exact q0l _ hb
 .rw[e] at hb
  unfold lF at hb;rw[q3L,hf] at hb;calc hb
theorem Inv.j9(I:Inv X pins σ H s):∀b∈lF X.stack,H b=Z:=λb hb=>by
 rcases Qu.mp (I.hW b hb) with e|hb
 .rw[e];exact I.free
 .let⟨_,o,ho,_⟩:=I.ok.eJ.mem hb
  calc I.base.free b o ho (I.ok.nM b hb) λz=>I.ok.kI b z hb
theorem Inv.step{g':Array GenState}{t':Nat}{d':Drawn}{ch:-O}(I:Inv X pins σ H s)
  (nN:∀b∈ch,(b∈X.ex\/⇑X.s₀<=b)/\b≠X.env.locals/\(∀x c,X.env.cells.lookup x=U c->c≠b)/\∀p∈X.pn++pins,p.1≠b)
  (keep:∀b o,b≠X.env.locals->b∉X.fs->b∉ch->s.heap.get? b=U o->H b=Z->h'.get? b=U o)
  (slot:∀b o,b≠X.env.locals->b∈X.fs->b∉ch->s.heap.get? b=U o->H b=Z->∃sl,h'.get? b=U {o with slots:=sl}) (free:∀b o,b∉ch->s.heap.get? b=U o->H b=Z->H' b=Z)
  (there:∀b o,b∉ch->s.heap.get? b=U o->∃o',h'.get? b=U o')
  (fx:∀b xs,H b=U (.tup xs)->H' b=U (.tup xs)) (gD:∀b o u,H b=U (.frz o u)->H' b=U (.frz o u)) (gE:∀b ps,H b=U (.tbl ps)->∃more,H' b=U (.tbl (ps++more)))
  (gb:∀b xs o,H b=U (.tup xs)->s.heap.get? b=U o->b∉ch->h'.get? b=U o)
  (ns:∀m,s.heap.Ns X.env.locals m->h'.Ns X.env.locals m) (bu:eT X.prog X.w H' h') (hg:AllBare g') :
  Inv X pins σ H' {s with heap:=h',gens:=g',drawn:=d',toks:=t'}:=by
 let Hg:∀b o,X.s₀.heap.get? b=U o->b≠X.env.locals:=λb o e=>q0g (q0o (q0a e) I.ok.above)
 let va:∀b o,X.s₀.heap.get? b=U o->b∉X.ex->b∉ch:=λb o e hx hb=>by
  rcases(nN b hb).1 with z|z
  .exact hx z
  .exact absurd (q0o (q0a e) z) (q1L _)
 let cellK:∀x c,X.env.cells.lookup x=U c->∀v,s.heap.IsCell c v->h'.IsCell c v:=λx c e v ⟨o,ho,hd⟩↦by
  let l_:c∉ch:=λz=>(nN c z).2.2.1 x c e Y
  by_cases hc:c∈X.fs
  .let⟨sl,q⟩:=slot c o (I.rJ x c e) hc l_ ho (I.cP x c e)
   exact⟨_,q,hd⟩
  .exact⟨o,keep c o (I.rJ x c e) hc l_ ho (I.cP x c e),hd⟩
 refine⟨I.ok,I.os,hg,⟨λb o e n hb hx=>?_,λb o e n hb hx=>?_,λb o e n hx=>?_,λb o e hx=>?_,λb xs e=>fx b xs (I.base.fx b xs e),λb o xs e=>gD b o xs (I.base.gD b o xs e),λb ps e=>?_,λb xs o e1 e2 hx=>gb b xs o (I.base.fx b xs e1) (I.base.gb b xs o e1 e2 hx) (va b o e2 hx)⟩,?_,λx c e=>?_,?_,λx c e=>?_,λp hp=>?_,bu,I.len⟩
 .exact keep b o (Hg b o e) hb (va b o e hx) (I.base.keep b o e n hb hx) (I.base.free b o e n hx)
 .let⟨sl,e1⟩:=I.base.slot b o e n hb hx
  let⟨Hh,e2⟩:=slot b _ (Hg b o e) hb (va b o e hx) e1 (I.base.free b o e n hx);exact⟨Hh,e2⟩
 .let⟨o',e1⟩:=I.base.there b o e hx
  exact free b o' (va b o e hx) e1 (I.base.free b o e n hx)
 .let⟨o',e1⟩:=I.base.there b o e hx
  exact there b o' (va b o e hx) e1
 .let⟨m1,e1⟩:=I.base.gE b ps e
  let⟨m2,e2⟩:=gE b _ e1;exact⟨m1++m2,by rw[e2,Array.append_assoc]⟩
 .let⟨m,hn,hl⟩:=I.loc
  calc⟨m,ns m hn,λi x v e1 e2 e3=>?_⟩;let⟨u,r,l⟩:=hl i x v e1 e2 e3;calc⟨u,r,?_⟩;rcases l with l|⟨k,c,e,z⟩
  .exact .inl l
  .exact .inr ⟨k,c,e,cellK x c e _ z⟩
 .let⟨v,z⟩:=I.cell x c e
  exact⟨v,cellK x c e v z⟩
 .let⟨m,⟨o,_,_,ho,_⟩,_⟩:=I.loc
  exact free _ o (λz=>(nN _ z).2.1 Y) ho I.free
 .let⟨v,o,ho,hd⟩:=I.cell x c e
  exact free c o (λz=>(nN c z).2.2.1 x c e Y) ho (I.cP x c e)
 .let⟨e,n,ne,nf,d⟩:=I.pin p hp
  let l_:p.1∉ch:=λz=>(nN p.1 z).2.2.2 p hp Y;calc⟨keep p.1 p.2 ne nf l_ e n,free p.1 p.2 l_ e n,ne,nf,d⟩
theorem Inv.un{t':Nat}(I:Inv X pins σ H s)(u:Un X.fs [] H H' s.heap h')(bu:eT X.prog X.w H' h'):Inv X pins σ H' {s with heap:=h',toks:=t'}:=by
 let⟨m,⟨o,es,ep,ho,r⟩,_⟩:=id I.loc;let⟨sl,hL⟩:=u.any ho I.free (by simp)
 exact I.step (g':=s.gens) (d':=s.drawn) (ch:=[]) (λ_ z=>nomatch z) (λb o _ hb _ e n=>u.keep b o e n hb (by simp)) (λb o _ hb _ e n=>u.slot b o e n hb (by simp)) (λb o _ e n=>u.free b o e n (by simp)) (λb o _ e=>u.there b o e (by simp)) u.fx u.gD u.gE (λb xs o q e _=>u.gb b xs o q e (by simp)) (λm' hm=>by
  let⟨o',AJ,AK,l9,r'⟩:=hm;rw[ho] at l9;cases l9
  calc⟨_,AJ,AK,hL,r'⟩) bu I.bare
theorem Inv.call{g':Array GenState}{t':Nat}{d':Drawn}{ch:-O}(I:Inv X pins σ H s)(u:Un (lF X.stack) ch H H' s.heap h')(bu:eT X.prog X.w H' h')(hg:AllBare g')
  (nN:∀b∈ch,(b∈X.ex\/⇑X.s₀<=b)/\b≠X.env.locals/\(∀x c,X.env.cells.lookup x=U c->c≠b)/\∀p∈X.pn++pins,p.1≠b) :
  Inv X pins σ H' {s with heap:=h',gens:=g',drawn:=d',toks:=t'}:=by
 let⟨m,⟨o,es,ep,ho,r⟩,_⟩:=id I.loc;let⟨sl,hL⟩:=u.any ho I.free λz=>(nN _ z).2.1 Y
 exact I.step (ch:=ch) nN (λb o hL hb hc e n=>u.keep b o e n (λz=>(Qu.mp (I.hW b z)).elim hL hb) hc) (λb o _ _ hc e n=>u.any e n hc) (λb o hc e n=>u.free b o e n hc) (λb o hc e=>u.there b o e hc) u.fx u.gD u.gE (λb xs o q e hc=>u.gb b xs o q e hc) (λm' hm=>by
  let⟨o',AJ,AK,l9,r'⟩:=hm;rw[ho] at l9;cases l9
  calc⟨_,AJ,AK,hL,r'⟩) bu hg
theorem Inv.turned{t':Nat}{it:O}(I:Inv X pins σ H s)(k:∀b o,b≠it->s.heap.get? b=U o->h'.get? b=U o)(hn:H it=Z)(hL:it≠X.env.locals)
  (h1:it∈X.ex\/⇑X.s₀<=it) (h2:∀x c,X.env.cells.lookup x=U c->c≠it) (h3:∀p∈X.pn++pins,p.1≠it):Inv X pins σ H {s with heap:=h',toks:=t'}:=by
 let Hi:∀b u,H b=U u->b≠it:=λb u e z=>by rw[z,hn] at e;cases e
 refine I.step (g':=s.gens) (d':=s.drawn) (ch:=[it]) (λb hb=>?_) (λb o _ _ hc e _=>k b o (λz=>hc (by simp[z])) e) (λb o _ _ hc e _=>⟨o.slots,k b o (λz=>hc (by simp[z])) e⟩) (λ_ _ _ _ n=>n)
  (λb o hc e=>⟨o,k b o (λz=>hc (by simp[z])) e⟩) (λ_ _ e=>e) (λ_ _ _ e=>e) (λb ps e=>⟨#[],by rw[e];simp⟩) (λb _ o _ e hc=>k b o (λz=>hc (by simp[z])) e) (λm hm=>?_) (λb u e=>?_) I.bare
 .let e:b=it:=by simpa using hb
  subst e;exact⟨h1,hL,h2,h3⟩
 .let⟨o,es,ep,ho,r⟩:=hm
  exact⟨o,es,ep,k _ o (q2h hL) ho,r⟩
 .refine (I.bu b u e).hU (λc v hc q=>k c v ?_ q) (λ_ q=>q) λ_ _ q=>q
  rcases hc with z|z
  .rw[z];exact Hi b u e
  .calc Hi c _ z
theorem Inv.tok(I:Inv X pins σ H s)(t:Nat):Inv X pins σ H {s with toks:=t}:=I.un (h':=s.heap) (t':=t) Un.refl I.bu
theorem Inv.kept{t':Nat}(I:Inv X pins σ H s)(k:∀b u,s.heap.get? b=U u->h'.get? b=U u):Inv X pins σ H {s with heap:=h',toks:=t'}:=I.un (Un.kept k) (I.bu.kept k)
theorem Inv.laid{a:O}{o:HO}{t':Nat}(I:Inv X pins σ H s)(k:∀b u,s.heap.get? b=U u->h'.get? b=U u)(hp:⇑s<=a)(new:bz X.prog X.w (upd H a o) h' a o):
  Inv X pins σ (upd H a o) {s with heap:=h',toks:=t'}:=I.un (Un.laid k hp (I.bu.fresh hp)) (I.bu.laid k hp new)
theorem Inv.write{x e:O}{o:HO}{t':Nat}(I:Inv X pins σ H s)(mu:u7 (H x))(he:e=x\/H e=U (.own x))(k:∀b u,b≠e->s.heap.get? b=U u->h'.get? b=U u)(nL:∃u,h'.get? e=U u)
  (new:bz X.prog X.w (upd H x o) h' x o):Inv X pins σ (upd H x o) {s with heap:=h',toks:=t'}:=I.un (Un.write mu he k nL) (I.bu.write mu he k nL new)
theorem Inv.fX{dJ:aM}(I:Inv X pins σ H s)(h:∀p∈dJ,s.heap.get? p.1=U p.2/\H p.1=Z/\p.1≠X.env.locals/\p.1∉X.fs/\∀v,p.2.data≠.cell v):Inv X dJ σ H s :=
 ⟨I.ok,I.os,I.bare,I.base,I.loc,I.cell,I.free,I.cP,λp hp=>(q0z.mp hp).elim (λz=>I.pin p (q1x _ z)) (h p),I.bu,I.len⟩
theorem Hj{N:-J}(hN:N.Nodup){i j:Nat}{x:J}(a:N[i]?=U x)(b:N[j]?=U x):i=j:=by
 let⟨h1,e1⟩:=Il.mp a;let⟨h2,e2⟩:=Il.mp b;calc(q4D hN).mp (e1.trans e2.symm)
theorem Hk{M:Model}{A:Β}{E:bA}{i:Nat}{x:J}{v:V}{u:L}{Q:Unit->B->Prop}(I:Inv X pins σ H s)(hN:X.N.Nodup)(hi:X.N[i]?=U x)(hx:Loc X.env.scope x)(r:RelV v u)
  (h:∀s',Inv X pins (σ.set i (U v)) H s'->(∃a,q2L a s.heap s'.heap/\(a=X.env.locals\/X.env.cells.lookup x=U a))->Q () s') (hf:hV X x:=by first|exact .inl Y|exact .inr Y|assumption):ρ M A (storeName X.env x u) Q E s:=by
 let⟨m,hn,hl⟩:=id I.loc;let AL:(X.env.scope.kind==.class||(X.env.scope.kind==.module&&X.env.locals != X.env.globals))=ι:=by rw[I.ok.kind];rfl
 let Hl:i<↑σ:=by rw[I.len];exact(Il.mp hi).1
 let rJ:=I.rJ
 let tracked:∀{a:O}{h':Α},(∃o,s.heap.get? a=U o/\H a=Z)->q2L a s.heap h'->eT X.prog X.w H h':=λ{a h'} ha hs b ob e=>by
  let⟨_,_,qv⟩:=ha;calc(I.bu b ob e).hU (λc w' hc q=>(hs.2 c ?_).trans q) (λ_ q=>q) λ_ _ q=>q;ext rfl;rcases hc with rfl|hc
  .rw[qv] at e;cases e
  .rw[qv] at hc;cases hc
 rcases hx with hk|hk
 .refine wpAny_storeName_local hk hn (λh' qp hs=>?_) AL
  let⟨oL,_,_,qw,_⟩:=id hn;refine h _ ⟨I.ok,I.os,I.bare,⟨λb o e n hb hx=>?_,λb o e n hb hx=>?_,I.base.free,λb o e hx=>?_,I.base.fx,I.base.gD,I.base.gE,λb xs o e1 e hx=>(hs.2 b (q0g (q0o (q0a e) I.ok.above))).trans (I.base.gb b xs o e1 e hx)⟩,⟨_,qp,λj y v' e1 e2 e3=>?_⟩,λy c e=>?_,I.free,I.cP,λp hp=>?_,tracked ⟨oL,qw,I.free⟩ hs,by simpa using I.len⟩ ⟨_,hs,.inl Y⟩
  .exact (hs.2 b (q0g (q0o (q0a e) I.ok.above))).trans (I.base.keep b o e n hb hx)
  .let⟨sl,e1⟩:=I.base.slot b o e n hb hx
   exact⟨sl,(hs.2 b (q0g (q0o (q0a e) I.ok.above))).trans e1⟩
  .let⟨o',e1⟩:=I.base.there b o e hx
   exact⟨o',(hs.2 b (q0g (q0o (q0a e) I.ok.above))).trans e1⟩
  .by_cases hj:j=i
   .subst hj
    rw[hi] at e1;cases e1;rw[q08 Hl] at e2;cases e2
    exact⟨u,r,.inl ⟨hk,by simp⟩⟩
   .rw[q09 (q2h hj)] at e2
    let⟨u',r',q⟩:=hl j y v' e1 e2 e3;calc⟨u',r',?_⟩;rcases q with⟨k,e⟩|⟨k,c,e,z⟩
    .refine .inl ⟨k,?_⟩
     let:y≠x:=λe=>hj (Hj hN e1 (e▸hi));simp[this,e]
    .exact .inr ⟨k,c,e,z.sameBut hs (rJ y c e)⟩
  .let⟨w',z⟩:=I.cell y c e
   exact⟨w',z.sameBut hs (rJ y c e)⟩
  .let⟨e,n,ne,nf,d⟩:=I.pin p hp
   exact⟨(hs.2 p.1 ne).trans e,n,ne,nf,d⟩
 .let nP:X.fn x=θ:=by
   rcases hf with z|z
   .exact z
   .rw[z] at hk;cases hk
  let⟨c,hc⟩:=I.ok.has x (.inl hk);let⟨w',z⟩:=I.cell x c hc;calc wpAny_storeName_cell I.ok.kind hk hc z (λh' kJ hs=>?_);let⟨oc,tP,AM⟩:=id z;refine h {s with heap:=h'} ⟨I.ok,I.os,I.bare,⟨λb o e n hb hx=>?_,λb o e n hb hx=>?_,I.base.free,λb o e hx=>?_,I.base.fx,I.base.gD,I.base.gE,λb xs o e1 e hx=>(hs.2 b (q0g (q0o (q0a e) (I.ok.qt x c nP hc)))).trans (I.base.gb b xs o e1 e hx)⟩,⟨m,hn.sameBut hs (q2h (rJ x c hc)),λj y v' e1 e2 e3=>?_⟩,λy c' e=>?_,I.free,I.cP,λp hp=>?_,tracked ⟨oc,tP,I.cP x c hc⟩ hs,by simpa using I.len⟩ ⟨c,hs,.inr hc⟩
  .exact (hs.2 b (q0g (q0o (q0a e) (I.ok.qt x c nP hc)))).trans (I.base.keep b o e n hb hx)
  .let⟨sl,e1⟩:=I.base.slot b o e n hb hx
   exact⟨sl,(hs.2 b (q0g (q0o (q0a e) (I.ok.qt x c nP hc)))).trans e1⟩
  .let⟨o',e1⟩:=I.base.there b o e hx
   exact⟨o',(hs.2 b (q0g (q0o (q0a e) (I.ok.qt x c nP hc)))).trans e1⟩
  .by_cases hj:j=i
   .subst hj
    rw[hi] at e1;cases e1;rw[q08 Hl] at e2;cases e2
    exact⟨u,r,.inr ⟨.inl hk,c,hc,kJ⟩⟩
   .rw[q09 (q2h hj)] at e2
    let⟨u',r',q⟩:=hl j y v' e1 e2 e3;calc⟨u',r',?_⟩;rcases q with q|⟨k,c',e,z'⟩
    .exact .inl q
    .refine .inr ⟨k,c',e,z'.sameBut hs ?_⟩
     ext rfl;exact hj (Hj hN e1 (I.ok.inj _ _ _ e hc▸hi))
  .by_cases hcc:c'=c
   .subst hcc;exact⟨_,kJ⟩
   .let⟨w2,z2⟩:=I.cell y c' e
    exact⟨w2,z2.sameBut hs hcc⟩
  .let⟨e,n,ne,nf,d⟩:=I.pin p hp
   calc⟨(hs.2 p.1 ?_).trans e,n,ne,nf,d⟩;ext q;rw[q,tP] at e;let q':oc=p.2:=q0A e;calc d w' (by rw[<-q'];calc AM)
theorem Hm{M:Model}{A:o}{E:bA}{i:Nat}{x:J}{v:V}{u:L}{Q:Unit->B->Prop}(I:Inv X pins σ H s)(hN:X.N.Nodup)(hi:X.N[i]?=U x)(hx:Loc X.env.scope x)(r:RelV v u)
  (h:∀s',Inv X pins (σ.set i (U v)) H s'->Q () s') (hf:hV X x:=by first|exact .inl Y|exact .inr Y|assumption):ρ M A (storeName X.env x u) Q E s :=
 Hk I hN hi hx r (λs' I' _=>h s' I') hf
theorem Inv.vc{s':B}{ch:-O}(I:Inv X pins σ H s)(ho:s'.os=s.os)(u:Un (lF X.stack) ch H H' s.heap s'.heap)(bu:eT X.prog X.w H' s'.heap)(hg:AllBare s'.gens)
  (nN:∀b∈ch,(b∈X.ex\/⇑X.s₀<=b)/\b≠X.env.locals/\(∀x c,X.env.cells.lookup x=U c->c≠b)/\∀p∈X.pn++pins,p.1≠b):Inv X pins σ H' s':=by
 let⟨h',g',d',t',o'⟩:=s';let e:o'=s.os:=ho;subst e;calc I.call (g':=g') (t':=t') (d':=d') u bu hg nN
end
abbrev XK:=L->Option O->Hp->Prop
abbrev St:=-(Option V)
abbrev VK:=V->Hp->Prop
abbrev TE:=St->Hp->VK->Prop
abbrev TT:=St->Hp->(Bool->Hp->Prop)->Prop
abbrev TA:=St->Hp->(-V->Hp->Prop)->Prop
structure Ends where
 nx:St->Hp->Prop
 rt:VK
 bk:St->Hp->Prop:=λ_ _=>False
 ct:St->Hp->Prop:=λ_ _=>False
abbrev TS:=Ends->St->Hp->Prop
inductive EP (X:Cx) (pins:aM) (σ:St) (Q:VK) (u:L) (s':B):Prop
 |mk (v:V) (H':Hp) (I:Inv X pins σ H' s') (r:RelV v u) (q:Q v H')
def TP(X:Cx)(pins:aM)(σ:St)(Q:Bool->Hp->Prop)(b:Bool)(s':B):Prop:=∃H',Inv X pins σ H' s'/\Q b H'
inductive AP (X:Cx) (pins:aM) (σ:St) (Q:-V->Hp->Prop) (us:-L) (s':B):Prop
 |mk (vs:-V) (H':Hp) (I:Inv X pins σ H' s') (r:Vals vs us) (q:Q vs H')
def SP(X:Cx)(pins:aM)(D:Ends)(f:Flow)(s':B):Prop :=
 match f with
 |.next=>∃σ' H',Inv X pins σ' H' s'/\D.nx σ' H'
 |.brk=>∃σ' H',Inv X pins σ' H' s'/\D.bk σ' H'
 |.cont=>∃σ' H',Inv X pins σ' H' s'/\D.ct σ' H'
 |.ret u=>∃v σ' H',Inv X pins σ' H' s'/\RelV v u/\D.rt v H'
structure JE(X:Cx)(e:l)(t:TE):Prop where
 out:∀(pins:aM)(s:B)(σ:St)(H:Hp)(Q:VK),Inv X pins σ H s->t σ H Q->M (g X.prog X.w) X.A (eval e X.env) (EP X pins σ Q) X.xe s
instance {X:Cx} {e:l} {t:TE}:CoeFun (JE X e t) (λ_=>∀(pins:aM)(s:B)(σ:St)(H:Hp)(Q:VK),Inv X pins σ H s->t σ H Q->M (g X.prog X.w) X.A (eval e X.env) (EP X pins σ Q) X.xe s):=⟨JE.out⟩
structure JT(X:Cx)(e:l)(t:TT):Prop where
 out:∀(pins:aM)(s:B)(σ:St)(H:Hp)(Q:Bool->Hp->Prop),Inv X pins σ H s->t σ H Q->M (g X.prog X.w) X.A (isTrue e X.env (eval e X.env)) (TP X pins σ Q) X.xe s
instance {X:Cx} {e:l} {t:TT}:CoeFun (JT X e t) (λ_=>∀(pins:aM)(s:B)(σ:St)(H:Hp)(Q:Bool->Hp->Prop),Inv X pins σ H s->t σ H Q->M (g X.prog X.w) X.A (isTrue e X.env (eval e X.env)) (TP X pins σ Q) X.xe s):=⟨JT.out⟩
structure JW(X:Cx)(e:l)(t:TT):Prop where
 out:∀(whole:Sem L)(pins:aM)(s:B)(σ:St)(H:Hp)(Q:Bool->Hp->Prop),Inv X pins σ H s->t σ H Q->M (g X.prog X.w) X.A (isTrue e X.env whole) (TP X pins σ Q) X.xe s
instance {X:Cx} {e:l} {t:TT}:CoeFun (JW X e t) (λ_=>∀(whole:Sem L)(pins:aM)(s:B)(σ:St)(H:Hp)(Q:Bool->Hp->Prop),Inv X pins σ H s->t σ H Q->M (g X.prog X.w) X.A (isTrue e X.env whole) (TP X pins σ Q) X.xe s):=⟨JW.out⟩
theorem JW.jt{X:Cx}{e:l}{t:TT}(h:JW X e t):JT X e t:=⟨h.out _⟩
structure JA(X:Cx)(es:-l)(t:TA):Prop where
 out:∀(pos:y)(pins:aM)(s:B)(σ:St)(H:Hp)(Q:-V->Hp->Prop),Inv X pins σ H s->t σ H Q->M (g X.prog X.w) X.A (spliced (backTo pos (starEach es X.env))) (AP X pins σ Q) X.xe s
instance {X:Cx} {es:-l} {t:TA}:CoeFun (JA X es t) (λ_=>∀(pos:y)(pins:aM)(s:B)(σ:St)(H:Hp)(Q:-V->Hp->Prop),Inv X pins σ H s->t σ H Q->M (g X.prog X.w) X.A (spliced (backTo pos (starEach es X.env))) (AP X pins σ Q) X.xe s):=⟨JA.out⟩
structure JS(X:Cx)(st:R)(t:TS):Prop where
 out:∀(pins:aM)(s:B)(σ:St)(H:Hp)(D:Ends),Inv X pins σ H s->t D σ H->M (g X.prog X.w) X.A (exec st X.env) (SP X pins D) X.xe s
instance {X:Cx} {st:R} {t:TS}:CoeFun (JS X st t) (λ_=>∀(pins:aM)(s:B)(σ:St)(H:Hp)(D:Ends),Inv X pins σ H s->t D σ H->M (g X.prog X.w) X.A (exec st X.env) (SP X pins D) X.xe s):=⟨JS.out⟩
structure dM(X:Cx)(st:-R)(t:TS):Prop where
 out:∀(pins:aM)(s:B)(σ:St)(H:Hp)(D:Ends),Inv X pins σ H s->t D σ H->M (g X.prog X.w) X.A (execs st X.env) (SP X pins D) X.xe s
instance {X:Cx} {st:-R} {t:TS}:CoeFun (dM X st t) (λ_=>∀(pins:aM)(s:B)(σ:St)(H:Hp)(D:Ends),Inv X pins σ H s->t D σ H->M (g X.prog X.w) X.A (execs st X.env) (SP X pins D) X.xe s):=⟨dM.out⟩
theorem bL{α:Type}{t:Sem α}{Q Q':α->B->Prop}{M:Model}{A:o}{E:bA}{s:B}(h:ρ M A t Q E s)(hQ:∀a s,Q a s->Q' a s):ρ M A t Q' E s:=q1U h hQ λ_ _ x=>x
section
variable{X:Cx}
def vd(i:Nat):TE:=fun σ H Q=>∃v,σ[i]?=U (U v)/\Q v H
def tC(v:V):TE:=λ_ H Q=>Q v H
theorem Hn{i:Nat}{x:J}{pos:y}(hN:X.N[i]?=U x)(hv:u_ X.env.scope x)(hd:b7 x:=by decide)(hX:(x==("__classdict__" : J))=ι:=by decide):JE X (.Name x pos) (vd i):=by
 calc⟨?_⟩;ext pins s σ H Q I h;let⟨v,e,h⟩:=h;let⟨m,hn,hl⟩:=I.loc;let⟨u,r,l⟩:=hl i x v hN e hv;let fin:EP X pins σ Q u s:=⟨v,H,I,r,h⟩;rcases l with⟨hk,hm⟩|⟨hk,c,hc,qx⟩
 .exact q7l (wpAny_loadName_local I.ok.kind hk hn hm fin) hd
 .rcases hk with hk|hk
  .exact q7l (wpAny_loadName_cell I.ok.kind hk hc qx fin) hd
  .calc q7l (wpAny_loadName_free I.ok.kind hk hc qx fin hX) hd
theorem qy{i j pos}:JE X (.Constant (.int i) j pos) (tC (.int i)):=⟨λ_ _ _ H _ I h=>wpAny_Constant_int ⟨.int i,H,I.tok _,⟨_,Y⟩,h⟩⟩
theorem OB{b j pos}:JE X (.Constant (.bool b) j pos) (tC (.bl b)):=⟨λ_ _ _ H _ I h=>Constant_bool ⟨.bl b,H,I,Y,h⟩⟩
theorem OC{j pos}:JE X (.Constant .none j pos) (tC .non):=⟨λ_ _ _ H _ I h=>Constant_none ⟨.non,H,I,Y,h⟩⟩
theorem xT{x j pos}:JE X (.Constant (.str x) j pos) (tC (.str x)):=⟨λ_ _ _ H _ I h=>Calls.Constant_str ⟨.str x,H,I.tok _,⟨_,Y⟩,h⟩
⟩
def Gl(X:Cx)(x:J):Prop:=X.env.kindOf x=U .globalImplicit
theorem xU{E:bA}{pins:aM}{s:B}{σ:St}{H:Hp}{x:J}{u:L}{pos:y}{Q:bA}(I:Inv X pins σ H s)(hg:Gl X x)(hm:X.mg x=U u)(h:Q u s)
  (hd:b7 x:=by decide):M (g X.prog X.w) X.A (eval (.Name x pos) X.env) Q E s :=
 q3X I.ok.kind hg (Calls.loadGlobal_global (by rw[I.ok.glob];calc I.mod.glob.keeps I.bk) hm h) hd
theorem oA{E:bA}{pins:aM}{s:B}{σ:St}{H:Hp}{x:J}{u:L}{pos:y}{Q:bA}(I:Inv X pins σ H s)(hg:Gl X x)(hm:X.mg x=Z)(hv:bootBuiltins x=U u)(h:Q u s)
  (hn:x≠"__name__" := by decide) (hd:b7 x:=by decide):M (g X.prog X.w) X.A (eval (.Name x pos) X.env) Q E s:=by
 let⟨mb,h1,h2⟩:=I.mod.blt;calc q3X I.ok.kind hg (Calls.loadGlobal_builtin (by rw[I.ok.glob];calc I.mod.glob.keeps I.bk) hm (by rw[I.ok.blt];calc h1.keeps I.bk) ((h2 x hn).trans hv) h) hd
theorem Ho{x:J}{v:V}{u:L}{pos:y}(hg:Gl X x)(hm:X.mg x=U u)(r:RelV v u)(hd:b7 x:=by decide):JE X (.Name x pos) (tC v):=⟨λ_ _ _ H _ I h=>xU I hg hm ⟨v,H,I,r,h⟩ hd⟩
theorem OD{x:J}{v:V}{u:L}{pos:y}(hg:Gl X x)(hm:X.mg x=Z)(hv:bootBuiltins x=U u)(r:RelV v u)(hn:x≠"__name__" := by decide)(hd:b7 x:=by decide):JE X (.Name x pos) (tC v):=⟨λ_ _ _ H _ I h=>oA I hg hm hv ⟨v,H,I,r,h⟩ hn hd
⟩
variable{a b:l}{ta tb:TE}{pos:y}
structure JC(X:Cx)(op:CmpOp)(a b:l)(t:TE):Prop where
 out:∀(pins:aM)(s:B)(σ:St)(H:Hp)(Q:VK),Inv X pins σ H s->t σ H Q →
  M (g X.prog X.w) X.A (eval a X.env) (λv s₁=>M (g X.prog X.w) X.A (eval b X.env) (λu s₂=>M (g X.prog X.w) X.A (compareOp op v u) (EP X pins σ Q) X.xe s₂) X.xe s₁) X.xe s
instance {X:Cx} {op:CmpOp} {a b:l} {t:TE}:CoeFun (JC X op a b t) (λ_=>∀(pins:aM)(s:B)(σ:St)(H:Hp)(Q:VK),Inv X pins σ H s->t σ H Q->M (g X.prog X.w) X.A (eval a X.env) (λv s₁=>M (g X.prog X.w) X.A (eval b X.env) (λu s₂=>M (g X.prog X.w) X.A (compareOp op v u) (EP X pins σ Q) X.xe s₂) X.xe s₁) X.xe s):=⟨JC.out⟩
def tB(t:TE):TT:=fun σ H Q=>t σ H λx H1=>∃c,x=.bl c/\Q c H1
theorem OE{op:CmpOp}{t:TE}(h:JC X op a b t)(h1:behindInMarks op b=ι:=by first|exact Z4 _ (by decide) (by decide)|rfl):JT X (.Compare a [op] [b] pos) (tB t):=by
 calc⟨?_⟩;ext pins s σ H Q I hw;calc q5h (bL (h pins s σ H _ I hw) λv s1 h1=>bL h1 λu s2 h2=>bL h2 λc s3 ⟨x,H1,I1,r1,q1⟩=>?_) h1;let⟨d,rfl,q⟩:=q1;cases r1
 calc q16 ⟨H1,I1,q⟩
theorem OF{e:l}{t:TE}(h:JE X e t)(he:∀whole,isTrue e X.env whole=(do let v <- whole;standAt e.pos;holding [v] (truthy v)):=by ext _;rfl):JT X e (tB t):=by
 calc⟨?_⟩;ext pins s σ H Q I hw;calc isTrue_plain (bL (h pins s σ H _ I hw) λv s1 ⟨x,H1,I1,r1,q1⟩=>?_) (he _);let⟨d,rfl,q⟩:=q1;cases r1
 calc q16 ⟨H1,I1,q⟩
variable{tA xV:TT}{rest:-l}
def vf(t u:TT):TT:=fun σ H Q=>t σ H λc H1=>if c=θ then u σ H1 Q else Q ι H1
def Hq(t u:TT):TT:=fun σ H Q=>t σ H λc H1=>if c=θ then Q θ H1 else u σ H1 Q
def AN(t:TT):TT:=fun σ H Q=>t σ H λc H1=>Q (!c) H1
theorem OG(ha:JT X a tA):JW X (.BoolOp .And [a] pos) tA:=by
 calc⟨?_⟩;ext wh pins s σ H Q I h;refine isTrue_and (bL (ha pins s σ H Q I h) λc s1 e=>?_)
 cases c with
 |true=>exact isTrue_and_nil e
 |false=>calc e
theorem OH(ha:JT X a tA):JW X (.BoolOp .Or [a] pos) tA:=by
 calc⟨?_⟩;ext wh pins s σ H Q I h;refine isTrue_or (bL (ha pins s σ H Q I h) λc s1 e=>?_)
 cases c with
 |false=>exact isTrue_or_nil e
 |true=>calc e
theorem OI(ha:JT X a tA)(hb:JW X (.BoolOp .And (b::rest) pos) xV):JW X (.BoolOp .And (a::b::rest) pos) (vf tA xV):=by
 calc⟨?_⟩;ext wh pins s σ H Q I h;refine isTrue_and (bL (ha pins s σ H _ I h) λc s1 h0_=>el3 h0_ λH1 I1 q1=>?_)
 cases c with
 |true=>exact hb wh pins s1 σ H1 Q I1 q1
 |false=>calc⟨H1,I1,q1⟩
theorem OJ(ha:JT X a tA)(hb:JW X (.BoolOp .Or (b::rest) pos) xV):JW X (.BoolOp .Or (a::b::rest) pos) (Hq tA xV):=by
 calc⟨?_⟩;ext wh pins s σ H Q I h;refine isTrue_or (bL (ha pins s σ H _ I h) λc s1 h0_=>el3 h0_ λH1 I1 q1=>?_)
 cases c with
 |true=>exact⟨H1,I1,q1⟩
 |false=>calc hb wh pins s1 σ H1 Q I1 q1
theorem OK(ha:JT X a tA):JT X (.UnaryOp .Not a pos) (AN tA):=by
 calc⟨?_⟩;ext pins s σ H Q I h;calc isTrue_not (ha pins s σ H (λc H1=>Q (!c) H1) I h)
def OL(ta tb:TE):TE:=fun σ H Q=>ta σ H λx H1=>∃c,x=.bl c/\if c=θ then tb σ H1 Q else Q (.bl ι) H1
def OM(ta:TE):TE:=fun σ H Q=>ta σ H λx H1=>∃c,x=.bl c/\Q (.bl (!c)) H1
theorem OO{op}{t:TE}(h:JE X a t):JE X (.BoolOp op [a] pos) t:=⟨λpins s σ H Q I hw=>BoolOp_one (h pins s σ H Q I hw)⟩
theorem OP(ha:JE X a ta)(hb:JE X (.BoolOp .And (b::rest) pos) tb):JE X (.BoolOp .And (a::b::rest) pos) (OL ta tb):=by
 calc⟨?_⟩;ext pins s σ H Q I h;calc BoolOp_and (bL (ha pins s σ H _ I h) λv s1 ⟨x,H1,I1,r1,q1⟩=>?_);let⟨c,rfl,q1⟩:=q1;cases r1
 refine q16 ?_
 cases c with
 |true=>exact hb pins s1 σ H1 Q I1 q1
 |false=>calc⟨.bl ι,H1,I1,Y,q1⟩
theorem OQ(ha:JE X a ta):JE X (.UnaryOp .Not a pos) (OM ta):=by
 calc⟨?_⟩;ext pins s σ H Q I h;calc UnaryOp_ (bL (ha pins s σ H _ I h) λv s1 ⟨x,H1,I1,r1,q1⟩=>?_);let⟨c,rfl,q1⟩:=q1;cases r1
 calc not_of (q16 ⟨.bl (!c),H1,I1,Y,q1⟩)
def OR(t:TT)(ta tb:TE):TE:=fun σ H Q=>t σ H λc H1=>if c=θ then ta σ H1 Q else tb σ H1 Q
theorem OS{c:l}(hc:JT X c tA)(ha:JE X a ta)(hb:JE X b tb):JE X (.IfExp c a b pos) (OR tA ta tb):=by
 calc⟨?_⟩;ext pins s σ H Q I h;refine wpAny_IfExp (bL (hc pins s σ H _ I h) λd s1 h0_=>el3 h0_ λH1 I1 q1=>?_)
 cases d with
 |true=>exact ha pins s1 σ H1 Q I1 q1
 |false=>calc hb pins s1 σ H1 Q I1 q1
end
def bT(K:My)(H:Hp)(a:O)(xs:-V):Prop :=
 Rd H a (.lst xs) ∨
  ∃(o:Q)(aA:Array L)(n:Nat),K.lookup a=U o/\o.cls=.type "list" /\ o.dict=Z/\o.data=.seq aA n/\aA.size<=sizeLine/\Vals xs aA.toList
def bZ(K:My)(H:Hp)(a:O)(xs:-V):Prop :=
 Rd H a (.tup xs) ∨
  ∃(o:Q)(aA:Array L)(n:Nat),K.lookup a=U o/\o.cls=.type "tuple" /\ o.data=.seq aA n/\aA.size<=sizeLine/\Vals xs aA.toList
noncomputable def AO:L->Option V
 |.none=>U .non
 |.bool b=>U (.bl b)
 |.int i _=>U (.int i)
 |.str x _=>U (.str x)
 |.bytes b _=>U (.byt b)
 |.float b _=>U (.flt b)
 |.ref a=>U (.ref a)
 |.type n=>U (.ty n)
 |_=>Z
theorem RelV.abs{x:V}{u:L}(r:RelV x u):AO u=U x:=by
 cases x with
 |non=>cases r;rfl
 |bl _=>cases r;rfl
 |int _=>let⟨t,rfl⟩:=r;rfl
 |str _=>let⟨t,rfl⟩:=r;rfl
 |byt _=>let⟨t,rfl⟩:=r;rfl
 |flt _=>let⟨t,rfl⟩:=r;rfl
 |ref _=>cases r;rfl
 |ty _=>cases r;rfl
theorem RelV.inj{x y:V}{u:L}(r:RelV x u)(q:RelV y u):x=y:=q0A (r.abs.symm.trans q.abs)
theorem Vals.inj:∀{xs ys:-V}{us:-L},Vals xs us->Vals ys us->xs=ys
 |_,_,_,.nil,.nil=>Y
 |_,_,_,.cons r t,.cons r' t'=>by rw[r.inj r',Vals.inj t t']
section
variable{X:Cx}{pins:aM}{σ:St}{H:Hp}{s:B}{a:O}{xs ys:-V}
theorem bT.of{K:My}(h:H a=U (.lst xs)):bT K H a xs:=.inl (.inl h)
theorem bZ.of{K:My}(h:H a=U (.tup xs)):bZ K H a xs:=.inl (.inl h)
theorem Inv.list(I:Inv X pins σ H s)(h:bT X.K H a xs):∃aA:-L,Vals xs aA/\PlainL s.heap a aA.toArray/\↑xs<=sizeLine:=by
 rcases h with h|⟨o,aA,n,hk,hc,hd,hs,hz,r⟩
 .let⟨z,aA,n,r,e⟩:=h.ok I.bu
  exact⟨aA,r,⟨_,n,e,Y,Y,Y⟩,z⟩
 .refine⟨aA.toList,r,⟨o,n,I.fJ a o hk,hc,hd,by simpa using hs⟩,?_⟩
  let e:=↑r;erw[q0d] at e;symm
theorem Inv.tuple(I:Inv X pins σ H s)(h:bZ X.K H a xs):∃aA:-L,Vals xs aA/\IsTup s.heap a aA.toArray/\↑xs<=sizeLine:=by
 rcases h with h|⟨o,aA,n,hk,hc,hs,hz,r⟩
 .let⟨z,aA,r,p⟩:=h.ok I.bu
  exact⟨aA,r,p,z⟩
 .refine⟨aA.toList,r,⟨o,I.fJ a o hk,hc,n,by simpa using hs⟩,?_⟩
  let e:=↑r;erw[q0d] at e;symm
theorem Inv.gf(I:Inv X pins σ H s)(h:bT X.K H a xs)(h':bT X.K H a ys):xs=ys:=by
 let⟨aA,r,⟨o,n,e,_,_,d⟩,_⟩:=I.list h;let⟨its',r',⟨o',n',e',_,_,d'⟩,_⟩:=I.list h';rw[e] at e';cases e';rw[d] at d';injection d' with d1 _;let:aA=its':=by simpa using congrArg q8l d1
 subst this;calc r.inj r'
theorem Inv.fy(I:Inv X pins σ H s)(h:bZ X.K H a xs)(h':bZ X.K H a ys):xs=ys:=by
 let⟨aA,r,⟨o,e,_,n,d⟩,_⟩:=I.tuple h;let⟨its',r',⟨o',e',_,n',d'⟩,_⟩:=I.tuple h';rw[e] at e';cases e';rw[d] at d';injection d' with d1 _;let:aA=its':=by simpa using congrArg q8l d1
 subst this;calc r.inj r'
end
noncomputable abbrev Cx.gH(X:Cx)(E:bA):Cx:={X with xe:=E}
noncomputable abbrev Cx.lG(X:Cx):Cx:=X.gH λ_ _=>False
theorem Cx.Ok.gH{X:Cx}(ok:X.Ok)(E:bA):(X.gH E).Ok :=
 ⟨ok.mod,ok.kind,ok.glob,ok.blt,ok.above,ok.inj,ok.has,ok.qt,ok.hd,ok.frames,ok.tO,ok.xS,ok.bs,ok.l8,ok.iV,ok.kI,ok.eJ,ok.nM⟩
theorem Cx.Ok.dO{X:Cx}{E:bA}(ok:(X.gH E).Ok):X.Ok :=
 ⟨ok.mod,ok.kind,ok.glob,ok.blt,ok.above,ok.inj,ok.has,ok.qt,ok.hd,ok.frames,ok.tO,ok.xS,ok.bs,ok.l8,ok.iV,ok.kI,ok.eJ,ok.nM⟩
section
variable{X:Cx}{pins:aM}{σ:St}{H:Hp}{s:B}{E:bA}
theorem Inv.gH(I:Inv X pins σ H s)(E:bA):Inv (X.gH E) pins σ H s:=⟨I.ok.gH E,I.os,I.bare,I.base,I.loc,I.cell,I.free,I.cP,I.pin,I.bu,I.len⟩
theorem Inv.dO(I:Inv (X.gH E) pins σ H s):Inv X pins σ H s:=⟨I.ok.dO,I.os,I.bare,I.base,I.loc,I.cell,I.free,I.cP,I.pin,I.bu,I.len⟩
theorem SP.dO{D:Ends}{f:Flow}{s':B}(h:SP (X.gH E) pins D f s'):SP X pins D f s':=by
 cases f with
 |next=>let⟨σ',H',I,q⟩:=h;exact⟨σ',H',I.dO,q⟩
 |brk=>let⟨σ',H',I,q⟩:=h;exact⟨σ',H',I.dO,q⟩
 |cont=>let⟨σ',H',I,q⟩:=h;exact⟨σ',H',I.dO,q⟩
 |ret u=>let⟨v,σ',H',I,r,q⟩:=h;calc⟨v,σ',H',I.dO,r,q⟩
theorem dM.lG{st:-R}{t:TS}(h:dM X.lG st t):dM X st t:=⟨λpins s σ H D I hw =>
 q1U (h pins s σ H D (I.gH _) hw) (λ_ _ q=>q.dO) λ_ _ z=>q1t z⟩
end
section
variable{X:Cx}{st:R}{rest:-R}{t u:TS}{e:l}{te:TE}{pos:y}
def OT:TS:=λD σ H=>D.nx σ H
def AQ(t u:TS):TS:=λD σ H=>t {D with nx:=u D} σ H
theorem oB:dM X [] OT:=⟨λ_ _ σ H _ I h=>q3G ⟨σ,H,I,h⟩⟩
theorem xW(h1:JS X st t)(h2:dM X rest u):dM X (st::rest) (AQ t u):=by
 calc⟨?_⟩;ext pins s σ H D I h;refine q6E (bL (h1 pins s σ H {D with nx:=u D} I h) λf s1 q=>?_)
 cases f with
 |next =>
  let⟨σ',H',I',q⟩:=q;exact h2 pins s1 σ' H' D I' q
 |ret v=>exact q
 |brk=>exact q
 |cont=>calc q
theorem AR(h1:JS X st t):dM X [st] t:=by
 calc⟨?_⟩;ext pins s σ H D I h;refine q6E (bL (h1 pins s σ H D I h) λf s1 q=>?_)
 cases f with
 |next=>exact q3G q
 |ret v=>exact q
 |brk=>exact q
 |cont=>calc q
theorem Inv.quiet{pins:aM}{σ:St}{H:Hp}{s:B}(I:Inv X pins σ H s):interactive X.env=ι:=by simp[interactive,I.ok.kind]
def OU(te:TE):TS:=λD σ H=>te σ H λ_ H1=>D.nx σ H1
theorem OW(he:JE X e te)(hs:swapsWith e Z pos.line X.env=pure ι:=by rfl):JS X (.Expr e pos) (OU te):=by
 calc⟨?_⟩;ext pins s σ H D I h;calc wpAny_Expr_any (bL (he pins s σ H _ I h) λv s1 ⟨x,H1,I1,r1,q1⟩↦⟨σ,H1,I1,q1⟩) I.quiet hs
def AS(te:TE):TS:=λD σ H=>te σ H D.rt
theorem Hr(he:JE X e te):JS X (.Return (U e) pos) (AS te):=by
 calc⟨?_⟩;ext pins s σ H D I h;calc wpAny_Return_some (bL (he pins s σ H _ I h) λv s1 ⟨x,H1,I1,r1,q1⟩↦⟨x,σ,H1,I1,r1,q1⟩)
def AU(c:TT)(t u:TS):TS:=λD σ H=>c σ H λb H1=>if b=θ then t D σ H1 else u D σ H1
theorem OX{c:l}{a b:-R}{tc:TT}(hc:JT X c tc)(ha:dM X a t)(hb:dM X b u):JS X (.If c a b pos) (AU tc t u):=by
 calc⟨?_⟩;ext pins s σ H D I h;refine wpAny_If (bL (hc pins s σ H _ I h) λd s1 h0_=>el3 h0_ λH1 I1 q1=>?_)
 cases d with
 |true=>exact ha pins s1 σ H1 D I1 q1
 |false=>calc hb pins s1 σ H1 D I1 q1
end
abbrev TG:=V->St->Hp->(St->Hp->Prop)->Prop
abbrev lH:=-V->St->Hp->(St->Hp->Prop)->Prop
structure JG(X:Cx)(target:l)(t:TG):Prop where
 out:∀(pins:aM)(s:B)(σ:St)(H:Hp)(v:V)(u:L)(Q:St->Hp->Prop),Inv X pins σ H s->RelV v u->t v σ H Q →
  M (g X.prog X.w) X.A (assign target X.env u) (λ_ s'=>∃σ' H',Inv X pins σ' H' s'/\Q σ' H') X.xe s
instance {X:Cx} {target:l} {t:TG}:CoeFun (JG X target t) (λ_=>∀(pins:aM)(s:B)(σ:St)(H:Hp)(v:V)(u:L)(Q:St->Hp->Prop),Inv X pins σ H s->RelV v u->t v σ H Q->M (g X.prog X.w) X.A (assign target X.env u) (λ_ s'=>∃σ' H',Inv X pins σ' H' s'/\Q σ' H') X.xe s):=⟨JG.out⟩
structure j_(X:Cx)(ts:-l)(t:lH):Prop where
 out:∀(pins:aM)(s:B)(σ:St)(H:Hp)(vs:-V)(us:-L)(Q:St->Hp->Prop),Inv X pins σ H s->Vals vs us->t vs σ H Q →
  M (g X.prog X.w) X.A (assignInOrder ((assignEach ts X.env).map (·.2)) us) (λ_ s'=>∃σ' H',Inv X pins σ' H' s'/\Q σ' H') X.xe s
instance {X:Cx} {ts:-l} {t:lH}:CoeFun (j_ X ts t) (λ_=>∀(pins:aM)(s:B)(σ:St)(H:Hp)(vs:-V)(us:-L)(Q:St->Hp->Prop),Inv X pins σ H s->Vals vs us->t vs σ H Q->M (g X.prog X.w) X.A (assignInOrder ((assignEach ts X.env).map (·.2)) us) (λ_ s'=>∃σ' H',Inv X pins σ' H' s'/\Q σ' H') X.xe s):=⟨j_.out⟩
abbrev rL:=V->V->V->Hp->(Hp->Prop)->Prop
def vg(X:Cx)(t:rL):Prop :=
 ∀(pins:aM)(s:B)(σ:St)(H:Hp)(o i v:V)(ov iv u:L)(Q:Hp->Prop),Inv X pins σ H s->RelV o ov->RelV i iv->RelV v u->t o i v H Q →
  M (g X.prog X.w) X.A (setItem ov iv u) (λ_ s'=>∃H',Inv X pins σ H' s'/\Q H') X.xe s
section
variable{X:Cx}{pos:y}
def xX(i:Nat):TG:=λv σ H Q=>Q (σ.set i (U v)) H
theorem AV{i:Nat}{x:J}(hN:X.N.Nodup)(hi:X.N[i]?=U x)(hx:Loc X.env.scope x)(hf:hV X x:=by first|exact .inl Y|exact .inr Y|assumption):JG X (.Name x pos) (xX i):=by
 calc⟨?_⟩;ext pins s σ H v u Q I r h;calc q6c (Hm I hN hi hx r (λs' I'=>⟨_,H,I',h⟩) hf)
def AW:lH:=λvs σ H Q=>vs=[]/\Q σ H
def OY(t:TG)(u:lH):lH:=λvs σ H Q=>∃v r,vs=v::r/\t v σ H fun σ' H'=>u r σ' H' Q
theorem ka:j_ X [] AW:=by
 calc⟨?_⟩;ext pins s σ H vs us Q I r h;let⟨e,h⟩:=h;subst e;cases r
 calc assignInOrder_nil ⟨σ,H,I,h⟩
theorem AX{e:l}{es:-l}{t:TG}{u:lH}(h1:JG X e t)(h2:j_ X es u)
  (hs:(assignEach (e::es) X.env).map (·.2)=assign e X.env::(assignEach es X.env).map (·.2):=by rfl):j_ X (e::es) (OY t u):=by
 calc⟨?_⟩;ext pins s σ H vs us Q I r h;let⟨v,vr,e1,h⟩:=h;subst e1
 cases r with
 |cons r rr =>
  rw[hs];calc assignInOrder_cons (bL (h1 pins s σ H _ _ _ I r h) λ_ s1 ⟨σ1,H1,I1,q1⟩=>?_);calc h2 pins s1 σ1 H1 _ _ Q I1 rr q1
def AY(K:My)(n:Nat)(t:lH):TG:=λv σ H Q=>∃a xs,v=.ref a/\bZ K H a xs/\↑xs=n/\t xs σ H Q
theorem Hs{es:-l}{k:Nat}{t:lH}{n:Nat}(hc:X.calm=θ)(h:j_ X es t)
  (hn:↑(assignEach es X.env)=n:=by rfl) (jE:(assignEach es X.env).findIdx? (·.1)=Z:=by rfl):JG X (.Tuple es k pos) (AY X.K n t):=by
 calc⟨?_⟩;ext pins s σ H v u Q I r hw;let⟨a,xs,e1,hq,hl,hw⟩:=hw;subst e1;cases r
 let⟨aA,rv,ht,hz⟩:=I.tuple hq;calc assign_Tuple_tuple (I.ok.hd hc) ht (by simp[hn,<-hl,rv.length]) jE λh' hx=>?_;let I1:Inv X pins σ H {s with heap:=h'}:=I.kept (t':=s.toks) λb o e=>hx b o (q0g (q0a e)) e;calc h pins _ σ H xs _ Q I1 rv⁻¹ hw
def vh(to ti:TE)(t:rL):TG:=λv σ H Q=>to σ H λo H1=>ti σ H1 λi H2=>t o i v H2 λH3=>Q σ H3
theorem AZ{o i:l}{to ti:TE}{t:rL}(ho:JE X o to)(hi:JE X i ti)(hs:vg X t)
  (ha:∀v,assign (.Subscript o i pos) X.env v=(do
   let ov <- holding [v] (eval o X.env)
   let iv <- holding [v,ov] (eval i X.env)
   standAt pos
   holding [v,ov,iv] (setItem ov iv v)
   release [v,ov,iv] []):=by ext _;rfl):JG X (.Subscript o i pos) (vh to ti t):=by
 calc⟨?_⟩;ext pins s σ H v u Q I r h;rw[ha];calc sf (q0M (bL (ho pins s σ H _ I h) λov s1 ⟨x,H1,I1,r1,q1⟩=>?_));calc sf (q0M (bL (hi pins s1 σ H1 _ I1 q1) λiv s2 ⟨y,H2,I2,r2,q2⟩=>?_));calc sf (q23 (sf (q0M (bL (hs pins s2 σ H2 x y v ov iv u _ I2 r1 r2 r q2) λ_ s3 h0_=>el3 h0_ λH3 I3 q3=>?_))));calc wpAny_release ⟨σ,H3,I3,q3⟩
def me(te:TE)(g:TG):TS:=λD σ H=>te σ H λx H1=>g x σ H1 D.nx
theorem xY{tg e:l}{te:TE}{g:TG}(he:JE X e te)(hg:JG X tg g)(hs:swapsWithSole [tg] e pos.line X.env=pure ι:=by rfl)(hw:swappedStores [tg] e X.env=pure Z:=by rfl)
  (h1:(assignEach [tg] X.env).map (·.2)=[assign tg X.env]:=by rfl):JS X (.Assign [tg] e pos) (me te g):=by
 calc⟨?_⟩;ext pins s σ H D I h;calc wpAny_Assign_stores (bL (he pins s σ H _ I h) λv s1 ⟨x,H1,I1,r1,q1⟩=>?_) hs hw;rw[h1];calc bL (hg pins s1 σ H1 x v _ I1 r1 q1) λ_ s2 q=>q
theorem A0{i:Nat}{x:J}{e:l}{te:TE}{pos':Ε}(hN:X.N.Nodup)(hi:X.N[i]?=U x)(hx:Loc X.env.scope x)(he:JE X e te)(hs:swapsWith e (U (.Name x pos')) pos.line X.env=pure ι:=by rfl)(hf:hV X x:=by first|exact .inl Y|exact .inr Y|assumption):
  JS X (.Assign [.Name x pos'] e pos) (me te (xX i)):=by
 calc⟨?_⟩;ext pins s σ H D I h;calc wpAny_Assign_Name (bL (he pins s σ H _ I h) λv s1 ⟨y,H1,I1,r1,q1⟩=>?_) hs;calc Hm I1 hN hi hx r1 (λs2 I2=>⟨_,H1,I2,q1⟩) hf
end
structure It where
 go:Nat->Hp->Prop
 tQ:Nat->Hp->V->Hp->Prop
 stop:Nat->Hp->Prop
def b_(X:Cx)(pins:aM)(H:Hp)(b:O):Prop :=
 H b=Z/\b≠X.env.locals/\b∉X.fs/\(b∈X.ex\/⇑X.s₀<=b)/\(∀x c,X.env.cells.lookup x=U c->c≠b)/\∀p∈X.pn++pins,p.1≠b
theorem Inv.hZ{X:Cx}{pins:aM}{σ:St}{H H':Hp}{s:B}{b:O}(I:Inv X pins σ H s)(hb:⇑s<=b)(hn:H' b=Z):b_ X pins H' b:=by
 refine⟨hn,q1P (q0o I.lt hb),I.AI hb,.inr (q0B I.sz hb),λx c e z=>?_,λp hp z=>?_⟩
 .let⟨v,q⟩:=I.cell x c e
  exact absurd (q0o q.lt (by rw[z];calc hb)) (q1L _)
 .calc absurd (q0o (q0a (I.pin p hp).1) (by rw[z];calc hb)) (q1L _)
structure Turn(P:t)(w:S)(K:My)(tg:l)(J:It)(fp:-O)(it:O)(tn:Nat->I->Prop):Prop where
 mem:it∈fp
 obj:∀i h,tn i h->∀b∈fp,∃o,h.get? b=U o/\∀v,o.data≠.cell v
 keep:∀i h h',tn i h->(∀b∈fp,∀o,h.get? b=U o->h'.get? b=U o)->tn i h'
 item:∀(X:Cx),X.prog=P->X.w=w->X.K=K->X.calm=θ->∀(i:Nat)(pins:aM)(s:B)(σ:St)(H:Hp)(E:bA),Inv X pins σ H s->(∀b∈fp,b_ X pins H b)->tn i s.heap->J.go i H →
  M (g P w) X.A (pyNext (.ref it)) (λr s1=>∃u,r=U u ∧
   M (g P w) X.A (letOwnedTupleGo tg (.ref it) u) (λ_ s2=>∃x H',Inv X pins σ H' s2/\RelV x u/\J.tQ i H x H'/\tn (i+1) s2.heap/\∀b∈fp,H' b=Z) E s1) E s
 done:∀(X:Cx),X.prog=P->X.w=w->X.K=K->X.calm=θ->∀(i:Nat)(pins:aM)(s:B)(σ:St)(H:Hp)(E:bA),Inv X pins σ H s->(∀b∈fp,b_ X pins H b)->tn i s.heap->J.stop i H →
  M (g P w) X.A (pyNext (.ref it)) (λr s1=>r=Z/\Inv X pins σ H s1) E s
 self:∀(A:Β)(i:Nat)(s:B)(Q:bA)(E:bA),tn i s.heap->Q (.ref it) s->M (g P w) A (pyIter (.ref it)) Q E s
abbrev TI:=St->Hp->(It->Hp->Prop)->Prop
def A1(X:Cx)(pins:aM)(σ:St)(tg:l)(R:It->Hp->Prop)(A3:L)(s2:B):Prop :=
 ∃(it:O)(fp:-O)(tn:Nat->I->Prop)(J:It)(H':Hp),A3=.ref it/\Inv X pins σ H' s2/\Turn X.prog X.w X.K tg J fp it tn/\tn 0 s2.heap/\(∀b∈fp,b_ X pins H' b)/\R J H'
structure JI(X:Cx)(tg iter:l)(wi:TI):Prop where
 out:∀(pins:aM)(s:B)(σ:St)(H:Hp)(R:It->Hp->Prop),Inv X pins σ H s->wi σ H R →
  M (g X.prog X.w) X.A (eval iter X.env) (λv s1=>M (g X.prog X.w) X.A (pyIter v) (A1 X pins σ tg R) X.xe s1) X.xe s
instance {X:Cx} {tg iter:l} {wi:TI}:CoeFun (JI X tg iter wi) (λ_=>∀(pins:aM)(s:B)(σ:St)(H:Hp)(R:It->Hp->Prop),Inv X pins σ H s->wi σ H R->M (g X.prog X.w) X.A (eval iter X.env) (λv s1=>M (g X.prog X.w) X.A (pyIter v) (A1 X pins σ tg R) X.xe s1) X.xe s):=⟨JI.out⟩
theorem A4 {M:Model} {A:Β} {E:bA} {s:B} {tg:l} {it:O} {u:L} {o:Γ} {n:String} {vs:Array L} {Q:Unit->B->Prop} (ho:s.heap.get? it=U o) (hc:o.cls = .type n) (hd:o.data = .fields vs)
  (hn:["enumerate", "zip", "dict_itemiterator", "dict_reverseitemiterator", "odict_iterator", "itertools.zip_longest", "itertools.pairwise"].contains n=ι) (hQ:Q () s):ρ M A (letOwnedTupleGo tg (.ref it) u) Q E s:=by
 unfold letOwnedTupleGo
 cases tg<;>first
  | exact Io hQ
  | (cases u<;>first
    | exact Io hQ
    | (refine sf (q7j ho ?_)
       rw[hc,hd];show ρ M A (if (["enumerate", "zip", "dict_itemiterator", "dict_reverseitemiterator", "odict_iterator", "itertools.zip_longest", "itertools.pairwise"].contains n && vs[0]? == U (rawInt _))=θ then _ else _) Q E s;rw[q0i (by ext h;rw[hn,q5v] at h;cases h)]
       calc Io hQ))
noncomputable def Ht(K:My)(a:O):It :=
 ⟨λi H=>∃xs x,bT K H a xs/\xs[i]?=U x,λi H x H'=>H'=H/\∀xs,bT K H a xs->xs[i]?=U x,λi H=>∃xs,bT K H a xs/\↑xs<=i⟩
noncomputable def Hu(K:My)(a:O):It :=
 ⟨λi H=>∃xs x,bZ K H a xs/\xs[i]?=U x,λi H x H'=>H'=H/\∀xs,bZ K H a xs->xs[i]?=U x,λi H=>∃xs,bZ K H a xs/\↑xs<=i⟩
noncomputable def vi(lo:Int)(n:Nat):It:=⟨λi _=>i<n,λi H x H'=>H'=H/\x=.int (lo+i),λi _=>n<=i⟩
theorem OZ{P:t}{w:S}{K:My}{tg:l}(a it:O):Turn P w K tg (Ht K a) [it] it (λi h=>h.IsListIter it a i) where
 mem:=by simp
 obj:=λi h st b hb=>by
  let e:b=it:=by simpa using hb
  subst e;let⟨o,e,c,d⟩:=st;exact⟨o,e,λv z=>by rw[d] at z;cases z⟩
 keep:=λi h h' st k=>st.at λo e=>k it (by simp) o e
 item:=by
  ext X hP hw hK hc i pins s σ H E I hf st hg;subst hP hw hK;let⟨xs,x,hq,hx⟩:=hg;let⟨aA,rv,p,hz⟩:=I.list hq;let⟨u,hu,ru⟩:=rv.get hx;let⟨f0,f1,f2,f3,f4,f5⟩:=hf it (by simp);calc wpAny_pyNext_list_item st p.isList (x:=u) hu⁻¹ λh' gw sb=>?_;let I1:Inv X pins σ H {s with heap:=h'}:=I.turned (t':=s.toks) (λb o hb e=>(sb.2 b hb).trans e) f0 f1 f3 f4 f5;let⟨o,e,c,d⟩:=id gw;exact⟨u,Y,A4 (s:={s with heap:=h'}) e c d (by decide) ⟨x,H,I1,ru,⟨Y,λys hy=>by rw[I.gf hy hq];calc hx⟩,gw,λb hb=>(hf b hb).1⟩⟩
 done:=by
  ext X hP hw hK hc i pins s σ H E I hf st hg;subst hP hw hK;let⟨xs,hq,hx⟩:=hg;let⟨aA,rv,p,hz⟩:=I.list hq;let⟨f0,f1,f2,f3,f4,f5⟩:=hf it (by simp);let hl:=↑rv;exact wpAny_pyNext_list_end (I.ok.hd hc) st p.isList (by simp;symm) λh' eb=>⟨Y,I.turned (t':=s.toks) (λb o hb e=>eb b o hb e) f0 f1 f3 f4 f5⟩
 self:=λ_ _ _ _ _ st h=>wpAny_pyIter_listiter st h
theorem O0{P:t}{w:S}{K:My}{tg:l}(a it:O):Turn P w K tg (Hu K a) [it] it (λi h=>h.IsTupleIter it a i) where
 mem:=by simp
 obj:=λi h st b hb=>by
  let e:b=it:=by simpa using hb
  subst e;let⟨o,e,c,d⟩:=st;exact⟨o,e,λv z=>by rw[d] at z;cases z⟩
 keep:=λi h h' st k=>st.at λo e=>k it (by simp) o e
 item:=by
  ext X hP hw hK hc i pins s σ H E I hf st hg;subst hP hw hK;let⟨xs,x,hq,hx⟩:=hg;let⟨aA,rv,p,hz⟩:=I.tuple hq;let⟨u,hu,ru⟩:=rv.get hx;let⟨f0,f1,f2,f3,f4,f5⟩:=hf it (by simp);calc wpAny_pyNext_tuple_item st (show s.heap.IsTuple a aA.toArray from p) (x:=u) hu⁻¹ λh' gw sb=>?_;let I1:Inv X pins σ H {s with heap:=h'}:=I.turned (t':=s.toks) (λb o hb e=>(sb.2 b hb).trans e) f0 f1 f3 f4 f5;let⟨o,e,c,d⟩:=id gw;exact⟨u,Y,A4 (s:={s with heap:=h'}) e c d (by decide) ⟨x,H,I1,ru,⟨Y,λys hy=>by rw[I.fy hy hq];calc hx⟩,gw,λb hb=>(hf b hb).1⟩⟩
 done:=by
  ext X hP hw hK hc i pins s σ H E I hf st hg;subst hP hw hK;let⟨xs,hq,hx⟩:=hg;let⟨aA,rv,p,hz⟩:=I.tuple hq;let⟨f0,f1,f2,f3,f4,f5⟩:=hf it (by simp);let hl:=↑rv;exact wpAny_pyNext_tuple_end (I.ok.hd hc) st (show s.heap.IsTuple a aA.toArray from p) (by simp;symm) λh' eb=>⟨Y,I.turned (t':=s.toks) (λb o hb e=>eb b o hb e) f0 f1 f3 f4 f5⟩
 self:=λ_ _ _ _ _ st h=>wpAny_pyIter_tupleiter st h
theorem O1{P:ψ}{w:S}{K:My}{tg:l}(it:O)(lo:Int)(n:Nat):Turn P w K tg (vi lo n) [it] it (λi h=>IsRangeIter h it (lo+(i:Nat)*1) ((n:Int)-(i:Nat)) 1) where
 mem:=by simp
 obj:=λi h st b hb=>by
  let e:b=it:=by simpa using hb
  subst e
  exact⟨_,st,λv z=>by
   let z':Data.fields _=Data.cell v:=z
   cases z'⟩
 keep:=λi h h' st k=>k it (by simp) _ st
 item:=by
  ext X hP hw hK hc i pins s σ H E I hf st hg;subst hP hw hK;let⟨f0,f1,f2,f3,f4,f5⟩:=hf it (by simp);let W:=Walks.range (prog:=X.prog) (w:=X.w) (I.ok.hd hc) it lo 1 n;calc W.item i s _ _ hg st λv h' tk hv gw kk=>?_;let⟨t,rfl⟩:=hv;let I1:Inv X pins σ H {s with heap:=h',toks:=tk}:=I.turned (λb o hb e=>kk b o hb⁻¹ e) f0 f1 f3 f4 f5;calc⟨_,Y,A4 (s:={s with heap:=h',toks:=tk}) (n:="range_iterator") gw Y Y (by decide) ⟨.int (lo+i),H,I1,⟨t,?_⟩,⟨Y,Y⟩,gw,λb hb=>(hf b hb).1⟩⟩;rw[q9q]
 done:=by
  ext X hP hw hK hc i pins s σ H E I hf st hg;subst hP hw hK;let⟨f0,f1,f2,f3,f4,f5⟩:=hf it (by simp);exact wpAny_pyNext_range_end (I.ok.hd hc) st (by let:n<=i:=hg;symm) λh' eb=>⟨Y,I.turned (t':=s.toks) (λb o hb e=>eb b o hb e) f0 f1 f3 f4 f5⟩
 self:=λ_ _ _ _ _ st h=>wpAny_pyIter_rangeiter st h
section
variable{X:Cx}{tg:l}
theorem Hv{pins:aM}{σ:St}{H:Hp}{s:B}{R:It->Hp->Prop}{E:bA}{lo hi:Int}{t u v:Tok}{tk:Nat}(I:Inv X pins σ H s)(h1 : -(2 ^ 62)<=lo)(h2:lo<2 ^ 62)(h3 : -(2 ^ 62)<=hi)(h4:hi<2 ^ 62)
  (q:R (vi lo (hi-lo).toNat) H):M (g X.prog X.w) X.A (pyIter (.ref ⇑s)) (A1 X pins σ tg R) E {s with heap:=s.heap.push {cls:=.type "range",data:=.fields #[.int lo t,.int hi u,.int 1 v]},toks:=tk}:=by
 calc wpAny_pyIter_range (IsRange.new ..) (small_one h1 h2 h3 h4) ?_;let I1:Inv X pins σ H {s with heap:=s.heap.push {cls:=.type "range",data:=.fields #[.int lo t,.int hi u,.int 1 v]},toks:=tk}:=I.kept λb o e=>yd _ e
 refine⟨(s.heap.push {cls:=.type "range",data:=.fields #[.int lo t,.int hi u,.int 1 v]}).objs.size,[(s.heap.push {cls:=.type "range",data:=.fields #[.int lo t,.int hi u,.int 1 v]}).objs.size],_,_,H,Y,
  I1.kept (t':=tk) λb o e=>yd _ e,O1 _ lo (hi-lo).toNat,?_,λb hb=>?_,q⟩
 .let e1:lo+((0:Nat):Int)*1=lo:=by simp
  let e2:(((hi-lo).toNat:Nat):Int)-((0:Nat):Int)=q4E lo hi 1:=by rw[q7K];split<;>symm
  show IsRangeIter _ _ (lo+((0:Nat):Int)*1) ((((hi-lo).toNat:Nat):Int)-((0:Nat):Int)) 1;rw[e1,e2];exact q0c _ Y
 .let e:b=(s.heap.push {cls:=.type "range",data:=.fields #[.int lo t,.int hi u,.int 1 v]}).objs.size:=by simpa using hb
  subst e;calc I1.hZ (Im _) (I1.bu.fresh (Im _))
def O3(ta:TA):TI:=fun σ H R=>ta σ H λvs H1=>∃j:Int,vs=[.int j] /\ -(2 ^ 62)<=j/\j<2 ^ 62/\R (vi 0 j.toNat) H1
def O4(ta:TA):TI:=fun σ H R=>ta σ H λvs H1=>∃i j:Int,vs=[.int i,.int j]/\(-(2 ^ 62)<=i/\i<2 ^ 62 /\ -(2 ^ 62)<=j/\j<2 ^ 62)/\R (vi i (j-i).toNat) H1
theorem O5{a:l}{ta:TA}{p pos:y}(hg:Gl X "range")(hm:X.mg "range" = Z)(ha:JA X [a] ta)(hs:starEach [a] X.env=[(ι,eval a X.env)]:=by rfl):JI X tg (.Call (.Name "range" p) [a] [] pos) (O3 ta):=by
 calc⟨?_⟩;ext pins s σ H R I h;calc Call_ (oA I hg hm boot_range (q1w (bL (ha pos pins s σ H _ I h) λus s1 ⟨vs,H1,I1,r1,q1⟩=>?_) hs Y));let⟨j,e,q1,q2,q⟩:=q1;subst e
 cases r1 with
 |cons r rr =>
  cases rr
  let⟨t,rfl⟩:=r;calc call_range_1 (Hv I1 ⋯ ⋯ q1 q2 q⁻¹)
theorem O6{a b:l}{ta:TA}{p pos:y}(hg:Gl X "range")(hm:X.mg "range" = Z)(ha:JA X [a,b] ta)(hs:starEach [a,b] X.env=[(ι,eval a X.env),(ι,eval b X.env)]:=by rfl)(eV:starEach [b] X.env=[(ι,eval b X.env)]:=by rfl):
  JI X tg (.Call (.Name "range" p) [a,b] [] pos) (O4 ta):=by
 calc⟨?_⟩;ext pins s σ H R I h;calc Call_ (oA I hg hm boot_range (q1w (bL (ha pos pins s σ H _ I h) λus s1 ⟨vs,H1,I1,r1,q1⟩=>?_) (by rw[hs,eV]) (by rw[eV];rfl)));let⟨i,j,e,⟨q1,q2,q3,q4⟩,q⟩:=q1;subst e
 cases r1 with
 |cons r rr =>
  cases rr with
  |cons r' rr =>
   cases rr
   let⟨t,rfl⟩:=r;let⟨t',rfl⟩:=r';calc call_range_2 (Hv I1 q1 q2 q3 q4 q)
def A5(wi:TI)(g:TG)(tb:TS):TS:=λD σ H=>wi σ H λJ H1=>∃W:Nat->Nat->St->Hp->Prop,(∃m,W 0 m σ H1)/\∀i m σ H,W i m σ H →
 (J.stop i H/\D.nx σ H)\/(J.go i H/\∃N:St->Hp->Prop,(∀σ' H',N σ' H'->∃m',m'<m/\W (i+1) m' σ' H')/\∀x H',J.tQ i H x H'->g x σ H' fun σ2 H2=>tb {D with nx:=N,ct:=N,bk:=D.nx} σ2 H2)
noncomputable def vj(fp:-O)(h:I):-(O×Q):=fp.filterMap λb=>(h.get? b).map λo=>(b,o)
theorem xZ{fp:-O}{h:I}{b:O}{o:Q}(hb:b∈fp)(e:h.get? b=U o):(b,o)∈vj fp h:=q28.mpr ⟨b,hb,by rw[e];rfl⟩
theorem O7{fp:-O}{h:I}{p:O×Q}(hp:p∈vj fp h):p.1∈fp/\h.get? p.1=U p.2:=by
 let⟨b,hb,e⟩:=q28.mp hp
 cases q:h.get? b with
 |none=>rw[q] at e;cases e
 |some o =>
  rw[q] at e;let e':(b,o)=p:=q0A e;subst e';calc⟨hb,q⟩
theorem Inv.pinned{pins:aM}{σ:St}{H:Hp}{s:B}{fp:-O}(I:Inv X pins σ H s)(hf:∀b∈fp,b_ X pins H b)(ho:∀b∈fp,∃o,s.heap.get? b=U o/\∀v,o.data≠.cell v):Inv X (pins++vj fp s.heap) σ H s :=
 I.fX λp hp=>(q0z.mp hp).elim (λz=>I.pin p (q0p _ z)) λz=>by
  let⟨hb,e⟩:=O7 z;let⟨f0,f1,f2,_⟩:=hf p.1 hb;let⟨o,e',d⟩:=ho p.1 hb;rw[e] at e';cases e';calc⟨e,f0,f1,f2,d⟩
theorem Inv.eW{pins pl:aM}{σ:St}{H:Hp}{s:B}(I:Inv X (pins++pl) σ H s):Inv X pins σ H s:=I.fX λp hp=>I.pin p (q0p _ (q1x _ hp))
theorem A6{iter:l}{body:-R}{wi:TI}{g:TG}{tb:TS}{pos:y}(hp:PassesOwn (ς X.prog X.w) X.A X.env X.xe)(hc:X.calm=θ)(hi:JI X tg iter wi)(hg:JG X tg g)(hb:dM X body tb)
  (hs:∀x,foldedSetIterable iter X.env x=pure x:=by ext _;rfl):JS X (.For tg iter body [] pos) (A5 wi g tb):=by
 calc⟨?_⟩;ext pins s σ H D I h;calc wpAny_For (bL (hi pins s σ H _ I h) λv s1 h1=>bL h1 λA3 s2 h2=>?_) hs;let⟨it,fp,tn,J,H2,e,I2,T,j8,f2,W,⟨m0,w0⟩,turn⟩:=h2;subst e;let jF:∀{H':Hp},(∀b∈fp,H' b=Z)->∀b∈fp,b_ X pins H' b:=λhn b hb=>⟨hn b hb,(f2 b hb).2⟩;calc codeAny_forLoop_any (λn s'=>∃i σ' H',Inv X pins σ' H' s'/\tn i s'.heap/\(∀b∈fp,H' b=Z)/\W i n σ' H') ?_ m0 ⟨0,σ,H2,I2,j8,λb hb=>(f2 b hb).1,w0⟩;ext n s3 ⟨i,σ3,H3,I3,qz,vk,w3⟩;rcases turn i n σ3 H3 w3 with⟨stop,qn⟩|⟨go,N,hN,step⟩
 .refine q27 hp (bL (T.done X Y Y Y hc i pins s3 σ3 H3 X.xe I3 (jF vk) qz stop) λr s4 ⟨hr,I4⟩=>?_)
  subst hr;exact q3G ⟨σ3,H3,I4,qn⟩
 .refine q27 hp (bL (T.item X Y Y Y hc i pins s3 σ3 H3 X.xe I3 (jF vk) qz go) λr s4 ⟨u,hr,h4⟩=>?_)
  subst hr;calc q27 hp (bL h4 λ_ s5 ⟨x,H5,I5,r5,y5,rM,A7⟩=>?_);let A8:=I5.pinned (jF A7) (T.obj _ _ rM);calc q27 hp (bL (hg _ s5 σ3 H5 x u _ A8 r5 (step x H5 y5)) λ_ s6 ⟨σ6,H6,I6,q6⟩=>?_);refine q27 hp (bL (hb _ s6 σ6 H6 _ I6 q6) λf s7 q7=>?_)
  let again:∀{σ7:St}{H7:Hp},Inv X (pins++vj fp s5.heap) σ7 H7 s7->N σ7 H7->∃m,m<n/\∃i σ' H',Inv X pins σ' H' s7/\tn i s7.heap/\(∀b∈fp,H' b=Z)/\W i m σ' H':=λ{σ7 H7} I7 n7=>by
   let⟨m',hm,w7⟩:=hN σ7 H7 n7;calc⟨m',hm,i+1,σ7,H7,I7.eW,T.keep _ _ _ rM λb hb o e=>(I7.pin (b,o) (q0p _ (q0p _ (xZ hb e)))).1,λb hb=>?_,w7⟩;let⟨o,e,d⟩:=T.obj _ _ rM b hb;exact(I7.pin (b,o) (q0p _ (q0p _ (xZ hb e)))).2.1
  cases f with
  |next=>let⟨σ7,H7,I7,n7⟩:=q7;exact again I7 n7
  |cont=>let⟨σ7,H7,I7,n7⟩:=q7;exact again I7 n7
  |brk=>let⟨σ7,H7,I7,q7⟩:=q7;exact⟨σ7,H7,I7.eW,q7⟩
  |ret v=>let⟨x7,σ7,H7,I7,r7,q7⟩:=q7;calc⟨x7,σ7,H7,I7.eW,r7,q7⟩
end
abbrev R2:=V->V->Hp->VK->Prop
def eU(X:Cx)(f:L->L->Sem L)(r:R2):Prop :=
 ∀(pins:aM)(s:B)(σ:St)(H:Hp)(x y:V)(v u:L)(Q:VK),Inv X pins σ H s->RelV x v->RelV y u->r x y H Q →
  M (g X.prog X.w) X.A (f v u) (EP X pins σ Q) X.xe s
def gZ(X:Cx)(f:L)(r:-V->Hp->VK->Prop):Prop :=
 ∀(pins:aM)(s:B)(σ:St)(H:Hp)(xs:-V)(us:-L)(Q:VK),Inv X pins σ H s->Vals xs us->r xs H Q →
  M (g X.prog X.w) X.A (call f us) (EP X pins σ Q) X.xe s
def vm(r:R2)(ta tb:TE):TE:=fun σ H Q=>ta σ H λx H1=>tb σ H1 λy H2=>r x y H2 Q
def rI(C:Int->Int->Prop)(g:Int->Int->V):R2:=λx y H Q=>∃i j,x=.int i/\y=.int j/\C i j/\Q (g i j) H
def oC(g:Int->Int->V):R2:=λx y H Q=>∃i j,x=.int i/\y=.int j/\Q (g i j) H
section
variable{X:Cx}{a b c:l}{ta tb tc:TE}{pos:y}
theorem rN(ha:JE X a ta)(hb:JE X b tb){pins:aM}{s:B}{σ:St}{H:Hp}{R:V->V->Hp->Prop}(I:Inv X pins σ H s)
  (h:ta σ H λx H1=>tb σ H1 λy H2=>R x y H2) {Q:bA} {f:L->L->Sem L}
  (hf:∀v u s2 x y H2,Inv X pins σ H2 s2->RelV x v->RelV y u->R x y H2->M (g X.prog X.w) X.A (f v u) Q X.xe s2) :
  M (g X.prog X.w) X.A (eval a X.env) (λv s₁=>M (g X.prog X.w) X.A (eval b X.env) (λu s₂=>M (g X.prog X.w) X.A (f v u) Q X.xe s₂) X.xe s₁) X.xe s:=by
 calc bL (ha pins s σ H _ I h) λv s1 ⟨x,H1,I1,r1,q1⟩=>?_;calc bL (hb pins s1 σ H1 _ I1 q1) λu s2 ⟨y,H2,I2,r2,q2⟩=>?_;calc hf v u s2 x y H2 I2 r1 r2 q2
theorem vn{op:Operator}{r:R2}(ho:eU X (binaryOp op) r)(ha:JE X a ta)(hb:JE X b tb):JE X (.BinOp a op b pos) (vm r ta tb):=by
 calc⟨?_⟩;ext pins s σ H Q I h;calc wpAny_BinOp (rN ha hb I h λv u s2 x y H2 I2 rx ry q=>ho pins s2 σ H2 x y v u Q I2 rx ry q)
theorem x4{f:L->L->Sem L}{C:Int->Int->Prop}{g:Int->Int->Int}
  (rule:∀(i j:Int)(t u:Tok)(s:B)(Q:bA)(E:bA),C i j->Q (.int (g i j) s.toks) {s with toks:=s.toks+1}->M (ς X.prog X.w) X.A (f (.int i t) (.int j u)) Q E s) :
  eU X f (rI C λi j=>.int (g i j)):=by
 ext pins s σ H x y v u Q I rx ry h;let⟨i,j,rfl,rfl,hc,q⟩:=h;let⟨t,rfl⟩:=rx;let⟨t',rfl⟩:=ry;calc rule i j t t' s _ _ hc ⟨.int (g i j),H,I.tok _,⟨_,Y⟩,q⟩
theorem vo{f:L->L->Sem L}{g:Int->Int->Int}
  (rule:∀(i j:Int)(t u:Tok)(s:B)(Q:bA)(E:bA),Q (.int (g i j) s.toks) {s with toks:=s.toks+1}->M (ς X.prog X.w) X.A (f (.int i t) (.int j u)) Q E s) :
  eU X f (oC λi j=>.int (g i j)):=by
 ext pins s σ H x y v u Q I rx ry h;let⟨i,j,rfl,rfl,q⟩:=h;let⟨t,rfl⟩:=rx;let⟨t',rfl⟩:=ry;calc rule i j t t' s _ _ ⟨.int (g i j),H,I.tok _,⟨_,Y⟩,q⟩
theorem oE{f:L->L->Sem L}{g:Int->Int->Bool}
  (rule:∀(i j:Int)(t u:Tok)(s:B)(Q:bA)(E:bA),Q (.bool (g i j)) s->M (ς X.prog X.w) X.A (f (.int i t) (.int j u)) Q E s) :
  eU X f (oC λi j=>.bl (g i j)):=by
 ext pins s σ H x y v u Q I rx ry h;let⟨i,j,rfl,rfl,q⟩:=h;let⟨t,rfl⟩:=rx;let⟨t',rfl⟩:=ry;calc rule i j t t' s _ _ ⟨.bl (g i j),H,I,Y,q⟩
def h8(i j:Int):Prop:=0<=j/\j<=1000000/\i.natAbs<2 ^ 64
def kK(i j:Int):Prop:=(-(2 ^ 64)<i/\i<2 ^ 64)\/(-(2 ^ 64)<j/\j<2 ^ 64)
theorem kK.ok{i j:Int}(h:kK i j):IntMulOk i j:=by
 rcases h with⟨h1,h2⟩|⟨h1,h2⟩
 .exact .of_left (q7L h1 h2)
 .calc .of_right (q7L h1 h2)
theorem Hw:eU X (binaryOp .Add) (oC λi j=>.int (i+j)):=vo λ_ _ _ _ _ _ _ q=>add_int q
theorem O8:eU X (binaryOp .Sub) (oC λi j=>.int (i-j)):=vo λ_ _ _ _ _ _ _ q=>sub_int q
theorem O9:eU X (binaryOp .Mult) (rI kK λi j=>.int (i*j)):=x4 λ_ _ _ _ _ _ _ hc q=>mul_int q hc.ok
theorem A9:eU X (binaryOp .Mod) (rI (λ_ j=>0<j) λi j=>.int (i%j)):=x4 λi j _ _ _ _ _ hc q=>by
 let h1:(0:Int)<j:=hc;calc mod_int' ⋯ (by rw[Int.fmod_eq_emod_of_nonneg i ⋯];calc q)
theorem O_:eU X (binaryOp .Pow) (rI h8 λi j=>.int (i ^ j.toNat)):=x4 λ_ _ _ _ _ _ _ hc q=>pow_int_small hc.1 hc.2.1 hc.2.2 q
theorem Hx{pins:aM}{σ:St}{H:Hp}{s:B}{Q:VK}{k k':Bool}(I:Inv X pins σ H s)(q:Q (.bl k) H)(e:k=k'):EP X pins σ Q (.bool k') s:=by
 subst e;calc⟨.bl k,H,I,Y,q⟩
theorem Pa:eU X (compareOp .Lt) (oC λi j=>.bl (G (i<j))):=oE λ_ _ _ _ _ _ _ q=>lt_int q
theorem Pb:eU X (compareOp .LtE) (oC λi j=>.bl (G (i<=j))):=oE λ_ _ _ _ _ _ _ q=>le_int q
theorem Pc:eU X (compareOp .Gt) (oC λi j=>.bl (G (j<i))):=oE λ_ _ _ _ _ _ _ q=>gt_int q
theorem Pd:eU X (compareOp .GtE) (oC λi j=>.bl (G (j<=i))):=oE λ_ _ _ _ _ _ _ q=>ge_int q
theorem Pe:eU X (compareOp .Is) (λx y H Q=>y=.non/\Q (.bl (G (x=.non))) H):=by
 ext pins s σ H x y v u Q I rx ry h;let⟨rfl,q⟩:=h;cases ry
 refine is_none_gen (Hx I q ?_)
 cases x<;>first
  |(cases rx;rfl)
  |(let⟨t,rfl⟩:=rx;rfl)
theorem Pf:eU X (compareOp .IsNot) (λx y H Q=>y=.non/\Q (.bl (!G (x=.non))) H):=by
 ext pins s σ H x y v u Q I rx ry h;let⟨rfl,q⟩:=h;cases ry
 refine isnot_none_gen (Hx I q ?_)
 cases x<;>first
  |(cases rx;rfl)
  |(let⟨t,rfl⟩:=rx;rfl)
theorem A_(b:l){op:CmpOp}(h:op≠.In:=by decide)(h2:op≠.NotIn:=by decide):behindInMarks op b=ι:=by
 let e1:(op==CmpOp.In)=ι:=by cases op<;>first|rfl|exact absurd Y h
 let e2:(op==CmpOp.NotIn)=ι:=by cases op<;>first|rfl|exact absurd Y h2
 cases b<;>simp[behindInMarks,e1,e2]
theorem Pg{op:CmpOp}{r:R2}(ho:eU X (compareOp op) r)(ha:JE X a ta)(hb:JE X b tb)(hm:behindInMarks op b=ι):JE X (.Compare a [op] [b] pos) (vm r ta tb):=by
 calc⟨?_⟩;ext pins s σ H Q I h;calc wpAny_Compare1 (rN ha hb I h λv u s2 x y H2 I2 rx ry q=>ho pins s2 σ H2 x y v u Q I2 rx ry q) hm
def Ph(t:TE):TT:=fun σ H Q=>t σ H λx H'=>∃k,x=.bl k/\Q k H'
theorem Pj{op:CmpOp}{r:R2}(ho:eU X (compareOp op) r)(ha:JE X a ta)(hb:JE X b tb)(hm:behindInMarks op b=ι):JT X (.Compare a [op] [b] pos) (Ph (vm r ta tb)):=by
 calc⟨?_⟩;ext pins s σ H Q I h
 refine q5h (bL (ha pins s σ H _ I h) λv s1 ⟨x,H1,I1,r1,q1⟩=>bL (hb pins s1 σ H1 _ I1 q1) λu s2 ⟨y,H2,I2,r2,q2⟩ =>
  bL (ho pins s2 σ H2 x y v u _ I2 r1 r2 q2) λc s3 ⟨z,H3,I3,r3,k,e,q3⟩=>?_) hm
 subst e;cases r3
 calc q16 ⟨H3,I3,q3⟩
def Pk(r r':R2)(ta tb tc:TE):TE:=fun σ H Q=>ta σ H λx H1=>tb σ H1 λy H2=>r x y H2 λz H3=>∃k,z=.bl k ∧
 (if k=θ then tc σ H3 λw' H4=>r' y w' H4 Q else Q (.bl ι) H3)
theorem Pl{op rO:CmpOp}{r r':R2}(ho:eU X (compareOp op) r)(l9:eU X (compareOp rO) r')(ha:JE X a ta)(hb:JE X b tb)(hc:JE X c tc)
  (hm:lastMarks [op,rO] [b,c]=ι:=by with_unfolding_all rfl):JE X (.Compare a [op,rO] [b,c] pos) (Pk r r' ta tb tc):=by
 calc⟨?_⟩;ext pins s σ H Q I h
 refine Compare_chain (bL (ha pins s σ H _ I h) λv s1 ⟨x,H1,I1,r1,q1⟩=>chain_link (bL (hb pins s1 σ H1 _ I1 q1) λu s2 ⟨y,H2,I2,r2,q2⟩ =>
  bL (ho pins s2 σ H2 x y v u _ I2 r1 r2 q2) λd s3 ⟨z,H3,I3,r3,k,e,q3⟩=>?_)) hm
 subst e;cases r3
 refine q16 ?_
 cases k with
 |false=>exact ite_ff ⟨.bl ι,H3,I3,Y,q3⟩
 |true=>calc ite_tt (chain_last (bL (hc pins s3 σ H3 _ I3 q3) λw' s4 ⟨z',H4,I4,r4,q4⟩↦l9 pins s4 σ H4 y z' u w' Q I4 r2 r4 q4))
theorem tR:(sizeLine:Nat)<2 ^ 63:=by rw[q1W];decide
theorem Pn:eU X (binaryOp .Add) (λx y H Q=>∃i j,x=.str i/\y=.str j/\↑i+↑j<=sizeLine/\Q (.str (i++j)) H):=by
 ext pins s σ H x y v u Q I rx ry h;let⟨i,j,rfl,rfl,hz,q⟩:=h;let⟨t,rfl⟩:=rx;let⟨t',rfl⟩:=ry;calc add_str (λt' tk=>⟨.str (i++j),H,I.tok _,⟨_,Y⟩,q⟩) hz
theorem vals1{x:V}{us:-L}(r:Vals [x] us):∃u,us=[u]/\RelV x u:=by
 cases r with
 |cons r1 r2=>cases r2;calc⟨_,Y,r1⟩
theorem vals2{x y:V}{us:-L}(r:Vals [x,y] us):∃u w',us=[u,w']/\RelV x u/\RelV y w':=by
 cases r with
 |cons r1 r2 =>
  cases r2 with
  |cons r3 r4=>cases r4;calc⟨_,_,Y,r1,r3⟩
theorem Pp(hc:X.calm=θ):gZ X (.builtin "max") (λxs H Q=>∃i j,xs=[.int i,.int j]/\Q (.int (if j>i then j else i)) H):=by
 ext pins s σ H xs us Q I r h;let⟨i,j,rfl,q⟩:=h;let⟨u,w',rfl,⟨t,rfl⟩,⟨t',rfl⟩⟩:=vals2 r;refine max_two_ints (I.ok.hd hc) λh' tk k=>⟨_,H,I.kept k,?_,q⟩
 by_cases hj:j>i
 .rw[q0k hj,q0k hj];exact⟨_,Y⟩
 .rw[q0i hj,q0i hj];calc⟨_,Y⟩
theorem Pq(hc:X.calm=θ):gZ X (.builtin "min") (λxs H Q=>∃i j,xs=[.int i,.int j]/\Q (.int (if j<i then j else i)) H):=by
 ext pins s σ H xs us Q I r h;let⟨i,j,rfl,q⟩:=h;let⟨u,w',rfl,⟨t,rfl⟩,⟨t',rfl⟩⟩:=vals2 r;refine min_two_ints (I.ok.hd hc) λh' tk k=>⟨_,H,I.kept k,?_,q⟩
 by_cases hj:j<i
 .rw[q0k hj,q0k hj];exact⟨_,Y⟩
 .rw[q0i hj,q0i hj];calc⟨_,Y⟩
end
structure jG(h:I)(x dx C:O)(mA:J->Option L):Prop where
 obj:h.get? x=U (q2e C dx)
 ns:h.Ns1 dx mA
 ne:dx≠x
theorem Pr{h:I}{dx:O}{mA:J->Option L}(n:h.Ns1 dx mA):∃od,h.get? dx=U od/\∀name,q3Y name od=U (mA name):=by
 let⟨o,es,ep,ho,hd,hk,_,hm⟩:=n;calc⟨o,ho,λname=>?_⟩;let e:=hm name;unfold nsFind findBy at e;rw[<-Array.find?_toList] at e;unfold q3Y;rw[hd];dsimp only;split
 .rename_i y q
  rw[q] at e;exact congrArg U e
 .rename_i q
  rw[q] at e
  let a:es.toList.any (·.refKey)=ι:=by
   rw[q2c];ext y hy;let⟨z,t,Ba⟩:=hk y (Array.mem_toList_iff.mp hy);simp[DictEntry.refKey,Ba]
  let a':¬ es.toList.any (·.refKey)=θ:=by rw[a];exact q0F
  rw[q0i a'];calc congrArg U e
theorem jG.look{h:Α}{x dx C:O}{mA:J->Option L}(I:jG h x dx C mA):∃od,PySem.W.InstAt h x (q2e C dx) C (U od)/\∀name,q3Y name od=U (mA name) :=
 let⟨od,ho,hl⟩:=Pr I.ns
 ⟨od,⟨I.obj,Y,Y,ho⟩,hl⟩
section
variable{prog:t}{w:S}{A:o}{E:bA}{s:B}{K:My}{x dx C f:O}{mA:J->Option L}{name:J}{v:L}
theorem Pt{expr:Bool}{Q:bA}(X:K.In s.heap)(I:jG s.heap x dx C mA)(hg:q3x K C name=θ)(hh:q4i K C=θ)
  (ha:q1z K (.ref C) name=U Z) (hv:mA name=U v) (x5:q6F v=θ) (h:Q v {s with toks:=s.toks+1}) :
  M (g prog w) A (getAttr (.ref x) name expr) Q E s:=by
 let⟨od,J,hl⟩:=I.look;calc PySem.W.get_value X J (q3M hg).1 (PySem.W.findObj_own hh ha Y (by rw[hl,hv])) x5 h
theorem Pu{pl:Sem Bool}{Q:L×-L->B->Prop}(X:K.In s.heap)(I:jG s.heap x dx C mA)(hg:q3x K C name=θ)
  (hf:q1z K (.ref C) name=U (U (.ref f))) (ht:q4T K (.ref f)=θ) (hv:mA name=Z) (h:Q (.ref f,[.ref x]) s) :
  M (g prog w) A (getMethod (.ref x) name pl) Q E s:=by
 let⟨od,J,hl⟩:=I.look;calc PySem.W.method_fn X J (q3M hg).1 (q3M hg).2 hf (q4U.mp ht) (by show(q3Y name od).map (·.isSome)=U ι;rw[hl,hv];rfl) h
theorem Pw{ns:-π}{Q:Unit->B->Prop}(X:K.In s.heap)(I:jG s.heap x dx C mA)
  (hs:q1z K (.ref C) "__setattr__" = U (U (.builtin "object.__setattr__"))) (hp:q6d K C=θ) (ht:q45 K C name=U Z) (hh:q4i K C=θ)
  (hw:q6b mA ns) (hsz:↑ns<=sizeLine)
  (h:∀h',jG h' x dx C (λy=>if y=name then U v else mA y)->q2L dx s.heap h'->Q () {s with heap:=h',toks:=s.toks+2}) :
  M (g prog w) A (setAttr (.ref x) name v) Q E s:=by
 let⟨od,J,hl⟩:=I.look;calc PySem.W.set_plain X J hs (PySem.W.osa_open (s:={s with toks:=s.toks+1}) (r:=none) X J hp ht λb=>?_);let⟨cd,hc,rK⟩:=PySem.W.any_some hh;let hx:s.heap.get? x=U ⟨.ref C,U dx,.plain,#[]⟩:=I.obj;calc sf (Io (sf (sf (wpAny_loadPart hx (sf (PySem.W.Looks.here (s:={s with toks:=s.toks+1}) (PySem.W.looks_clsIn X hc) ?_))))));rw[rK];calc Io (a:=U dx) (sf (Io (sf ?_)));calc wpAny_nsSet1 (s:={s with toks:=s.toks+1}) I.ns λh' tT eV=>?_;let⟨oD,Z5,Z6,Px,Py,Pz⟩:=tT.count (PySem.Within.cons name v hw);refine sf (wpAny_lookBehind Px (by rw[Py];calc pastItsLine_dict (q0B Pz (by rw[Ip];symm))) ?_)
 calc Io (h _ ⟨(eV.2 _ (q2h I.ne)).trans I.obj,tT,I.ne⟩ eV)
theorem PA{R:Result->B->Prop}{vs:-L}{kw:-(J×L)}(X:K.In s.heap)(hm:q63 K C=θ)
  (hi:q1z K (.ref C) "__init__" = U (U (.ref f))) (hf:PySem.W.typeIn K (.ref f)=U (.type "function"))
  (h:codeAny (ς prog w) (A.under (.builtin "type.__call__" ⟨.ref C::vs,kw⟩)) (.call (.ref f) ⟨.ref (⇑s+1)::vs,kw⟩) (PySem.W.InitBack (⇑s+1) R)
   {s with heap:=(s.heap.push q1I).push (q2e C ⇑s)}) :
  codeAny (ς prog w) A (.call (.ref C) ⟨vs,kw⟩) R s:=by
 let⟨hh,g,d,t,os⟩:=s;calc PySem.W.make_core (PySem.W.makes_of X hm) (PySem.W.looks_findIn X hi) (λself=>PySem.W.bind_fn X self hf) (.inl Y) h
end
noncomputable def c6(f:J)(v:V):-(J×V)->-(J×V)
 |[]=>[(f,v)]
 |(g,x)::r=>if g=f then(g,v)::r else(g,x)::c6 f v r
theorem Hy(f g:J)(v:V):∀fs:-(J×V),(c6 f v fs).lookup g=if g=f then U v else fs.lookup g
 |[]=>by
  show q2K g [(f,v)]=_
  by_cases h:g=f
  .let hb:(g==f)=θ:=q4U.mpr h
   erw[q2K,hb,q0k h]
  .let hb:(g==f)=ι:=q2D.mpr h
   erw[q2K,hb,q0i h]
 |(k,x)::r=>by
  let ih:=Hy f g v r;rw[show c6 f v ((k,x)::r)=(if k=f then(k,v)::r else(k,x)::c6 f v r) from Y]
  by_cases hk:k=f
  .rw[q0k hk]
   by_cases h:g=k
   .let hb:(g==k)=θ:=q4U.mpr h
    erw[q2K,hb,q0k (h.trans hk)]
   .let hb:(g==k)=ι:=q2D.mpr h
    erw[q2K,hb,q0i (λe:g=f=>h (e.trans hk.symm))]
  .rw[q0i hk]
   by_cases h:g=k
   .let hb:(g==k)=θ:=q4U.mpr h
    erw[q2K,hb,q0i (λe:g=f=>hk (h.symm.trans e))]
   .let hb:(g==k)=ι:=q2D.mpr h
    erw[q2K,hb];calc ih
theorem Bb(f:J)(v:V):∀fs:-(J×V),f∈(c6 f v fs).map (·.1)/\∀g,g∈fs.map (·.1)->g∈(c6 f v fs).map (·.1)
 |[]=>⟨by simp[c6],λg h=>by simp at h⟩
 |(k,x)::r=>by
  let⟨i1,i2⟩:=Bb f v r;rw[show c6 f v ((k,x)::r)=(if k=f then(k,v)::r else(k,x)::c6 f v r) from Y]
  by_cases hk:k=f
  .rw[q0k hk]
   subst hk;exact⟨by simp,λg h=>by simpa using h⟩
  .rw[q0i hk]
   refine⟨?_,λg h=>?_⟩
   .rw[q0r]
    exact q0l _ i1
   .rw[q0r] at h ⊢
    rcases Qu.mp h with e|e
    .exact Qu.mpr (.inl e)
    .calc q0l _ (i2 g e)
theorem Hz(f:J)(v:V):∀fs:-(J×V),↑(c6 f v fs)<=fs.length+1
 |[]=>by simp[c6]
 |(k,x)::r=>by
  let ih:=Hz f v r;rw[show c6 f v ((k,x)::r)=(if k=f then(k,v)::r else(k,x)::c6 f v r) from Y]
  by_cases hk:k=f
  .rw[q0k hk,Ip,Ip];symm
  .rw[q0i hk,Ip,Ip];symm
theorem dI.some_of{v:V}{o:Option L}(r:dI (U v) o):∃u,o=U u/\RelV v u:=by
 cases o with
 |none=>exact(show False from r).elim
 |some u=>calc⟨u,Y,r⟩
theorem dI.none_of{o:Option L}(r:dI Z o):o=Z:=by
 cases o with
 |none=>rfl
 |some u=>calc(show False from r).elim
theorem PB{v:V}{u:L}(r:RelV v u):q6F u=θ:=by
 cases v with
 |non=>cases(show u=q0E from r);rfl
 |bl b=>cases(show u=q2P b from r);rfl
 |int i=>let⟨t,e⟩:=(show ∃t,u=q04 i t from r);cases e;rfl
 |str x=>let⟨t,e⟩:=(show ∃t,u=q4B x t from r);cases e;rfl
 |byt b=>let⟨t,e⟩:=(show ∃t,u=Value.bytes b t from r);cases e;rfl
 |flt b=>let⟨t,e⟩:=(show ∃t,u=q6S b t from r);cases e;rfl
 |ref a=>cases(show u=q0J a from r);rfl
 |ty n=>cases(show u=q1T n from r);rfl
section
variable{P:t}{w:S}{H H':Hp}{h h':I}{a C dx:O}{fs Oy:-(J×V)}
theorem x6(bu:eT P w H h)(e:H a=U (.ins C dx fs)):∃mA,jG h a dx C mA/\(∀f,dI (fs.lookup f) (mA f))/\q6b mA (fs.map (·.1))/\fs.length<=1000/\H dx=U (.own a):=by
 let⟨d,z,ne,ob,mA,n,r,q⟩:=(show bz P w H h a (.ins C dx fs) from bu a _ e);calc⟨mA,⟨ob,n,ne⟩,r,q,z,d⟩
end
structure iW(K:My)(C:O):Prop where
 pg:q3x K C Str.empty=θ
 hd:q4i K C=θ
 po:q6d K C=θ
 sa:q1z K (.ref C) "__setattr__" = U (U (.builtin "object.__setattr__"))
theorem iW.get{K:My}{C:O}(c:iW K C)(f:J):q3x K C f=θ:=c.pg
def cU(K:My)(C:O)(f:J):Prop:=q1z K (.ref C) f=U Z
theorem cU.vp{K:My}{C:O}{f:J}(n:cU K C f):q45 K C f=U Z:=by
 unfold q45;rw[show q1z K (.ref C) f=U Z from n];rfl
structure Meth(K:My)(C:O)(m:J)(f:O):Prop where
 at_:q1z K (.ref C) m=U (U (.ref f))
 fn:q4T K (.ref f)=θ
 kp:q0_ K (.ref f)=θ
section
variable{X:Cx}{pins:aM}{σ:St}{H:Hp}{s:B}{a C dx:O}{fs:-(J×V)}{f:J}{v:V}{A:o}{E:bA}
theorem PC{b:Bool}{Q:bA}(I:Inv X pins σ H s)(e:H a=U (.ins C dx fs))(c:iW X.K C)(n:cU X.K C f)(l:fs.lookup f=U v)
  (h:∀u s',Inv X pins σ H s'->RelV v u->Q u s'):M (g X.prog X.w) A (getAttr (.ref a) f b) Q E s:=by
 let⟨mA,O,r,_,_,_⟩:=x6 I.bu e;let⟨u,hu,ru⟩:=dI.some_of (v:=v) (o:=mA f) (by rw[<-l];calc r f);calc Pt I.fJ O (c.get f) c.hd n hu (PB ru) (h u _ (I.tok _) ru)
theorem HA{m:J}{g:ξ}{pl:Sem Bool}{Q:L×-L->B->Prop}(I:Inv X pins σ H s)(e:H a=U (.ins C dx fs))(c:iW X.K C)(k:Meth X.K C m g)(l:fs.lookup m=Z)
  (h:Q (.ref g,[.ref a]) s):M (ς X.prog X.w) A (getMethod (.ref a) m pl) Q E s:=by
 let⟨mA,O,r,_,_,_⟩:=x6 I.bu e;let hn:mA m=Z:=dI.none_of (by rw[<-l];calc r m);calc Pu I.fJ O (c.get m) k.at_ k.fn hn h
theorem PD{y:V}{u:L}{Q:Unit->B->Prop}(I:Inv X pins σ H s)(e:H a=U (.ins C dx fs))(c:iW X.K C)(n:cU X.K C f)(hl:fs.length<1000)(ry:RelV y u)
  (h:∀s',Inv X pins σ (upd H a (.ins C dx (c6 f y fs))) s'->Q () s'):M (ς X.prog X.w) A (setAttr (.ref a) f u) Q E s:=by
 let⟨mA,O,r,wi,_,ho⟩:=x6 I.bu e;let hz:↑(fs.map (·.1))<=sizeLine:=by rw[BE,q1W];symm
 calc Pw I.fJ O c.sa c.po n.vp c.hd wi hz λh' O' sb=>h _ ?_;let hd:∃o,h'.get? dx=U o:=let⟨o,_,_,e',_⟩:=O'.ns;⟨o,e'⟩;calc I.write (x:=a) (e:=dx) (by rw[e];calc q1_) (.inr ho) (λb q hb z=>(sb.2 b hb).trans z) hd ?_;refine⟨by rw[bE O.ne];calc ho,?_,O.ne,O'.obj,_,O'.ns,λg=>?_,λg hg=>?_⟩
 .let:=Hz f y fs;symm
 .show dI ((c6 f y fs).lookup g) (if g=f then U u else mA g)
  rw[Hy]
  by_cases q:g=f
  .rw[q0k q,q0k q];exact ry
  .rw[q0i q,q0i q];exact r g
 .by_cases q:g=f
  .rw[q];exact(Bb f y fs).1
  .refine (Bb f y fs).2 g (wi g λz=>hg ?_)
   show(if g=f then U u else mA g)=Z;rw[q0i q];calc z
theorem Inv.made(I:Inv X pins σ H s):Inv X pins σ (upd (upd H ⇑s (.own (⇑s+1))) (⇑s+1) (.ins C ⇑s []))
  {s with heap:=(s.heap.push q1I).push (q2e C ⇑s)}:=by
 let e1:(s.heap.push q1I).get? ⇑s=U q1I:=q0c s.heap Y
 let e2:((s.heap.push q1I).push (q2e C ⇑s)).get? (⇑s+1)=U (q2e C ⇑s):=by
  let:=q0c (s.heap.push q1I) (o:=q2e C ⇑s) Y
  rwa [q00] at this
 let e3:(s.heap.push q1I).Ns ⇑s (λ_=>Z):=⟨q1I,#[],_,e1,Y,(λe he=>absurd he (by simp)),λ_=>Y⟩;let I1:=I.laid (a:=s.heap.objs.size) (o:=.own (⇑s+1)) (h':=s.heap.push q1I) (t':=s.toks) (λb u q=>yd _ q) (Im _) ⟨_,e1⟩;calc I1.laid (a:=⇑s+1) (o:=.ins C ⇑s []) (t':=s.toks) (λb u q=>yd _ q) (q6e (q00 _ _)) ?_;let ne:⇑s≠⇑s+1:=q0g (q0T _);calc⟨by rw[bE ne,cA],q06 _,ne,e2,λ_=>Z,(Heap.Ns1.of_empty e3).at λo q=>yd _ q,λ_=>q1_,λy hy=>absurd Y hy⟩
theorem PE{prog:t}{w:S}{env:Ζ}{e:l}{f:J}{pos:y}{s:B}{Q:bA}(hb:attributeBase e f env (eval e env)=eval e env)
  (h:M (g prog w) A (eval e env) (λo s₁=>M (g prog w) A (getAttr o f θ) Q E s₁) E s):M (g prog w) A (eval (.Attribute e f pos) env) Q E s :=
 Attribute_any_ h (by rw[arm_eval_Attribute,hb])
end
def Bc(K:My)(ta:TE)(f:J):TE:=fun σ H Q=>ta σ H λx H1=>∃a C dx fs v,x=.ref a/\H1 a=U (.ins C dx fs)/\iW K C/\cU K C f/\fs.lookup f=U v/\Q v H1
def Bd(K:My)(ta tv:TE)(f:J):TS:=λD σ H=>tv σ H λy H1=>ta σ H1 λx H2=>∃a C dx fs,x=.ref a/\H2 a=U (.ins C dx fs)/\iW K C/\cU K C f/\fs.length<1000 ∧
 D.nx σ (upd H2 a (.ins C dx (c6 f y fs)))
section
variable{X:Cx}{o e value:l}{f:J}{pos pos' Be:y}{ta tv:TE}
theorem PF(he:JE X e ta)(hb:attributeBase e f X.env (eval e X.env)=eval e X.env):JE X (.Attribute e f pos) (Bc X.K ta f):=by
 calc⟨?_⟩;ext pins s σ H Q I h;calc PE hb (bL (he pins s σ H _ I h) λu s1 ⟨x,H1,I1,rx,a,C,dx,fs,v,ex,ea,c,n,l,q⟩=>?_);subst ex;obtain rfl:u=q0J a:=rx;calc PC I1 ea c n l λu' s2 I2 ru=>⟨v,H1,I2,ru,q⟩
theorem PG(ha:JE X o ta)(hv:JE X value tv)(hs:swapsWith value (U (.Attribute o f pos')) pos.line X.env=pure ι):JS X (.Assign [.Attribute o f pos'] value pos) (Bd X.K ta tv f):=by
 calc⟨?_⟩;ext pins s σ H D I h;calc plainObj_wpAny_Assign_Attribute (bL (hv pins s σ H _ I h) λu s1 ⟨y,H1,I1,ry,q⟩=>bL (ha pins s1 σ H1 _ I1 q) λov s2 ⟨x,H2,I2,rx,a,C,dx,fs,ex,ea,c,n,l,q2⟩=>?_) hs;subst ex;obtain rfl:ov=q0J a:=rx;calc PD I2 ea c n l ry λs3 I3=>⟨σ,_,I3,q2⟩
end
section
variable{X:Cx}{pins:aM}{σ:St}{H:Hp}{s:B}{A:o}{E:bA}{Q:bA}{c:L}{b:Bool}
inductive eX (K:My) (H:Hp):V->L->Prop where
 |non:eX K H .non (.type "NoneType")
 |bl (x:Bool):eX K H (.bl x) (.type "bool")
 |int (i:Int):eX K H (.int i) (.type "int")
 |str (x:J):eX K H (.str x) (.type "str")
 |flt (x:UInt64):eX K H (.flt x) (.type "float")
 |lst {a:O} {xs:-V} (e:H a=U (.lst xs)):eX K H (.ref a) (.type "list")
 |frz {a:O} {o:Γ} {xs:-V} (e:H a=U (.frz o (.lst xs))):eX K H (.ref a) (.type "list")
 |tup {a:O} {xs:-V} (e:H a=U (.tup xs)):eX K H (.ref a) (.type "tuple")
 |dK {a:O} {kvs:-(Key×V)} (e:H a=U (.dK kvs)):eX K H (.ref a) (.type "dict")
 |dT {a:O} {kvs:-(-Key×V)} (e:H a=U (.dT kvs)):eX K H (.ref a) (.type "dict")
 |ins {a C dx:O} {fs:-(J×V)} (e:H a=U (.ins C dx fs)) (cl:iW K C) (ha:q1z K (.ref C) "__class__" = U (U (.builtin "object.__class__")))
   (hn:PySem.W.specialIn K (.builtin "object.__class__") "__get__" = U (U (.builtin "getset_descriptor.__get__"))) (HB:PySem.W.takesIn K (.builtin "object.__class__")=U θ)
   (hm:PySem.W.mroIn K C (.type "object")=U θ):eX K H (.ref a) (.ref C)
theorem PH{x:V}{u t:L}(I:Inv X pins σ H s)(rx:RelV x u)(ty:eX X.K H x t)(e:q1l X.K t c=U b)(h:∀tk,Q (.bool b) {s with toks:=tk}):
  M (g X.prog X.w) A (call (.builtin "isinstance") [u,c]) Q E s:=by
 cases ty with
 |non=>cases(show u=q0E from rx);exact q1B PySem.W.kitx_none I.fJ q1_ e (λz=>nomatch z) h
 |bl y=>cases(show u=q2P y from rx);exact q1B PySem.W.kitx_bool I.fJ q1_ e (λz=>nomatch z) h
 |int i=>let⟨t,q⟩:=(show ∃t,u=q04 i t from rx);cases q;exact q1B PySem.W.kitx_int I.fJ q1_ e (λz=>nomatch z) h
 |str y=>let⟨t,q⟩:=(show ∃t,u=q4B y t from rx);cases q;exact q1B PySem.W.kitx_str I.fJ q1_ e (λz=>nomatch z) h
 |flt y=>let⟨t,q⟩:=(show ∃t,u=q6S y t from rx);cases q;exact q1B PySem.W.kitx_float I.fJ q1_ e (λz=>nomatch z) h
 | @lst a xs ea =>
  cases(show u=q0J a from rx)
  let⟨_,_,n,_,h1⟩:=(show bz X.prog X.w H s.heap a (.lst xs) from I.bu a _ ea);exact q1B q6f I.fJ ⟨_,h1,Y⟩ e (λz=>nomatch z) h
 | @frz a ob xs ea =>
  cases(show u=q0J a from rx)
  let⟨_,_,_,n,_,h1⟩:=(show bz X.prog X.w H s.heap a (.frz ob (.lst xs)) from I.bu a _ ea);exact q1B q6f I.fJ ⟨_,h1,Y⟩ e (λz=>nomatch z) h
 | @tup a xs ea =>
  cases(show u=q0J a from rx)
  let⟨_,_,_,p⟩:=(show bz X.prog X.w H s.heap a (.tup xs) from I.bu a _ ea);let⟨o,h1,h2,_⟩:=p;exact q1B PySem.W.kitx_tuple I.fJ ⟨o,h1,h2⟩ e (λz=>nomatch z) h
 | @dK a kvs ea =>
  cases(show u=q0J a from rx)
  let⟨_,_,vs,_,p⟩:=(show bz X.prog X.w H s.heap a (.dK kvs) from I.bu a _ ea);let⟨o,es,ep,h1,h2,_⟩:=p;exact q1B q6g I.fJ ⟨o,h1,h2.1⟩ e (λz=>nomatch z) h
 | @dT a kvs ea =>
  cases(show u=q0J a from rx)
  let⟨_,_,xs,_,o,es,ep,h1,h2,_⟩:=(show bz X.prog X.w H s.heap a (.dT kvs) from I.bu a _ ea);exact q1B q6g I.fJ ⟨o,h1,h2.1⟩ e (λz=>nomatch z) h
 | @ins a C dx fs ea cl ha hn HB hm =>
  cases(show u=q0J a from rx)
  let⟨mA,O,_⟩:=x6 I.bu ea;let⟨od,J,_⟩:=O.look;calc q1B (PySem.W.kitx_own (cl.get _) cl.hd ha hn HB hm) I.fJ J e (λz=>nomatch z) h
end
structure bB(k:Nat)(A:o):Prop where
 hd:A.handled=Z
 dp:A.depth+3*k+5<recursionLimit
 un:A.units+16*k+200<cLine
 gd:A.guards=U []
theorem bB.mono{j k:Nat}{A:o}(r:bB k A)(h:j<=k):bB j A:=⟨r.hd,by let:=r.dp;symm,by let:=r.un;symm,r.gd⟩
theorem bB.deeper{k:Nat}{A:o}(r:bB (k+1) A)(env:X):bB k (A.deeper env) :=
 ⟨r.hd,by let:=r.dp;show A.depth+1+3*k+5<_;symm,by let:=r.un;show A.units+3+16*k+200<_;symm,r.gd⟩
theorem bB.in1{k:Nat}{A:o}(r:bB (k+1) A):bB k A.in1 :=
 ⟨r.hd,by let:=r.dp;show A.depth+3*k+5<_;symm,by let:=r.un;show A.units+1+16*k+200<_;symm,r.gd⟩
theorem PJ{A:o}{C:O}{us:-L}{kw:-(J×L)}:(A.under (.builtin "type.__call__" ⟨.ref C::us,kw⟩)).depth=A.depth+1:=by
 first|rfl|simp[q6h,Code.weight,Code.isCreation,Code.isGuard,Code.isCaller,Code.frames,q6i,guardIds]
theorem PK{A:o}{C:O}{us:-L}{kw:-(J×L)}:(A.under (.builtin "type.__call__" ⟨.ref C::us,kw⟩)).units=A.units+1:=by
 first|rfl|simp[q6h,Code.cUnits,Code.frames,q6i]
theorem bB.make{k:Nat}{A:o}(r:bB (k+1) A)(C:O)(us:-L)(kw:-(J×L)):bB k (A.under (.builtin "type.__call__" ⟨.ref C::us,kw⟩)) :=
 ⟨r.hd,by let:=r.dp;rw[PJ];symm,by let:=r.un;rw[PK];symm,r.gd⟩
theorem bB.depth{k:Nat}{A:o}(r:bB k A):A.depth<recursionLimit:=by let:=r.dp;symm
theorem bB.units{k:Nat}{A:o}(r:bB k A):A.units+64<cLine:=by let:=r.un;symm
def rP:TA:=λ_ H Q=>Q [] H
def qA(ta:TE)(tr:TA):TA:=fun σ H Q=>ta σ H λx H1=>tr σ H1 λxs H2=>Q (x::xs) H2
section
variable{X:Cx}{e:l}{es:-l}{te:TE}{t:TA}{pos:y}
theorem c7:JA X [] rP:=⟨λ_ _ _ _ H Q I h=>q6j ⟨[],H,I,.nil,h⟩⟩
theorem kL(ha:JE X e te)(hr:JA X es t)(hs:cI X e es:=by rfl):JA X (e::es) (qA te t):=by
 calc⟨?_⟩;ext pos pins s σ H Q I h;rw[hs];show M _ _ (spliced ((ι,eval e X.env)::backTo pos (starEach es X.env))) _ _ s;calc q5Z (bL (ha pins s σ H _ I h) λu s1 ⟨x,H1,I1,r1,q1⟩=>?_);calc bL (hr pos pins s1 σ H1 _ I1 q1) λus s2 ⟨xs,H2,I2,r2,q2⟩↦⟨x::xs,H2,I2,.cons r1 r2,q2⟩
def Bf(t:TA):TE:=fun σ H Q=>t σ H λxs H1=>↑xs<=sizeLine/\∀p,H1 p=Z->Q (.ref p) (upd H1 p (.tup xs))
def Bg(t:TA):TE:=fun σ H Q=>t σ H λxs H1=>↑xs<=sizeLine/\∀p,H1 p=Z->Q (.ref p) (upd H1 p (.lst xs))
theorem Bh{x1}(h:JA X es t):JE X (.Tuple es x1 pos) (Bf t):=by
 calc⟨?_⟩;ext pins s σ H Q I hq;calc wpAny_Tuple_spliced (bL (h pos pins s σ H _ I hq) λus s1 ⟨xs,H1,I1,r,z,q⟩=>⟨by rw[<-↑r];calc z,?_⟩);let hf:H1 ⇑s1=Z:=I1.bu.fresh (Im _);calc⟨.ref ⇑s1,upd H1 ⇑s1 (.tup xs),I1.laid (t':=s1.toks) (λb u e=>yd _ e) (Im _) ?_,Y,q _ hf⟩;calc⟨z,us,r,⟨_,q0c _ Y,Y,_,Y⟩⟩
theorem Bi(h:JA X es t):JE X (.List es pos) (Bg t):=by
 calc⟨?_⟩;ext pins s σ H Q I hq;calc wpAny_List_spliced (bL (h pos pins s σ H _ I hq) λus s1 ⟨xs,H1,I1,r,z,q⟩=>⟨by rw[<-↑r];calc z,?_⟩);let hf:H1 ⇑s1=Z:=I1.bu.fresh (Im _);calc⟨.ref ⇑s1,upd H1 ⇑s1 (.lst xs),I1.laid (t':=s1.toks) (λb u e=>yd _ e) (Im _) ?_,Y,q _ hf⟩;calc⟨z,us,0,r,q0c _ Y⟩
end
abbrev Sp:=-V->Hp->VK->XK->Prop
abbrev lI:=-X->Hp->B->XK->L->B->Prop
structure jH(P:t)(w:S)(K:My)(mg:J->Option L)(base:I)(A:Β)(outer:-X)(s:B)(H:Hp):Prop where
 frames:A.frames=U outer
 mod:Mod K mg base
 bs:∀b o,base.get? b=U o->s.heap.get? b=U o/\(H b=Z\/∃xs,H b=U (.tup xs))
 l8:base.objs.size<=⇑s
 eJ:s.heap.FunFrames base outer
 nM:∀b∈lF outer,H b=Z
 bu:eT P w H s.heap
 bare:AllBare s.gens
def CE(outer:-X)(P:t)(w:S)(H:Hp)(s:B)(Q:VK)(u:L)(s':B):Prop :=
 ∃v H',s'.os=s.os/\AllBare s'.gens/\Un (lF outer) [] H H' s.heap s'.heap/\eT P w H' s'.heap/\RelV v u/\Q v H'
def CR(CX:lI)(outer:-X)(P:t)(w:S)(H:Hp)(s:B)(Q:VK)(E:XK)(r:Result)(s':B):Prop :=
 match r with
 |.ok (.ret u)=>CE outer P w H s Q u s'
 |.ok _=>False
 |.error e=>CX outer H s E e s'
structure cf(P:t)(w:S)(K:My)(mg:J->Option L)(base:I)(CX:lI)(k:Nat)(f:O)(fd:FuncData)(ps:-J)(sp:Sp):Prop where
 len:∀vs H Q E,sp vs H Q E->↑vs=↑ps
 run:∀(A:o)(outer:-X)(s:B)(H:Hp)(args:Args)(us:-L)(vs:-V)(Q:VK)(E:XK),bB k A->jH P w K mg base A outer s H->BindsTo s fd args (ps.zip us)->Vals vs us->sp vs H Q E →
  codeAny (g P w) A (.call (.ref f) args) (CR CX outer P w H s Q E) s
theorem jH.make{P:t}{w:S}{K:My}{mg:J->Option L}{base:I}{A:o}{outer:-X}{s:B}{H:Hp}(e:jH P w K mg base A outer s H)(C:O)(us:-L)(kw:-(J×L)):
  jH P w K mg base (A.under (.builtin "type.__call__" ⟨.ref C::us,kw⟩)) outer s H:=⟨by first|exact e.frames|(simpa[q6h,Code.envs,q6i,pushEnvs] using e.frames),e.mod,e.bs,e.l8,e.eJ,e.nM,e.bu,e.bare⟩
section
variable{X:Cx}{pins:aM}{σ:St}{H:Hp}{s s':B}
theorem Inv.rQ(I:Inv X pins σ H s):jH X.prog X.w X.K X.mg X.base X.A X.stack s H :=
 ⟨I.ok.frames,I.ok.mod,I.bs,q0B I.ok.l8 I.sz,I.stack,I.j9,I.bu,I.bare⟩
theorem Inv.after{Q:VK}{u:L}(I:Inv X pins σ H s)(h:CE X.stack X.prog X.w H s Q u s'):EP X pins σ Q u s':=by
 let⟨v,H',os,bare,un,bu,r,q⟩:=h;let⟨hh,g,d,t,rB⟩:=s';obtain rfl:rB=s.os:=os;calc⟨v,H',I.call (h':=hh) (g':=g) (d':=d) (t':=t) (ch:=[]) un bu bare (λb z=>absurd z (by simp)),r,q⟩
end
def vq(sp:Sp)(gg:-V)(E:XK)(t:TA):TE:=fun σ H Q=>t σ H λvs H1=>sp (vs++gg) H1 Q E
def Bj(C:O)(m:J)(sp:Sp)(gg:-V)(E:XK)(ta:TE)(t:TA):TE:=fun σ H Q=>ta σ H λx H1=>∃a dx fs,x=.ref a/\H1 a=U (.ins C dx fs)/\fs.lookup m=Z ∧
 t σ H1 λvs H2=>sp (x::(vs++gg)) H2 Q E
def PL(C:O)(sp:Sp)(gg:-V)(E:XK)(t:TA):TE:=fun σ H Q=>t σ H λvs H1=>∀x dx,H1 x=Z->H1 dx=Z->dx≠x →
 sp (.ref x::(vs++gg)) (upd (upd H1 dx (.own x)) x (.ins C dx [])) (λv H2=>v=.non/\Q (.ref x) H2) E
def Binds(K:My)(fd:FuncData)(ps:-J)(ds:-L):Prop :=
 ∀(s:B)(us:-L),K.In s.heap->↑(us++ds)=↑ps->BindsTo s fd ⟨us,[]⟩ (ps.zip (us++ds))
theorem Binds.all{K:My}{fd:FuncData}{ps:-J}(h:∀us:-L,↑us=↑ps->bindArgs fd ⟨us,[]⟩=pure (ps.zip us)):Binds K fd ps []:=λs us _ hl=>by
 rw[oO] at hl ⊢;calc .of_eq (h us hl)
def qB(CX:lI)(X:Cx)(E:XK):Prop:=∀(pins:aM)(σ:St)(H:Hp)(s:B)(e:L)(s':B),Inv X pins σ H s->CX X.stack H s E e s'->X.xe e s'
section
variable{X:Cx}{CX:lI}{k:Nat}{f C:O}{fd:FuncData}{ps:-J}{sp:Sp}{gg:-V}{ds:-L}{E:XK}{x m:J}{p pos apos:y}{e o:l}{es:-l}{ta:TE}{t:TA}
theorem x8{pins:aM}{σ:St}{H:Hp}{s:B}{Q:VK}{us:-L}{vs:-V}(F:cf X.prog X.w X.K X.mg X.base CX k f fd ps sp)(hr:bB k X.A)(hb:Binds X.K fd ps ds)(hd:Vals gg ds)(hx:qB CX X E)
  (I:Inv X pins σ H s) (r:Vals vs us) (h:sp (vs++gg) H Q E):M (g X.prog X.w) X.A (call (.ref f) us) (EP X pins σ Q) X.xe s:=by
 let r2:Vals (vs++gg) (us++ds):=r.append hd;let hl:↑(us++ds)=↑ps:=by rw[<-↑r2];exact F.len _ _ _ _ h
 refine q4Q (q2O (F.run X.A X.stack s H ⟨us,[]⟩ (us++ds) (vs++gg) Q E hr I.rQ (hb s us I.fJ hl) r2 h) λr s' hq=>?_)
 cases r with
 |error e=>exact hx pins σ H s e s' I hq
 |ok fl =>
  cases fl with
  |ret u=>exact I.after hq
  |next=>exact q1t hq
  |brk=>exact q1t hq
  |cont=>calc q1t hq
theorem vt(F:cf X.prog X.w X.K X.mg X.base CX k f fd ps sp)(hr:bB k X.A)(hg:Gl X x)(hm:X.mg x=U (.ref f))(hk:q0_ X.K (.ref f)=θ)(hb:Binds X.K fd ps ds)(hd:Vals gg ds)(hx:qB CX X E)
  (ha:JA X (e::es) t) (c8:b7 x:=by decide) (he:cI X e es:=by rfl) (cX:cS X pos es:=by rfl) :
  JE X (.Call (.Name x p) (e::es) [] pos) (vq sp gg E t):=by
 calc⟨?_⟩;ext pins s σ H Q I h;calc q2m (xU I hg hm ?_ c8);calc q3Z (h₀:=X.base) I.ok.mod.gG hk (bL (ha pos pins s σ H _ I h) λus s1 ⟨vs,H1,I1,r,q⟩=>⟨I1.fJ,?_⟩) he cX;calc x8 F hr hb hd hx I1 r q
theorem PM(F:cf X.prog X.w X.K X.mg X.base CX k f fd ps sp)(hr:bB k X.A)(hg:Gl X x)(hm:X.mg x=U (.ref f))(hk:q0_ X.K (.ref f)=θ)(hb:Binds X.K fd ps ds)(hd:Vals gg ds)(hx:qB CX X E)
  (c8:b7 x:=by decide):JE X (.Call (.Name x p) [] [] pos) (vq sp gg E rP):=by
 calc⟨?_⟩;ext pins s σ H Q I h;calc q2m (xU I hg hm ?_ c8);calc q5C I.fJ hk (x8 (us:=[]) F hr hb hd hx I .nil h)
theorem PN {pl:Sem Bool} (he:JE X o ta) (c:iW X.K C) (hm:Meth X.K C m f) (F:cf X.prog X.w X.K X.mg X.base CX k f fd ps sp) (hr:bB k X.A) (hb:Binds X.K fd ps ds) (hd:Vals gg ds) (hx:qB CX X E) (ha:JA X (e :: es) t)
  (jE:cI X e es:=by rfl) (cX:cS X pos es:=by rfl)
  (ht:eval (.Call (.Attribute o m apos) (e :: es) [] pos) X.env=(do
   let ov <- eval o X.env
   standAt apos.atName
   let (f,first) <- holding [ov] (getMethod ov m pl)
   callWith pos f first (backTo pos (starEach (e :: es) X.env)) (backToKw pos (keywordEach [] X.env))):=by rfl) :
  JE X (.Call (.Attribute o m apos) (e :: es) [] pos) (Bj C m sp gg E ta t):=by
 calc⟨?_⟩;ext pins s σ H Q I h;calc q5i (pl:=pl) (bL (he pins s σ H _ I h) λu s1 ⟨x,H1,I1,rx,a,dx,fs,ex,ea,l,q⟩ => ?_) ht;subst ex;obtain rfl:u=q0J a:=rx;calc HA I1 ea c hm l ?_;calc q3Z (first:=[.ref a]) (h₀ := X.base) I.ok.mod.gG hm.kp (bL (ha pos pins s1 σ H1 _ I1 q) λus s2 ⟨vs,H2,I2,r,q2⟩=>⟨I2.fJ,?_⟩) jE cX;calc x8 (us := .ref a :: us) (vs := .ref a :: vs) F hr hb hd hx I2 (.cons Y r) q2
theorem PQ {pl:Sem Bool} (he:JE X o ta) (c:iW X.K C) (hm:Meth X.K C m f) (F:cf X.prog X.w X.K X.mg X.base CX k f fd ps sp) (hr:bB k X.A) (hb:Binds X.K fd ps ds) (hd:Vals gg ds) (hx:qB CX X E)
  (ht:eval (.Call (.Attribute o m apos) [] [] pos) X.env=(do
   let ov <- eval o X.env
   standAt apos.atName
   let (f,first) <- holding [ov] (getMethod ov m pl)
   callWith pos f first (backTo pos (starEach [] X.env)) (backToKw pos (keywordEach [] X.env))):=by rfl) :
  JE X (.Call (.Attribute o m apos) [] [] pos) (Bj C m sp gg E ta rP):=by
 calc⟨?_⟩;ext pins s σ H Q I h;calc q5i (pl:=pl) (bL (he pins s σ H _ I h) λu s1 ⟨x,H1,I1,rx,a,dx,fs,ex,ea,l,q⟩ => ?_) ht;subst ex;obtain rfl:u=q0J a:=rx;calc HA I1 ea c hm l ?_;calc q5C (first:=[.ref a]) I1.fJ hm.kp (x8 (us:=[.ref a]) (vs:=[.ref a]) F hr hb hd hx I1 (.cons Y .nil) q)
structure Mk(K:My)(C f:O):Prop where
 makes:q63 K C=θ
 init:q1z K (.ref C) "__init__" = U (U (.ref f))
 fn:q4T K (.ref f)=θ
 kp:q0_ K (.ref C)=θ
theorem PR{pins:aM}{σ:St}{H:Hp}{s:B}{Q:VK}{us:-L}{vs:-V}(M:Mk X.K C f)(F:cf X.prog X.w X.K X.mg X.base CX k f fd ps sp)(hr:bB (k+1) X.A)(hb:Binds X.K fd ps ds)(hd:Vals gg ds)
  (hx:qB CX X E) (I:Inv X pins σ H s) (r:Vals vs us)
  (h:∀x dx,H x=Z->H dx=Z->dx≠x->sp (.ref x::(vs++gg)) (upd (upd H dx (.own x)) x (.ins C dx [])) (λv H2=>v=.non/\Q (.ref x) H2) E) :
  ρ (g X.prog X.w) X.A (call (.ref C) us) (EP X pins σ Q) X.xe s:=by
 let hq:=h (⇑s+1) ⇑s (I.bu.fresh (q3C _)) (I.bu.fresh (Im _)) (q0g (q0T _));let I2:=Inv.made (C:=C) I;let r2:Vals (V.ref (⇑s+1)::(vs++gg)) (q0J (⇑s+1)::(us++ds)):=.cons Y (r.append hd)
 let hl:↑(q0J (⇑s+1)::us++ds)=↑ps:=by
  let e:=↑r2;rw[F.len _ _ _ _ hq] at e;exact e.symm
 refine q4Q (PA (f:=f) I.fJ M.makes M.init (q4U.mp M.fn) (q2O (F.run _ X.stack _ _ ⟨q0J (⇑s+1)::us,[]⟩ (q0J (⇑s+1)::(us++ds)) _ _ E (hr.make C us [])
  (I2.rQ.make C us []) (hb _ (q0J (⇑s+1)::us) I2.fJ hl) r2 hq) λr s' qC=>?_))
 cases r with
 |error e=>exact hx pins σ _ _ e s' I2 qC
 |ok fl =>
  cases fl with
  |ret u =>
   let⟨v,H',I3,rv,ev,q3⟩:=I2.after qC;subst ev;exact⟨rv,⟨V.ref (⇑s+1),H',I3,Y,q3⟩⟩
  |next=>exact q1t qC
  |brk=>exact q1t qC
  |cont=>calc q1t qC
theorem PS(M:Mk X.K C f)(F:cf X.prog X.w X.K X.mg X.base CX k f fd ps sp)(hr:bB (k+1) X.A)(hg:Gl X x)(hm:X.mg x=U (.ref C))(hb:Binds X.K fd ps ds)(hd:Vals gg ds)(hx:qB CX X E)
  (ha:JA X (e::es) t) (c8:b7 x:=by decide) (he:cI X e es:=by rfl) (cX:cS X pos es:=by rfl) :
  JE X (.Call (.Name x p) (e::es) [] pos) (PL C sp gg E t):=by
 calc⟨?_⟩;ext pins s σ H Q I h;calc q2m (xU I hg hm ?_ c8);calc q3Z (h₀:=X.base) I.ok.mod.gG M.kp (bL (ha pos pins s σ H _ I h) λus s1 ⟨vs,H1,I1,r,q⟩=>⟨I1.fJ,?_⟩) he cX;calc PR M F hr hb hd hx I1 r q
end
section
variable{X:Cx}{CX:lI}{k:Nat}{f C:O}{fd:FuncData}{ps ks:-J}{sp:Sp}{E:XK}{x m:J}{p pos apos kM:y}{e o:l}{es:-l}{Z7:-Keyword}{te ta:TE}{t tk:TA}{nm:Option J}
variable{g:-L->-L->-L}{gV:-V->-V->-V}
end
structure oF(N P:-J)(sc:a):Prop where
 kind:sc.kind=.function
 co:sc.isCoroutine=ι
 gen:sc.isGenerator=ι
 nd:N.Nodup
 pre:N.take ↑P=P
 par:∀x∈P,sc.names.lookup x=U .local\/sc.names.lookup x=U .cell
 rR:∀y∈sc.names,y.2≠.free
theorem HC{kindOf:J->Option NameKind}{x:J}:∀{binds:-(J×L)}{m:J->Option L},(∀v,(x,v)∉binds)->bindL kindOf binds m x=m x
 |[],_,_=>Y
 |(n,v)::r,m,h=>by
  unfold bindL;rw[HC λw hw=>h w (q0l _ hw)];split
  .let:x≠n:=by ext rfl;exact h v q0m
   simp[this]
  .rfl
theorem HD{kindOf:J->Option NameKind}{x:J}:∀{binds:-(J×L)}{m:J->Option L},(∀v,(x,v)∉binds)->bindC kindOf binds m x=m x
 |[],_,_=>Y
 |(n,v)::r,m,h=>by
  unfold bindC;rw[HD λw hw=>h w (q0l _ hw)];split
  .rfl
  .let:x≠n:=by ext rfl;exact h v q0m
   simp[this]
theorem HE{kindOf:J->Option NameKind}{x:J}{v:L}:∀{P:-J}{vs:-L}{i:Nat}{m:J->Option L},P.Nodup->P[i]?=U x->vs[i]?=U v->kindOf x=U .local →
  bindL kindOf (P.zip vs) m x=U v
 |[],_,_,_,_,h,_,_=>by simp at h
 |_::_,[],_,_,_,_,h,_=>by simp at h
 |p::P,w::vs,0,m,nd,h1,h2,hk=>by
  simp at h1 h2;subst h1;subst h2;show bindL kindOf ((p,w)::P.zip vs) m p=_;unfold bindL;rw[HC λv hv=>(q2u.mp nd).1 (q46 hv).1,q0k hk];simp
 |p::P,w::vs,i+1,m,nd,h1,h2,hk=>by
  show bindL kindOf ((p,w)::P.zip vs) m x=_;unfold bindL;calc HE (i:=i) (q2u.mp nd).2 h1⁻¹ h2⁻¹ hk
theorem HF{kindOf:J->Option NameKind}{x:J}{v:L}:∀{P:-J}{vs:-L}{i:Nat}{m:J->Option L},P.Nodup->P[i]?=U x->vs[i]?=U v->kindOf x≠U .local →
  bindC kindOf (P.zip vs) m x=U v
 |[],_,_,_,_,h,_,_=>by simp at h
 |_::_,[],_,_,_,_,h,_=>by simp at h
 |p::P,w::vs,0,m,nd,h1,h2,hk=>by
  simp at h1 h2;subst h1;subst h2;show bindC kindOf ((p,w)::P.zip vs) m p=_;unfold bindC;rw[HD λv hv=>(q2u.mp nd).1 (q46 hv).1,q0i hk];simp
 |p::P,w::vs,i+1,m,nd,h1,h2,hk=>by
  show bindC kindOf ((p,w)::P.zip vs) m x=_;unfold bindC;calc HF (i:=i) (q2u.mp nd).2 h1⁻¹ h2⁻¹ hk
noncomputable def start(N:-J)(vs:-V):St:=vs.map U++q0h (↑N-↑vs) Z
noncomputable def fz(CX:lI)(P:t)(w:S)(K:My)(mg:J->Option L)(base:I)(N:-J)(qual:J)(scope:a)(f:O)(cd:L)(A:o)(outer:-X)(s:B)(H:Hp)(E:XK):Cx where
 prog:=P
 w:=w
 K:=K
 mg:=mg
 base:=base
 A:=A.deeper (envOfC qual scope ⇑s f cd)
 N:=N
 s₀:=s
 H₀:=H
 env:=envOfC qual scope ⇑s f cd
 outer:=outer
 stack:=envOfC qual scope ⇑s f cd::outer
 ex:=[]
 calm:=true
 fn:=λ_=>θ
 pn:=[]
 xe:=λe s'=>M (g P w) (A.deeper (envOfC qual scope ⇑s f cd)) (leaving (envOfC qual scope ⇑s f cd) e) (λ_ jI=>CX outer H s E e jI) (λe' jI=>CX outer H s E e' jI) s'
theorem HG{sc:a}{n:Nat}{x:J}(h:sc.names.lookup x=U .cell):∃c,(cellsFrom n sc.names []).lookup x=U c:=by
 let q:=q3j sc.names n [] (.inl h);calc q4p.mp q
theorem PT{CX:lI}{P:t}{w:ω}{K:My}{mg:J->Option L}{base:I}{N ps:-J}{qual:J}{scope:Δ}{f:O}{cd:L}{A:o}{outer:-X}{s s1:B}{H:Hp}{E:XK}{us:-L}{vs:-V}
  (S:oF N ps scope) (hd:A.handled=Z) (e0:jH P w K mg base A outer s H) (hl:↑vs=↑ps) (r:Vals vs us)
  (x:InCallC s ⇑s (bindL (envOfC qual scope ⇑s f cd).kindOf (ps.zip us) λ_=>Z) (cellsFrom (⇑s+1) scope.names []) (bindC (envOfC qual scope ⇑s f cd).kindOf (ps.zip us) λ_=>Z) s1) :
  Inv (fz CX P w K mg base N qual scope f cd A outer s H E) [] (start N vs) H s1:=by
 let cX:↑ps<=↑N:=by let:=congrArg List.length S.pre;rw[q0D] at this;symm
 let⟨h1,tk,rfl,hk⟩:=x.done;let oG:∀b:O,b∉(fz CX P w K mg base N qual scope f cd A outer s H E).ex:=λb z=>absurd (show b∈([]:-O) from z) (by simp)
 refine⟨⟨e0.mod,S.kind,Y,Y,Im _,λy z c h1 h2=>?_,λy hy=>?_,λy c _ h=>?_,λ_=>hd,q5w e0.frames,.inr ⟨Y,Y⟩,λb z=>absurd z (oG b),e0.bs,e0.l8,λb _ _=>oG b,λb z=>absurd z (oG b),e0.eJ,e0.nM⟩,
  Y,e0.bare,Un.kept hk,⟨_,x.toInCall.ns,λi y v h1 h2 h3=>?_⟩,λy c h=>⟨_,x.cell y c h⟩,e0.bu.fresh (Im _),λy c h=>?_,λp hp=>absurd (show p∈([]:aM) from hp) (by simp),e0.bu.kept hk,?_⟩
 .exact name_of_addr x.apart (q1r h1) (q1r h2)
 .let hy:scope.names.lookup y=U .cell\/scope.names.lookup y=U .free:=hy
  rcases hy with hy|hy
  .exact HG hy
  .exact absurd Y (S.rR _ (q1r hy))
 .exact q1e (x.above y c (q1r h))
 .let hi:i<↑vs:=by
   unfold start at h2
   by_cases hi:i<↑vs
   .exact hi
   .rw[q0b hi⁻¹] at h2
    rw[q2_] at h2;split at h2<;>cases h2
  let ha:vs[i]?=U v:=by
   unfold start at h2;rw[Z_ hi⁻¹,Qw] at h2
   cases e:vs[i]? with
   |none=>rw[e] at h2;cases h2
   |some a=>rw[e] at h2;cases h2;rfl
  let⟨u,hu,rv⟩:=r.get ha
  let hp:ps[i]?=U y:=by
   rw[<-S.pre,q0N ⋯];exact h1
  let HH:ps.Nodup:=by rw[<-S.pre];exact S.nd.sublist (q57 _ _)
  calc⟨u,rv,?_⟩;rcases S.par y (q0S hp) with k|k
  .exact .inl ⟨k,HE HH hp hu k⟩
  .let⟨c,e⟩:=HG (n:=⇑s+1) k
   calc .inr ⟨.inl k,c,e,?_⟩;let q:=x.cell y c e;rw[HF HH hp hu (by show scope.names.lookup y≠_;rw[k];decide)] at q;exact q
 .exact e0.bu.fresh (q1e (x.above y c (q1r h)))
 .unfold start
  show _=↑N;rw[Qs,BE,q3r];symm
theorem HI{CX:lI}{P:ψ}{w:ω}{K:My}{mg:π->Option L}{base:Α}{k:Nat}{f:O}{name qual:π}{params:Arguments}{body:-R}{scope:a}{dV kV doc pm bJ ct oc:L}{an od:Option O}
  {oH:Array (Option L)} {N ps:-π} {sp:Sp} (lk:K.lookup f=U ⟨oc,od,.func (q1a name qual params body scope dV kV doc pm an bJ ct),oH⟩) (hX:q2U K bJ qual=θ) (S:oF N ps scope)
  (len:∀vs H Q E,sp vs H Q E->↑vs=↑ps)
  (eY:∀(A:Β)(outer:-X)(s:B)(H:Hp)(vs:-V)(Q:VK)(E:XK),bB k (A.deeper (envOfC qual scope ⇑s f bJ))->sp vs H Q E →
   ∃t,dM (fz CX P w K mg base N qual scope f bJ A outer s H E) body t/\t {nx:=λ_ H'=>Q .non H',rt:=Q} (start N vs) H) :
  cf P w K mg base CX (k+1) f (q1a name qual params body scope dV kV doc pm an bJ ct) ps sp:=by
 calc⟨len,λA outer s H args us vs Q E hr e0 hb r qD=>?_⟩;let hl:=len _ _ _ _ qD;let KX:K.In s.heap:=e0.mod.gG.keeps λb o e=>(e0.bs b o e).1;let lim:s.heap.NoLimit:=e0.mod.nolimit.keeps λb o e=>(e0.bs b o e).1
 let vv:∀y∈ps.zip us,scope.names.lookup y.1=U .local\/(scope.names.lookup y.1=U .cell/\((cellsFrom (⇑s+1) scope.names []).lookup y.1).isSome=θ):=λ⟨n,v⟩ hy↦by
  rcases S.par n (q46 hy).1 with q|q
  .exact .inl q
  .exact .inr ⟨q,q3j _ _ _ (.inl q)⟩
 calc codeAny_call_function hr.depth (KX _ _ lk) Y S.co S.gen Y (PySem.W.codeRec_of KX hX) (hb _ _ _ _ ?_);calc wpAny_newFunctionEnv_cells S.kind vv λenv he s1 x=>?_;subst he;calc⟨lim.keeps x.toInCall.keep,codeAny_func ?_⟩;let⟨t,ht,hq⟩:=eY A outer s H vs Q E (hr.deeper _) qD;let I:Inv (fz CX P w K mg base N qual scope f bJ A outer s H E) [] (start N vs) H s1:=PT S hr.hd e0 hl r x;refine q1U (ht [] s1 (start N vs) H _ I hq) (λfl s' hs=>?_) λe s' hs=>hs
 let fin:∀{σ':St}{H':Hp}{v:V}{u:L},Inv (fz CX P w K mg base N qual scope f bJ A outer s H E) [] σ' H' s'->RelV v u->Q v H'->CE outer P w H s Q u s' :=
  λ{σ' H' v u} J rv q=>⟨v,H',J.os,J.bare,J.base,J.bu,rv,q⟩
 cases fl with
 |ret u =>
  let⟨v,σ',H',J,rv,q⟩:=hs;exact fin J rv q
 |next =>
  let⟨σ',H',J,q⟩:=hs;exact fin (v:=V.non) (u:=q0E) J Y q
 |brk =>
  let⟨_,_,_,q⟩:=hs;exact q1t q
 |cont =>
  let⟨_,_,_,q⟩:=hs;calc q1t q
section
variable{X:Cx}{x:J}{p pos:y}{e:l}{es:-l}{t:TA}{id T:String}{r:-V->Hp->VK->Prop}
def x9(r:-V->Hp->VK->Prop)(t:TA):TE:=fun σ H Q=>t σ H λvs H1=>r vs H1 Q
theorem x_(hc:gZ X (.builtin id) r)(hg:Gl X x)(hm:X.mg x=Z)(hv:bootBuiltins x=U (.builtin id))(ha:JA X (e::es) t)(hn:x≠"__name__" := by decide)(c8:b7 x:=by decide)
  (he:cI X e es:=by rfl) (cX:cS X pos es:=by rfl):JE X (.Call (.Name x p) (e::es) [] pos) (x9 r t):=by
 calc⟨?_⟩;ext pins s σ H Q I h;calc q2m (oA I hg hm hv ?_ hn c8);calc PyProof.Rows.callWith_builtin1 (bL (ha pos pins s σ H _ I h) λus s1 ⟨vs,H1,I1,r1,q1⟩↦hc pins s1 σ H1 vs us Q I1 r1 q1) he cX
theorem rS(hc:gZ X (.type T) r)(hg:Gl X x)(hm:X.mg x=Z)(hv:bootBuiltins x=U (.type T))(ha:JA X (e::es) t)(hn:x≠"__name__" := by decide)(c8:b7 x:=by decide)
  (he:cI X e es:=by rfl) (cX:cS X pos es:=by rfl):JE X (.Call (.Name x p) (e::es) [] pos) (x9 r t):=by
 calc⟨?_⟩;ext pins s σ H Q I h;calc q2m (oA I hg hm hv ?_ hn c8);calc q1w (bL (ha pos pins s σ H _ I h) λus s1 ⟨vs,H1,I1,r1,q1⟩↦hc pins s1 σ H1 vs us Q I1 r1 q1) he cX
end
end L2
namespace HT
open PySem PyProof.Rows
noncomputable def lexLt:-Int->-Int->Bool
 |[],[]=>ι
 |[],_::_=>θ
 |_::_,[]=>ι
 |x::xs,y::ys=>if x=y then lexLt xs ys else G (x<y)
theorem oJ(x y:Int)(xs ys:-Int):lexLt (x::xs) (y::ys)=if x=y then lexLt xs ys else G (x<y):=rfl
theorem HJ:lexLt [] []=ι:=rfl
theorem HK(y:Int)(ys:-Int):lexLt [] (y::ys)=θ:=rfl
theorem HL(x:Int)(xs:-Int):lexLt (x::xs) []=ι:=rfl
theorem HM(A:o)(s:B)(a:Int)(t:Tok)(c:Int)(u:Tok):∃e,q4S A s (.int a t) (.int c u) e/\(e=θ↔a=c) :=
 ⟨(a==c),q50 a t c u,by simp⟩
theorem PU(A:o)(s:B)(a:Int)(t:Tok)(c:Int)(u:Tok)(prog:ψ)(w:S)(E:bA)(Q:bA)(h:Q (.bool (G (a<c))) s):
  M (g prog w) A (richCompare .Lt (.int a t) (.int c u)) Q E s :=
 (q3N h:M (g prog w) A (compareOp .Lt (.int a t) (.int c u)) Q E s)
section
open PySem.SeqAt
open PySem.AutoSeq1 (wpAny_loadPart')
open PySem.MeetsSeq PySem.MeetsSeq2 PySem.MeetsSeq3
theorem PV(l b:O)(items bI:Array L)(n n2:Nat)(dd lJ:Option O)(sl lK:Array (Option L))(ns ms:-Int)(hi:IntsAre items.toList ns)(hj:IntsAre bI.toList ms):
  Meets (Builtin.«tuple.__lt__» ⟨[.ref l,.ref b],[]⟩)
   (λ_ R s=>s.heap.get? l=U {cls:=.type "tuple",dict:=dd,data:=.seq items n,slots:=sl}/\s.heap.get? b=U {cls:=.type "tuple",dict:=lJ,data:=.seq bI n2,slots:=lK} ∧
    R (.ok (.ret (.bool (lexLt ns ms)))) s) :=
 .of_wp λprog w A R s h=>by
  let⟨hp,g,d,tk,os⟩:=s;let⟨hl,hb,h⟩:=h;let f2:=q4q;let z1:items.size=↑ns:=by rw[<-↑hi];simp
  let z2:bI.size=↑ms:=by rw[<-↑hj];simp
  wp_walk using q1m hl,q1m hb,q4z _ (λrest b s'=>b.1=Z/\s'=⟨hp,g,d,tk,os⟩/\∃(vs ws:-L)(dF kN:-Int),rest=vs.zip ws ∧
   IntsAre vs dF/\IntsAre ws kN/\↑dF+bI.size=↑kN+items.size/\R (.ok (.ret (.bool (lexLt dF kN)))) ⟨hp,g,d,tk,os⟩) _
  case turn =>
   ext⟨y,x⟩ rest b s' ⟨hb',rfl,vs,ws,dF,kN,hz,rT,oK,hlen,hR⟩
   cases rT with
   |nil=>rw[q2T] at hz;cases hz
   |cons a t rU =>
    cases oK with
    |nil=>rw[q30] at hz;cases hz
    |cons c u rV =>
     rw[q2a] at hz;injection hz with Bk mi;injection Bk with hy hx;subst hy hx;rw[oJ] at hR;erw[Ip] at hlen;let⟨e,he,ml⟩:=HM A.in1 ⟨hp,g,d,tk,os⟩ a t c u;refine sf (he prog w _ _ ?_)
     cases e with
     |true =>
      rw[q0k (ml.mp Y)] at hR
      wp_walk
      exact⟨Y,Y,_,_,_,_,mi,rU,rV,⋯,hR⟩
     |false =>
      rw[q0i (λq=>absurd (ml.mpr q) q0F)] at hR;let Bl:=PU A.in1 ⟨hp,g,d,tk,os⟩ a t c u prog w
      wp_walk using Bl
      exact⟨_,Y,by simpa using hR⟩
  case fin =>
   ext⟨b1,b2⟩ s' ⟨hb',rfl,vs,ws,dF,kN,hz,rT,oK,hlen,hR⟩;simp only at hb';subst hb'
   let hv:lexLt dF kN=G (items.size<bI.size):=by
    cases rT with
    |nil =>
     cases oK with
     |nil =>
      erw[q1n] at hlen;rw[HJ];exact(q0e ⋯).symm
     |cons c u hw =>
      erw[q1n,Ip] at hlen;rw[HK];exact(q0n ⋯).symm
    |cons a t hv =>
     cases oK with
     |nil =>
      erw[q1n,Ip] at hlen;rw[HL];exact(q0e ⋯).symm
     |cons c u hw =>
      rw[q2a] at hz;cases hz
   rw[hv] at hR
   wp_walk
   exact⟨_,Y,by simpa[q3p] using hR⟩
  case h =>
   calc⟨Y,Y,items.toList,bI.toList,ns,ms,Y,hi,hj,⋯,h⟩
end
section
variable{prog:t}{w:S}{A:o}{E:bA}{s:B}
theorem Bm{l b:O}{items bI:Array L}{ns ms:-Int}{Q:bA}(hl:IsTup s.heap l items)(hb:IsTup s.heap b bI)(hi:IntsAre items.toList ns)(hj:IntsAre bI.toList ms)
  (hu:A.units<cLine) (h:Q (.bool (lexLt ns ms)) s):M (g prog w) A (compareOp .Lt (.ref l) (.ref b)) Q E s:=by
 let⟨⟨cls,dd,data,sl⟩,ho,hc,n,hd⟩:=id hl;let⟨⟨rW,lJ,data2,lK⟩,fW,jJ,n2,hd2⟩:=id hb;simp only at hc hd jJ hd2;subst hc hd jJ hd2
 exact q4V (op:=.Lt) ⟨_,ho,Y⟩ ⟨_,fW,Y⟩ PySem.F.slot_tuple_lt PySem.F.entry_tuple_lt (PySem.F.args_tuple_lt_2 _ _) (PV l b items bI n n2 dd lJ sl lK ns ms hi hj)
  ⟨ho,fW,show q2P (lexLt ns ms)≠q5x/\Q (.bool (lexLt ns ms)) s from⟨(λx=>nomatch x),h⟩⟩ hu
theorem PW{t b:O}{vs ws:-L}{Q:bA}(ht:IsTup s.heap t vs.toArray)(hb:IsTup s.heap b ws.toArray)(hv:vs≠[])
  (h1:ws=[]->Q (.ref t) s) (h2:ws≠[]->Q (.ref ⇑s) {s with heap:=s.heap.push {cls:=.type "tuple",data:=.seq (vs++ws).toArray}})
  (hsz:↑vs+↑ws<=sizeLine):M (g prog w) A (binaryOp .Add (.ref t) (.ref b)) Q E s:=by
 let⟨⟨cls,dd,data,sl⟩,ho,hc,n,hd⟩:=id ht;let⟨⟨rW,lJ,data2,lK⟩,fW,jJ,n2,hd2⟩:=id hb;simp only at hc hd jJ hd2;subst hc hd jJ hd2;let e:vs.toArray++ws.toArray=(vs++ws).toArray:=by simp
 by_cases hw:ws=[]
 .exact q6k ⟨_,ho,Y⟩ ⟨_,fW,Y⟩ q4F q5O q3k q3a (q24 _ _)
   (tuple_addW1 t b vs.toArray ws.toArray n n2 dd lJ sl lK hv⁻¹ (by simp[hw])) ⟨ho,fW,h1 hw⟩
 .refine q6k ⟨_,ho,Y⟩ ⟨_,fW,Y⟩ q4F q5O q3k q3a (q24 _ _)
   (tuple_addW2 t b vs.toArray ws.toArray n n2 dd lJ sl lK hv⁻¹ hw⁻¹ (by rw[Qt,Qt];calc hsz)) ⟨ho,fW,?_⟩
  rw[e];calc h2 hw
noncomputable def bP(n d:Nat):Option Int->Nat
 |none=>d
 |some v=>if v<0 then(v+(n:Int)).toNat else min v.toNat n
theorem HN(n d:Nat):bP n d Z=d:=rfl
theorem ya(n d k:Nat):bP n d (U (k:Int))=min k n:=by
 show(if(k:Int)<0 then((k:Int)+(n:Int)).toNat else min (k:Int).toNat n)=min k n;rw[q0i ⋯,q0x]
theorem PX(n d:Nat)(hd:d<=n)(o:Option Int):bP n d o<=n:=by
 cases o with
 |none=>exact hd
 |some v =>
  show(if v<0 then(v+(n:Int)).toNat else min v.toNat n)<=n
  by_cases hv:v<0
  .rw[q0k hv];symm
  .rw[q0i hv];calc Nat.min_le_right _ _
theorem HP(v:Int)(n d:Nat):(if v<0 then max (v+(n:Int)) 0 else min v (n:Int))=((bP n d (U v):Nat):Int):=by
 show(if v<0 then max (v+(n:Int)) 0 else min v (n:Int))=(((if v<0 then(v+(n:Int)).toNat else min v.toNat n):Nat):Int)
 by_cases hv:v<0
 .erw[q0k hv];symm
 .erw[q0i hv];symm
theorem PY(lo hi:Option Int)(n:Nat):q2Z lo hi 1 (n:Int)=(((bP n 0 lo:Nat):Int),((bP n n hi:Nat):Int)):=by
 let h1:¬ ((1:Int)<0):=by symm
 unfold q2Z;erw[h1,q2g];refine Prod.ext ?_ ?_
 .cases lo with
  |none=>rfl
  |some v=>exact HP v n 0
 .cases hi with
  |none=>rfl
  |some v=>calc HP v n n
theorem PZ(i j:Nat):q2s (i:Int) (j:Int) 1=j-i:=by
 unfold q2s;let h1:(1:Int)>0:=by symm
 erw[h1,q2N,Int.ediv_one];split<;>symm
theorem HQ{v:L}{o:Option Int}{Q:Option Int->B->Prop}(p:IsPart v o)(h:Q o s):M (g prog w) A (Builtin.Slice.slicePartIndex v) Q E s:=by
 cases p with
 |none=>exact slicePart_none h
 |int i t=>calc slicePart_int h
theorem HR{sl:O}{vl vu:L}{lo hi:Option Int}{n:Nat}{Q:Int×Int×Nat->B->Prop}(hs:s.heap.IsSliceOf sl vl vu .none)(pl:IsPart vl lo)(pu:IsPart vu hi)
  (h:Q (((bP n 0 lo:Nat):Int),1,bP n n hi-bP n 0 lo) s):M (g prog w) A (q31 (.ref sl) (pure (n:Int))) Q E s:=by
 let⟨os,rX,qE,vw⟩:=id hs;unfold q31 Builtin.Slice.sliceFields;calc sf (sf (q1J rX vw (x:=vl) Y (sf (q1J rX vw (x:=vu) Y (sf (q1J rX vw (x:=.none) Y (Io ?_)))))));calc sf (slicePart_none ?_);show M _ _ (if((1:Int)==0)=θ then _ else _) _ _ s;rw[q0i (by decide)];refine sf (HQ pl (sf (HQ pu (sf (Io ?_)))))
 show M _ _ (match q2Z lo hi 1 (n:Int) with|(lo,hi)=>pure (lo,(1:Int),q2s lo hi 1)) _ _ s;rw[PY lo hi n];show M _ _ (pure (((bP n 0 lo:Nat):Int),(1:Int),q2s ((bP n 0 lo:Nat):Int) ((bP n n hi:Nat):Int) 1)) _ _ s;rw[PZ];calc Io h
theorem P0(xs:Array L)(i k:Nat):((q0C k).filterMap λ(m:Nat)=>xs[((i:Int)+(m:Int)*1).toNat]?).toArray=((xs.toList.drop i).take k).toArray:=by
 let e:(λ(m:Nat)=>xs[((i:Int)+(m:Int)*1).toNat]?)=λm=>xs[i+m]?:=by
  funext m;let:((i:Int)+(m:Int)*1).toNat=i+m:=by symm
  rw[this]
 rw[e];let:=pick_run xs i k;rw[q5T] at this;let e2:((λx=>xs[x]?)∘λx=>i+x)=λm=>xs[i+m]?:=Y;rw[e2] at this;rw[this]
theorem P8{t sl:O}{items:Array L}{vl vu:L}{lo hi:Option Int}{Q:bA}(ht:IsTup s.heap t items)(hs:s.heap.IsSliceOf sl vl vu .none)(pl:IsPart vl lo)(pu:IsPart vu hi)
  (hw:¬ (bP items.size 0 lo=0/\bP items.size items.size hi=items.size))
  (h:Q (.ref ⇑s) {s with heap:=s.heap.push {cls:=.type "tuple",data:=.seq ((items.toList.drop (bP items.size 0 lo)).take (bP items.size items.size hi-bP items.size 0 lo)).toArray}})
  (hsz:items.size<=sizeLine):M (g prog w) A (getItem (.ref t) (.ref sl)) Q E s:=by
 let kg:sizeOk (.seq ((items.toList.drop (bP items.size 0 lo)).take (bP items.size items.size hi-bP items.size 0 lo)).toArray):=by
  show((items.toList.drop (bP items.size 0 lo)).take (bP items.size items.size hi-bP items.size 0 lo)).toArray.size<=sizeLine;rw[Qt,q0D,q2k,q0d];symm
 let hj:bP items.size items.size hi<=items.size:=PX _ _ (Im _) hi;let⟨os,rX,qE,vw⟩:=id hs;let Bn:s.TypeIs (.ref sl) "slice" := ⟨os,rX,qE⟩;unfold getItem
 try with_reducible refine q0M ?_
 first|refine sf (Io ?_)|skip
 refine sf (q6l ht.typeIs (by decide) ?_)
 refine sf (q1f (name:=q02 "__getitem__") ht.typeIs q1d
  (q1g q1d ht.typeIs q5D ?_ (q51 _ _)))
 show M _ _ (q32 (.ref t) >>= _) _ _ s;calc sf (tupleItemsOf_ ht ?_);calc sf (q3O Bn ?_);rw[q0k (by decide)];refine sf (HR hs pl pu ?_)
 let P9:¬ ((((bP items.size 0 lo:Nat):Int)==0&&(1:Int)==1&&(bP items.size items.size hi-bP items.size 0 lo)==items.size)=θ):=by
  ext q;rw[q0L,q0L] at q;let q1:((bP items.size 0 lo:Nat):Int)=0:=q1D q.1.1;let q2:bP items.size items.size hi-bP items.size 0 lo=items.size:=q1D q.2;exact hw ⟨⋯,⋯⟩
 show M _ _ (if(((bP items.size 0 lo:Nat):Int)==0&&(1:Int)==1&&(bP items.size items.size hi-bP items.size 0 lo)==items.size)=θ then _ else _) _ _ s;rw[q0i P9,P0]
 first
  |exact sf (m:=q2A _) (q1H (Io ⟨_,Y,Io h⟩) kg)
  |exact sf (m:=q2A _) (q1H (sf (Io (Io ⟨_,Y,Io h⟩))) kg)
  |exact sf (sf (m:=q2A _) (q1H (Io (Io ⟨_,Y,Io h⟩)) kg))
  |calc sf (sf (m:=q2A _) (q1H (Io ⟨_,Y,Io h⟩) kg))
end
end HT
namespace L2
open PySem PySem.Spec PyProof.Rows
abbrev TO:=St->Hp->(Option Int->Hp->Prop)->Prop
def PO(X:Cx)(e:Option l)(t:TO):Prop :=
 ∀(pins:aM)(s:B)(σ:St)(H:Hp)(Q:Option Int->Hp->Prop),Inv X pins σ H s->t σ H Q →
  M (g X.prog X.w) X.A (evalPart e X.env) (λu s'=>∃o H',Inv X pins σ H' s'/\IsPart u o/\Q o H') X.xe s
def P_:TO:=λ_ H Q=>Q Z H
def Qa(t:TE):TO:=fun σ H Q=>t σ H λx H1=>∃i,x=.int i/\Q (U i) H1
theorem intsAre_of{ns:-Int}:∀{us:-L},Vals (ns.map V.int) us->IntsAre us ns:=by
 induction ns with
 |nil=>ext us r;rw[q2b] at r;cases r;exact .nil
 |cons n ns ih =>
  ext us r;rw[q0r] at r
  cases r with
  |cons r1 r2 =>
   let⟨t,e⟩:=r1;subst e;calc .cons n t (ih r2)
section
variable{X:Cx}{e:l}{te:TE}{lo hi:Option l}{tl th:TO}{pos p2:y}
theorem HS:PO X Z P_:=by
 ext pins s σ H Q I h;rw[q7N];calc Io ⟨Z,H,I,.none,h⟩
theorem yb(h:JE X e te):PO X (U e) (Qa te):=by
 ext pins s σ H Q I hw;rw[evalPart_some];calc bL (h pins s σ H _ I hw) λu s1 ⟨x,H1,I1,r1,q1⟩=>?_;let⟨i,rfl,q⟩:=q1;let⟨t,rfl⟩:=r1;calc⟨U i,H1,I1,.int i t,q⟩
def qF(X:Cx)(r:V->Option Int->Option Int->Hp->VK->Prop):Prop :=
 ∀(pins:aM)(s:B)(σ:St)(H:Hp)(x:V)(v vl vu:L)(lo hi:Option Int)(sl:O)(Q:VK),Inv X pins σ H s->RelV x v->s.heap.IsSliceOf sl vl vu .none->IsPart vl lo->IsPart vu hi->r x lo hi H Q →
  ∃T id,typeLookup (.type T) "__getitem__" = pure (U (.builtin id))/\s.TypeIs v T/\M (g X.prog X.w) X.A (getItem v (.ref sl)) (EP X pins σ Q) X.xe s
theorem qF.or{r r':V->Option Int->Option Int->Hp->VK->Prop}(h:qF X r)(h':qF X r'):qF X (λx lo hi H Q=>r x lo hi H Q\/r' x lo hi H Q):=by
 ext pins s σ H x v vl vu lo hi sl Q I rx hs pl pu q;rcases q with q|q
 .exact h pins s σ H x v vl vu lo hi sl Q I rx hs pl pu q
 .calc h' pins s σ H x v vl vu lo hi sl Q I rx hs pl pu q
def Qb(r:V->Option Int->Option Int->Hp->VK->Prop)(te:TE)(tl th:TO):TE:=fun σ H Q=>te σ H λx H1=>tl σ H1 λl H2=>th σ H2 λu H3=>r x l u H3 Q
theorem Bo{r:V->Option Int->Option Int->Hp->VK->Prop}(hr:qF X r)(he:JE X e te)(hl:PO X lo tl)(hu:PO X hi th):JE X (.Subscript e (.Slice lo hi Z p2) pos) (Qb r te tl th):=by
 calc⟨?_⟩;ext pins s σ H Q I h;calc Subscript_ (bL (he pins s σ H _ I h) λv s1 ⟨x,H1,I1,r1,q1⟩=>?_);calc wpAny_Slice (bL (hl pins s1 σ H1 _ I1 q1) λvl s2 ⟨l,H2,I2,pl,q2⟩=>bL (hu pins s2 σ H2 _ I2 q2) λvu s3 ⟨u,H3,I3,pu,q3⟩=>?_);rw[q7N];calc Io ?_;let I4:Inv X pins σ H3 {s3 with heap:=s3.heap.push {cls:=.type "slice",data:=.fields #[vl,vu,.none]}}:=I3.kept (t':=s3.toks) λb ob q=>yd _ q;let⟨T,id,hT,ht,hg⟩:=hr pins {s3 with heap:=s3.heap.push {cls:=.type "slice",data:=.fields #[vl,vu,.none]}} σ H3 x v vl vu l u ⇑s3 Q I4 r1 (Heap.IsSliceOf.new ..) pl pu q3
 show M (g X.prog X.w) X.A (subscriptTail e (.Slice lo hi Z p2) v (.ref ⇑s3)) (EP X pins σ Q) X.xe {s3 with heap:=s3.heap.push {cls:=.type "slice",data:=.fields #[vl,vu,.none]}};calc tail_any (ops:=[.ref ⇑s3,v]) ht hT hg (by with_unfolding_all rfl)
noncomputable def dP(xs:-V)(lo hi:Option Int):-V:=(xs.drop (HT.bP ↑xs 0 lo)).take (HT.bP ↑xs ↑xs hi-HT.bP ↑xs 0 lo)
theorem HU(xs:-V)(lo hi:Option Int):↑(dP xs lo hi)<=↑xs:=by
 unfold dP;rw[q0D,q2k];symm
def Bp(K:My):V->Option Int->Option Int->Hp->VK->Prop:=λx lo hi H Q=>∃a xs,x=.ref a/\bZ K H a xs ∧
 ¬ (HT.bP ↑xs 0 lo=0/\HT.bP ↑xs ↑xs hi=↑xs)/\∀p,H p=Z->Q (.ref p) (upd H p (.tup (dP xs lo hi)))
theorem Qc:qF X (Bp X.K):=by
 ext pins s σ H x v vl vu lo hi sl Q I rx hs pl pu h;let⟨a,xs,rfl,hx,hw,q⟩:=h;cases rx
 let⟨aA,r,ht,hz⟩:=I.tuple hx;let hlen:aA.toArray.size=↑xs:=by rw[Qt];exact r.length.symm
 calc⟨"tuple",_,q1d.lookup,ht.typeIs,?_⟩;calc HT.P8 ht hs pl pu (by rw[hlen];calc hw) ?_ (by rw[hlen];calc hz);rw[hlen];calc⟨.ref ⇑s,_,I.laid (t':=s.toks) (o:=.tup (dP xs lo hi)) (λb ob q=>yd _ q) (Im _) ?_,Y,q _ (I.bu.fresh (Im _))⟩;calc⟨q0B (HU xs lo hi) hz,_,(r.drop (HT.bP ↑xs 0 lo)).take (HT.bP ↑xs ↑xs hi-HT.bP ↑xs 0 lo),IsTup.new _ _⟩
def Bq(K:My):R2:=λx y H Q=>∃a b ns ms,x=.ref a/\y=.ref b/\bZ K H a (ns.map V.int)/\bZ K H b (ms.map V.int)/\Q (.bl (HT.lexLt ns ms)) H
theorem Qd(hu:X.A.units<cLine):eU X (compareOp .Lt) (Bq X.K):=by
 ext pins s σ H x y v u Q I rx ry h;let⟨a,b,ns,ms,rfl,rfl,ha,hb,q⟩:=h;cases rx
 cases ry
 let⟨aA,r1,p1,_⟩:=I.tuple ha;let⟨bO,r2,p2,_⟩:=I.tuple hb;let i1:IntsAre aA.toArray.toList ns:=intsAre_of r1;let i2:IntsAre bO.toArray.toList ms:=intsAre_of r2;calc HT.Bm p1 p2 i1 i2 hu ⟨.bl (HT.lexLt ns ms),H,I,Y,q⟩
def Qe(K:My):R2:=λx y H Q=>∃a b xs ys,x=.ref a/\y=.ref b/\bZ K H a xs/\bZ K H b ys/\xs≠[]/\↑xs+↑ys<=sizeLine ∧
 (ys=[]->Q (.ref a) H)/\(ys≠[]->∀p,H p=Z->Q (.ref p) (upd H p (.tup (xs++ys))))
theorem Vals.fY{xs:-V}{us:-L}(r:Vals xs us):us=[]↔xs=[]:=by
 cases r with
 |nil=>simp
 |cons _ _=>simp
theorem Qf:eU X (binaryOp .Add) (Qe X.K):=by
 ext pins s σ H x y v u Q I rx ry h;let⟨a,b,xs,ys,rfl,rfl,ha,hb,hx,hz,q1,q2⟩:=h;cases rx
 cases ry
 let⟨aA,r1,p1,_⟩:=I.tuple ha;let⟨bO,r2,p2,_⟩:=I.tuple hb;calc HT.PW p1 p2 (λz=>hx (r1.fY.mp z)) (λz=>⟨.ref a,H,I,Y,q1 (r2.fY.mp z)⟩) (λz=>?_) (by rw[<-↑r1,<-↑r2];calc hz);calc⟨.ref ⇑s,_,I.laid (t':=s.toks) (o:=.tup (xs++ys)) (λb ob q=>yd _ q) (Im _) ?_,Y,q2 (λw=>z (r2.fY.mpr w)) _ (I.bu.fresh (Im _))⟩;calc⟨by rw[Qs];calc hz,_,r1.append r2,IsTup.new _ _⟩
end
noncomputable def iX(n:Nat)(i:Int):Option Nat:=if 0<=i then(if i<n then U i.toNat else Z) else if -(n:Int)<=i then U (i+n).toNat else Z
noncomputable def eK{α:Type}(xs:-α)(i:Int):Option α:=(iX ↑xs i).bind λj=>xs[j]?
theorem HV{n:Nat}{i:Int}{j:Nat}(h:iX n i=U j):seqIndex? i n=U j/\j<n /\ -(n:Int)<=i/\i<n:=by
 unfold iX at h
 by_cases h0:0<=i
 .rw[q0k h0] at h
  by_cases h1:i<n
  .rw[q0k h1] at h
   let e:i.toNat=j:=q0A h;exact⟨by rw[q6T h0 h1,e],⋯,⋯,h1⟩
  .rw[q0i h1] at h;cases h
 .rw[q0i h0] at h
  by_cases h1 : -(n:Int)<=i
  .rw[q0k h1] at h
   let e:(i+n).toNat=j:=q0A h;exact⟨by rw[q6m ⋯ h1,e],⋯,h1,⋯⟩
  .rw[q0i h1] at h;cases h
theorem Br{α:Type}{xs:-α}{i:Int}{v:α}(h:eK xs i=U v):∃j,seqIndex? i ↑xs=U j/\xs[j]?=U v/\j<↑xs /\ -(↑xs:Int)<=i/\i<↑xs:=by
 unfold eK at h
 cases e:iX ↑xs i with
 |none=>rw[e] at h;cases h
 |some j =>
  rw[e] at h;let⟨h1,h2,h3,h4⟩:=HV e;calc⟨j,h1,h,h2,h3,h4⟩
theorem kh{α:Type}{xs:-α}{j:Nat}{v:α}(h:xs[j]?=U v):eK xs (j:Int)=U v:=by
 let hj:j<↑xs:=(Il.mp h).1
 let e:iX ↑xs (j:Int)=U j:=by
  unfold iX;rw[q0k ⋯,q0k ⋯];simp
 unfold eK;rw[e];calc h
def Bs(b:l):Prop:=∀o i,subscripted b ι o i=operate [o,i] (getItem o i)
def nQ(X:Cx)(r:R2):Prop :=
 ∀(value slice:l)(pins:aM)(s:B)(σ:St)(H:Hp)(x y:V)(v u:L)(Q:VK),Inv X pins σ H s->RelV x v->RelV y u->r x y H Q →
  subscripted slice ι v u=operate [v,u] (getItem v u)->M (g X.prog X.w) X.A (subscriptTail value slice v u) (EP X pins σ Q) X.xe s
def HW(X:Cx)(id:String)(r:V->-V->Hp->VK->Prop):Prop :=
 ∀(pins:aM)(s:B)(σ:St)(H:Hp)(x:V)(xs:-V)(v:L)(us:-L)(Q:VK),Inv X pins σ H s->RelV x v->Vals xs us->r x xs H Q →
  M (g X.prog X.w) X.A (call (.builtin id) (v::us)) (EP X pins σ Q) X.xe s
section
variable{X:Cx}{a b:l}{ta tb:TE}{pos:y}
theorem nQ.or{r r':R2}(h:nQ X r)(h':nQ X r'):nQ X (λx y H Q=>r x y H Q\/r' x y H Q):=by
 ext value slice pins s σ H x y v u Q I rx ry q hs;rcases q with q|q
 .exact h value slice pins s σ H x y v u Q I rx ry q hs
 .calc h' value slice pins s σ H x y v u Q I rx ry q hs
theorem Bt{r:R2}(hr:nQ X r)(ha:JE X a ta)(hb:JE X b tb)(hs:Bs b):JE X (.Subscript a b pos) (vm r ta tb):=by
 calc⟨?_⟩;ext pins s σ H Q I h;calc Subscript_ (rN ha hb I h λv u s2 x y H2 I2 rx ry q=>hr a b pins s2 σ H2 x y v u Q I2 rx ry q (hs _ _))
def vx(K:My):R2:=λx y H Q=>∃p xs i v,x=.ref p/\y=.int i/\bT K H p xs/\eK xs i=U v/\Q v H
def vy(K:My):R2:=λx y H Q=>∃p xs i v,x=.ref p/\y=.int i/\bZ K H p xs/\eK xs i=U v/\Q v H
def vz:R2:=λx y H Q=>∃z i c,x=.str z/\y=.int i/\↑z<=sizeLine/\eK z.cps.toList i=U c/\Q (.str ⟨#[c]⟩) H
theorem h9:nQ X (vx X.K):=by
 ext value slice pins s σ H x y v u Q I rx ry h hs;let⟨p,xs,i,z,rfl,rfl,hq,he,q⟩:=h;cases rx
 let⟨t,rfl⟩:=ry;let⟨aA,r,pl,hz⟩:=I.list hq;let⟨j,h1,h2,h3,h4,h5⟩:=Br he;let⟨w,ew,jK⟩:=r.get h2;let hl:=↑r;let hn:=tR;let fin:EP X pins σ Q w s:=⟨z,H,I,jK,q⟩
 by_cases h0:0<=i
 .let hj:i.toNat=j:=by
   rw[q6T h0 h5] at h1;exact q0A h1
  exact item_listR pl.isList h0 ⋯ (by rw[hj];simpa using ew) fin hs
 .let hj:(i+(aA.toArray.size:Int)).toNat=j:=by
   rw[q6m ⋯ h4] at h1;rw[Qt,<-hl];exact q0A h1
  exact q4W (x:=w) pl.isList.typeIs q6n.lookup
   (wpAny_getItem_list_neg (Q:=λr s'=>r=w/\EP X pins σ Q r s') pl.isList ⋯ (by rw[Qt]<;>symm) ⋯ (by rw[hj];simpa using ew) ⟨Y,fin⟩) hs
theorem mq:nQ X (vy X.K):=by
 ext value slice pins s σ H x y v u Q I rx ry h hs;let⟨p,xs,i,z,rfl,rfl,hq,he,q⟩:=h;cases rx
 let⟨t,rfl⟩:=ry;let⟨aA,r,pl,hz⟩:=I.tuple hq;let⟨j,h1,h2,h3,h4,h5⟩:=Br he;let⟨w,ew,jK⟩:=r.get h2;let hl:=↑r;let hn:=tR;let fin:EP X pins σ Q w s:=⟨z,H,I,jK,q⟩
 exact q4W (x:=w) pl.typeIs slot_tuple_getitem.lookup
  (getItem_tuple (j:=j) (Q:=λr s'=>r=w/\EP X pins σ Q r s') pl ⋯ ⋯ (by rw[Qt,<-hl];calc h1) ew⁻¹ ⟨Y,fin⟩) hs
theorem HX:nQ X vz:=by
 ext value slice pins s σ H x y v u Q I rx ry h hs;let⟨z,i,c,rfl,rfl,hz,he,q⟩:=h;let⟨t,rfl⟩:=rx;let⟨t',rfl⟩:=ry;let⟨j,h1,h2,h3,h4,h5⟩:=Br he;let hl:↑z.cps.toList=↑z:=by simp[Str.length]
 rw[hl] at h1 h4 h5;let hn:=tR
 exact tail_any (typeIs_str s z t) slot_str_getitem.lookup (getItem_str (c:=c) (by
  let e1:G (i < -(2 ^ 63:Int))=ι:=q0e ⋯;let e2:G (i ≥ 2 ^ 63)=ι:=q0e ⋯
  rw[e1,e2,q5M]) (by rw[h1];simpa using h2) ⟨.str ⟨#[c]⟩,H,I.tok _,⟨_,Y⟩,q⟩) hs
def Qg(K:My):R2:=λx y H Q=>vx K x y H Q\/vy K x y H Q\/vz x y H Q
theorem Qh:nQ X (Qg X.K):=h9.or (mq.or HX)
theorem Qi(aA:-L)(n j:Nat)(u:L):q1c (·.setIfInBounds j u) {cls:=.type "list",data:=.seq aA.toArray n}={cls:=.type "list",data:=.seq (aA.set j u).toArray n}:=by
 simp[q1c]
theorem Inv.lst{pins:aM}{σ:St}{H:Hp}{s:B}{p:O}{xs:-V}(I:Inv X pins σ H s)(h:H p=U (.lst xs)):
  ∃(aA:-L)(n:Nat),Vals xs aA/\s.heap.get? p=U {cls:=.type "list",data:=.seq aA.toArray n}/\↑xs<=sizeLine:=by
 let⟨z,aA,n,r,e⟩:=I.bu p _ h;calc⟨aA,n,r,e,z⟩
theorem Inv.rY{pins:aM}{σ:St}{H:Hp}{s:B}{p:O}{xs ys:-V}{aA its':-L}{n n':Nat}{f:Q->Q}(I:Inv X pins σ H s)(h:H p=U (.lst xs))
  (ho:s.heap.get? p=U {cls:=.type "list",data:=.seq aA.toArray n}) (hf:f {cls:=.type "list",data:=.seq aA.toArray n}={cls:=.type "list",data:=.seq its'.toArray n'}) (r:Vals ys its') (hz:↑ys<=sizeLine) (t:Nat) :
  Inv X pins σ (upd H p (.lst ys)) {s with heap:=s.heap.update p f,toks:=t}:=by
 let e:(s.heap.update p f).get? p=U {cls:=.type "list",data:=.seq its'.toArray n'}:=by
  rw[q01 f ho (by rw[hf]<;>rfl),hf]
 calc I.write (x:=p) (e:=p) (by rw[h];trivial) (.inl Y) (λb u hb q=>(q1k _ _ (q2h hb)).trans q) ⟨_,e⟩ ?_;calc⟨hz,its',n',r,e⟩
def HY:V->V->V->Hp->(Hp->Prop)->Prop:=λo i v H Q=>∃p xs k j,o=.ref p/\i=.int k/\H p=U (.lst xs)/\iX ↑xs k=U j/\Q (upd H p (.lst (xs.set j v)))
theorem set_list:vg X HY:=by
 ext pins s σ H o i v ov iv u Q I ro ri rv h;let⟨p,xs,k,j,rfl,rfl,hp,hj,q⟩:=h;cases ro
 let⟨t,rfl⟩:=ri;let⟨aA,n,r,ho,hz⟩:=I.lst hp;let⟨h1,h2,h3,h4⟩:=HV hj;let hl:=↑r;let hn:=tR
 let I':Inv X pins σ (upd H p (.lst (xs.set j v))) {s with heap:=s.heap.update p (q1c (·.setIfInBounds j u))} :=
  I.rY hp ho (Qi aA n j u) (r.set rv j) (by rw[q1C];calc hz) s.toks
 by_cases h0:0<=k
 .let hk:k.toNat=j:=by
   rw[q6T h0 h4] at h1;exact q0A h1
  exact PySem.W.ki_setAt ho h0 ⋯ (by rw[Qt,<-hl];calc h4) (by rw[hk];calc⟨_,I',q⟩)
 .let hk:(k+(aA.toArray.size:Int)).toNat=j:=by
   rw[q6m ⋯ h3] at h1;rw[Qt,<-hl];exact q0A h1
  calc PySem.W.ki_setBack ho ⋯ (by rw[Qt,<-hl];calc h3) ⋯ (by rw[hk];calc⟨_,I',q⟩)
theorem Qj(lo hi:Option Int)(n:Nat):(sliceBounds lo hi Z n).1=((HT.bP n 0 lo:Nat):Int)/\(sliceBounds lo hi Z n).2.1=((HT.bP n n hi:Nat):Int)/\(sliceBounds lo hi Z n).2.2=1:=by
 refine⟨?_,?_,Y⟩
 .cases lo with
  |none=>simp[sliceBounds,HT.bP]
  |some i =>
   erw[sliceBounds,HT.bP,q4x,show(1:Int)>0 by decide,q2N]
   by_cases h:i<0
   .erw[h,q2N]<;>symm
   .erw[h,q2g]<;>symm
 .cases hi with
  |none=>simp[sliceBounds,HT.bP]
  |some i =>
   erw[sliceBounds,HT.bP,q4x,show(1:Int)>0 by decide,q2N]
   by_cases h:i<0
   .erw[h,q2N]<;>symm
   .erw[h,q2g]<;>symm
theorem Qk(aA:-L)(lo hi:Option Int):slicePick aA.toArray lo hi Z=((aA.drop (HT.bP ↑aA 0 lo)).take (HT.bP ↑aA ↑aA hi-HT.bP ↑aA 0 lo)).toArray:=by
 let⟨h1,h2,h3⟩:=Qj lo hi aA.toArray.size;unfold slicePick;rw[h1,h2,h3];erw[sliceRange_one,pick_run,Qt]<;>rfl
def Bu(K:My):V->Option Int->Option Int->Hp->VK->Prop:=λx lo hi H Q=>∃a xs,x=.ref a/\bT K H a xs/\∀p,H p=Z->Q (.ref p) (upd H p (.lst (dP xs lo hi)))
theorem h_:qF X (Bu X.K):=by
 ext pins s σ H x v vl vu lo hi sl Q I rx hs pl pu h;let⟨a,xs,rfl,hx,q⟩:=h;cases rx
 let⟨aA,r,ht,hz⟩:=I.list hx;let hlen:=↑r;calc⟨"list",_,q6n.lookup,ht.isList.typeIs,?_⟩;calc wpAny_getItem_list_slice ht.isList hs pl pu .none (by simp) ?_ (by rw[Qt]<;>symm);rw[Qk,<-hlen];calc⟨.ref ⇑s,_,I.laid (t':=s.toks) (o:=.lst (dP xs lo hi)) (λb ob q=>yd _ q) (Im _) ?_,Y,q _ (I.bu.fresh (Im _))⟩;calc⟨q0B (HU xs lo hi) hz,_,0,(r.drop (HT.bP ↑xs 0 lo)).take (HT.bP ↑xs ↑xs hi-HT.bP ↑xs 0 lo),q0c _ Y⟩
theorem HZ:gZ X (.builtin "len") (λxs H Q=>∃p ys,xs=[.ref p]/\(bT X.K H p ys\/bZ X.K H p ys)/\Q (.int ↑ys) H):=by
 ext pins s σ H xs us Q I r h;let⟨p,ys,rfl,hq,q⟩:=h;let⟨u,rfl,rx⟩:=vals1 r;cases rx
 let hn:=tR;rcases hq with hq|hq
 .let⟨aA,r',pl,hz⟩:=I.list hq
  let hlen:=↑r';exact Calls.call_len_list pl.isList (by erw[Qt]<;>symm) ⟨.int ↑ys,H,I.tok _,⟨s.toks+1,by rw[Qt,hlen]⟩,q⟩
 .let⟨aA,r',pl,hz⟩:=I.tuple hq
  let hlen:=↑r';calc len_tuple pl (by erw[Qt]<;>symm) ⟨.int ↑ys,H,I.tok _,⟨s.toks+1,by rw[Qt,hlen]⟩,q⟩
theorem Ql:gZ X (.builtin "len") (λxs H Q=>∃z,xs=[.str z]/\↑z<=sizeLine/\Q (.int ↑z) H):=by
 ext pins s σ H xs us Q I r h;let⟨z,rfl,hz,q⟩:=h;let⟨u,rfl,t,rfl⟩:=vals1 r;let hn:=tR;calc len_str ⋯ ⟨.int ↑z,H,I.tok _,⟨_,Y⟩,q⟩
theorem vA:gZ X (.type "list") (λxs H Q=>∃p ys,xs=[.ref p]/\(bT X.K H p ys\/bZ X.K H p ys)/\∀l,H l=Z->Q (.ref l) (upd H l (.lst ys))):=by
 ext pins s σ H xs us Q I r h;let⟨p,ys,rfl,hq,q⟩:=h;let⟨u,rfl,rx⟩:=vals1 r;cases rx
 let fin:∀(aA:-L),Vals ys aA->↑ys<=sizeLine->∀(h':Α)(c':Nat),(∀b o',s.heap.get? b=U o'->h'.get? b=U o') →
   h'.get? ⇑s=U {cls:=.type "list",dict:=none,data:=.seq aA.toArray c',slots := #[]}->EP X pins σ Q (.ref ⇑s) {s with heap:=h'}:=λaA r' hz h' c' kp e =>
  ⟨.ref ⇑s,_,I.laid (t':=s.toks) kp (Im _) (show bz X.prog X.w _ h' _ (.lst ys) from⟨hz,aA,c',r',e⟩),Y,q _ (I.bu.fresh (Im _))⟩
 rcases hq with hq|hq
 .let⟨aA,r',pl,hz⟩:=I.list hq
  let hlen:=↑r';let⟨o,ho,hc,n,hd⟩:=pl.isList;exact q7O p (.inl Y) ho hc hd (λh' c' kp e=>fin aA r' hz h' c' kp e) (by erw[Qt]<;>symm)
 .let⟨aA,r',pl,hz⟩:=I.tuple hq
  let hlen:=↑r';let⟨o,ho,hc,n,hd⟩:=pl;calc q7O p (.inr Y) ho hc hd (λh' c' kp e=>fin aA r' hz h' c' kp e) (by erw[Qt]<;>symm)
theorem H_:gZ X (.type "tuple") (λxs H Q=>∃p ys,xs=[.ref p]/\((bT X.K H p ys/\∀l,H l=Z->Q (.ref l) (upd H l (.tup ys)))\/(bZ X.K H p ys/\Q (.ref p) H))):=by
 ext pins s σ H xs us Q I r h;let⟨p,ys,rfl,h⟩:=h;let⟨u,rfl,rx⟩:=vals1 r;cases rx
 rcases h with⟨hq,q⟩|⟨hq,q⟩
 .let⟨aA,r',pl,hz⟩:=I.list hq
  let hlen:=↑r';calc call_tuple_list pl.isList (λh' kp=>?_) (by erw[Qt]<;>symm);let I1:Inv X pins σ H {s with heap:=h'}:=I.kept (t':=s.toks) kp
  let I2:Inv X pins σ (upd H h'.objs.size (.tup ys)) {s with heap:=h'.push {cls:=.type "tuple",data:=.seq aA.toArray}} :=
   I1.laid (t':=s.toks) (λb o e=>yd _ e) (Im _) (show bz X.prog X.w _ _ _ (.tup ys) from⟨hz,aA,r',IsTup.new _ _⟩)
  exact⟨.ref h'.objs.size,_,I2,Y,q _ (I1.bu.fresh (Im _))⟩
 .let⟨aA,r',pl,hz⟩:=I.tuple hq
  calc call_tuple_same pl ⟨.ref p,H,I,Y,q⟩
def Ia(K:My)(T:String)(x:V)(H:Hp):Prop:=match x with
 |.str _=>T="str"
 |.int _=>T="int"
 |.ref p=>(T="list" /\ ∃xs,bT K H p xs)\/(T="tuple" /\ ∃o,K.lookup p=U o/\o.cls=.type "tuple" /\ o.dict=Z) ∨
   (T="dict" /\ ((∃kvs,H p=U (.dK kvs))\/∃kvs,H p=U (.dT kvs)))\/(T="set" /\ ∃S n,H p=U (.set S n))
 |_=>False
theorem Qm{pins:aM}{σ:St}{H:Hp}{s:B}{T:String}{x:V}{v:L}(I:Inv X pins σ H s)(r:RelV x v)(ty:Ia X.K T x H):
  s.TypeIs v T/\∀a,v=.ref a->∃ob,s.heap.get? a=U ob/\ob.dict=Z:=by
 cases x with
 |str z =>
  let⟨t,rfl⟩:=r;cases(show T="str" from ty)
  exact⟨typeIs_str s z t,λ_ e=>nomatch e⟩
 |int i =>
  let⟨t,rfl⟩:=r;cases(show T="int" from ty)
  exact⟨q7o s i t,λ_ e=>nomatch e⟩
 |ref p =>
  cases r
  rcases ty with⟨rfl,xs,hq⟩|⟨rfl,o,hk,hc,hd⟩|⟨rfl,hk⟩|⟨rfl,S,n,hk⟩
  .let⟨aA,_,pl,_⟩:=I.list hq
   calc⟨pl.isList.typeIs,λa e=>?_⟩;cases e
   let⟨o,n,e,c,hd,_⟩:=pl;exact⟨o,e,hd⟩
  .refine⟨⟨o,I.fJ p o hk,hc⟩,λa e=>?_⟩
   cases e
   exact⟨o,I.fJ _ o hk,hd⟩
  .let z:∃o,s.heap.get? p=U o/\o.ExactDict:=by
    rcases hk with⟨kvs,hk⟩|⟨kvs,hk⟩
    .let⟨_,_,_,_,o,_,_,e,ex,_⟩:=I.bu p _ hk
     exact⟨o,e,ex⟩
    .let⟨_,_,_,_,o,_,_,e,ex,_⟩:=I.bu p _ hk
     exact⟨o,e,ex⟩
   let⟨o,e,ex⟩:=z;calc⟨⟨o,e,ex.1⟩,λa e2=>?_⟩;cases e2
   exact⟨o,e,ex.2.1⟩
  .let⟨o,_,_,_,e,ex,_⟩:=I.bu p _ hk
   calc⟨⟨o,e,ex.1⟩,λa e2=>?_⟩;cases e2
   exact⟨o,e,ex.2.1⟩
 |_=>calc q1t ty
def yc(K:My)(T:String)(r:V->-V->Hp->VK->Prop)(to:TE)(t:TA):TE:=fun σ H Q=>to σ H λx H1=>Ia K T x H1/\t σ H1 λxs H2=>r x xs H2 Q
variable{o e:l}{es:-l}{to:TE}{t:TA}{name:J}{apos eM:y}{T id:String}{r:V->-V->Hp->VK->Prop}
theorem nR(pa:PlainAttrs T)(slot:Slot T name id)(Qn:typeOf (.builtin id)=pure (.type "method_descriptor"))(hm:HW X id r)(ho:JE X o to)(ha:JA X (e::es) t)
  (vB:attributeBase o name X.env (eval o X.env)=eval o X.env:=by rfl)
  (Bv:((backTo eM (starEach (e::es) X.env)).all (λx => !x.1)&&(backToKw eM (keywordEach [] X.env)).all (λx=>x.1.isSome)
   && G (↑(e::es)+↑([]:-Keyword)+(if([]:-Keyword).isEmpty then 0 else 1)<30))=θ:=by rfl)
  (vC:(apos.endLine==eM.line)=θ:=by rfl) (hs:cI X e es:=by rfl) (hplain:cS X eM es:=by rfl) :
  JE X (.Call (.Attribute o name apos) (e::es) [] eM) (yc X.K T r to t):=by
 calc⟨?_⟩;ext pins s σ H Q I h;calc wpAny_Call_method_late vB Bv vC Y (bL (ho pins s σ H _ I h) λv s1 ⟨x,H1,I1,r1,ty,q1⟩=>?_);let⟨h1,h2⟩:=Qm I1 r1 ty;calc⟨T,id,pa,slot,Qn,h1,h2,?_⟩;let hA:=ha eM pins s1 σ H1 _ I1 q1;rw[hs] at hA ⊢;calc q4X (by show(ι||(backTo eM (starEach es X.env)).any (·.1))=ι;rw[hplain]<;>rfl) (q5y ?_);calc bL hA λus s2 ⟨vs,H2,I2,r2,q2⟩↦hm pins s2 σ H2 x vs v us Q I2 r1 r2 q2
end
def Bw(X:Cx)(id:String)(r:V->-V->Hp->VK->Prop):Prop :=
 ∀(pins:aM)(s:B)(σ:St)(H:Hp)(x:V)(xs:-V)(v:L)(us:-L)(Q:VK),Inv X pins σ H s->RelV x v->Vals xs us->r x xs H Q →
  M (g X.prog X.w) X.A (call (.builtin id) (v::us)) (EP X pins σ Q) X.xe s
theorem Vals.one:∀{x:V}{us:-L},Vals [x] us->∃u,us=[u]/\RelV x u:=by
 ext x us h
 cases h with
 |cons r h=>cases h;calc⟨_,Y,r⟩
theorem Vals.two:∀{x y:V}{us:-L},Vals [x,y] us->∃u v,us=[u,v]/\RelV x u/\RelV y v:=by
 ext x y us h
 cases h with
 |cons r h =>
  let⟨v,rfl,q⟩:=Vals.one h;calc⟨_,_,Y,r,q⟩
theorem Vals.eraseIdx:∀{xs:-V}{us:-L}(i:Nat),Vals xs us->Vals (xs.eraseIdx i) (us.eraseIdx i)
 |_,_,_,.nil=>.nil
 |_,_,0,.cons _ t=>t
 |_,_,i+1,.cons r t=>.cons r (Vals.eraseIdx i t)
theorem Vals.rep{xs:-V}{us:-L}(h:Vals xs us):∀k:Nat,Vals (q0h k xs).flatten (q0h k us).flatten
 |0=>.nil
 |k+1=>by
  rw[q1s,q1s,q2x,q2x];calc Vals.append h (Vals.rep h k)
theorem Ib{α:Type}:∀(l:-α)(i:Nat),↑(l.eraseIdx i)<=↑l
 |[],_=>Im _
 |_::_,0=>q3C _
 |_::r,i+1=>q4G (Ib r i)
theorem foldl_rep(aA:-L):∀(k:Nat)(acc:-L),
  q7p (λx1 x2=>x1++x2) acc.toArray (q0h k aA.toArray)=(acc++(q0h k aA).flatten).toArray
 |0,acc=>by simp
 |k+1,acc=>by
  let e:acc.toArray++aA.toArray=(acc++aA).toArray:=by simp
  let e2:(acc++aA)++(q0h k aA).flatten=acc++(q0h (k+1) aA).flatten:=by
   rw[q1s,q2x,q2v]
  rw[<-e2,<-foldl_rep aA k (acc++aA),<-e,q1s,sd]
section
variable{X:Cx}{pins:aM}{σ:St}{H:Hp}{s:B}{l b:O}{xs ys zs:-V}
theorem Inv.rZ{aA its':-L}{n:Nat}{f:Array L->Array L}{t':Nat}(I:Inv X pins σ H s)(hH:H l=U (.lst xs))
  (e:s.heap.get? l=U {cls:=.type "list",data:=.seq aA.toArray n}) (hf:f aA.toArray=its'.toArray) (hv:Vals ys its') (hz:↑ys<=sizeLine) :
  Inv X pins σ (upd H l (.lst ys)) {s with heap:=s.heap.update l (q1c f),toks:=t'}:=by
 let q:=PySem.IsL.update e f;rw[hf] at q;calc I.write (x:=l) (e:=l) (by rw[hH];calc trivial) (.inl Y) (λb' u hb hu=>(q1k s.heap (q1c f) (q2h hb)).trans hu) ⟨_,q⟩ ?_;calc⟨hz,its',_,hv,q⟩
theorem Inv.cE{aA:-L}{t':Nat}(I:Inv X pins σ H s)(hv:Vals ys aA)(hz:↑ys<=sizeLine):
  Inv X pins σ (upd H ⇑s (.lst ys)) {s with heap:=s.heap.push {cls:=.type "list",data:=.seq aA.toArray},toks:=t'} :=
 I.laid (λ_ _ q=>yd _ q) (Im _) ⟨hz,aA,0,hv,q0c _ Y⟩
theorem Inv.fresh(I:Inv X pins σ H s):H ⇑s=Z:=I.bu.fresh (Im _)
theorem Inv.jL(I:Inv X pins σ H s)(hH:H l=U (.lst xs)):↑xs<=sizeLine/\∃(aA:-L)(n:Nat),Vals xs aA/\↑xs=↑aA/\s.heap.get? l=U {cls:=.type "list",data:=.seq aA.toArray n}:=by
 let⟨z,aA,n,r,e⟩:=I.bu l _ hH;calc⟨z,aA,n,r,↑r,e⟩
theorem Ic{n:Nat}(h:n<=sizeLine):q2B n=ι:=by
 unfold q2B;calc q0e ⋯
end
section
variable{X:Cx}
def Ie:V->-V->Hp->VK->Prop:=λx vs H Q=>∃l xs y,x=.ref l/\vs=[y]/\H l=U (.lst xs)/\↑xs<sizeLine/\Q .non (upd H l (.lst (xs++[y])))
theorem qG:Bw X "list.append" Ie:=by
 ext pins s σ H x vs v us Q I rx rv h;let⟨l,xs,y,rfl,rfl,hH,hz,q⟩:=h;cases rx
 let⟨u,rfl,ru⟩:=rv.one;let⟨z,aA,n,r,hl,e⟩:=I.jL hH;calc q4Y F.slot_list_append ⟨_,e,Y⟩ F.entry_list_append (F.args_list_append_2 _ _) (PySem.list_append l aA.toArray n u (by rw[Qt];symm)) ⟨e,?_⟩;calc⟨.non,_,I.rZ (its':=aA++[u]) hH e (by simp) (r.append (.cons ru .nil)) ?_,Y,q⟩;rw[Qs,q0W];symm
def Ig:V->-V->Hp->VK->Prop:=λx vs H Q=>∃l b xs zs,x=.ref l/\vs=[.ref b]/\H l=U (.lst xs)/\H b=U (.lst zs)/\↑xs+↑zs<=sizeLine/\Q .non (upd H l (.lst (xs++zs)))
theorem Ih:Bw X "list.extend" Ig:=by
 ext pins s σ H x vs v us Q I rx rv h;let⟨l,b,xs,zs,rfl,rfl,hH,hB,hz,q⟩:=h;cases rx
 let⟨u,rfl,ru⟩:=rv.one;cases ru
 let⟨z,aA,n,r,hl,e⟩:=I.jL hH;let⟨z2,bO,n2,r2,tU,e2⟩:=I.jL hB;let hsz:aA.toArray.size+bO.toArray.size<=sizeLine:=by rw[Qt,Qt];symm
 let my:¬ (!aA.toArray.isEmpty&&q2B (aA.toArray.size+bO.toArray.size))=θ:=by
  rw[Ic hsz,q7q];exact q0F
 refine q4Y F.slot_list_extend ⟨_,e,Y⟩ F.entry_list_extend (F.args_list_extend_2 _ _)
  (AutoSeq1.list_extend_list_list_0 l aA.toArray n b bO.toArray n2 my (by rw[Qt];symm) ⋯) ⟨e,e2,?_⟩
 calc⟨.non,_,I.rZ (its':=aA++bO) hH e (by simp) (r.append r2) ?_,Y,q⟩;rw[Qs];symm
def Ii:V->-V->Hp->VK->Prop:=λx vs H Q=>∃l xs i k y,x=.ref l/\vs=[.int i]/\H l=U (.lst xs) /\ -(2 ^ 63)<=i/\i<2 ^ 63/\seqIndex? i ↑xs=U k/\xs[k]?=U y/\Q y (upd H l (.lst (xs.eraseIdx k)))
theorem Qo:Bw X "list.pop" Ii:=by
 ext pins s σ H x vs v us Q I rx rv h;let⟨l,xs,i,k,y,rfl,rfl,hH,h1,h2,hk,hy,q⟩:=h;cases rx
 let⟨u,rfl,ru⟩:=rv.one;let⟨t,rfl⟩:=ru;let⟨z,aA,n,r,hl,e⟩:=I.jL hH;let⟨w,hw,jK⟩:=r.get hy
 refine q4Y F.slot_list_pop ⟨_,e,Y⟩ F.entry_list_pop (F.args_list_pop_2 _ _)
  (MeetsSeq.list_pop_at l aA.toArray n i t k w (q7r h1 h2) (by rw[Qt,<-hl];calc hk) (by rw[<-q0H];calc hw) (by rw[Qt];symm)) ⟨e,?_⟩
 refine⟨y,_,I.rZ (its':=aA.eraseIdx k) hH e ?_ (r.eraseIdx k) ?_,jK,q⟩
 .show aA.toArray.eraseIdxIfInBounds k=(aA.eraseIdx k).toArray
  rw[List.eraseIdxIfInBounds_toArray]
 .let:=Ib xs k
  symm
def Bx:R2:=λx y H Q=>∃l b xs zs,x=.ref l/\y=.ref b/\H l=U (.lst xs)/\H b=U (.lst zs)/\↑xs+↑zs<=sizeLine/\∀p,H p=Z->Q (.ref p) (upd H p (.lst (xs++zs)))
theorem Ij:eU X (binaryOp .Add) Bx:=by
 ext pins s σ H x y v u Q I rx ry h;let⟨l,b,xs,zs,rfl,rfl,hH,hB,hz,q⟩:=h;cases rx
 cases ry
 let⟨z,aA,n,r,hl,e⟩:=I.jL hH;let⟨z2,bO,n2,r2,tU,e2⟩:=I.jL hB;calc PySem.P.add_list e e2 ?_ (by rw[Qt,Qt];symm);let ea:aA.toArray++bO.toArray=(aA++bO).toArray:=by simp
 rw[ea];calc⟨.ref _,_,I.cE (t':=s.toks) (r.append r2) (by rw[Qs];symm),Y,q _ I.fresh⟩
def By:R2:=λx y H Q=>∃l k xs,x=.ref l/\y=.int k/\H l=U (.lst xs) /\ -(2 ^ 63)<=k/\k<2 ^ 63/\↑xs*k.toNat<=sizeLine ∧
 ∀p,H p=Z->Q (.ref p) (upd H p (.lst (q0h k.toNat xs).flatten))
theorem len_rep{α:Type}(xs:-α)(k:Nat):(q0h k xs).flatten.length=k*↑xs:=by
 induction k with
 |zero=>simp
 |succ k ih=>rw[q1s,q2x,Qs,ih,q8o,Nat.add_comm]
theorem Qp:eU X (binaryOp .Mult) By:=by
 ext pins s σ H x y v u Q I rx ry h;let⟨l,k,xs,rfl,rfl,hH,h1,h2,hz,q⟩:=h;cases rx
 let⟨t,rfl⟩:=ry;let⟨z,aA,n,r,hl,e⟩:=I.jL hH;let hlen:aA.toArray.size*k.toNat<=sizeLine:=by rw[Qt,<-hl];exact hz
 let Bz:¬ aA.toArray.size*k.toNat>(2 ^ 63-1) / 8:=by
  let:(sizeLine:Nat)<=(2 ^ 63-1) / 8:=by decide
  symm
 let BA:¬ (!Builtin.List.listFitsIndex k)=θ:=by
  rw[q7r h1 h2];exact q0F
 let my:¬ q2B (aA.toArray.size*k.toNat)=θ:=by
  rw[Ic hlen];exact q0F
 let BB:q7p (λx1 x2=>x1++x2) #[] (q0h (if aA.toArray.isEmpty=θ then 0 else k.toNat) aA.toArray)=(q0h k.toNat aA).flatten.toArray:=by
  let f0:∀m:Nat,q7p (λx1 x2=>x1++x2) #[] (q0h m aA.toArray)=(q0h m aA).flatten.toArray:=λm=>by
   let:=foldl_rep aA m [];rw[q47] at this;exact this
  rw[f0]
  cases aA with
  |nil=>simp
  |cons a r'=>rw[q0i (by simp)]
 refine wpAny_binaryOp_repeat_ref (T:="list") (U:="int") (by decide) ⟨_,e,Y⟩ (λs'=>q7o s' k t) noFill_list_mul F.fills_int_mul q65 repeat_list F.slot_int_index.lookup
  (q4Y q65 (q7o s k t) F.entry_int_rmul (F.args_int_rmul_2 _ _) (int___rmul___int_list k t l aA.toArray n)
   ⟨e,Y,⟨_,e,Y⟩,q4Y F.slot_list_mul ⟨_,e,Y⟩ F.entry_list_mul (F.args_list_mul_2 _ _) (AutoListH.list___mul___list_int_3 l aA.toArray n k t BA Bz my) ⟨e,?_⟩⟩)
 rw[BB];calc⟨.ref _,_,I.cE (t':=s.toks) (r.rep k.toNat) (by rw[len_rep,q8h];calc hz),Y,q _ I.fresh⟩
end
section
variable{prog:t}{w:S}{A:o}{E:bA}{s:B}
end
section
variable{X:Cx}
end
end L2
namespace Att
open PySem PySem.W PySem.Calls PyProof.Rows
theorem fP{P:Params}{h:I}:∀(ns:-Int)(vs:-L),WellAll P h vs (ns.map WData.int)->IntsAre vs ns:=by
 ext ns
 induction ns with
 |nil =>
  ext vs w;rw[q2b] at w;cases w
  exact .nil
 |cons n ns ih =>
  ext vs w;rw[q0r] at w
  cases w with
  |cons a b =>
   cases a
   calc .cons _ _ (ih _ b)
theorem kO{l:OpenLaw}{n:Nat}(hn:l.most=U n){P:Params}{h:I}{args:-WData}{vals:-L}
  (oM:l.row.toRowW.claim.pre args=θ) (BC:WellAll P h vals args) :
  ∃a vs ns,vals=[q0J a]/\args=[WData.list (ns.map WData.int)]/\h.get? a=U {cls:=.type "list",data:=.seq vs.toArray}/\IntsAre vs ns/\↑ns<=n:=by
 let Qq:WShape.hasAll [] args [.list .int]=θ:=(pre_splitW oM).1;let hc:l.pre.holds [] {args:=args}=θ:=(pre_splitW oM).2;let⟨d,r,rfl,h1,h2⟩:=hasAllW_cons Qq;obtain rfl:=hasAllW_nil h2;let⟨xs,rfl,h3⟩:=hasW_list h1;let⟨ns,rfl⟩:=items_int h3
 let hlen:↑ns<=n:=by
  unfold OpenLaw.pre at hc
  let h4:(WTm.not (.lt (.lit (.int (n:Int))) (.len (.arg 0)))).holds [] {args:=[.list (ns.map .int)]}=θ:=by
   let h4:=(holds_andW hc).1;rw[hn] at h4;exact h4
  let h5:=condW_of h4 (w_not (w_lt w_lit (w_len_list (w_arg Y))));rw[BE] at h5;calc q3t λq=>?_;let q':(n:Int)<((↑ns:Nat):Int):=by symm
  first
   |(rw[q0n q'] at h5;calc absurd h5 (by decide))
   |(simp at h5;symm)
 cases BC with
 |cons w1 w2 =>
  cases w2
  cases w1 with
  |list ho iS=>calc⟨_,_,ns,Y,Y,ho,fP ns _ iS,hlen⟩
theorem kP(l:OpenLaw)(args:-WData):l.row.toRowW.claim.post args (.bool θ) args=θ :=
 postW_of (r:=l.row.toRowW) (X:=(θ==θ))
  (show WShape.has [] (.bool θ) .bool=θ by first|rfl|decide|simp[WShape.has,WShape.arms,WShape.armsAll])
  (show(WTm.eq .res (.lit (.bool θ))).value [] {args:=args,res:=U (.bool θ),after:=args}=U (.bool (θ==θ)) from w_eq_bool (w_res Y) w_lit) Y
theorem iY{l:OpenLaw}{n:Nat}{q:t}{loose:-J}{XP:(J->Option L)->I->Prop}{YP:S->I->Prop}{d:DefRec}
  (hn:l.most=U n) (vE:d.params.defaults=[])
  (call:∀(w:S)(s₀ s₁:B)(mg mb:J->Option L)(fa:O)(o:Q)(pm cd doc:L)(a:O)(vs:-L)(ns:-Int),
   Ground q loose [] XP w s₀ mg mb s₁.heap->YP w s₁.heap →
   s₁.heap.get? fa=U o->o.data=.func (docDef d.name d.params d.body d.scope pm cd doc)->s₁.heap.CodeRec cd d.name->mg d.name=U (.ref fa) →
   s₁.heap.get? a=U {cls:=.type "list",data:=.seq vs.toArray}->IntsAre vs ns->↑ns<=n->s₁.gens = #[] →
   codeAny (g l.prog w) callerA (.call (.ref fa) ⟨[.ref a],[]⟩) (λr s'=>r=.ok (.ret (.bool θ))/\OldK s₁.heap s'.heap/\s'.os=s₁.os/\AllBare s'.gens) s₁) :
  WalkO q loose XP YP l.row.toRowW d [] (λf vs=>q7t f vs):=by
 ext w s₀ s₁ mg mb G Y fa o pm cd doc dV kV ho hd hX hD oN hg args vals as oM Qr Z8 BC Z9;obtain rfl:dV=.none:=Dflts.none hD vE;obtain rfl:kV=.none:=Dflts.noKw hD;let⟨a,vs,ns,rfl,rfl,r9,hints,hlen⟩:=kO hn oM BC;calc enter_call (q2O (call w s₀ s₁ mg mb fa o pm cd doc a vs ns G Y ho (fd_plain hd) hX oN r9 hints hlen hg) λr s' hq=>?_);let⟨rfl,h2,h3,h4⟩:=hq;calc⟨.inl ⟨.bool θ,.bool θ,[],rfl,λ_=>rfl,.bool θ,kP l _,λ_=>⟨q5_,λ_ hm=>(nomatch hm)⟩⟩,h2,h3,h4⟩
section
variable{prog:t}{w:S}{A:o}{E:bA}{s:B}{K:Frag}
end
end Att
namespace L2
open PySem PySem.Spec PyProof.Rows
theorem Ik:∀{vs:-L}{ns:-Int},IntsAre vs ns->Vals (ns.map V.int) vs
 |_,_,.nil=>.nil
 |_,_,.cons n t h=>.cons ⟨t,Y⟩ (Ik h)
noncomputable def inClass(s:R)(j:Nat):R:=match s with
 |.ClassDef _ _ _ body _ _ _ _ _ _ _=>body.getD j (.Pass ⟨0,0,0,0⟩)
 |_=>.Pass ⟨0,0,0,0⟩
noncomputable def jx(s:R):Arguments:=match s with
 |.FunctionDef _ a _ _ _ _ _ _ _ _=>a
 |_=>{posonlyargs:=[],args:=[],vararg:=none,kwonlyargs:=[],kw_defaults:=[],kwarg:=none,defaults:=[]}
noncomputable def fZ(s:R):-R:=match s with
 |.FunctionDef _ _ b _ _ _ _ _ _ _=>b
 |_=>[]
noncomputable def cM(s:R):a:=match s with
 |.FunctionDef _ _ _ _ _ _ sc _ _ _=>sc
 |_=>{kind:=.function,names:=[],isGenerator:=false,isCoroutine:=false}
abbrev eZ:lI:=λ_ _ _ _ _ _=>False
abbrev E0:XK:=λ_ _ _=>False
theorem oP{X:Cx}:qB eZ X E0:=λ_ _ _ _ _ _ _ h=>h.elim
structure gx(K:My)(x qual:J)(st:R)(f:O)(fd:FuncData):Prop where
 ex:∃(oc:L)(od:Option O)(kV doc pm:L)(an:Option O)(bJ ct:L)(oH:Array (Option L)),
  fd=q1a x qual (jx st) (fZ st) (cM st) .none kV doc pm an bJ ct/\K.lookup f=U ⟨oc,od,.func fd,oH⟩/\q2U K bJ qual=θ
 kp:q0_ K (.ref f)=θ
section
variable{P:t}{w:S}{K:My}{mg:J->Option L}{base:I}
theorem gx.ye{x qual:J}{st:R}{f:O}{fd:FuncData}{N ps:-J}{k:Nat}{sp:Sp}(F:gx K x qual st f fd)(S:oF N ps (cM st))(len:∀vs H Q E,sp vs H Q E->↑vs=↑ps)
  (eY:∀(bJ:L)(A:o)(outer:-X)(s:B)(H:Hp)(vs:-V)(Q:VK)(E:XK),bB k (A.deeper (envOfC qual (cM st) ⇑s f bJ))->sp vs H Q E →
   ∃t,dM (fz eZ P w K mg base N qual (cM st) f bJ A outer s H E).lG (fZ st) t/\t {nx:=λ_ H'=>Q .non H',rt:=Q} (start N vs) H):cf P w K mg base eZ (k+1) f fd ps sp:=by
 let⟨oc,od,kV,doc,pm,an,bJ,ct,oH,rfl,lk,hX⟩:=F.ex;calc HI lk hX S len λA outer s H vs Q E hr qD=>?_;let⟨t,h,q⟩:=eY bJ A outer s H vs Q E hr qD;calc⟨t,h.lG,q⟩
theorem gx.binds{x qual:J}{st:R}{f:O}{fd:FuncData}{ps:-J}(F:gx K x qual st f fd)
  (h:∀(kV doc pm:L)(an:Option O)(bJ ct:L)(us:-L),↑us=↑ps->bindArgs (q1a x qual (jx st) (fZ st) (cM st) .none kV doc pm an bJ ct) ⟨us,[]⟩=pure (ps.zip us)):Binds K fd ps []:=by
 let⟨oc,od,kV,doc,pm,an,bJ,ct,oH,rfl,lk,hX⟩:=F.ex;calc .all (h kV doc pm an bJ ct)
theorem yf{x qual:J}{st:R}{f:O}{oc:L}{od an:Option O}{oH:Array (Option L)}{kV doc pm bJ ct:L}(l:K.lookup f=U ⟨oc,od,.func (q1a x qual (jx st) (fZ st) (cM st) .none kV doc pm an bJ ct),oH⟩)
  (c:q2U K bJ qual=θ) (k:q0_ K (.ref f)=θ):gx K x qual st f (q1a x qual (jx st) (fZ st) (cM st) .none kV doc pm an bJ ct):=⟨⟨oc,od,kV,doc,pm,an,bJ,ct,oH,Y,l,c⟩,k⟩
end
theorem qH{n:Nat}(h:n<=1000):n<sizeLine:=q29 h (by decide)
section
variable{X:Cx}
theorem jv(i:Nat){x:J}{pos:y}(hN:X.N[i]?=U x:=by rfl)(hv:u_ X.env.scope x:=by first|exact q5l Y|exact q5m (q5l Y)|calc q5m (q5m Y))(hd:b7 x:=by decide)
  (hX:(x==("__classdict__" : J))=ι:=by decide):JE X (.Name x pos) (vd i):=Hn hN hv hd hX
end
def bc(H H':Hp):Prop:=∀b o,H b=U o->H' b=U o
theorem bc.trans{H H1 H2:Hp}(a:bc H H1)(b:bc H1 H2):bc H H2:=λc o h=>b c o (a c o h)
theorem bc.free{H H':Hp}(e:bc H H'){l:O}(h:H' l=q9u):H l=q9u:=by
 cases q:H l with
 |none=>rfl
 |some o =>
  rw[e l o q] at h;cases h
theorem bc.seq{K:My}{H H':Hp}{a:O}{xs:-V}(e:bc H H')(h:bT K H a xs):bT K H' a xs:=by
 rcases h with(h|⟨o,h⟩)|h
 .exact .inl (.inl (e _ _ h))
 .exact .inl (.inr ⟨o,e _ _ h⟩)
 .calc .inr h
theorem Qx{prog:t}{w:S}{A:o}{R:Result->B->Prop}{s:B}{elt target iter:l}{ifs:-l}{scope:a}{pos:y}{it acc:L}{env:X}(I:Nat->B->Prop)
  (turn:∀n s,I n s->M (g prog w) A (pyNext it) (λr s₁=>match r with
   |none=>R (.ok .next) s₁
   |some v=>M (g prog w) A (letOwnedTupleGo target it v) (λ_ s₂=>M (g prog w) A (assign target env v) (λ_ s₃ =>
     M (g prog w) A (forIn ifs θ λc r=>if r=θ then do let ok <- isTrue c env (eval c env);pure (q1Q ok) else pure (q1Q r)) (λok s₄ =>
      if ok=θ then M (g prog w) A (eval elt env) (λx s₅ =>
       M (g prog w) A (call (.builtin "list.append") [acc,x]) (λ_ s₆=>∃m,m<n/\I m s₆) (λ_ _=>False) s₅) (λ_ _=>False) s₄
      else ∃m,m<n/\I m s₄) (λ_ _=>False) s₃) (λ_ _=>False) s₂) (λ_ _=>False) s₁) (λ_ _=>False) s)
  (n:Nat) (h:I n s) :
  codeAny (g prog w) A (.compLoop (.ListComp elt [⟨target,iter,ifs,0⟩] scope pos) 0 it acc env) R s:=by
 calc codeAny_loop Y I (λn s hI=>?_) n h;show M _ A ((compTurn (.ListComp elt [⟨target,iter,ifs,0⟩] scope pos) 0 it acc env).onRaise (λx=>do noteFrame x env;theTreesLotGoes x)) _ _ s;calc wpAny_noted ?_;rw[compTurn_list];refine sf (q23 (sf (q1U (turn n s hI) (λr s₁ h₁=>?_) λ_ _ h'=>q1t h')))
 cases r with
 |none=>exact Io h₁
 |some v =>
  calc sf (q1U h₁ (λ_ s₂ h₂=>?_) λ_ _ h'=>q1t h');refine sf (q1U h₂ (λ_ s₃ h₃=>sf (q1U h₃ (λok s₄ h₄=>?_) λ_ _ h'=>q1t h')) λ_ _ h'=>q1t h')
  cases ok with
  |false=>exact Io ⟨Y,h₄⟩
  |true =>
   calc sf (sf (q1U h₄ (λx s₄ h₄=>sf (q1U h₄ (λ_ s₅ h₅=>Io (Io ⟨Y,h₅⟩)) λ_ _ h'=>q1t h')) λ_ _ h'=>q1t h'))
theorem BF{env:X}:∀(names:-(J×NameKind))(acc:-(J×O)),(∀y∈names,y.2=.free->∃c,env.cells.lookup y.1=U c)->(∀x c,acc.lookup x=U c->env.cells.lookup x=U c) →
  ∃cl,(forIn names acc (λ(x:Str×NameKind) (cs:-(Str×Addr))=>if x.2==q11 then cellOf env x.1 >>= λa=>pure (q1Q ((x.1,a)::cs)) else pure (q1Q cs)):Sem (-(J×O)))=pure cl ∧
   (∀x c,cl.lookup x=U c->env.cells.lookup x=U c)/\(∀y∈names,y.2=.free->∃c,cl.lookup y.1=U c)/\(∀x c,acc.lookup x=U c->∃c,cl.lookup x=U c)
 |[],acc,_,h2=>⟨acc,Y,h2,λ_ hy=>absurd hy (by simp),λx c e=>⟨c,e⟩⟩
 |(n,k)::r,acc,h1,h2=>by
  rw[q48]
  by_cases hk:k=.free
  .subst hk
   let⟨c,hc⟩:=h1 (n,.free) q0m Y;let kJ:env.cells.lookup n=U c:=hc;let ec:cellOf env n=pure c:=by unfold cellOf;rw[kJ]
   let f_:∀x d,((n,c)::acc).lookup x=U d->env.cells.lookup x=U d:=λx d e=>by
    rw[q0v] at e
    cases q:x==n with
    |true =>
     rw[q] at e;cases e
     rw[q1D q];exact kJ
    |false =>
     rw[q] at e;exact h2 x d e
   let⟨cl,e,p1,p2,p3⟩:=BF r ((n,c)::acc) (λy hy=>h1 y (q0l _ hy)) f_;refine⟨cl,?_,p1,λy hy hf=>?_,λx d e=>?_⟩
   .dsimp only
    rw[q0k (by decide),ec];exact e
   .rcases Qu.mp hy with rfl|hy
    .exact p3 n c (by simp)
    .exact p2 y hy hf
   .cases q:x==n with
    |true=>exact p3 x c (by rw[q0v,q])
    |false=>exact p3 x d (by rw[q0v,q];calc e)
  .let⟨cl,e,p1,p2,p3⟩:=BF r acc (λy hy=>h1 y (q0l _ hy)) h2
   refine⟨cl,?_,p1,λy hy hf=>?_,p3⟩
   .dsimp only
    rw[q0i hk⁻¹];exact e
   .rcases Qu.mp hy with rfl|hy
    .exact absurd hf hk
    .calc p2 y hy hf
theorem Iq{scope:Δ}{env:X}(h:∀y∈scope.names,y.2=.free->∃c,env.cells.lookup y.1=U c):
  ∃cl,closureFor scope env=pure cl/\(∀x c,cl.lookup x=U c->env.cells.lookup x=U c)/\∀y∈scope.names,y.2=.free->∃c,cl.lookup y.1=U c:=by
 let⟨cl,e,p1,p2,_⟩:=BF scope.names [] h (λx c e=>by simp at e);calc⟨cl,?_,p1,p2⟩;let e':closureFor scope env=(forIn scope.names ([]:-(J×O)) (λ(x:Str×NameKind) (cs:-(Str×Addr))=>if x.2==q11 then cellOf env x.1 >>= λa=>pure (q1Q ((x.1,a)::cs)) else pure (q1Q cs)):Sem (-(J×O))) >>= pure:=Y;rw[e',e];rfl
structure BD where
 cl:-(J×O)
 C:O
 s:B
 H:Hp
 fp:-O
@[reducible] noncomputable def cV (X:Cx) (scope:a) (Nb:-J) (d:BD):Cx where
 prog:=X.prog
 w:=X.w
 K:=X.K
 mg:=X.mg
 base:=X.base
 A:=X.A
 N:=Nb
 s₀:=d.s
 H₀:=d.H
 env:=compEnvC scope d.cl d.C X.env
 outer:=X.stack
 stack:=X.stack
 ex:=d.fp
 fn:=λx=>G (scope.names.lookup x=U .cell)
 calm:=X.calm
 pn:=[]
 xe:=λ_ _=>False
noncomputable def jy(cp:-(Option Nat))(σ:St):St:=cp.map λo=>match o with
 |some i=>(σ[i]?).join
 |none=>Z
noncomputable def mz(N:-J)(yg scope:a)(Nb:-J)(cp:-(Option Nat)):Bool :=
 (scope.names.all λy=>(G (y.2≠.cell)||G (scope.names.lookup y.1=U .cell))&&(G (y.2≠.local)||G (scope.names.lookup y.1=U .local))&&(G (y.2≠.free)||G (yg.names.lookup y.1=U .cell)||G (yg.names.lookup y.1=U .free))) &&
 G (↑cp=↑Nb)&&(cp.zip Nb).all λz=>match z.1 with
  |none=>θ
  |some i=>G (N[i]?=U z.2)&&G (scope.names.lookup z.2=U .free)
structure yh(X:Cx)(scope:a)(Nb:-J)(cp:-(Option Nat)):Prop where
 kind:scope.kind=.function
 cell:∀y∈scope.names,y.2=.cell->scope.names.lookup y.1=U .cell
 names:∀y∈scope.names,y.2=.local->scope.names.lookup y.1=U .local
 free:∀y∈scope.names,y.2=.free->(X.env.kindOf y.1=U .cell\/X.env.kindOf y.1=U .free)
 len:↑cp=↑Nb
 vF:∀(j i:Nat)(x:J),cp[j]?=U (U i)->Nb[j]?=U x->X.N[i]?=U x/\scope.names.lookup x=U .free
theorem x4r{X:Cx}{scope:a}{Nb:-J}{cp:-(Option Nat)}(hk:scope.kind=.function)(h:mz X.N X.env.scope scope Nb cp=θ):yh X scope Nb cp:=by
 unfold mz at h;erw[q0L,q1V,q3H,q0y] at h;let⟨⟨h1,h2⟩,h3⟩:=h;refine⟨hk,λy hy e=>(h1 y hy).1.1.resolve_left (λz=>z e),λy hy e=>?_,λy hy e=>?_,h2,λj i x e1 e2=>?_⟩
 .rcases (h1 y hy).1.2 with z|z
  .exact absurd e z
  .exact z
 .rcases (h1 y hy).2 with(z|z)|z
  .exact absurd e z
  .exact .inl z
  .exact .inr z
 .let hm:(U i,x)∈cp.zip Nb:=by
   let:(cp.zip Nb)[j]?=U (U i,x):=by
    rw[List.getElem?_zip_eq_some];exact⟨e1,e2⟩
   exact q0S this
  let:=h3 _ hm;simpa using this
theorem BG{env:X}{x:J}:∀{names:-(J×NameKind)}{k:NameKind},names.lookup x=U k →
  (names.map λ(n,k)=>if(k==q11&&env.scope.kind==.function&&env.kindOf n==U .cell) then(n,q1M) else(n,k)).lookup x =
   U (if(k==q11&&env.scope.kind==.function&&env.kindOf x==U .cell) then q1M else k)
 |[],k,h=>by simp at h
 |(n,k')::r,k,h=>by
  let ih:=@BG env x r k;show q2K x ((if(k'==q11&&env.scope.kind==.function&&env.kindOf n==U .cell)=θ then(n,q1M) else(n,k'))::_)=_
  cases hx:x==n with
  |true =>
   erw[q0v,hx] at h;cases h
   let e:x=n:=q1D hx;subst e
   by_cases hc:(k'==q11&&env.scope.kind==.function&&env.kindOf x==U .cell)=θ
   .rw[q0k hc,q0k hc];simp[q0v]
   .rw[q0i hc,q0i hc];simp[q0v]
  |false =>
   erw[q0v,hx] at h
   by_cases hc:(k'==q11&&env.scope.kind==.function&&env.kindOf n==U .cell)=θ
   .rw[q0k hc];erw[q0v,hx];exact ih h
   .rw[q0i hc];erw[q0v,hx];calc ih h
theorem Ir{env:X}{x:J}:∀{names:-(J×NameKind)},names.lookup x=Z →
  (names.map λ(n,k)=>if(k==q11&&env.scope.kind==.function&&env.kindOf n==U .cell) then(n,q1M) else(n,k)).lookup x=Z
 |[],h=>by simp
 |(n,k')::r,h=>by
  let ih:=@Ir env x r;show q2K x ((if(k'==q11&&env.scope.kind==.function&&env.kindOf n==U .cell)=θ then(n,q1M) else(n,k'))::_)=_
  cases hx:x==n with
  |true=>erw[q0v,hx] at h;cases h
  |false =>
   erw[q0v,hx] at h
   by_cases hc:(k'==q11&&env.scope.kind==.function&&env.kindOf n==U .cell)=θ
   .rw[q0k hc];erw[q0v,hx];exact ih h
   .rw[q0i hc];erw[q0v,hx];calc ih h
structure JF(X:Cx)(ifs:-l)(t:TT):Prop where
 out:∀(pins:aM)(s:B)(σ:St)(H:Hp)(Q:Bool->Hp->Prop),Inv X pins σ H s->t σ H Q →
  M (g X.prog X.w) X.A (forIn ifs θ λc r=>if r=θ then do let ok <- isTrue c X.env (eval c X.env);pure (q1Q ok) else pure (q1Q r)) (TP X pins σ Q) X.xe s
instance {X:Cx} {ifs:-l} {t:TT}:CoeFun (JF X ifs t) (λ_=>∀(pins:aM)(s:B)(σ:St)(H:Hp)(Q:Bool->Hp->Prop),Inv X pins σ H s->t σ H Q->M (g X.prog X.w) X.A (forIn ifs θ λc r=>if r=θ then do let ok <- isTrue c X.env (eval c X.env);pure (q1Q ok) else pure (q1Q r)) (TP X pins σ Q) X.xe s):=⟨JF.out⟩
def BH:TT:=λ_ H Q=>Q θ H
theorem sg{X:Cx}:JF X [] BH:=⟨λ_ _ _ H _ I h=>wpAny_tests_nil ⟨H,I,h⟩⟩
theorem Qy{X:Cx}{c:l}{t:TT}(h:JT X c t):JF X [c] t:=⟨λpins s σ H Q I hw=>wpAny_tests_one (h pins s σ H Q I hw)
⟩
def Qz(g:TG)(tf:TT)(te:TE)(l:O)(x:V)(τ:St)(H:Hp)(N:St->Hp->Prop):Prop :=
 g x τ H fun τ2 H2=>tf τ2 H2 λb H3=>if b=θ then te τ2 H3 λy H4=>∃ys,H4 l=U (.lst ys)/\↑ys<sizeLine/\N τ2 (upd H4 l (.lst (ys++[y]))) else N τ2 H3
def Iu(J:It)(g:TG)(tf:TT)(te:TE)(l:O)(τ0:St)(H0:Hp)(Q:VK):Prop :=
 ∃W:Nat->Nat->St->Hp->Prop,(∃m,W 0 m τ0 H0)/\∀i m τ H,W i m τ H →
  (J.stop i H/\Q (.ref l) H)\/(J.go i H/\∃N:St->Hp->Prop,(∀τ' H',N τ' H'->∃m',m'<m/\W (i+1) m' τ' H')/\∀x H',J.tQ i H x H'->Qz g tf te l x τ H' N)
def vG(wi:TI)(cp:-(Option Nat))(g:BD->TG)(tf:BD->TT)(te:BD->TE):TE:=fun σ H Q=>wi σ H λJ H1=>∀(d:BD)(l:O),H1 l=Z->Iu J (g d) (tf d) (te d) l (jy cp σ) (upd H1 l (.lst [])) Q
theorem tW:∀{names:-(J×NameKind)}{n:Nat}{acc:-(J×O)}{x:J}{c:O},(cellsFrom n names acc).lookup x=U c->acc.lookup x=U c\/(n<=c/\(x,q1M)∈names)
 |[],n,acc,x,c,h=>.inl h
 |(y,k)::r,n,acc,x,c,h=>by
  unfold cellsFrom at h;split at h
  .rename_i hk
   let ek:k=.cell:=q1D hk;subst ek;rcases tW h with h|⟨h,m⟩
   .rw[q0v] at h
    cases q:x==y with
    |true=>rw[q] at h;cases h;rw[q1D q];exact .inr ⟨Im _,q0m ..⟩
    |false=>rw[q] at h;exact .inl h
   .exact .inr ⟨⋯,q0l _ m⟩
  .rcases tW h with h|⟨h,m⟩
   .exact .inl h
   .calc .inr ⟨h,q0l _ m⟩
theorem BI:∀{names:-(J×NameKind)}{n:Nat}{acc:-(J×O)}{x:J}{c:O},(x,q1M)∈names->(cellsFrom n names acc).lookup x=U c->n<=c
 |[],n,acc,x,c,m,h=>by cases m
 |(y,k)::r,n,acc,x,c,m,h=>by
  unfold cellsFrom at h
  by_cases mr:(x,q1M)∈r
  .split at h
   .let:=BI mr h;symm
   .exact BI mr h
  .let e:(x,q1M)=(y,k):=by
    rcases Qu.mp m with e|e
    .exact e
    .exact absurd e mr
   cases e
   rw[q0k (by decide)] at h;rcases tW h with h|⟨h,_⟩
   .rw[q0v,beq_self_eq_true] at h
    cases h;exact Im _
   .omega
theorem BJ:∀{names:-(J×NameKind)}{n:Nat}{acc:-(J×O)}{x y:J}{c:O},(∀u v c,acc.lookup u=U c->acc.lookup v=U c->u=v)->(∀u c,acc.lookup u=U c->c<n)->(cellsFrom n names acc).lookup x=U c->(cellsFrom n names acc).lookup y=U c->x=y
 |[],n,acc,x,y,c,hi,_,h1,h2=>hi x y c h1 h2
 |(z,k)::r,n,acc,x,y,c,hi,hb,h1,h2=>by
  unfold cellsFrom at h1 h2;split at h1
  .rename_i hk
   rw[q0k hk] at h2;refine BJ (λu v c q1 q2=>?_) (λu c q=>?_) h1 h2
   .rw[q0v] at q1 q2
    cases e1:u==z with
    |true =>
     rw[e1] at q1;cases q1
     cases e2:v==z with
     |true=>rw[q1D e1,q1D e2]
     |false=>rw[e2] at q2;exact absurd (hb v _ q2) (q1L _)
    |false =>
     rw[e1] at q1
     cases e2:v==z with
     |true=>rw[e2] at q2;cases q2;exact absurd (hb u _ q1) (q1L _)
     |false=>rw[e2] at q2;exact hi u v c q1 q2
   .rw[q0v] at q
    cases e1:u==z with
    |true=>rw[e1] at q;cases q;exact q0T _
    |false=>rw[e1] at q;exact q0O (hb u c q)
  .rename_i hk
   rw[q0i hk] at h2;calc BJ hi hb h1 h2
theorem BK:∀{names:-(J×NameKind)}{n:Nat}{acc:-(J×O)}{x:J},(x,q1M)∉names->(cellsFrom n names acc).lookup x=acc.lookup x
 |[],n,acc,x,_=>Y
 |(y,k)::r,n,acc,x,m=>by
  unfold cellsFrom;split
  .rename_i hk
   let ek:k=.cell:=q1D hk;subst ek;rw[BK λz=>m (q0l _ z),q0v]
   cases q:x==y with
   |true=>exact absurd (by rw[q1D q];calc q0m ..) m
   |false=>rfl
  .calc BK λz=>m (q0l _ z)
theorem BL:∀{names:-(J×NameKind)}{h:I}{acc:-(J×O)}{x:J}{c:O},(∀u c,acc.lookup u=U c->∃v,h.IsCell c v)->(cellsFrom h.objs.size names acc).lookup x=U c->∃v,(pushCells h names).IsCell c v
 |[],h,acc,x,c,hc,e=>hc x c e
 |(y,k)::r,h,acc,x,c,hc,e=>by
  unfold cellsFrom at e;unfold pushCells;split at e
  .rename_i hk
   rw[q0k hk];let hz:(h.push {cls:=.type "cell",data:=.cell Z}).objs.size=h.objs.size+1:=q00 ..;rw[<-hz] at e;calc BL (λu c q=>?_) e;rw[q0v] at q
   cases e1:u==y with
   |true=>rw[e1] at q;cases q;exact⟨Z,_,q0c _ Y,Y⟩
   |false =>
    rw[e1] at q;let⟨v,o,g1,g2⟩:=hc u c q;exact⟨v,o,yd _ g1,g2⟩
  .rename_i hk
   rw[q0i hk];calc BL hc e
theorem QA{M:Model}{A:o}{E:bA}{s:B}{scope:a}{g:O}{cl:-(J×O)}{qual:J}{env:X}{Q:X->B->Prop}
  (h:Q (newEnv scope ⇑s g (cellsFrom (⇑s+1) scope.names cl) qual Z .none (U env) builtinsNs) {s with heap:=pushCells (s.heap.push {cls:=.type "dict",data:=.dict #[]}) scope.names}) :
  ρ M A (newFunctionEnv scope g cl [] qual Z .none (U env)) Q E s:=by
 erw[newFunctionEnv,q33,q2N];calc sf (wpAny_alloc ?_);calc sf (wpAny_layCells _ (λname kind cells=>by cases QB:kind==q1M<;>simp[QB]) _ _ _ _ ?_);rw[show({s with heap:=s.heap.push {cls:=.type "dict",data:=.dict #[]}}:B).heap.objs.size=⇑s+1 from q00 ..];calc sf ?_;rw[q5z];calc Io (Io h)
section
variable{X:Cx}{elt tg iter:l}{ifs:-l}{scope:a}{pos:y}{Nb:-J}{cp:-(Option Nat)}{wi:TI}{g:BD->TG}{tf:BD->TT}{te:BD->TE}
variable{pins:aM}{σ:St}{H:Hp}{s:B}
noncomputable abbrev vH(scope:a)(s:B)(cl:-(J×O)):-(J×O):=cellsFrom (⇑s+1) scope.names cl
theorem QC{fp:-O}{cl:-(J×O)}(S:yh X scope Nb cp)(I:Inv X pins σ H s)(hf:∀b∈fp,b_ X pins H b)(ho:∀b∈fp,∃o,s.heap.get? b=U o)
  (c1:∀x c,cl.lookup x=U c->X.env.cells.lookup x=U c) (c2:∀y∈scope.names,y.2=.free->∃c,cl.lookup y.1=U c):(cV X scope Nb ⟨vH scope s cl,⇑s,s,H,fp⟩).Ok:=by
 let QD:∀b∈fp,b∉lF X.stack:=λb hb z=>by
  let⟨_,f1,f2,_⟩:=hf b hb;rcases Qu.mp (I.hW b z) with e|e
  .exact f1 e
  .exact f2 e
 let lt:∀u c,cl.lookup u=U c->c<⇑s:=λu c e=>by
  let⟨v,q⟩:=I.cell u c (c1 _ _ e);exact q.lt
 refine⟨I.ok.mod,?_,I.ok.glob,I.ok.blt,Im _,λx y c h1 h2=>?_,λx hx=>?_,λx c h hc=>?_,I.ok.hd,I.ok.frames,.inl Y,λb hb=>⟨?_,λx c e=>?_⟩,I.bs,q0B I.ok.l8 I.sz,λb o e hb=>?_,QD,I.stack,I.j9⟩
 .exact S.kind
 .exact BJ (λu v c q1 q2=>I.ok.inj u v c (c1 _ _ q1) (c1 _ _ q2)) (λu c e=>q0O (lt u c e)) h1 h2
 .cases q:scope.names.lookup x with
  |none =>
   let z:(relabel scope X.env).names.lookup x=Z:=Ir q;let tX:(relabel scope X.env).names.lookup x=U .cell\/(relabel scope X.env).names.lookup x=U .free:=hx;rw[z] at tX;rcases tX with h|h<;>cases h
  |some k =>
   let hm:=q1r q;let z:(relabel scope X.env).names.lookup x=_:=BG (env:=X.env) q;let tX:(relabel scope X.env).names.lookup x=U .cell\/(relabel scope X.env).names.lookup x=U .free:=hx;rw[z] at tX
   let kf:k=.free\/k=.cell:=by
    by_cases hk:k=.free
    .exact .inl hk
    .let:(k==q11)=ι:=by simpa using hk
     erw[this,q5v,q1b,q2g] at tX;rcases tX with h|h
     .exact .inr (q0A h)
     .exact absurd (q0A h) hk
   calc q4p.mp (q3j scope.names _ cl ?_);rcases kf with rfl|rfl
   .let⟨c,e⟩:=c2 (x,.free) hm Y
    exact .inr (by rw[show cl.lookup x=U c from e];rfl)
   .exact .inl q
 .let hl:scope.names.lookup x=U .cell:=q0U h
  let:=BI (q1r hl) hc;exact q6p this
 .let⟨o,e⟩:=ho b hb
  exact q0g (q0a e)
 .rcases tW e with e|⟨e,_⟩
  .exact (hf b hb).2.2.2.2.1 x c (c1 _ _ e)
  .let⟨o,eo⟩:=ho b hb
   let BM:=q0a eo;ext z;subst z;exact absurd (q6q e) (x0I.mpr (q1e BM))
 .rcases (hf b hb).2.2.2.1 with z|z
  .exact I.ok.iV b o e z
  .calc absurd (q0o (q0a (I.ok.bs b o e).1) z) (q1L _)
theorem QE{cp:-(Option Nat)}{σ:St}{j:Nat}{v:V}(h:(jy cp σ)[j]?=U (U v)):∃i,cp[j]?=U (U i)/\σ[i]?=U (U v):=by
 unfold jy at h;rw[Qw] at h
 cases e:cp[j]? with
 |none=>rw[e] at h;cases h
 |some o =>
  rw[e] at h
  cases o with
  |none=>cases h
  |some i =>
   calc⟨i,Y,?_⟩;let h':(σ[i]?).join=U v:=q0A h
   cases q:σ[i]? with
   |none=>rw[q] at h';cases h'
   |some z =>
    rw[q] at h';let:z=U v:=h';rw[this]
theorem QF{fp:-O}{cl:-(J×O)}{h1:Α}{tk:Nat}(S:yh X scope Nb cp)(I:Inv X pins σ H s)(hf:∀b∈fp,b_ X pins H b)(ho:∀b∈fp,∃o,s.heap.get? b=U o)
  (c1:∀x c,cl.lookup x=U c->X.env.cells.lookup x=U c) (c2:∀y∈scope.names,y.2=.free->∃c,cl.lookup y.1=U c)
  (hn:h1.Ns ⇑s (λx=>([]:-(J×L)).reverse.lookup x)) (hk:∀b o,s.heap.get? b=U o->h1.get? b=U o) (qE:∀x c,(vH scope s cl).lookup x=U c->∃v,h1.IsCell c v) :
  Inv (cV X scope Nb ⟨vH scope s cl,⇑s,s,H,fp⟩) [] (jy cp σ) H {s with heap:=h1,toks:=tk}:=by
 refine⟨QC S I hf ho c1 c2,Y,I.bare,Un.kept hk,⟨_,hn,λj x v e1 e2 e3=>?_⟩,qE,I.bu.fresh (Im _),λx c e=>?_,λp hp=>absurd (show p∈([]:aM) from hp) (by simp),I.bu.kept hk,?_⟩
 .let⟨i,q1,q2⟩:=QE e2
  let⟨q3,q4⟩:=S.vF j i x q1 e1;let hm:=q1r q4;let qJ:=S.free _ hm Y;let⟨m,_,hl⟩:=I.loc
  let QG:u_ X.env.scope x:=by
   rcases qJ with h|h
   .exact .inr (.inl h)
   .exact .inr (.inr h)
  let⟨u,ru,lk⟩:=hl i x v q3 q2 QG;refine⟨u,ru,?_⟩
  let nl:X.env.kindOf x≠U .local:=by
   rcases qJ with h|h
   .ext z;rw[h] at z;cases z
   .ext z;rw[h] at z;cases z
  rcases lk with⟨k,_⟩|⟨_,c,ec,hc⟩
  .exact absurd k nl
  .let⟨c',Iv⟩:=c2 (x,.free) hm Y
   let Iw:=c1 _ _ Iv;rw[ec] at Iw;cases Iw;let nc:(x,q1M)∉scope.names:=λz=>by let:=S.cell _ z Y;rw[show scope.names.lookup x=U .free from q4] at this;cases this
   refine .inr ⟨?_,c,(BK nc).trans Iv,?_⟩
   .let z:(relabel scope X.env).names.lookup x=_:=BG (env:=X.env) q4
    show(relabel scope X.env).names.lookup x=U .cell\/(relabel scope X.env).names.lookup x=U .free;rw[z];split
    .exact .inl Y
    .exact .inr Y
   .let⟨o,e,d⟩:=hc
    exact⟨o,hk _ _ e,d⟩
 .rcases tW e with e|⟨e,_⟩
  .exact I.cP x c (c1 _ _ e)
  .exact I.bu.fresh (q6p e)
 .unfold jy
  rw[BE];calc S.len
theorem QH{fp:-O}{d:BD}{it l:O}{tn:Nat->I->Prop}{J:It}{R:Result->B->Prop}{Q:VK}{H1:Hp}{s1:B}{τ:St}(hc:X.calm=θ)
  (hg:JG (cV X scope Nb d) tg (g d)) (hf:JF (cV X scope Nb d) ifs (tf d)) (he:JE (cV X scope Nb d) elt (te d)) (T:Turn X.prog X.w X.K tg J fp it tn)
  (dfp:d.fp=fp) (I1:Inv (cV X scope Nb d) [] τ H1 s1) (jE:tn 0 s1.heap) (Iy:∀b∈fp,b_ (cV X scope Nb d) [] H1 b)
  (W:Nat->Nat->St->Hp->Prop) (w0:∃m,W 0 m τ H1)
  (turn:∀i m τ H,W i m τ H->(J.stop i H/\Q (.ref l) H)\/(J.go i H/\∃N:St->Hp->Prop,(∀τ' H',N τ' H'->∃m',m'<m/\W (i+1) m' τ' H')/\∀x H',J.tQ i H x H'->g d x τ H' fun τ2 H2=>tf d τ2 H2 λb H3 =>
   if b=θ then te d τ2 H3 λy H4=>∃ys,H4 l=U (.lst ys)/\↑ys<sizeLine/\N τ2 (upd H4 l (.lst (ys++[y]))) else N τ2 H3))
  (fin:∀τ' H' s',Inv (cV X scope Nb d) [] τ' H' s'->Q (.ref l) H'->R (.ok .next) s') :
  codeAny (ς X.prog X.w) X.A (.compStart (.ListComp elt [⟨tg,iter,ifs,0⟩] scope pos) 0 (.ref it) (.ref l) (compEnvC scope d.cl d.C X.env)) R s1:=by
 let jF:∀{H':Hp},(∀b∈fp,H' b=Z)->∀b∈fp,b_ (cV X scope Nb d) [] H' b:=λhn b hb=>⟨hn b hb,(Iy b hb).2⟩
 let loop:codeAny (ς X.prog X.w) X.A (.compLoop (.ListComp elt [⟨tg,iter,ifs,0⟩] scope pos) 0 (.ref it) (.ref l) (compEnvC scope d.cl d.C X.env)) R s1:=by
  let⟨m0,w0⟩:=w0;calc Qx (λn s'=>∃i τ' H',Inv (cV X scope Nb d) [] τ' H' s'/\tn i s'.heap/\(∀b∈fp,H' b=Z)/\W i n τ' H') ?_ m0 ⟨0,τ,H1,I1,jE,λb hb=>(Iy b hb).1,w0⟩;ext n s3 ⟨i,σ3,H3,I3,qz,vk,w3⟩;rcases turn i n σ3 H3 w3 with⟨stop,qn⟩|⟨go,N,hN,step⟩
  .refine bL (T.done (cV X scope Nb d) Y Y Y hc i [] s3 σ3 H3 (λ_ _=>False) I3 (jF vk) qz stop) λr s4 ⟨hr,I4⟩=>?_
   subst hr;exact fin σ3 H3 s4 I4 qn
  .refine bL (T.item (cV X scope Nb d) Y Y Y hc i [] s3 σ3 H3 (λ_ _=>False) I3 (jF vk) qz go) λr s4 ⟨u,hr,h4⟩=>?_
   subst hr;calc bL h4 λ_ s5 ⟨x,H5,I5,r5,y5,rM,A7⟩=>?_;let A8:=I5.pinned (jF A7) (T.obj _ _ rM);refine bL (hg _ s5 σ3 H5 x u _ A8 r5 (step x H5 y5)) λ_ s6 ⟨σ6,H6,I6,q6⟩=>?_
   let again:∀{σ7:St}{H7:Hp}{s7:B}{m':Nat},Inv (cV X scope Nb d) ([]++vj fp s5.heap) σ7 H7 s7->m'<n->W (i+1) m' σ7 H7->∃m,m<n/\∃i σ' H',Inv (cV X scope Nb d) [] σ' H' s7/\tn i s7.heap/\(∀b∈fp,H' b=Z)/\W i m σ' H':=λ{σ7 H7 s7 m'} I7 hm w7=>by
    calc⟨m',hm,i+1,σ7,H7,I7.eW,T.keep _ _ _ rM λb hb o e=>(I7.pin (b,o) (q0p _ (q0p _ (xZ hb e)))).1,λb hb=>?_,w7⟩;let⟨o,e,d⟩:=T.obj _ _ rM b hb;exact(I7.pin (b,o) (q0p _ (q0p _ (xZ hb e)))).2.1
   refine bL (hf _ s6 σ6 H6 _ I6 q6) λok s7 h0_=>el3 h0_ λH7 I7 q7=>?_
   cases ok with
   |false =>
    rw[q0i q0F] at q7 ⊢;let⟨m',hm,w7⟩:=hN _ _ q7;exact again I7 hm w7
   |true =>
    rw[q0k Y] at q7 ⊢;calc bL (he _ s7 σ6 H7 _ I7 q7) λy s8 ⟨yv,H8,I8,r8,ys,hy,hz,q8⟩=>?_;let⟨m',hm,w8⟩:=hN _ _ q8;calc bL (qG _ s8 σ6 H8 (.ref l) [yv] (.ref l) [y] (λ_ H9=>H9=upd H8 l (.lst (ys++[yv]))) I8 Y (.cons r8 .nil) ⟨l,ys,yv,Y,Y,hy,hz,Y⟩) λ_ s9 ⟨_,H9,I9,_,e9⟩=>?_;subst e9;exact again I9 hm w8
 calc codeAny_compStart_list loop (T.self _ 0 s1 _ _ jE loop)
theorem QI{fp:-O}{d:BD}{τ:St}{H1 H':Hp}{s1 s':B}(I1:Inv X pins σ H1 s1)(hs:d.s=s1)(hH:d.H=H1)(hd:d.fp=fp)(hf:∀b∈fp,b_ X pins H1 b)(J:Inv (cV X scope Nb d) [] τ H' s'):Inv X pins σ H' s':=by
 subst hs hH hd;calc I1.vc (ch:=d.fp) J.os J.base J.bu J.bare λb hb=>⟨(hf b hb).2.2.2.1,(hf b hb).2.1,(hf b hb).2.2.2.2.1,(hf b hb).2.2.2.2.2⟩
theorem Iz{use:Option (L->Sem Unit)}{P:bA}{Q:VK}(hc:X.calm=θ)(S:yh X scope Nb cp)(hi:JI X tg iter wi)(hg:∀d,JG (cV X scope Nb d) tg (g d))(hf:∀d,JF (cV X scope Nb d) ifs (tf d))(he:∀d,JE (cV X scope Nb d) elt (te d))
  (hs:∀x,foldedSetIterable iter X.env x=pure x) (I:Inv X pins σ H s) (h:vG wi cp g tf te σ H Q)
  (fin:∀(l C:O)(H':Hp)(s':B)(m:π->Option L),Inv X pins σ H' s'->b_ X pins H' C->(∀p c,X.env.cells.lookup p=U c->c≠C)->s'.heap.Ns C m->Q (.ref l) H'->compPost (ς X.prog X.w) X.A X.xe use P (.ref l) C (.ok .next) s') :
  M (ς X.prog X.w) X.A (comprehension (.ListComp elt [⟨tg,iter,ifs,0⟩] scope pos) scope X.env (firstIterPos [⟨tg,iter,ifs,0⟩] pos) (newList []) ι (eval iter X.env) use) P X.xe s:=by
 let⟨cl,QJ,c1,c2⟩:=Iq (scope:=scope) (env:=X.env) λy hy QK=>by
  rcases S.free y hy QK with z|z
  .exact I.ok.has _ (.inl z)
  .exact I.ok.has _ (.inr z)
 calc wpAny_comprehension_free (cl:=cl) Y hs QJ S.kind S.names (bL (hi pins s σ H _ I h) λv s1 h1=>bL h1 λA3 s2 h2=>?_);let⟨it,fp,tn,J,H2,e,I2,T,j8,f2,q2⟩:=h2;subst e;calc q1H ?_;let hl:H2 ⇑s2=Z:=I2.fresh;let I3:Inv X pins σ (upd H2 ⇑s2 (.lst [])) {s2 with heap:=s2.heap.push {cls:=.type "list",data:=.seq ([]:-L).toArray}}:=I2.cE (t':=s2.toks) (ys:=[]) .nil (q06 _);let k3:∀b o,s2.heap.get? b=U o->(s2.heap.push {cls:=.type "list",data:=.seq ([]:-L).toArray}).get? b=U o:=λb o e=>yd _ e
 let f3:∀b∈fp,b_ X pins (upd H2 ⇑s2 (.lst [])) b:=λb hb=>by
  let⟨o,e,_⟩:=T.obj _ _ j8 b hb;calc⟨?_,(f2 b hb).2⟩;rw[bE (q0g (q0a e))];exact(f2 b hb).1
 generalize QL:upd H2 ⇑s2 (.lst [])=H3 at I3 f3;generalize QM:({s2 with heap:=s2.heap.push {cls:=.type "list",data:=.seq ([]:-L).toArray}}:B)=s3 at I3;let IA:∀b o,s2.heap.get? b=U o->s3.heap.get? b=U o:=by rw[<-QM];exact k3
 let o3:∀b∈fp,∃o,s3.heap.get? b=U o:=λb hb=>let⟨o,e,_⟩:=T.obj _ _ j8 b hb;⟨o,IA b o e⟩;calc QA ?_;let k4:∀b o,s3.heap.get? b=U o->(pushCells (s3.heap.push {cls:=.type "dict",data:=.dict #[]}) scope.names).get? b=U o:=λb o e=>q66 _ _ _ _ (yd _ e);let vI:(pushCells (s3.heap.push {cls:=.type "dict",data:=.dict #[]}) scope.names).Ns ⇑s3 (λx=>([]:-(π×L)).reverse.lookup x):=(Heap.Ns.new s3.heap (.type "dict")).keeps (q66 _ _)
 let I4:=QF (Nb:=Nb) (tk:=s3.toks) S I3 f3 o3 c1 c2 vI k4 λx c e=>by
  let hz:(s3.heap.push {cls:=.type "dict",data:=.dict #[]}).objs.size=⇑s3+1:=q00 ..;let e':(cellsFrom (s3.heap.push {cls:=.type "dict",data:=.dict #[]}).objs.size scope.names cl).lookup x=U c:=by rw[hz];exact e
  calc BL (λu c q=>?_) e';let⟨v,o,g1,g2⟩:=I3.cell u c (c1 _ _ q);exact⟨v,o,yd _ g1,g2⟩
 generalize QN:pushCells (s3.heap.push {cls:=.type "dict",data:=.dict #[]}) scope.names=h₁ at k4 vI I4 ⊢;let⟨W,w0,turn⟩:=q2 ⟨vH scope s3 cl,⇑s3,s3,H3,fp⟩ ⇑s2 hl;rw[QL] at w0;refine QH (d:=⟨vH scope s3 cl,⇑s3,s3,H3,fp⟩) (fp:=fp) (tn:=tn) (J:=J) (Q:=Q) hc (hg _) (hf _) (he _) T Y I4 (T.keep _ _ _ j8 λb hb o e=>k4 b o (IA b o e)) (λb hb=>?_) W w0 turn fun τ' H' s' I5 q5=>?_
 .let⟨o,e⟩:=o3 b hb
  refine⟨(f3 b hb).1,q0g (q0a e),λz=>?_,.inl hb,λx c ec=>?_,λp hp=>absurd (show p∈([]:aM) from hp) (by simp)⟩
  .rcases Qu.mp (I3.hW b z) with r|r
   .exact (f3 b hb).2.1 r
   .exact (f3 b hb).2.2.1 r
  .rcases tW ec with q|⟨q,_⟩
   .exact (f3 b hb).2.2.2.2.1 x c (c1 _ _ q)
   .let BM:=q0a e
    ext z;subst z;exact absurd (q6q q) (x0I.mpr (q1e BM))
 .let I6:Inv X pins σ H' s':=QI I3 Y Y Y f3 I5
  let⟨m,hn,_⟩:=I5.loc;let fC:b_ X pins H' ⇑s3:=I3.hZ (Im _) I5.free;calc fin _ _ _ _ m I6 fC (λp c e=>fC.2.2.2.2.1 p c e) hn q5
theorem IB(cp:-(Option Nat))(Nb:-J)(hc:X.calm=θ)(hi:JI X tg iter wi)(hg:∀d,JG (cV X scope Nb d) tg (g d))(hf:∀d,JF (cV X scope Nb d) ifs (tf d))(he:∀d,JE (cV X scope Nb d) elt (te d))
  (hk:scope.kind=.function:=by rfl) (ho:mz X.N X.env.scope scope Nb cp=θ:=by first|rfl|kernel_rfl) (hs:∀x,foldedSetIterable iter X.env x=pure x:=by ext _;rfl) :
  JE X (.ListComp elt [⟨tg,iter,ifs,0⟩] scope pos) (vG wi cp g tf te):=by
 calc⟨?_⟩;ext pins s σ H Q I h;rw[eval_ListComp];calc Iz (use:=none) hc (x4r hk ho) hi hg hf he hs I h λl C H' s' m I' fC hcc hn q=>⟨m,hn,λh' vJ=>⟨.ref l,H',?_,Y,q⟩⟩;calc I'.turned (t':=s'.toks) (λb o hb e=>(vJ.2 b hb).trans e) fC.1 fC.2.1 fC.2.2.2.1 fC.2.2.2.2.1 fC.2.2.2.2.2
theorem QO(cp:-(Option Nat))(Nb:-J){i:Nat}{x:J}{pos' iZ:y}(hN:X.N.Nodup)(hi:X.N[i]?=U x)(hx:Loc X.env.scope x)(hc:X.calm=θ)(hit:JI X tg iter wi)(hg:∀d,JG (cV X scope Nb d) tg (g d))(hf:∀d,JF (cV X scope Nb d) ifs (tf d))(he:∀d,JE (cV X scope Nb d) elt (te d))
  (hk:scope.kind=.function:=by rfl) (ho:mz X.N X.env.scope scope Nb cp=θ:=by first|rfl|kernel_rfl) (hs:∀x,foldedSetIterable iter X.env x=pure x:=by ext _;rfl)
  (vK:swapsWith (.ListComp elt [⟨tg,iter,ifs,0⟩] scope pos) (U (.Name x pos')) iZ.line X.env=pure θ:=by rfl)
  (nP:hV X x:=by first|exact .inl Y|exact .inr Y|assumption) :
  JS X (.Assign [.Name x pos'] (.ListComp elt [⟨tg,iter,ifs,0⟩] scope pos) iZ) (me (vG wi cp g tf te) (xX i)):=by
 calc⟨?_⟩;ext pins s σ H D I h;rw[exec_Assign_Name_used _ _ _ _ vK];calc sf (q23 (sf ?_));show M _ X.A (do let _ <- comprehension (.ListComp elt [⟨tg,iter,ifs,0⟩] scope pos) scope X.env _ (newList []) ι (eval iter X.env) (U (assign (.Name x pos') X.env))) _ _ s;calc sf (bL (Iz (use:=U (assign (.Name x pos') X.env)) (P:=λ_ s'=>SP X pins D .next s') hc (x4r hk ho) hit hg hf he hs I h λl C H' s' m I' fC hcc hn q=>?_) λ_ s' hq=>Io (Io hq));show M _ X.A (assign (.Name x pos') X.env (.ref l)) _ _ s';refine q6c (Hk I' hN hi hx (v:=.ref l) Y (λjI QP ⟨a,sb,ha⟩=>?_) nP)
 let nC:C≠a:=by
  rcases ha with e|e
  .rw[e];exact fC.2.1
  .exact q2h (hcc _ _ e)
 calc⟨m,hn.sameBut sb nC,λh' vJ=>⟨_,H',?_,q⟩⟩;calc QP.turned (t':=jI.toks) (λb o hb e=>(vJ.2 b hb).trans e) fC.1 fC.2.1 fC.2.2.2.1 fC.2.2.2.2.1 fC.2.2.2.2.2
end
section
variable{g:TG}{tf:TT}{te:TE}
end
section
variable{X:Cx}{pins:aM}{σ:St}{H:Hp}{s:B}{h':I}{T:O}{o:HO}{ch:-O}{t':Nat}
theorem Inv.gh(I:Inv X pins σ H s)(hf:∀b∈ch,b_ X pins H b)(k:∀b u,b∉ch->s.heap.get? b=U u->h'.get? b=U u)(hT:⇑s<=T)(new:bz X.prog X.w (upd H T o) h' T o):
  Inv X pins σ (upd H T o) {s with heap:=h',toks:=t'}:=by
 let hn:H T=Z:=I.bu.fresh hT;let l_:∀b u,H b=U u->b∉ch:=λb u e hb=>by rw[(hf b hb).1] at e;cases e
 refine I.step (g':=s.gens) (d':=s.drawn) (ch:=ch) (λb hb=>⟨(hf b hb).2.2.2.1,(hf b hb).2.1,(hf b hb).2.2.2.2.1,(hf b hb).2.2.2.2.2⟩) (λb u _ _ hc e _=>k b u hc e) (λb u _ _ hc e _=>⟨u.slots,k b u hc e⟩)
  (λb u _ e n=>by rw[bE (q0g (q0o (q0a e) hT))];calc n) (λb u hc e=>⟨u,k b u hc e⟩) (λb xs e=>by rw[bE (dY e hn)];calc e)
  (λb u xs e=>by rw[bE (dY e hn)];calc e) (λb ps e=>⟨#[],by rw[bE (dY e hn),e];simp⟩) (λb _ u _ e hc=>k b u hc e) (λm hm=>?_) (λb u e=>?_) I.bare
 .let⟨u,es,ep,ho,r⟩:=hm
  exact⟨u,es,ep,k _ u (λhb=>(hf _ hb).2.1 Y) ho,r⟩
 .by_cases hb:b=T
  .subst hb;rw[cA] at e;cases e;exact new
  .rw[bE hb] at e
   refine(I.bu b u e).hU (λc v hc q=>k c v ?_ q) (λc q=>by rw[bE (dY q hn)];calc q) λc xs q=>by rw[bE (dY q hn)];exact q
   rcases hc with z|z
   .rw[z];exact l_ b u e
   .calc l_ c _ z
theorem Inv.kQ(I:Inv X pins σ H s)(hf:∀b∈ch,b_ X pins H b)(k:∀b u,b∉ch->s.heap.get? b=U u->h'.get? b=U u):Inv X pins σ H {s with heap:=h',toks:=t'}:=by
 let l_:∀b u,H b=U u->b∉ch:=λb u e hb=>by rw[(hf b hb).1] at e;cases e
 refine I.step (g':=s.gens) (d':=s.drawn) (ch:=ch) (λb hb=>⟨(hf b hb).2.2.2.1,(hf b hb).2.1,(hf b hb).2.2.2.2.1,(hf b hb).2.2.2.2.2⟩) (λb u _ _ hc e _=>k b u hc e) (λb u _ _ hc e _=>⟨u.slots,k b u hc e⟩)
  (λb u _ e n=>n) (λb u hc e=>⟨u,k b u hc e⟩) (λb xs e=>e)
  (λb u xs e=>e) (λb ps e=>⟨#[],by rw[e];simp⟩) (λb _ u _ e hc=>k b u hc e) (λm hm=>?_) (λb u e=>?_) I.bare
 .let⟨u,es,ep,ho,r⟩:=hm
  exact⟨u,es,ep,k _ u (λhb=>(hf _ hb).2.1 Y) ho,r⟩
 .refine (I.bu b u e).hU (λc v hc q=>k c v ?_ q) (λc q=>q) λc xs q=>q
  rcases hc with z|z
  .rw[z];exact l_ b u e
  .calc l_ c _ z
end
noncomputable def tY(K:My)(a:O):It :=
 ⟨λi H=>∃xs x,bT K H a xs/\xs[i]?=U x,λi H x H'=>∃T v,x=.ref T/\H T=Z/\H'=upd H T (.tup [.int (i:Nat),v])/\∀xs,bT K H a xs->xs[i]?=U v,λi H=>∃xs,bT K H a xs/\↑xs<=i⟩
theorem IC{P:t}{w:S}{K:My}{elts:-l}{x1}{tp:y}(a e it:O)(gC:e≠it):
  Turn P w K (.Tuple elts x1 tp) (tY K a) [e,it] e (λi h=>(∃old,IsEnum h e it (i:Nat) old)/\h.IsListIter it a i) where
 mem:=by simp
 obj:=λi h st b hb=>by
  let⟨⟨old,he⟩,o,hi,hc,hd⟩:=st;rcases Qu.mp hb with rfl|hb
  .exact⟨_,he,λv z=>by cases z⟩
  .let z:b=it:=by simpa using hb
   subst z;exact⟨o,hi,λv z=>by rw[hd] at z;cases z⟩
 keep:=λi h h' st k=>by
  let⟨⟨old,he⟩,hi⟩:=st;exact⟨⟨old,k e (by simp) _ he⟩,hi.at λo q=>k it (by simp) o q⟩
 item:=by
  ext X hP hw hK hc i pins s σ H E I hf st hg;subst hP hw hK;let⟨⟨old,he⟩,hi⟩:=st;let⟨xs,x,hq,hx⟩:=hg;let⟨aA,rv,p,hz⟩:=I.list hq;let⟨u,hu,ru⟩:=rv.get hx;calc wpAny_pyNext_enum_item he hi p.isList (x:=u) hu⁻¹ gC λh1 nL vL vM hsz hk=>⟨_,Y,?_⟩;calc q34 nL λh2 yi eV=>?_;let hT:⇑s≠e:=q1P (q0a he);let l4:h2.get? ⇑s=U {cls:=.type "tuple",data:=.seq #[.int i s.toks,u]}:=(eV.2 _ hT).trans vM
  let k2:∀b o,b∉[e,it]->s.heap.get? b=U o->h2.get? b=U o:=λb o hb q=>by
   let oQ:b≠e:=λz=>hb (by simp[z]);let f_:b≠it:=λz=>hb (by simp[z]);exact(eV.2 _ oQ).trans (hk b o oQ f_ q)
  let hn:H ⇑s=Z:=I.bu.fresh (Im _);refine⟨.ref ⇑s,upd H ⇑s (.tup [.int i,x]),I.gh (ch:=[e,it]) (t':=s.toks+1) hf k2 (Im _) ?_,Y,⟨_,x,Y,hn,Y,λys hy=>by rw[I.gf hy hq];calc hx⟩,⟨⟨u,?_⟩,?_⟩,λb hb=>?_⟩
  .exact⟨by show 2<=sizeLine;decide,[.int i s.toks,u],.cons ⟨_,Y⟩ (.cons ru .nil),_,l4,Y,_,Y⟩
  .let e3:((i:Int)+1)=(((i+1:Nat)):Int):=by symm
   rw[e3] at yi;exact yi
  .exact vL.at λo q=>(eV.2 _ (q2h gC)).trans q
  .let:b<⇑s:=by
    let⟨o,q,_⟩:=hi;rcases Qu.mp hb with rfl|hb
    .exact q0a he
    .let z:b=it:=by simpa using hb
     subst z;exact q0a q
   rw[bE (q0g this)];exact(hf b hb).1
 done:=by
  ext X hP hw hK hc i pins s σ H E I hf st hg;subst hP hw hK;let⟨⟨old,he⟩,hi⟩:=st;let⟨xs,hq,hx⟩:=hg;let⟨aA,rv,p,hz⟩:=I.list hq;let hl:=↑rv;calc wpAny_pyNext_enum_end (I.ok.hd hc) he hi p.isList (by simp;symm) λh1 eb=>⟨Y,?_⟩;let⟨f0,f1,f2,f3,f4,f5⟩:=hf it (by simp);exact I.turned (t':=s.toks) (λb o hb q=>eb b o hb q) f0 f1 f3 f4 f5
 self:=λA i s Q E st h=>by
  let⟨⟨old,he⟩,hi⟩:=st;let hT:s.TypeIs (.ref e) "enumerate" := ⟨_,he,Y⟩;calc q2d he h
section
variable{X:Cx}{elts:-l}{x1:Nat}{tp:y}
def QQ(K:My)(ta:TA):TI:=fun σ H R=>ta σ H λvs H1=>∃a,vs=[.ref a]/\(∃xs,bT K H1 a xs)/\R (tY K a) H1
theorem ID:bootBuiltins "enumerate" = U (.type "enumerate"):=by decide +kernel
theorem QR:bootBuiltins "zip" = U (.type "zip"):=by decide +kernel
theorem QS{a:υ}{ta:TA}{p pos:y}(hg:Gl X "enumerate")(hm:X.mg "enumerate" = Z)(ha:JA X [a] ta)(hs:starEach [a] X.env=[(ι,eval a X.env)]:=by rfl):
  JI X (.Tuple elts x1 tp) (.Call (.Name "enumerate" p) [a] [] pos) (QQ X.K ta):=by
 calc⟨?_⟩;ext pins s σ H R I h;calc Call_ (oA I hg hm ID (q1w (bL (ha pos pins s σ H _ I h) λus s1 ⟨vs,H1,I1,r1,q1⟩=>?_) hs Y));let⟨l,e,⟨xs,hq⟩,q⟩:=q1;subst e
 cases r1 with
 |cons r rr =>
  cases rr
  cases r
  let⟨aA,rv,p,hz⟩:=I1.list hq;calc q5E p.isList λh' he hi hsz hk=>?_;let I2:Inv X pins σ H1 {s1 with heap:=h'}:=I1.kept (t':=s1.toks) hk;calc q2d he ?_;refine⟨_,_,_,_,H1,Y,I2,IC l (⇑s1+1) ⇑s1 (q4H _),⟨⟨_,he⟩,hi⟩,λb hb=>?_,q⟩
  let hb':⇑s1<=b:=by
   rcases Qu.mp hb with rfl|hb
   .exact q3C _
   .let z:b=⇑s1:=by simpa using hb
    rw[z];exact Im _
  calc I1.hZ hb' (I1.bu.fresh hb')
end
section
variable{X:Cx}{nm:J}{tp:y}
end
end L2
namespace L2
open PySem PySem.Spec PyProof.Rows PySem.W
open Builtin Builtin.ObjectAttr
section
variable{prog:t}{w:S}{A:o}{E:bA}{s:B}{K:Frag}{x D:O}{ox:Q}{odo:Option Q}{name:J}
variable{h:I}{g:Array GenState}{d:Drawn}{t:Nat}{os:OsState}{nm q:J}{C N:O}{bs bm bmB:-L}{QT:Bool}{sn:-J}{sub:-L}{ab:Bool}{col:Option Bool}{dd:Option O}{k0 k1 k2 k3 k5:Option L}{B newId BN:String}
end
end L2
namespace L2
open PySem PySem.Spec PyProof.Rows
section
variable{X:Cx}{pins:aM}{σ:St}{H:Hp}{s:B}{C f:O}{CX:lI}{k:Nat}{fd:FuncData}{ps:-J}{sp:Sp}{E:XK}{x:J}{p pos pos':y}{e o value:l}{es:-l}{ta tv:TE}{t:TA}
end
section
variable{X:Cx}
noncomputable def vN:V->Option L
 |.ty n=>U (.type n)
 |.ref a=>U (.ref a)
 |_=>Z
theorem QU{y:V}{u c:L}(r:RelV y u)(e:vN y=U c):u=c:=by
 cases y with
 |ty n=>cases e;exact r
 |ref a=>cases e;exact r
 |_=>cases e
theorem QV:gZ X (.builtin "isinstance") (λxs H Q=>∃x y c t b,xs=[x,y]/\vN y=U c/\eX X.K H x t/\q1l X.K t c=U b/\Q (.bl b) H):=by
 ext pins s σ H xs us Q I rv h;let⟨x,y,c,t,b,rfl,hc,ty,e,q⟩:=h;let⟨u,w',rfl,rx,ry⟩:=rv.two;rw[QU ry hc];calc PH I rx ty e λtk=>⟨.bl b,H,I.tok tk,Y,q⟩
end
theorem QW{K:My}{a:O}{xs:-V}{g:TG}{tb:TS}{D:Ends}{σ:St}{H:Hp}(Pv:Nat->St->Hp->Prop)(h0:Pv 0 σ H)(hl:∀i σ H,i<=↑xs->Pv i σ H->bT K H a xs)
  (hs:∀i x T σ H,xs[i]?=U x->Pv i σ H->H T=Z->g (.ref T) σ (upd H T (.tup [.int (i:Nat),x])) fun σ2 H2=>tb {D with nx:=Pv (i+1),ct:=Pv (i+1),bk:=D.nx} σ2 H2) (hd:∀σ H,Pv ↑xs σ H->D.nx σ H) :
  ∃W:Nat->Nat->St->Hp->Prop,(∃m,W 0 m σ H)/\∀i m σ H,W i m σ H →
   ((tY K a).stop i H/\D.nx σ H)\/((tY K a).go i H/\∃N:St->Hp->Prop,(∀σ' H',N σ' H'->∃m',m'<m/\W (i+1) m' σ' H')/\∀x H',(tY K a).tQ i H x H'->g x σ H' fun σ2 H2=>tb {D with nx:=N,ct:=N,bk:=D.nx} σ2 H2):=by
 calc⟨λi m σ H=>m=↑xs-i/\i<=↑xs/\Pv i σ H,⟨↑xs,by simp,q06 _,h0⟩,?_⟩;ext i m σ H ⟨rfl,hi,p⟩;let q:=hl i σ H hi p
 by_cases dX:i<↑xs
 .refine .inr ⟨⟨xs,xs[i],q,by simp[dX]⟩,Pv (i+1),fun σ' H' p'=>⟨↑xs-(i+1),⋯,Y,dX,p'⟩,λx H' y=>?_⟩
  let⟨T,v,rfl,hT,rfl,y⟩:=y;exact hs i v T σ H (y xs q) p hT
 .let e:i=↑xs:=by symm
  subst e;calc .inl ⟨⟨xs,q,Im _⟩,hd σ H p⟩
section
variable{g:TG}{tf:TT}{te:TE}{l:O}{τ0:St}{H0:Hp}{Q:VK}
end
section
variable{X:Cx}{es:-l}{te:TE}{t:TA}
theorem BO{c j p}(ha:JE X (.Constant c j p) te)(hr:JA X es t):JA X (.Constant c j p::es) (qA te t):=kL ha hr Y
theorem si{x p}(ha:JE X (.Name x p) te)(hr:JA X es t):JA X (.Name x p::es) (qA te t):=kL ha hr Y
theorem oR{f a k p}(ha:JE X (.Call f a k p) te)(hr:JA X es t):JA X (.Call f a k p::es) (qA te t):=kL ha hr Y
theorem BP{a p}(ha:JE X (.List a p) te)(hr:JA X es t):JA X (.List a p::es) (qA te t):=kL ha hr Y
theorem BQ{a k p}(ha:JE X (.Tuple a k p) te)(hr:JA X es t):JA X (.Tuple a k p::es) (qA te t):=kL ha hr Y
theorem BR{a k p}(ha:JE X (.Subscript a k p) te)(hr:JA X es t):JA X (.Subscript a k p::es) (qA te t):=kL ha hr Y
end
inductive D where
 |non|bl (b:Bool)|int (i:Int)|str (x:J)|tup (xs:-D)|lst (xs:-D)
mutual
def Is (H:Hp):D->V->Prop
 |.non,v=>v=.non
 |.bl b,v=>v=.bl b
 |.int i,v=>v=.int i
 |.str x,v=>v=.str x
 |.tup ds,v=>∃a vs,v=.ref a/\H a=U (.tup vs)/\ai H ds vs
 |.lst ds,v=>∃a vs,v=.ref a/\H a=U (.lst vs)/\ai H ds vs
def ai (H:Hp):-D->-V->Prop
 |[],vs=>vs=[]
 |d::ds,vs=>∃v r,vs=v::r/\Is H d v/\ai H ds r
end
mutual
theorem Is.same {H H':Hp} (s:bc H H'):∀{d:D}{v:V},Is H d v->Is H' d v
 |.non,_,h=>h
 |.bl _,_,h=>h
 |.int _,_,h=>h
 |.str _,_,h=>h
 |.tup _,_,h=>by
  erw[Is] at h ⊢;let⟨a,vs,e,h1,h2⟩:=h;exact⟨a,vs,e,s _ _ h1,ai.same s h2⟩
 |.lst _,_,h=>by
  erw[Is] at h ⊢;let⟨a,vs,e,h1,h2⟩:=h;calc⟨a,vs,e,s _ _ h1,ai.same s h2⟩
theorem ai.same {H H':Hp} (s:bc H H'):∀{d:-D}{v:-V},ai H d v->ai H' d v
 |[],_,h=>h
 |_::_,_,h=>by
  erw[ai] at h ⊢;let⟨v,r,e,h1,h2⟩:=h;calc⟨v,r,e,Is.same s h1,ai.same s h2⟩
end
theorem ai.length{H:Hp}:∀{ds:-D}{vs:-V},ai H ds vs->↑vs=↑ds
 |[],_,h=>by erw[ai] at h;rw[h];rfl
 |_::_,_,h=>by
  erw[ai] at h;let⟨v,r,rfl,_,h2⟩:=h;rw[Ip,Ip,ai.length h2]
theorem ai.get{H:Hp}:∀{ds:-D}{vs:-V}{i:Nat}{v:V},ai H ds vs->vs[i]?=U v->∃d,ds[i]?=U d/\Is H d v
 |[],_,i,v,h,e=>by erw[ai] at h;rw[h] at e;simp at e
 |d::ds,_,i,v,h,e=>by
  erw[ai] at h;let⟨v',r,rfl,h1,h2⟩:=h
  cases i with
  |zero=>simp at e;subst e;exact⟨d,Y,h1⟩
  |succ i=>simp at e;simpa using ai.get h2 e
theorem ai.nil{H:Hp}:ai H [] []:=by erw[ai]
theorem ai.cons{H:Hp}{d:D}{ds:-D}{v:V}{vs:-V}(h:Is H d v)(r:ai H ds vs):ai H (d::ds) (v::vs):=by
 erw[ai];calc⟨v,vs,Y,h,r⟩
theorem ai.snoc{H:Hp}{d:D}{v:V}:∀{ds:-D}{vs:-V},ai H ds vs->Is H d v->ai H (ds++[d]) (vs++[v])
 |[],_,h,q=>by erw[ai] at h;subst h;exact .cons q .nil
 |_::_,_,h,q=>by
  erw[ai] at h;let⟨v',r,rfl,h1,h2⟩:=h;exact .cons h1 (ai.snoc h2 q)
mutual
noncomputable def dep:D->Nat
 |.tup ds=>bV ds+1
 |.lst ds=>bV ds+1
 |_=>0
noncomputable def bV:-D->Nat
 |[]=>0
 |d::ds=>max (dep d) (bV ds)
end
theorem BS:∀{ds:-D}{i:Nat}{d:D},ds[i]?=U d->dep d<=bV ds
 |[],i,d,e=>by simp at e
 |d'::ds,0,d,e=>by simp at e;subst e;erw[bV];exact Nat.le_max_left _ _
 |d'::ds,i+1,d,e=>by simp at e;erw[bV];calc q0B (BS e) (Nat.le_max_right _ _)
noncomputable def cY:D->String
 |.non=>"NoneType" | .bl _=>"bool" | .int _=>"int" | .str _=>"str" | .tup _=>"tuple" | .lst _=>"list"
theorem Is.ty{K:My}{H:Hp}:∀{d:D}{v:V},Is H d v->eX K H v (.type (cY d))
 |.non,_,h=>by cases(show _=_ from h);exact .non
 |.bl b,_,h=>by cases(show _=_ from h);exact .bl b
 |.int i,_,h=>by cases(show _=_ from h);exact .int i
 |.str x,_,h=>by cases(show _=_ from h);exact .str x
 |.tup _,_,h=>by
  erw[Is] at h;let⟨a,vs,rfl,h1,_⟩:=h;exact .tup h1
 |.lst _,_,h=>by
  erw[Is] at h;let⟨a,vs,rfl,h1,_⟩:=h;calc .lst h1
noncomputable def bK(T c:String):Bool:=T==c||(T=="bool" && c=="int")
section
variable{K:My}
theorem QX:∀T∈["NoneType", "bool", "int", "str", "tuple", "list"],q1l K (.type T) (.type "bool")=U (bK T "bool"):=by
 ext T hT;erw[Qu,q0s,q1v] at hT;rcases hT with rfl|rfl|rfl|rfl|rfl|rfl<;>kernel_rfl
theorem QY:∀T∈["NoneType", "bool", "int", "str", "tuple", "list"],q1l K (.type T) (.type "int")=U (bK T "int"):=by
 ext T hT;erw[Qu,q0s,q1v] at hT;rcases hT with rfl|rfl|rfl|rfl|rfl|rfl<;>kernel_rfl
theorem QZ:∀T∈["NoneType", "bool", "int", "str", "tuple", "list"],q1l K (.type T) (.type "str")=U (bK T "str"):=by
 ext T hT;erw[Qu,q0s,q1v] at hT;rcases hT with rfl|rfl|rfl|rfl|rfl|rfl<;>kernel_rfl
theorem kit_tuple:∀T∈["NoneType", "bool", "int", "str", "tuple", "list"],q1l K (.type T) (.type "tuple")=U (bK T "tuple"):=by
 ext T hT;erw[Qu,q0s,q1v] at hT;rcases hT with rfl|rfl|rfl|rfl|rfl|rfl<;>kernel_rfl
theorem Q0:∀T∈["NoneType", "bool", "int", "str", "tuple", "list"],q1l K (.type T) (.type "list")=U (bK T "list"):=by
 ext T hT;erw[Qu,q0s,q1v] at hT;rcases hT with rfl|rfl|rfl|rfl|rfl|rfl<;>kernel_rfl
theorem vO(d:D):cY d∈["NoneType", "bool", "int", "str", "tuple", "list"]:=by cases d<;>simp[cY]
end
section
variable{X:Cx}
theorem JE.weak{e:l}{t t':TE}(h:JE X e t)(k:∀σ H Q,t' σ H Q->t σ H Q):JE X e t':=⟨λpins s σ H Q I q=>h pins s σ H Q I (k σ H Q q)⟩
theorem JT.weak{e:l}{t t':TT}(h:JT X e t)(k:∀σ H Q,t' σ H Q->t σ H Q):JT X e t':=⟨λpins s σ H Q I q=>h pins s σ H Q I (k σ H Q q)⟩
theorem JA.weak{es:-l}{t t':TA}(h:JA X es t)(k:∀σ H Q,t' σ H Q->t σ H Q):JA X es t':=⟨λpos pins s σ H Q I q=>h pos pins s σ H Q I (k σ H Q q)⟩
theorem JS.weak{st:R}{t t':TS}(h:JS X st t)(k:∀D σ H,t' D σ H->t D σ H):JS X st t':=⟨λpins s σ H D I q=>h pins s σ H D I (k D σ H q)⟩
theorem dM.weak{st:-R}{t t':TS}(h:dM X st t)(k:∀D σ H,t' D σ H->t D σ H):dM X st t':=⟨λpins s σ H D I q=>h pins s σ H D I (k D σ H q)⟩
end
section
variable{κ:Type}[DecidableEq κ]
noncomputable def d4(kvs:-(κ×V))(k:κ):Option V:=(kvs.find? λkv=>G (kv.1=k)).map (·.2)
noncomputable def putK(kvs:-(κ×V))(k:κ)(v:V):-(κ×V) :=
 if(kvs.any λkv=>G (kv.1=k))=θ then kvs.map (λkv=>if kv.1=k then(kv.1,v) else kv) else kvs++[(k,v)]
noncomputable def qK(kvs:-(κ×V))(k:κ):-(κ×V):=kvs.filter λkv=>G (kv.1≠k)
theorem yj{p:κ×V}{r:-(κ×V)}{k:κ}(e:p.1=k):d4 (p::r) k=U p.2:=by simp[d4,q2Q,e]
theorem yk{p:κ×V}{r:-(κ×V)}{k:κ}(e:¬ p.1=k):d4 (p::r) k=d4 r k:=by simp[d4,q2Q,e]
theorem IE(k:κ):∀kvs:-(κ×V),(kvs.any λkv=>G (kv.1=k))=(d4 kvs k).isSome
 |[]=>Y
 |p::r=>by
  rw[q2C]
  by_cases e:p.1=k
  .erw[yj e,q0n e,Bool.true_or,q33]
  .rw[yk e,q0e e,Bool.false_or];calc IE k r
theorem BU(kvs:-(κ×V))(k:κ)(v:V):↑(putK kvs k v)<=↑kvs+1:=by
 unfold putK;split
 .rw[BE];symm
 .rw[Qs,Ip,q1n];symm
theorem dI.fA{o:Option V}{u:Option L}(r:dI o u):o.isSome=u.isSome:=by
 cases o with
 |none=>cases u with
  |none=>rfl
  |some _=>exact(show False from r).elim
 |some _=>cases u with
  |none=>exact(show False from r).elim
  |some _=>rfl
theorem KV.val{kvs:-(κ×V)}{vs:-(κ×L)}(r:KV kvs vs)(k:κ):dI (d4 kvs k) (valueAt vs k):=by
 unfold KV at r
 induction r with
 |nil=>exact q1_
 | @cons p q ps qs h t ih =>
  let⟨h1,h2⟩:=h
  by_cases e:p.1=k
  .let e':q.1=k:=h1.symm.trans e
   let b:valueAt (q::qs) k=U q.2:=by simp[valueAt,q2Q,e']
   rw[yj e,b];exact h2
  .let e':¬ q.1=k:=λz=>e (h1.trans z)
   let b:valueAt (q::qs) k=valueAt qs k:=by simp[valueAt,q2Q,e']
   rw[yk e,b];calc ih
theorem KV.any{kvs:-(κ×V)}{vs:-(κ×L)}(r:KV kvs vs)(k:κ):(kvs.any λkv=>G (kv.1=k))=vs.any λkv=>G (kv.1=k):=by
 unfold KV at r
 induction r with
 |nil=>rfl
 |cons h t ih=>rw[q2C,q2C,ih,h.1]
theorem KV.jM{kvs:-(κ×V)}{vs:-(κ×L)}(r:KV kvs vs)(k:κ){y:V}{u:L}(ry:RelV y u):
  KV (kvs.map λkv=>if kv.1=k then(kv.1,y) else kv) (vs.map λkv=>if kv.1=k then(kv.1,u) else kv):=by
 unfold KV at r ⊢
 induction r with
 |nil=>exact .nil
 | @cons p q ps qs h t ih =>
  rw[q0r,q0r];calc .cons ?_ ih;let⟨h1,h2⟩:=h
  by_cases e:p.1=k
  .rw[q0k e,q0k (h1.symm.trans e)];exact⟨h1,ry⟩
  .rw[q0i e,q0i (λz=>e (h1.trans z))];calc⟨h1,h2⟩
theorem KV.put{kvs:-(κ×V)}{vs:-(κ×L)}(r:KV kvs vs)(k:κ){y:V}{u:L}(ry:RelV y u):KV (putK kvs k y) (stored vs k u):=by
 unfold putK stored;rw[r.any k]
 by_cases e:(vs.any λkv=>G (kv.1=k))=θ
 .rw[q0k e,q0k e];exact r.jM k ry
 .rw[q0i e,q0i e];calc Paired.snoc r ⟨Y,ry⟩
theorem KV.drop{kvs:-(κ×V)}{vs:-(κ×L)}(r:KV kvs vs)(k:κ):KV (qK kvs k) (without vs k):=by
 unfold KV at r ⊢;unfold qK without
 induction r with
 |nil=>exact .nil
 | @cons p q ps qs h t ih =>
  let⟨h1,h2⟩:=h;rw[q1h,q1h]
  by_cases e:p.1=k
  .let a:¬ G (p.1≠k)=θ:=by simp[e]
   let b:¬ G (q.1≠k)=θ:=by simp[h1.symm.trans e]
   rw[q0i a,q0i b];exact ih
  .let e':¬ q.1=k:=λz=>e (h1.trans z)
   let a:G (p.1≠k)=θ:=by simp[e]
   let b:G (q.1≠k)=θ:=by simp[e']
   rw[q0k a,q0k b];calc .cons ⟨h1,h2⟩ ih
theorem KV.length{kvs:-(κ×V)}{vs:-(κ×L)}(r:KV kvs vs):↑kvs=↑vs:=q5N r
theorem Q1(kvs:-(κ×V))(k:κ):↑(qK kvs k)<=↑kvs:=q0P _ _
end
theorem tZ{P:ψ}{w:S}{k:Key}{u:L}(r:RelV (kV k) u):(jw P w).is k u=θ:=by
 cases k with
 |inl i=>let⟨t,e⟩:=(show ∃t,u=q04 i t from r);subst e;exact Ou P w i t
 |inr x=>let⟨t,e⟩:=(show ∃t,u=q4B x t from r);subst e;calc Ov P w x t
theorem IF{P:ψ}{w:S}:∀{ks:-Key}{us:-L},Vals (ks.map kV) us->ItemsAre (jw P w) ks us
 |[],_,r=>by rw[q2b] at r;cases r;exact .nil
 |k::ks,_,r=>by
  rw[q0r] at r
  cases r with
  |cons h t=>calc .cons (tZ h) (IF t)
abbrev KT(H:Hp):-(-Key×V)->-(-Key×O×L)->Prop:=Paired λp q=>p.1=q.1/\H q.2.1=U (.tup (p.1.map kV))/\RelV p.2 q.2.2
theorem KT.val{H:Hp}{kvs:-(-Key×V)}{xs:-(-Key×O×L)}(r:KT H kvs xs)(k:-Key):dI (d4 kvs k) ((atKey xs k).map (·.2)):=by
 induction r with
 |nil=>exact q1_
 | @cons p q ps qs h t ih =>
  let⟨h1,_,h2⟩:=h
  by_cases e:p.1=k
  .let e':q.1=k:=h1.symm.trans e
   let b:atKey (q::qs) k=U q.2:=by simp[atKey,q2Q,e']
   rw[yj e,b];exact h2
  .let e':¬ q.1=k:=λz=>e (h1.trans z)
   let b:atKey (q::qs) k=atKey qs k:=by simp[atKey,q2Q,e']
   rw[yk e,b];calc ih
theorem KT.jM{H:Hp}{kvs:-(-Key×V)}{xs:-(-Key×O×L)}(r:KT H kvs xs)(k:-Key){y:V}{u:L}(ry:RelV y u):
  KT H (kvs.map λkv=>if kv.1=k then(kv.1,y) else kv) (xs.map (putAt k u)):=by
 induction r with
 |nil=>exact .nil
 | @cons p q ps qs h t ih =>
  rw[q0r,q0r];calc .cons ?_ ih;let⟨h1,h2,h3⟩:=h;unfold putAt
  by_cases e:p.1=k
  .rw[q0k e,q0k (h1.symm.trans e)];exact⟨h1,h2,ry⟩
  .rw[q0i e,q0i (λz=>e (h1.trans z))];calc⟨h1,h2,h3⟩
theorem KT.put{H:Hp}{kvs:-(-Key×V)}{xs:-(-Key×O×L)}(r:KT H kvs xs)(k:-Key){b:O}{y:V}{u:L}(hb:H b=U (.tup (k.map kV)))(ry:RelV y u):
  KT H (putK kvs k y) (storedH xs k b u):=by
 let e:(kvs.any λkv=>G (kv.1=k))=(atKey xs k).isSome:=by
  rw[IE,(r.val k).fA,q6r]
 unfold putK storedH;rw[e]
 by_cases q:(atKey xs k).isSome=θ
 .rw[q0k q,q0k q];exact r.jM k ry
 .rw[q0i q,q0i q];calc Paired.snoc r ⟨Y,hb,ry⟩
theorem KT.keeps{H H':Hp}{kvs:-(-Key×V)}{xs:-(-Key×O×L)}(r:KT H kvs xs)(ht:∀b ys,H b=U (.tup ys)->H' b=U (.tup ys)):KT H' kvs xs :=
 Paired.rG r λ_ _ z=>⟨z.1,ht _ _ z.2.1,z.2.2⟩
section
variable{P:t}{w:S}{H:Hp}{h:I}{a:O}
theorem IG{u:HO}(ok:eT P w H h)(e:Rd H a u):bz P w H h a u:=e.ok ok
theorem vP{kvs:-(Key×V)}(ok:eT P w H h)(e:Rd H a (.dK kvs)):↑kvs<=sizeLine/\(a==sysModules)=ι/\∃vs,KV kvs vs/\h.DictOf (jw P w) a vs :=
 show bz P w H h a (.dK kvs) from IG ok e
theorem BV{kvs:-(Key×V)}(ok:eT P w H h)(e:H a=U (.dK kvs)):↑kvs<=sizeLine/\(a==sysModules)=ι/\∃vs,KV kvs vs/\h.DictOf (jw P w) a vs:=vP ok (.inl e)
theorem ym{ks:-Key}(ok:eT P w H h)(e:H a=U (.tup (ks.map kV))):(tupleKind (jw P w)).is h ks a:=by
 let⟨_,aA,r,o,h1,h2,n,h3⟩:=(show bz P w H h a (.tup (ks.map kV)) from ok a _ e);calc⟨o,aA.toArray,n,h1,h2,h3,by simpa using IF r⟩
theorem vQ{kvs:-(-Key×V)}(ok:eT P w H h)(e:Rd H a (.dT kvs)):↑kvs<=sizeLine/\(a==sysModules)=ι ∧
  ∃xs,KT H kvs xs/\h.DictOfH (tupleKind (jw P w)) a xs:=by
 let⟨z,y,xs,r,o,es,ep,h1,h2,h3,h4,h5⟩:=(show bz P w H h a (.dT kvs) from IG ok e);refine⟨z,y,xs,r,o,es,ep,h1,h2,h3,h4,λx hx=>?_,h5⟩
 let all:∀{l:-(-Key×V)}{m:-(-Key×O×L)},KT H l m->∀x∈m,(tupleKind (jw P w)).is h x.1 x.2.1:=by
  ext l m q
  induction q with
  |nil=>ext x hx;exact nomatch hx
  | @cons p q ps qs hq t ih =>
   ext x hx;rcases Qu.mp hx with e|hx
   .subst e
    exact ym ok (by rw[<-hq.1];calc hq.2.1)
   .exact ih x hx
 calc all r x hx
theorem Q2{kvs:-(-Key×V)}(ok:eT P w H h)(e:H a=U (.dT kvs)):↑kvs<=sizeLine/\(a==sysModules)=ι ∧
  ∃xs,KT H kvs xs/\h.DictOfH (tupleKind (jw P w)) a xs:=vQ ok (.inl e)
end
def gJ(H:Hp)(a:O)(y:V)(r:Option V):Prop :=
 (∃kvs k,Rd H a (.dK kvs)/\y=kV k/\r=d4 kvs k)\/∃kvs k b,Rd H a (.dT kvs)/\y=.ref b/\H b=U (.tup (k.map kV))/\r=d4 kvs k
def kR(H:Hp)(a:O)(y v:V)(H':Hp):Prop :=
 (∃kvs k,H a=U (.dK kvs)/\y=kV k/\↑kvs<sizeLine/\H'=upd H a (.dK (putK kvs k v))) ∨
 ∃kvs k b,H a=U (.dT kvs)/\y=.ref b/\H b=U (.tup (k.map kV))/\↑kvs<sizeLine/\H'=upd H a (.dT (putK kvs k v))
theorem gJ.k{H:Hp}{a:O}{kvs:-(Key×V)}{k:Key}(e:H a=U (.dK kvs)):gJ H a (kV k) (d4 kvs k):=.inl ⟨kvs,k,.inl e,Y,Y⟩
theorem kR.k{H:Hp}{a:O}{kvs:-(Key×V)}{k:Key}{v:V}(e:H a=U (.dK kvs))(hl:↑kvs<sizeLine):kR H a (kV k) v (upd H a (.dK (putK kvs k v))):=.inl ⟨kvs,k,e,Y,hl,Y⟩
section
variable{X:Cx}{pins:aM}{σ:St}{H:Hp}{s:B}{a:O}{y v:V}{u r:L}{o:Option V}{A:Β}{E:bA}
theorem Inv.big(I:Inv X pins σ H s):sysModules<⇑s:=by
 let h:mainGlobals<⇑s:=(I.mod.glob.keeps I.bk).lt;calc q4N (by decide) h
theorem Q3{Q:bA}(hu:A.units+1<cLine)(I:Inv X pins σ H s)(g:gJ H a y (U v))(ry:RelV y u)(h:∀w' s',Inv X pins σ H s'->RelV v w'->Q w' s'):
  M (ς X.prog X.w) A (getItem (.ref a) u) Q E s:=by
 rcases g with⟨kvs,k,e,ey,l⟩|⟨kvs,k,b,e,ey,eb,l⟩
 .subst ey
  let⟨z,hd,vs,rel,dd⟩:=vP I.bu e;let⟨w',hw,jK⟩:=dI.some_of (v:=v) (o:=valueAt vs k) (by rw[l];calc rel.val k);exact wpAny_getItem_of (tZ ry) dd.mapOf hw (h w' _ (I.tok _) jK)
 .subst ey
  cases(show u=q0J b from ry)
  let⟨z,hd,xs,rel,dd⟩:=vQ I.bu e;let⟨w',hw,jK⟩:=dI.some_of (v:=v) (o:=(atKey xs k).map (·.2)) (by rw[l];calc rel.val k);let⟨p,hp,Q4⟩:=q0f.mp hw;calc wpAny_getItem_heap (q35 hu) (ym I.bu eb) dd hp ?_;rw[Q4];calc h w' _ (I.tok _) jK
theorem Q5{Q:bA}(hu:A.units+1<cLine)(I:Inv X pins σ H s)(g:gJ H a y o)(ry:RelV y u)(h:∀s',Inv X pins σ H s'->Q (.bool (!o.isSome)) s'):
  M (ς X.prog X.w) A (compareOp .NotIn u (.ref a)) Q E s:=by
 rcases g with⟨kvs,k,e,ey,l⟩|⟨kvs,k,b,e,ey,eb,l⟩
 .subst ey
  let⟨z,hd,vs,rel,dd⟩:=vP I.bu e;calc wpAny_notIn_of (tZ ry) hd dd.mapOf ?_;rw[<-(rel.val k).fA,<-l];exact h _ (I.tok _)
 .subst ey
  cases(show u=q0J b from ry)
  let⟨z,hd,xs,rel,dd⟩:=vQ I.bu e;calc wpAny_notIn_heap (q35 hu) (ym I.bu eb) hd dd ?_;let q:=(rel.val k).fA;rw[q6r] at q;rw[<-q,<-l];calc h _ (I.tok _)
theorem yn{h':Α}{t':Nat}{ob:HO}(I:Inv X pins σ H s)(mu:u7 (H a))(hs:q2L a s.heap h')(he:∃q,h'.get? a=U q)(new:bz X.prog X.w (upd H a ob) h' a ob):
  Inv X pins σ (upd H a ob) {s with heap:=h',toks:=t'} :=
 I.write (x:=a) (e:=a) mu (.inl Y) (λb q hb z=>(hs.2 b hb).trans z) he new
theorem BW{P:t}{w:S}{H':Hp}{h':I}{kvs:-(Key×V)}{vs:-(Key×L)}(z:↑kvs<=sizeLine)(hd:(a==sysModules)=ι)(rel:KV kvs vs)(dd:h'.DictOf (jw P w) a vs):
  bz P w H' h' a (.dK kvs):=⟨z,hd,vs,rel,dd⟩
theorem Q6{H':Hp}{Q:Unit->B->Prop}(hu:A.units+1<cLine)(I:Inv X pins σ H s)(g:kR H a y v H')(ry:RelV y u)(rv:RelV v r)(h:∀s',Inv X pins σ H' s'->Q () s'):
  M (ς X.prog X.w) A (setItem (.ref a) u r) Q E s:=by
 rcases g with⟨kvs,k,e,ey,l,eH⟩|⟨kvs,k,b,e,ey,eb,l,eH⟩
 .subst ey eH
  let⟨z,hd,vs,rel,dd⟩:=BV I.bu e;let hz:↑vs<=sizeLine:=by rw[<-↑rel];exact z
  let hl:↑(putK kvs k v)<=sizeLine:=by let:=BU kvs k v;symm
  calc wpAny_setItem_pairs (hsz:=hz) (tZ ry) dd λh' nU hs=>h _ ?_;let he:∃q,h'.get? a=U q:=let⟨q,_,_,hq,_⟩:=nU;⟨q,hq⟩;exact yn I (by rw[e];calc q1_) hs he (BW hl hd (rel.put k rv) nU)
 .subst ey eH
  cases(show u=q0J b from ry)
  let⟨z,hd,xs,rel,dd⟩:=Q2 I.bu e;let hz:↑xs<=sizeLine:=by rw[<-q5N rel];exact z
  let hl:↑(putK kvs k v)<=sizeLine:=by let:=BU kvs k v;symm
  calc wpAny_setItem_heap (hsz:=hz) (q35 hu) (ym I.bu eb) dd λh' nU hs=>h _ ?_;let⟨q,es,ep,hq,h2,h3,h4,_,h5⟩:=nU;calc yn I (by rw[e];calc q1_) hs ⟨q,hq⟩ ⟨hl,hd,_,(rel.put k eb rv).keeps λc ys ec=>?_,q,es,ep,hq,h2,h3,h4,h5⟩;rw[bE (Ox ec e (λz=>nomatch z))];calc ec
end
section
variable{X:Cx}{pins:aM}{σ:St}{H:Hp}{s:B}{a:O}{kvs:-(Key×V)}{k:Key}{u:L}{A:o}{E:bA}
theorem Q7{v:V}{more:-L}{Q:bA}(I:Inv X pins σ H s)(e:H a=U (.dK kvs))(ry:RelV (kV k) u)(l:d4 kvs k=U v)(hm:more=[]\/∃x,more=[x])
  (h:∀w' s',Inv X pins σ (upd H a (.dK (qK kvs k))) s'->RelV v w'->Q w' s'):M (g X.prog X.w) A (call (.builtin "dict.pop") (.ref a::u::more)) Q E s:=by
 let⟨z,hd,vs,rel,dd⟩:=BV I.bu e;let⟨w',hw,jK⟩:=dI.some_of (v:=v) (o:=valueAt vs k) (by rw[<-l];calc rel.val k)
 let hp:(keyPart u).isSome=θ:=by
  cases k with
  |inl i=>let⟨t,q⟩:=(show ∃t,u=q04 i t from ry);subst q;rfl
  |inr x=>let⟨t,q⟩:=(show ∃t,u=q4B x t from ry);subst q;rfl
 let ha:argsOk "dict.pop" ⟨.ref a::u::more,[]⟩:=by
  rcases hm with q|⟨x,q⟩
  .subst q;exact PySem.F.args_dict_pop_2 _ _
  .subst q;exact PySem.F.args_dict_pop_3 _ _ _
 refine call_meetsIn q5j dd.typeIs PySem.F.entry_dict_pop ha (meets_dict_pop_there (jw X.prog X.w) a (tZ ry) more hm hp)
  ⟨vs,w',dd,by rw[<-↑rel];calc z,hw,λh' nU hs=>h w' _ ?_ jK⟩
 let he:∃q,h'.get? a=U q:=let⟨q,_,_,hq,_⟩:=nU;⟨q,hq⟩;calc yn I (by rw[e];calc q1_) hs he (BW (q0B (Q1 kvs k) z) hd (rel.drop k) nU)
end
def sj(i:l):Prop:=∀ov iv,subscripted i ι ov iv=operate [ov,iv] (getItem ov iv)
theorem Q8{prog:t}{w:S}{A:Β}{E:bA}{s:B}{env:X}{value slice:l}{pos:y}{T id:String}{Q:bA}
  (hl:typeLookup (.type T) "__getitem__" = pure (U (.builtin id))) (hs:sj slice)
  (h:M (g prog w) A (eval value env) (λo s₁=>M (g prog w) A (eval slice env) (λi s₂=>s₂.TypeIs o T/\M (g prog w) A (getItem o i) Q E s₂) E s₁) E s) :
  M (g prog w) A (eval (.Subscript value slice pos) env) Q E s:=by
 calc Subscript_ (q1U h (λo s₁ h₁=>q1U h₁ (λi s₂ h₂=>?_) λ_ _ x=>x) λ_ _ x=>x);let⟨hT,h₂⟩:=h₂;unfold subscriptTail;calc sf ?_;rw[getitemInPython_of_ne hT.not_modules];refine sf (q3E hT hl ?_)
 let fin:M (g prog w) A (subscripted slice ι o i) (λr s₃=>M (g prog w) A (letTemporaryGo value o r >>= λ_=>pure r) Q E s₃) E s₂:=by
  rw[hs o i];exact wpAny_operating (q1U h₂ (λr s₃ h₃=>sf (wpAny_letTemporaryGo (Io h₃))) λ_ _ x=>x)
 first
  |exact Io (sf fin)
  |exact sf (Io (sf fin))
  |calc sf fin
theorem Q9{X:Cx}{pins:aM}{σ:St}{H:Hp}{s:B}{a:O}{y:V}{o:Option V}(I:Inv X pins σ H s)(g:gJ H a y o):s.TypeIs (.ref a) "dict" := by
 rcases g with⟨kvs,k,e,_,_⟩|⟨kvs,k,b,e,_,_,_⟩
 .let⟨_,_,vs,_,dd⟩:=vP I.bu e
  exact dd.typeIs
 .let⟨_,_,xs,_,dd⟩:=vQ I.bu e
  calc dd.typeIs
def Q_(td ty:TE):TE:=fun σ H Q=>td σ H λx H1=>ty σ H1 λy H2=>∃a v,x=.ref a/\gJ H2 a y (U v)/\Q v H2
def IH(ty td:TE):TE:=fun σ H Q=>ty σ H λy H1=>td σ H1 λx H2=>∃a o,x=.ref a/\gJ H2 a y o/\Q (.bl (!o.isSome)) H2
def Ra(td ty tv:TE):TS:=λD σ H=>tv σ H λv H1=>td σ H1 λx H2=>ty σ H2 λy H3=>∃a H4,x=.ref a/\kR H3 a y v H4/\D.nx σ H4
section
variable{X:Cx}{o i e value:l}{pos pos' Be:y}{td ty tv:TE}
theorem Rb(hu:X.A.units+1<cLine)(ho:JE X o td)(hi:JE X i ty)(hs:sj i):JE X (.Subscript o i pos) (Q_ td ty):=by
 calc⟨?_⟩;ext pins s σ H Q I h;calc Q8 PySem.F.slot_dict_getitem.lookup hs (bL (ho pins s σ H _ I h) λu s1 ⟨x,H1,I1,rx,q1⟩=>bL (hi pins s1 σ H1 _ I1 q1) λiv s2 ⟨y,H2,I2,ry,a,v,ex,g,q2⟩=>?_);subst ex;obtain rfl:u=q0J a:=rx;calc⟨Q9 I2 g,Q3 hu I2 g ry λw' s3 I3 jK=>⟨v,H2,I3,jK,q2⟩⟩
theorem Rc(hu:X.A.units+1<cLine)(hi:JE X i ty)(ho:JE X o td):JC X .NotIn i o (IH ty td):=by
 calc⟨?_⟩;ext pins s σ H Q I h;calc bL (hi pins s σ H _ I h) λiv s1 ⟨y,H1,I1,ry,q1⟩=>bL (ho pins s1 σ H1 _ I1 q1) λu s2 ⟨x,H2,I2,rx,a,ov,ex,g,q2⟩=>?_;subst ex;obtain rfl:u=q0J a:=rx;calc Q5 hu I2 g ry λs3 I3=>⟨.bl (!ov.isSome),H2,I3,Y,q2⟩
theorem II(hu:X.A.units+1<cLine)(ho:JE X o td)(hi:JE X i ty)(hv:JE X value tv)(hs:swapsWith value (U (.Subscript o i pos')) pos.line X.env=pure ι):
  JS X (.Assign [.Subscript o i pos'] value pos) (Ra td ty tv):=by
 calc⟨?_⟩;ext pins s σ H D I h;calc wpAny_Assign_Subscript (bL (hv pins s σ H _ I h) λr s1 ⟨v,H1,I1,rv,q1⟩=>bL (ho pins s1 σ H1 _ I1 q1) λu s2 ⟨x,H2,I2,rx,q2⟩=>bL (hi pins s2 σ H2 _ I2 q2) λiv s3 ⟨y,H3,I3,ry,a,H4,ex,g,q3⟩=>?_) hs;subst ex;obtain rfl:u=q0J a:=rx;calc Q6 hu I3 g ry rv λs4 I4=>⟨σ,H4,I4,q3⟩
end
theorem IJ{P:t}{w:S}{H:Hp}(h:I)(hb:sysModules<h.objs.size):bz P w H (h.push {cls:=.type "dict",data:=.dict #[]}) h.objs.size (.dK []) :=
 ⟨q06 _,q2D.mpr (q2h (q0g hb)),[],.nil,Heap.DictOf.new h⟩
def Rf:TE:=λ_ H Q=>∀p,H p=Z->Q (.ref p) (upd H p (.dK []))
section
variable{X:Cx}{pos:y}
theorem mB:JE X (.Dict [] [] pos) Rf:=⟨λpins s σ H Q I h =>
 wpAny_Dict_empty ⟨.ref ⇑s,_,I.laid (a:=s.heap.objs.size) (o:=.dK []) (t':=s.toks) (λ_ _ q=>yd _ q) (Im _) (IJ s.heap I.big),Y,h _ (I.bu.fresh (Im _))⟩⟩
end
def yo:-(TE×TE)->St->Hp->(-(V×V)->Hp->Prop)->Prop
 |[],_,H,Q=>Q [] H
 |(tk,tv)::r,σ,H,Q=>tk σ H λx H1=>tv σ H1 λy H2=>yo r σ H2 λps H3=>Q ((x,y)::ps) H3
abbrev VV:-(V×V)->-(L×L)->Prop:=Paired λp q=>RelV p.1 q.1/\RelV p.2 q.2
def vR(X:Cx)(pos:y)(keys:-(Option l))(values:-l)(i0:-(TE×TE)):Prop :=
 ∀(pins:aM)(s:B)(σ:St)(H:Hp)(Q:-(V×V)->Hp->Prop),Inv X pins σ H s->yo i0 σ H Q →
  M (g X.prog X.w) X.A (evalPairs (pairTrees keys values X.env pos)) (λvs s'=>∃ps H',Inv X pins σ H' s'/\VV ps vs/\Q ps H') X.xe s
theorem Rg{X:Cx}{pos:y}:vR X pos [] [] []:=λpins s σ H Q I h=>pairTrees_nil_walk ⟨[],H,I,.nil,h⟩
theorem Rh{X:Cx}{pos:Ε}{k v:l}{ks:-(Option l)}{vs:-l}{tk tv:TE}{i0:-(TE×TE)}(hk:JE X k tk)(hv:JE X v tv)(hr:vR X pos ks vs i0):
  vR X pos (U k::ks) (v::vs) ((tk,tv)::i0):=λpins s σ H Q I h =>
 pairTrees_cons_walk (bL (hk pins s σ H _ I h) λu s1 ⟨x,H1,I1,rx,q1⟩↦bL (hv pins s1 σ H1 _ I1 q1) λw2 s2 ⟨y,H2,I2,ry,q2⟩ ↦
  bL (hr pins s2 σ H2 _ I2 q2) λws s3 ⟨ps,H3,I3,rel,q3⟩↦⟨(x,y)::ps,H3,I3,.cons ⟨rx,ry⟩ rel,q3⟩)
noncomputable def sk(kvs more:-(Key×V)):-(Key×V):=more.foldl (λacc kv=>putK acc kv.1 kv.2) kvs
theorem KV.merge:∀{more:-(Key×V)}{rs:-(Key×L)}{kvs:-(Key×V)}{vs:-(Key×L)},KV more rs->KV kvs vs->KV (sk kvs more) (merged vs rs):=by
 ext more rs kvs vs r;unfold KV at r
 induction r generalizing kvs vs with
 |nil=>ext q;exact q
 | @cons p q ps qs h t ih =>
  ext r0
  let e:KV (putK kvs p.1 p.2) (stored vs q.1 q.2):=by
   let:=r0.put p.1 h.2;rw[<-h.1];exact this
  calc ih e
theorem IK:∀(more kvs:-(Key×V)),↑(sk kvs more)<=↑kvs+↑more
 |[],kvs=>by show ↑kvs<=↑kvs+0;symm
 |p::r,kvs=>by
  let h1:=IK r (putK kvs p.1 p.2);let h2:=BU kvs p.1 p.2;show↑(sk (putK kvs p.1 p.2) r)<=_;rw[Ip];symm
theorem IL{P:ψ}{w:S}:∀{kvs:-(Key×V)}{ws:-(L×L)},VV (kvs.map λkv=>(kV kv.1,kv.2)) ws->∃rs,Carries (jw P w) ws rs/\KV kvs rs
 |[],_,r=>by rw[q2b] at r;cases r;exact⟨[],q1_,.nil⟩
 |p::kvs,_,r=>by
  rw[q0r] at r
  cases r with
  | @cons a b as bs h t =>
   let⟨rs,c,q⟩:=IL (P:=P) (w:=w) t;let⟨b1,b2⟩:=b;calc⟨(p.1,b2)::rs,⟨tZ h.1,Y,c⟩,.cons ⟨Y,h.2⟩ q⟩
def Ri(i0:-(TE×TE)):TE:=fun σ H Q=>∀p,H p=Z->yo i0 σ (upd H p (.dK [])) λps H2=>H2 p=U (.dK [])/\∃kvs:-(Key×V),ps=kvs.map (λkv=>(kV kv.1,kv.2))/\↑kvs<=15/\Q (.ref p) (upd H2 p (.dK (sk [] kvs)))
theorem Rj{X:Cx}{pos:y}{keys:-(Option l)}{values:-l}{i0:-(TE×TE)}(h:vR X pos keys values i0)(iS:keys.all (·.isSome)=θ)(hl:↑keys=↑values)(h0:keys≠[])
  (BX:↑keys<=15):JE X (.Dict keys values pos) (Ri i0):=by
 calc⟨?_⟩;ext pins s σ H Q I q;let hn:=I.bu.fresh (Im ⇑s);let I1:=I.laid (a:=s.heap.objs.size) (o:=.dK []) (h':=s.heap.push {cls:=.type "dict",data:=.dict #[]}) (t':=s.toks) (λ_ _ q=>yd _ q) (Im _) (IJ s.heap I.big);calc wpAny_Dict_walk (knd:=jw X.prog X.w) iS hl h0 BX (bL (h pins _ σ _ _ I1 (q _ hn)) λws s2 ⟨ps,H2,I2,rel,e,kvs,ep,lk,q2⟩=>?_);subst ep;let⟨rs,c,rk⟩:=IL (P:=X.prog) (w:=X.w) rel;let⟨z,hd,vs0,r0,dd⟩:=BV I2.bu e;cases r0
 refine⟨rs,c,dd,λh' nU hs=>⟨.ref ⇑s,_,?_,Y,q2⟩⟩
 let hz:↑(sk [] kvs)<=sizeLine:=by
  let h1:=IK kvs [];rw[q1n] at h1;rw[q1W];symm
 let he:∃q,h'.get? ⇑s=U q:=let⟨q,_,_,hq,_⟩:=nU;⟨q,hq⟩;calc yn I2 (by rw[e];calc q1_) hs he (BW hz hd (rk.merge .nil) nU)
structure M1(X:Cx)(o:l)(m:J)(apos:y)(e:l)(eM:y):Prop where
 base:attributeBase o m X.env (eval o X.env)=eval o X.env
 iQ:((backTo eM (starEach [e] X.env)).all (λx => !x.1)&&(backToKw eM (keywordEach [] X.env)).all (λx=>x.1.isSome)
  && G (↑([e]:-l)+↑([]:-Keyword)+(if([]:-Keyword).isEmpty then 0 else 1)<30))=θ
 line:(apos.endLine==eM.line)=θ
 trees:backTo eM (starEach [e] X.env)=[(ι,eval e X.env)]
def IM(H:Hp)(a:O):Prop:=(∃kvs,Rd H a (.dK kvs))\/∃kvs,Rd H a (.dT kvs)
theorem Rk{X:Cx}{pins:aM}{σ:St}{H:Hp}{s:B}{a:O}(I:Inv X pins σ H s)(d:IM H a):
  s.TypeIs (.ref a) "dict" /\ (∀b,q0J a=.ref b->∃ob,s.heap.get? b=U ob/\ob.dict=Z)/\(a==sysModules)=ι:=by
 rcases d with⟨kvs,e⟩|⟨kvs,e⟩
 .let⟨_,hd,vs,_,dd⟩:=vP I.bu e
  calc⟨dd.typeIs,λb q=>?_,hd⟩;cases q
  let⟨ob,_,_,h1,h2,_⟩:=dd;exact⟨ob,h1,h2.2.1⟩
 .let⟨_,hd,xs,_,dd⟩:=vQ I.bu e
  calc⟨dd.typeIs,λb q=>?_,hd⟩;cases q
  let⟨ob,_,_,h1,h2,_⟩:=dd;calc⟨ob,h1,h2.2.1⟩
section
variable{X:Cx}{pins:aM}{σ:St}{H:Hp}{s:B}{a:O}{y d:V}{u r:L}{o:Option V}{A:Β}{E:bA}
end
def Rl(td ty:TE):TE:=fun σ H Q=>td σ H λx H1=>∃a,x=.ref a/\IM H1 a/\ty σ H1 λy H2=>∃kvs k v,H2 a=U (.dK kvs)/\y=kV k/\d4 kvs k=U v/\Q v (upd H2 a (.dK (qK kvs k)))
section
variable{X:Cx}{o e f:l}{apos eM:y}{td ty tx:TE}
theorem Rm(ho:JE X o td)(he:JE X e ty)(m:M1 X o "pop" apos e eM):JE X (.Call (.Attribute o "pop" apos) [e] [] eM) (Rl td ty):=by
 calc⟨?_⟩;ext pins s σ H Q I h;calc wpAny_Call_method m.base m.iQ m.line PySem.F.plainAttrs_dict q5j PySem.F.type_dict_pop (bL (ho pins s σ H _ I h) λu s1 ⟨x,H1,I1,rx,a,ex,d,q1⟩=>?_);subst ex;obtain rfl:u=q0J a:=rx;let⟨t1,t2,_⟩:=Rk I1 d;calc⟨t1,t2,?_⟩;rw[m.trees];calc q4X Y (q5y (q5Z (bL (he pins s1 σ H1 _ I1 q1) λiv s2 ⟨y,H2,I2,ry,kvs,k,v,ea,ey,l,q2⟩=>q6j ?_)));subst ey;calc Q7 I2 ea ry l (.inl Y) λw' s3 I3 jK=>⟨v,_,I3,jK,q2⟩
end
section
variable{X:Cx}{pins:aM}{σ:St}{H:Hp}{s:B}{a:O}{kvs:-(Key×V)}{A:o}{E:bA}
end
section
variable{X:Cx}{pins:aM}{σ:St}{H:Hp}{s:B}{a:O}{y:V}{u:L}{A:o}{E:bA}
end
end L2
namespace L2
section
variable{κ:Type}[DecidableEq κ]
end
end L2
namespace L2
open PySem PySem.Spec PyProof.Rows
end L2
namespace LJS
open PySem
noncomputable def hp(i j:Int):Int:=reduceHash (Builtin.Tuple.tupleHashOf [hashInt i,hashInt j])
theorem IP{prog:t}{w:S}(i j:Int):hT prog w [i,j]=hp i j:=rfl
noncomputable def yp:-(Int×Int):=(q0C 12).flatMap λj=>(q0C j).map λi:Nat=>(q6I i,q6I j)
theorem Rn:∀a∈yp,∀b∈yp,hp a.1 a.2=hp b.1 b.2->a=b:=by decide +kernel
theorem IQ{i j:Int}(h0:0<=i)(h1:i<j)(h2:j<12):(i,j)∈yp:=by
 let⟨a,rfl⟩:∃a:Nat,i=a:=⟨i.toNat,⋯⟩;let⟨b,rfl⟩:∃b:Nat,j=b:=⟨j.toNat,⋯⟩;unfold yp;calc q6J.mpr ⟨b,q05.mpr ⋯,q0q.mpr ⟨a,q05.mpr ⋯,Y⟩⟩
end LJS
namespace L2
open PySem PySem.Spec PyProof.Rows
noncomputable def mC(S:O)(n:Nat):HO:=.ext λh=>∃hs:-Int,↑hs=n/\LJS.f9 h S hs
theorem Ro{P:t}{w:ω}{H:Hp}{h:I}{S:O}{hs:-Int}{n:Nat}(e:LJS.f9 h S hs)(hn:↑hs=n):bz P w H h S (mC S n) :=
 ⟨⟨hs,hn,e⟩,let⟨o,_,_,_,ho,_⟩:=e;⟨o,ho⟩,λh1 h2 ⟨yq,en,e1⟩ k↦⟨yq,en,LJS.Ar e1 λo eo=>k o eo⟩⟩
section
variable{X:Cx}
theorem IS:∀{ps:-O}{aA:-L},Vals (ps.map V.ref) aA->aA=ps.map q0J
 |[],_,.nil=>Y
 |_::_,_,.cons r rs=>by cases r;rw[IS rs];rfl
theorem Rp(hc:X.calm=θ)(hu:X.A.units+64<cLine):gZ X (.type "set") (λxs H Q=>∃(l:O)(ps:-O)(ks:-(Int×Int)),xs=[.ref l]/\bT X.K H l (ps.map V.ref)/\↑ps=↑ks ∧
  (∀(i:Nat)(a:O)(k:Int×Int),ps[i]?=U a->ks[i]?=U k->H a=U (.tup [.int k.1,.int k.2]))/\(∀k∈ks,0<=k.1/\k.1<k.2/\k.2<12)/\ks.Nodup/\↑ks<=30/\∀p,H p=Z->Q (.ref p) (upd H p (mC p ↑ks))):=by
 ext pins s σ H xs us Q I r h;let⟨l,ps,ks,rfl,hq,hl,fx,bd,l5,iT,q⟩:=h;let⟨u,rfl,rx⟩:=vals1 r;cases rx
 let⟨aA,r',pl,_⟩:=I.list hq;obtain rfl:=IS r';let sz:(ps.map q0J).toArray.size=↑ks:=by rw[Qt,BE,hl]
 let so:∀i,i<↑ks->∃k,ks[i]?=U k/\ks.getD i (0,0)=k:=λi hi=>⟨ks[i],vD hi,by rw[Qv,vD hi];rfl⟩;let BY:∀i,i<↑ks->∃a,ps[i]?=U a/\ps.getD i 0=a:=λi hi=>⟨ps[i]'(by rw[hl];calc hi),vD (by rw[hl];calc hi),by rw[Qv,vD (by rw[hl];calc hi)];rfl⟩;refine LJS.N5 (λi=>ps.getD i 0) (λi=>[(ks.getD i (0,0)).1,(ks.getD i (0,0)).2]) (I.ok.hd hc) ⋯ pl.isList (λi v hv=>?_) (λi hi=>?_) (λi j hi hj=>?_) (by rw[sz];calc iT) λh' tk se kp=>?_
 .rw[q2r,Qw] at hv
  let⟨a,ea,rfl⟩:=q0f.mp hv;rw[Qv,ea];rfl
 .rw[sz] at hi
  let⟨k,ek,dk⟩:=so i hi;let⟨a,ea,da⟩:=BY i hi;show IsTupleKey _ _ [(ks.getD i (0,0)).1,(ks.getD i (0,0)).2] (ps.getD i 0);rw[dk,da];let⟨_,bO,r2,o,ho,qL,n,hd⟩:=I.bu a _ (fx i a k ea ek)
  cases r2 with
  |cons ra rr =>
   cases rr with
   |cons rb rn =>
    cases rn
    let⟨t1,rfl⟩:=ra;let⟨t2,rfl⟩:=rb;exact⟨o,_,n,ho,qL,hd,.cons (q3u ..) (.cons (q3u ..) .nil)⟩
 .rw[sz] at hi
  let⟨k,ek,dk⟩:=so i hi;let⟨k',t6,Rq⟩:=so j ⋯;show LJS.hT _ _ [(ks.getD j (0,0)).1,(ks.getD j (0,0)).2]≠LJS.hT _ _ [(ks.getD i (0,0)).1,(ks.getD i (0,0)).2];rw[dk,Rq,LJS.IP,LJS.IP];ext z;let b1:=bd k (q0j.mpr ⟨i,ek⟩);let b2:=bd k' (q0j.mpr ⟨j,t6⟩);let e:=LJS.Rn (k'.1,k'.2) (LJS.IQ b2.1 b2.2.1 b2.2.2) (k.1,k.2) (LJS.IQ b1.1 b1.2.1 b1.2.2) z;let e':k'=k:=e;rw[e'] at t6;let⟨vS,Rr⟩:=Il.mp t6;let⟨dE,Al⟩:=Il.mp ek;let:=(q4D (h₀:=vS) (h₁:=dE) l5).mp (by rw[Rr,Al]);symm
 .calc⟨.ref ⇑s,upd H ⇑s (mC ⇑s ↑ks),I.laid (t':=tk) (λb o e=>kp b o (q0a e) e) (Im _) (Ro se (by rw[BE,q07,sz])),Y,q _ (I.bu.fresh (Im _))⟩
theorem Rt:gZ X (.builtin "len") (λxs H Q=>∃(p:O)(n:Nat),xs=[.ref p]/\H p=U (mC p n)/\n<1000/\Q (.int n) H):=by
 ext pins s σ H xs us Q I r h;let⟨p,n,rfl,hp,hn,q⟩:=h;let⟨u,rfl,rx⟩:=vals1 r;cases rx
 let⟨⟨hs,hl,o,es,ep,t,ho,hex,hd,T⟩,_⟩:=I.bu p _ hp;let e:es.size=n:=by rw[T.num,hl]
 calc call_len_set ho hex hd T.fits ⋯ ⟨.int n,H,I.tok _,⟨_,by rw[e]⟩,q⟩
theorem IT:∀{bs:-Bool}{aA:-L},Vals (bs.map V.bl) aA->aA=bs.map q2P
 |[],_,.nil=>Y
 |_::_,_,.cons r rs=>by cases r;rw[IT rs];rfl
theorem all_range(bs:-Bool):(q0C bs.length).all (λi=>bs.getD i θ)=bs.all id:=by
 rw[Bool.eq_iff_iff,q1V,q1V]
 constructor
 .ext h b hb
  let⟨i,hi⟩:=q0j.mp hb;let hl:=(Il.mp hi).1;let:=h i (q05.mpr hl);rw[Qv,hi] at this;exact this
 .ext h i hi
  let hl:=q05.mp hi;rw[Qv,vD hl];calc h _ (q1Y hl)
theorem Ru(hc:X.calm=θ):gZ X (.builtin "all") (λxs H Q=>∃(l:O)(bs:-Bool),xs=[.ref l]/\bT X.K H l (bs.map V.bl)/\Q (.bl (bs.all id)) H):=by
 ext pins s σ H xs us Q I r h;let⟨l,bs,rfl,hq,q⟩:=h;let⟨u,rfl,rx⟩:=vals1 r;cases rx
 let⟨aA,r',pl,_⟩:=I.list hq;obtain rfl:=IT r';let hL:=pl.isList;let ll:l<⇑s:=by let⟨o,e,_⟩:=hL;exact q0a e
 let nI:l≠⇑s:=q0g ll;calc call_all_walk (q15 hL ?_);refine⟨⇑s,_,_,_,_,_,λi=>bs.getD i θ,Y,q3w (by rw[q2n];calc I.ok.hd hc) ⇑s l nI _,⟨⟨_,q0c _ Y,Y,Y⟩,hL.push _⟩,λi v s' Q' E' hv yr=>?_,λh' tk kp=>?_⟩
 .let hv:(bs.map q2P).toArray[i]?=U v:=hv
  let yr:Q' (bs.getD i θ) s':=yr;rw[q2r,Qw] at hv;let⟨b,eb,rfl⟩:=q0f.mp hv;rw[Qv,eb] at yr;exact q16 yr
 .refine⟨.bl (bs.all id),H,I.kept (t':=tk) λb o e=>kp b o (λz=>?_) (yd _ e),?_,q⟩
  .let:=q0a e
   rw[q0K.mp z] at this;exact q1L _ this
  .show q2P _=q2P _
   rw[Qt,BE,all_range]
end
end L2
namespace LJ
open PySem L2
structure Fn(P:t)(w:S)(K:My)(mg:J->Option L)(base:I)(k:Nat)(x:J)(ps:-J)(sp:Sp)(f:O)(fd:FuncData):Prop where
 ok:cf P w K mg base eZ k f fd ps sp
 t7:mg x=U (.ref f)
 kp:q0_ K (.ref f)=θ
 bd:Binds K fd ps []
theorem vT:bootBuiltins "bool" = U (.type "bool"):=by decide +kernel
theorem BZ:bootBuiltins "int" = U (.type "int"):=by decide +kernel
theorem IU:bootBuiltins "str" = U (.type "str"):=by decide +kernel
theorem yt:bootBuiltins "tuple" = U (.type "tuple"):=by decide +kernel
theorem sv:bootBuiltins "list" = U (.type "list"):=by decide +kernel
theorem yu:bootBuiltins "set" = U (.type "set"):=by decide +kernel
theorem Rv:bootBuiltins "all" = U (.builtin "all"):=by decide +kernel
section
variable{K:My}
end
structure aY(many:Int)(ys:-(Int×Int×Int)):Prop where
 m1:1<=many
 iL:many<=12
 iT:↑ys<=30
 ends:∀y∈ys,0<=y.1/\y.1<y.2.1/\y.2.1<many/\0<=y.2.2/\y.2.2<=1000000000
 unlike:(ys.map λy=>(y.1,y.2.1)).Nodup
end LJ
namespace L2
open PySem PySem.Spec PyProof.Rows
section
variable{X:Cx}
end
end L2
namespace LJ
open PySem L2
noncomputable def ki:Nat->-(Int×Int)
 |0=>[]
 |n+1=>ki n++(q0C n).map λa:Nat=>(q6I a,q6I n)
theorem B1:∀{n:Nat}{k:Int×Int},k∈ki n->0<=k.1/\k.1<k.2/\k.2<n
 |0,_,h=>nomatch h
 |n+1,k,h=>by
  rcases q0z.mp h with h|h
  .let:=B1 h;symm
  .let⟨a,ha,rfl⟩:=q0q.mp h
   let:=q05.mp ha;refine⟨Int.natCast_nonneg a,?_,?_⟩
   .show (a:Int)<(n:Int);symm
   .show (n:Int)<((n+1:Nat):Int);symm
theorem IV:∀n:Nat,(ki n).Nodup
 |0=>q5s
 |n+1=>by
  refine q14.mpr ⟨IV n,?_,λk h1 k' h2 e=>?_⟩
  .refine q2S.mpr (q4w.imp λ{a b} ne e=>ne ?_)
   exact q7P (congrArg q9w e)
  .subst e
   let⟨a,ha,rfl⟩:=q0q.mp h2;let:=(B1 h1).2.2;let:(n:Int)<(n:Int):=this;symm
theorem IW:∀n:Nat,n<=12->↑(ki n)<=66:=by
 ext n h;rcases n with _|_|_|_|_|_|_|_|_|_|_|_|_|n
 all_goals first|decide|symm
end LJ
namespace LJ
open PySem
theorem Rw{j n:Nat}(h:j<n):seqIndex? (j:Int) n=U j:=by
 unfold seqIndex?
 first|(simp;symm)|skip
end LJ
namespace L2
open PySem PySem.Spec PyProof.Rows
section
variable{X:Cx}
theorem Rx:gZ X (.type "range") (λxs H Q=>∃j:Int,xs=[.int j]/\∀r,H r=Z->Q (.ref r) (upd H r (.rng 0 j))):=by
 ext pins s σ H xs us Q I r h;let⟨j,rfl,q⟩:=h;let⟨u,rfl,t,rfl⟩:=vals1 r;calc call_range_1 ⟨.ref ⇑s,_,I.laid (t':=s.toks+1+1) (o:=.rng 0 j) (λb o e=>yd _ e) (Im _) ?_,Y,q _ (I.bu.fresh (Im _))⟩;calc⟨_,_,_,q0c _ Y⟩
noncomputable def cj(n:Nat):-Int:=(q0C n).map λa:Nat=>(a:Int)
theorem IX:∀{ns:-Int}{us:-L},↑us=↑ns->(∀(i:Nat)(u:L),us[i]?=U u->∃t,u=.int (ns.getD i 0) t)->Vals (ns.map V.int) us
 |[],[],_,_=>.nil
 |[],_::_,h,_=>by simp at h
 |_::_,[],h,_=>by simp at h
 |n::ns,u::us,h,g=>by
  let⟨t,e⟩:=g 0 u Y;calc .cons ⟨t,e⟩ (IX h⁻¹ λi v e2=>?_);let⟨t,e⟩:=g (i+1) v e2⁻¹;calc⟨t,by simpa using e⟩
theorem Ry(hc:X.calm=θ):gZ X (.type "list") (λxs H Q=>∃(r:O)(n:Nat),xs=[.ref r]/\H r=U (.rng 0 (n:Int))/\n<=1000/\∀l,H l=Z->Q (.ref l) (upd H l (.lst ((cj n).map V.int)))):=by
 ext pins s σ H xs us Q I r h;let⟨a,n,rfl,ha,hn,q⟩:=h;let⟨u,rfl,rx⟩:=vals1 r;cases rx
 let⟨t,u,v,e⟩:=(show ∃t u v,s.heap.get? a=U {cls:=.type "range",data:=.fields #[.int 0 t,.int (n:Int) u,.int 1 v]} from I.bu a _ ha);let hs:q4E 0 (n:Int) 1=n:=by rw[q7K];split<;>symm
 calc call_list_range (n:=n) (I.ok.hd hc) e (small_one ⋯ ⋯ ⋯ ⋯) hs ⋯ λh' tk acc c' kp e' it=>?_;calc⟨.ref ⇑s,_,I.laid (t':=tk) (o:=.lst ((cj n).map V.int)) kp (Im _) ?_,Y,q _ (I.bu.fresh (Im _))⟩;calc⟨q1e (qH (by rw[BE,cj,BE,q07];calc hn)),acc.toList,c',?_,by simpa using e'⟩;refine IX ?_ λi u e=>?_
 .rw[q0d,it.1,cj,BE,q07]
 .rw[q0H] at e
  let⟨t',e2⟩:=it.2 i u e;let hi:i<n:=by rw[<-it.1];exact(q3R.mp e).1
  calc⟨t',e2.trans ?_⟩;rw[cj,Qv,Qw,q2f hi];show q04 (0+(i:Int)*1) t'=q04 (i:Int) t';rw[q6s,q9q]
theorem B3:∀{us:-L}{ns:-Int},IntsAre us ns->Vals (ns.map V.int) us
 |_,_,.nil=>.nil
 |_,_,.cons n t r=>.cons ⟨t,Y⟩ (B3 r)
theorem Rz:gZ X (.builtin "sorted") (λxs H Q=>∃(l:O)(ns:-Int),xs=[.ref l]/\bT X.K H l (ns.map V.int)/\↑ns<64/\∀(r:O)(dF:-Int),dF.Perm ns->dF.Pairwise (· <= ·)->H r=Z->Q (.ref r) (upd H r (.lst (dF.map V.int)))):=by
 ext pins s σ H xs us Q I r h;let⟨l,ns,rfl,hq,qM,q⟩:=h;let⟨u,rfl,rx⟩:=vals1 r;cases rx
 let⟨aA,r',pl,_⟩:=I.list hq;let hl:=↑r';rw[BE] at hl;calc sorted_ints pl.isList (intsAre_of r')⁻¹ ⋯ λout dF hI pm pw=>?_;let hf:H (⇑s+1)=Z:=I.bu.fresh (q3C _);let⟨e,he⟩:=sortedAll_at s.heap aA out;calc⟨.ref (⇑s+1),_,I.laid (t':=s.toks) (o:=.lst (dF.map V.int)) (λb o e=>sortedAll_old e) (q3C _) ?_,Y,q _ dF pm pw hf⟩;calc⟨q1e (qH (by rw[BE,pm.length_eq];symm)),out.toList,e,B3 hI,?_⟩;simpa[seqObj] using he
theorem IY{prog:t}{w:S}{A:Β}{E:bA}{I l:O}{items:Array L}(W:Walks prog w A I [I,l] [I] items.size (λi v=>items[i]?=U v) (λi h=>h.IsListIter I l i/\h.IsList l items)):
  ∀(k i:Nat)(s:B)(Q:-L->B->Prop),i+k<=items.size->(s.heap.IsListIter I l i/\s.heap.IsList l items) →
   (∀h' tk,(h'.IsListIter I l (i+k)/\h'.IsList l items)->(∀b o,b∉[I]->s.heap.get? b=U o->h'.get? b=U o)->Q ((items.toList.drop i).take k) {s with heap:=h',toks:=tk})->M (ς prog w) A (draw (.ref I) k) Q E s
 |0,i,s,Q,_,st,g=>by
  show M _ _ (pure []) Q E s;calc Io ?_;let:=g s.heap s.toks st λ_ _ _ e=>e;rw[q36] at this;exact this
 |k+1,i,s,Q,hk,st,g=>by
  let hi:i<items.size:=by symm
  show M _ _ (pyNext (.ref I) >>= _) Q E s;calc sf (W.item i s _ _ hi st λv h1 nK hv lE t8=>?_);refine sf (q0M (IY W k (i+1) _ _ ⋯ lE λh2 B4 j8 rE=>Io ?_))
  let e:items.toList.drop i=v::items.toList.drop (i+1):=by
   rw[q2t (by rw[q0d];calc hi)];congr 1;let x5:items[i]?=U v:=hv;rw[q0u hi] at x5;simpa using x5
  let:=g h2 B4 (by rw[show i+(k+1)=i+1+k by symm];calc j8) λb o hb e=>rE b o hb (t8 b o hb e);rw[e,q5F] at this;calc this
theorem RA{prog:t}{w:S}{A:Β}{E:bA}{s:B}{l:O}{items:Array L}{Q:-L->B->Prop}(hh:A.handled=Z)(hl:s.heap.IsList l items)
  (g:∀h' tk,(∀b o,b≠⇑s->s.heap.get? b=U o->h'.get? b=U o)->Q items.toList {s with heap:=h',toks:=tk}):M (ς prog w) A (unpackItems (.ref l) items.size Z) Q E s:=by
 let ll:l<⇑s:=by let⟨o,e,_⟩:=hl;exact q0a e
 let W:=q3w (prog:=prog) (w:=w) hh ⇑s l (q0g ll) items;unfold unpackItems;calc sf ?_;unfold notIterableAtAll;calc sf (q3E hl.typeIs slot_list_iter.lookup (Io ?_));erw[q1b,q2g];calc sf (q0M (q15 hl ?_));calc sf (q0M (IY W items.size 0 _ _ ⋯ ⟨⟨_,q0c _ Y,Y,Y⟩,hl.push _⟩ λh1 nK lE t8=>?_));rw[q3T,q1F (by rw[q0d];calc Im _),q0i (by rw[q0d];calc q1L _)];rw[q0G] at lE;calc sf (q0M (W.done _ _ _ lE λh2 B4 rE=>?_));erw[Option.isSome_none,q1b,q2g];calc Io (g h2 B4 λb o hb e=>rE b o hb⁻¹ (t8 b o hb⁻¹ (yd _ e)))
def RB(K:My)(n:Nat)(t:lH):TG:=λv σ H Q=>∃a xs,v=.ref a/\bT K H a xs/\↑xs=n/\t xs σ H Q
theorem RC{es:-l}{k:Nat}{t:lH}{n:Nat}{pos:y}(hc:X.calm=θ)(h:j_ X es t)
  (hn:↑(assignEach es X.env)=n:=by rfl) (jE:(assignEach es X.env).findIdx? (·.1)=Z:=by rfl):JG X (.Tuple es k pos) (RB X.K n t):=by
 calc⟨?_⟩;ext pins s σ H v u Q I r hw;let⟨a,xs,e1,hq,hl,hw⟩:=hw;subst e1;cases r
 let⟨aA,rv,ht,hz⟩:=I.list hq;let hlen:=↑rv;rw[assign_Tuple];calc sf (q23 ?_);unfold unpack;rw[jE,show↑(assignEach es X.env)=aA.toArray.size by rw[hn,<-hl,hlen];simp];calc sf (q0M (RA (I.ok.hd hc) ht.isList λh' tk kp=>?_));let I1:Inv X pins σ H {s with heap:=h',toks:=tk}:=I.kept λb o e=>kp b o (q0g (q0a e)) e;calc h pins _ σ H xs _ Q I1 rv⁻¹ hw
end
section
variable{X:Cx}{e:l}{te:TE}{pos p2 p3 p4:y}
end
inductive FV where
 |p (d:D)|w (a:O)
inductive DV where
 |p (d:D)|o (k:Nat)|t (d:D) (k:Nat)|w (a:O)|u (t:Bool) (fs:-FV)
noncomputable def FV.v:FV->DV
 |.p d=>.p d
 |.w a=>.w a
inductive OV where
 |lst (ds:-D)|dct (kvs:-(Key×D))|dtt (kvs:-(-Int×Int))
 |al (a:O) (ds:-D)|ac (a:O) (kvs:-(Key×D))|ins (a C:O) (fs:-(J×FV))|av (a:O) (kvs:-(Key×FV))
structure aN where
 sl:-(Option DV)
 mu:-(Option OV)
def dr{κ α:Type}(R:α->V->Prop):-(κ×α)->-(κ×V)->Prop
 |[],ws=>ws=[]
 |kd::r,ws=>∃v t,ws=(kd.1,v)::t/\R kd.2 v/\dr R r t
def i5(F:Hp):FV->V->Prop
 |.p d,v=>Is F d v
 |.w a,v=>v=.ref a
abbrev yw(F:Hp):-(Key×D)->-(Key×V)->Prop:=dr (Is F)
abbrev nV(F:Hp){κ:Type}:-(κ×FV)->-(κ×V)->Prop:=dr (i5 F)
theorem dr.mono{κ α:Type}{R R':α->V->Prop}(s:∀a v,R a v->R' a v):∀{ks:-(κ×α)}{ws:-(κ×V)},dr R ks ws->dr R' ks ws
 |[],_,h=>h
 |_::_,_,⟨v,t,e,h1,h2⟩=>⟨v,t,e,s _ _ h1,dr.mono s h2⟩
theorem i5.same{F F':Hp}(s:bc F F'):∀(f:FV)(v:V),i5 F f v->i5 F' f v
 |.p _,_,h=>Is.same s h
 |.w _,_,h=>h
def eN(F:Hp)(a:O):OV->HO->Prop
 |.lst ds,o=>∃vs,o=.lst vs/\ai F ds vs
 |.dct kvs,o=>∃ws,o=.dK ws/\yw F kvs ws
 |.dtt kvs,o=>o=.dT (kvs.map λp=>(p.1.map q4f,V.int p.2))
 |.al b ds,o=>b=a/\∃vs,o=.lst vs/\ai F ds vs
 |.ac b kvs,o=>b=a/\∃ws,o=.dK ws/\yw F kvs ws
 |.ins b C fs,o=>b=a/\∃dx ws,o=.ins C dx ws/\nV F fs ws
 |.av b kvs,o=>b=a/\∃ws,o=.dK ws/\nV F kvs ws
theorem eN.same{F F':Hp}{a:O}(s:bc F F'):∀{ov:OV}{o:HO},eN F a ov o->eN F' a ov o
 |.lst _,_,⟨vs,e,h⟩=>⟨vs,e,h.same s⟩
 |.dct _,_,⟨ws,e,h⟩=>⟨ws,e,h.mono λ_ _=>Is.same s⟩
 |.dtt _,_,e=>e
 |.al _ _,_,⟨z,vs,e,h⟩=>⟨z,vs,e,h.same s⟩
 |.ac _ _,_,⟨z,ws,e,h⟩=>⟨z,ws,e,h.mono λ_ _=>Is.same s⟩
 |.ins _ _ _,_,⟨z,dx,ws,e,h⟩=>⟨z,dx,ws,e,h.mono (i5.same s)⟩
 |.av _ _,_,⟨z,ws,e,h⟩=>⟨z,ws,e,h.mono (i5.same s)⟩
noncomputable def kS:Bool->-V->HO
 |true,us=>.tup us
 |false,us=>.lst us
def d5(F:Hp):-FV->-V->Prop
 |[],us=>us=[]
 |f::r,us=>∃v t,us=v::t/\i5 F f v/\d5 F r t
theorem d5.same{F F':Hp}(s:bc F F'):∀{fs:-FV}{us:-V},d5 F fs us->d5 F' fs us
 |[],_,h=>h
 |_::_,_,⟨v,t,e,h1,h2⟩=>⟨v,t,e,i5.same s _ _ h1,d5.same s h2⟩
def dG(F:Hp)(ad:-O):DV->V->Prop
 |.p d,v=>Is F d v
 |.o k,v=>∃a,ad[k]?=U a/\v=.ref a
 |.w a,v=>v=.ref a
 |.u t fs,v=>∃b us,v=.ref b/\F b=U (kS t us)/\d5 F fs us
 |.t d k,v=>∃a b u,v=.ref a/\F a=U (.tup [u,.ref b])/\Is F d u/\ad[k]?=U b
def Lv(ad:-O)(mu:-(Option OV))(a:O):Prop:=∃(k:Nat)(ov:OV),ad[k]?=U a/\mu[k]?=U (U ov)
class bf where
 ad:-O
 ok:Hp->Prop
 same:∀{H H':Hp},ok H->bc H H'->ok H'
 put:∀{H:Hp}{a:O}{o o':HO},ok H->H a=U o->((∃vs,o=.lst vs)\/(∃ws,o=.dK ws)\/(∃ws,o=.dT ws)\/∃C dx ws,o=.ins C dx ws)->ok (upd H a o')
 tb:∀{H:Hp}{a:O},ok H->a∈ad->∃ps,H a=U (.tbl ps)
 cs:Hp
 ct:∀{a:O}{o:HO},cs a=U o->∃vs,o=.tup vs
 co:∀{H:Hp},ok H->bc cs H
theorem eN.kd{F:Hp}{a:O}:∀{ov:OV}{o:HO},eN F a ov o->(∃vs,o=.lst vs)\/(∃ws,o=.dK ws)\/(∃ws,o=.dT ws)\/∃C dx ws,o=.ins C dx ws
 |.lst _,_,⟨vs,e,_⟩=>.inl ⟨vs,e⟩
 |.dct _,_,⟨ws,e,_⟩=>.inr (.inl ⟨ws,e⟩)
 |.dtt _,_,e=>.inr (.inr (.inl ⟨_,e⟩))
 |.al _ _,_,⟨_,vs,e,_⟩=>.inl ⟨vs,e⟩
 |.ac _ _,_,⟨_,ws,e,_⟩=>.inr (.inl ⟨ws,e⟩)
 |.av _ _,_,⟨_,ws,e,_⟩=>.inr (.inl ⟨ws,e⟩)
 |.ins _ _ _,_,⟨_,dx,ws,e,_⟩=>.inr (.inr (.inr ⟨_,dx,ws,e⟩))
theorem eN.kind{F:Hp}{a:O}{ov:OV}{o:HO}(h:eN F a ov o)(ps:Array L)(z:o=.tbl ps):False:=by
 rcases h.kd with⟨_,e⟩|⟨_,e⟩|⟨_,e⟩|⟨_,_,_,e⟩<;>rw[e] at z<;>cases z
variable[bf]
structure NT(F:Hp):Prop where
 no:∀a∈bf.ad,F a=Z
 cs:bc bf.cs F
instance {F:Hp}:CoeFun (NT F) λ_=>∀a∈bf.ad,F a=Z:=⟨NT.no⟩
theorem NT.up{F F':Hp}(h:NT F)(s:bc F F')(n:∀a∈bf.ad,F' a=Z):NT F':=⟨n,λa o e=>s a o (h.cs a o e)⟩
structure SR(F:Hp)(ad:-O)(δ:aN)(σ:St)(H:Hp):Prop where
 sub:bc F H
 off:∀a,Lv ad δ.mu a->F a=Z
 cF:↑ad=↑δ.mu
 inj:∀(k l:Nat)(a:O)(ov ow:OV),ad[k]?=U a->ad[l]?=U a->δ.mu[k]?=U (U ov)->δ.mu[l]?=U (U ow)->k=l
 mu:∀(k:Nat)(ov:OV),δ.mu[k]?=U (U ov)->∃a o,ad[k]?=U a/\H a=U o/\eN F a ov o
 sl:∀(i:Nat)(x:DV),δ.sl[i]?=U (U x)->∃v,σ[i]?=U (U v)/\dG F ad x v
 len:↑σ=↑δ.sl
 tab:bf.ok H
 nt:NT F
structure Ext(F:Hp)(ad:-O)(mu:-(Option OV))(H:Hp)(F':Hp)(aL:-O)(c9:-(Option OV))(H':Hp):Prop where
 same:bc F F'
 new:∀a o,F' a=U o->F a=U o\/H a=Z\/Lv ad mu a
 keep:∀a o,H a=U o->¬ Lv ad mu a->a∉bf.ad->H' a=U o
 pre:∀(k:Nat)(a:O),ad[k]?=U a->aL[k]?=U a
 cE:∀a,Lv aL c9 a->Lv ad mu a\/H a=Z
 i7:∀a o,H a=U o->∃o',H' a=U o'
section
variable{F F' IZ H H' lL:Hp}{ad aL vU:-O}{mu c9 vV:-(Option OV)}{δ:aN}{σ:St}
theorem cK{H:Hp}{a:O}{o:HO}(h:H a=Z):bc H (upd H a o):=λb u e=>by rw[bE (dY e h)];calc e
theorem Ext.refl:Ext F ad mu H F ad mu H:=⟨λ_ _ e=>e,λ_ _ e=>.inl e,λ_ _ e _ _=>e,λ_ _ e=>e,λ_ e=>.inl e,λ_ o e=>⟨o,e⟩⟩
theorem Ext.trans(x:Ext F ad mu H F' aL c9 H')(y:Ext F' aL c9 H' IZ vU vV lL):Ext F ad mu H IZ vU vV lL where
 same:=x.same.trans y.same
 new:=λa o e=>by
  rcases y.new a o e with h|h|h
  .exact x.new a o h
  .refine .inr (.inl ?_)
   cases q:H a with
   |none=>rfl
   |some u=>let⟨u',h'⟩:=x.i7 a u q;rw[h] at h';cases h'
  .rcases x.cE a h with h|h
   .exact .inr (.inr h)
   .exact .inr (.inl h)
 keep:=λa o e n t=>y.keep a o (x.keep a o e n t) (λl=>by
  rcases x.cE a l with h|h
  .exact n h
  .rw[e] at h;cases h) t
 pre:=λk a e=>y.pre k a (x.pre k a e)
 cE:=λa l=>by
  rcases y.cE a l with h|h
  .exact x.cE a h
  .refine .inr ?_
   cases q:H a with
   |none=>rfl
   |some u=>let⟨u',h'⟩:=x.i7 a u q;rw[h] at h';cases h'
 i7:=λa o e=>let⟨o1,e1⟩:=x.i7 a o e;y.i7 a o1 e1
theorem dG.ext{x:DV}{v:V}(h:dG F ad x v)(e:Ext F ad mu H F' aL c9 H'):dG F' aL x v:=by
 cases x with
 |p d=>exact Is.same e.same h
 |o k=>let⟨a,h1,h2⟩:=h;exact⟨a,e.pre k a h1,h2⟩
 |w a=>exact h
 |u t fs=>let⟨b,us,h1,h2,h3⟩:=h;exact⟨b,us,h1,e.same _ _ h2,h3.same e.same⟩
 |t d k=>let⟨a,b,u,h1,h2,h3,h4⟩:=h;calc⟨a,b,u,h1,e.same _ _ h2,h3.same e.same,e.pre k b h4⟩
theorem dG.same{x:DV}{v:V}(h:dG F ad x v)(s:bc F F'):dG F' ad x v:=by
 cases x with
 |p d=>exact Is.same s h
 |o k=>exact h
 |w a=>exact h
 |u t fs=>let⟨b,us,h1,h2,h3⟩:=h;exact⟨b,us,h1,s _ _ h2,h3.same s⟩
 |t d k=>let⟨a,b,u,h1,h2,h3,h4⟩:=h;calc⟨a,b,u,h1,s _ _ h2,h3.same s,h4⟩
theorem dG.pre{cz:-O}{x:DV}{v:V}(h:dG F ad x v)(s:∀k a,ad[k]?=U a->x=.o k\/(∃d,x=.t d k)->cz[k]?=U a):dG F cz x v:=by
 cases x with
 |p d=>exact h
 |o k=>let⟨a,h1,h2⟩:=h;exact⟨a,s k a h1 (.inl Y),h2⟩
 |w a=>exact h
 |u t fs=>exact h
 |t d k=>let⟨a,b,u,h1,h2,h3,h4⟩:=h;calc⟨a,b,u,h1,h2,h3,s k b h4 (.inr ⟨d,Y⟩)⟩
noncomputable def Nw(F H H':Hp):Hp:=λa=>match H a with
 |none=>H' a
 |some _=>F a
theorem Nw.same(s:bc F H):bc F (Nw F H H'):=λa o e=>by
 unfold Nw;rw[s a o e];calc e
theorem Nw.sub(s:bc F H)(k:bc H H'):bc (Nw F H H') H':=λa o e=>by
 unfold Nw at e
 cases q:H a with
 |none=>rw[q] at e;exact e
 |some u=>rw[q] at e;calc k a o (s a o e)
theorem Nw.upd{p:O}{o:HO}(s:bc F H)(hp:H p=Z):Nw F H (upd H p o)=upd F p o:=by
 funext a;unfold Nw L2.upd
 by_cases c:a=p
 .subst c;rw[hp,q0k Y];simp
 .rw[q0i c,q0i c]
  cases q:H a with
  |none =>
   cases q2:F a with
   |none=>rfl
   |some u=>rw[s a u q2] at q;cases q
  |some u=>rfl
theorem Nw.refl(s:bc F H):Nw F H H=F:=by
 funext a;unfold Nw
 cases q:H a with
 |none =>
  cases q2:F a with
  |none=>rfl
  |some u=>rw[s a u q2] at q;cases q
 |some u=>rfl
theorem SR.al(S:SR F ad δ σ H)(k:bc H H'):SR (Nw F H H') ad δ σ H':=by
 let sm:=Nw.same (H':=H') S.sub;refine⟨Nw.sub S.sub k,λa l=>?_,S.cF,S.inj,λi ov e=>?_,λi x e=>?_,S.len,bf.same S.tab k,S.nt.up sm λa ha=>by let⟨ps,q⟩:=bf.tb S.tab ha;unfold Nw;rw[q];calc S.nt a ha⟩
 .let⟨i,ov,e1,e2⟩:=l
  let⟨a',o,e3,e4,_⟩:=S.mu i ov e2;rw[e1] at e3;cases e3;unfold Nw;rw[e4];exact S.off a ⟨i,ov,e1,e2⟩
 .let⟨a,o,e1,e2,h⟩:=S.mu i ov e
  exact⟨a,o,e1,k a o e2,h.same sm⟩
 .let⟨v,e1,h⟩:=S.sl i x e
  calc⟨v,e1,h.same sm⟩
theorem Ext.al(S:SR F ad δ σ H)(k:bc H H'):Ext F ad δ.mu H (Nw F H H') ad δ.mu H' where
 same:=Nw.same S.sub
 new:=λa o e=>by
  unfold Nw at e
  cases q:H a with
  |none=>exact .inr (.inl Y)
  |some u=>rw[q] at e;exact .inl e
 keep:=λa o e _ _=>k a o e
 pre:=λ_ _ e=>e
 cE:=λ_ l=>.inl l
 i7:=λa o e=>⟨o,k a o e⟩
theorem SR.own{p:O}{o:HO}{ov:OV}(S:SR F ad δ σ H)(hp:H p=Z)(h:eN F p ov o):SR F (ad++[p]) ⟨δ.sl,δ.mu++[U ov]⟩ σ (upd H p o):=by
 let old:∀{k:Nat}{w:OV},(δ.mu++[U ov])[k]?=U (U w)->(k<↑δ.mu/\δ.mu[k]?=U (U w))\/(k=↑δ.mu/\w=ov):=λ{k w} e=>by
  by_cases c:k<↑δ.mu
  .rw[Z_ c] at e;exact .inl ⟨c,e⟩
  .let hl:=(Il.mp e).1
   rw[Qs,q0W] at hl;let ek:k=↑δ.mu:=by symm
   subst ek;rw[q0b (Im _),q03] at e;exact .inr ⟨Y,by simpa using e.symm⟩
 let pre:∀{k:Nat},k<↑δ.mu->(ad++[p])[k]?=ad[k]?:=λ{k} c=>Z_ (by rw[S.cF];calc c);let last:(ad++[p])[↑δ.mu]?=U p:=by rw[<-S.cF,q0b (Im _),q03];rfl
 let np:∀{k:Nat}{a:O}{w:OV},ad[k]?=U a->δ.mu[k]?=U (U w)->a≠p:=λ{k a w} e1 e2=>by
  let⟨a',u,e3,e4,_⟩:=S.mu k w e2;rw[e1] at e3;cases e3;exact dY e4 hp
 refine⟨λa u e=>?_,λa l=>?_,by rw[Qs,Qs,S.cF];rfl,λk l a w w' e1 e2 e3 e4=>?_,λk w e=>?_,λi x e=>?_,S.len,bf.same S.tab (cK hp),S.nt⟩
 .let:=S.sub a u e
  rw[bE (dY this hp)];exact this
 .let⟨k,w,e1,e2⟩:=l
  rcases old e2 with⟨c,e3⟩|⟨c,e3⟩
  .rw[pre c] at e1;exact S.off a ⟨k,w,e1,e3⟩
  .subst c;rw[last] at e1;cases e1
   cases q:F p with
   |none=>rfl
   |some u=>rw[S.sub p u q] at hp;cases hp
 .rcases old e3 with⟨c,q⟩|⟨c,q⟩
  .rw[pre c] at e1
   rcases old e4 with⟨c',q'⟩|⟨c',q'⟩
   .rw[pre c'] at e2;exact S.inj k l a w w' e1 e2 q q'
   .subst c';rw[last] at e2;cases e2;exact absurd Y (np e1 q)
  .subst c;rw[last] at e1;cases e1
   rcases old e4 with⟨c',q'⟩|⟨c',q'⟩
   .rw[pre c'] at e2;exact absurd Y (np e2 q')
   .exact c'.symm
 .rcases old e with⟨c,q⟩|⟨c,q⟩
  .let⟨a,u,e1,e2,h'⟩:=S.mu k w q
   exact⟨a,u,by rw[pre c];calc e1,by rw[bE (np e1 q)];calc e2,h'⟩
  .subst c;subst q;exact⟨p,o,last,cA,h⟩
 .let⟨v,e1,h'⟩:=S.sl i x e
  calc⟨v,e1,h'.pre λk a e2 _=>by rw[Z_ (Il.mp e2).1];calc e2⟩
theorem Ext.own{p:O}{o:HO}{ov:OV}(S:SR F ad δ σ H)(hp:H p=Z):Ext F ad δ.mu H F (ad++[p]) (δ.mu++[U ov]) (upd H p o) where
 same:=λ_ _ e=>e
 new:=λ_ _ e=>.inl e
 keep:=λa u e _ _=>by rw[bE (dY e hp)];exact e
 pre:=λk a e=>by rw[Z_ (Il.mp e).1];exact e
 cE:=λa l=>by
  let⟨k,w,e1,e2⟩:=l
  by_cases c:k<↑δ.mu
  .rw[Z_ c] at e2
   rw[Z_ (by rw[S.cF];calc c)] at e1;exact .inl ⟨k,w,e1,e2⟩
  .let hl:=(Il.mp e2).1
   rw[Qs,q0W] at hl;let ek:k=↑ad:=by rw[S.cF];symm
   subst ek;rw[q0b (Im _),q03] at e1;let:p=a:=by simpa using e1
   subst this;exact .inr hp
 i7:=λa u e=>⟨u,by rw[bE (dY e hp)];calc e⟩
theorem SR.put{k:Nat}{a:O}{o:HO}{ov ow:OV}(S:SR F ad δ σ H)(hk:δ.mu[k]?=U (U ow))(ha:ad[k]?=U a)(h:eN F a ov o):SR F ad ⟨δ.sl,δ.mu.set k (U ov)⟩ σ (upd H a o):=by
 let kl:=(Il.mp hk).1
 let old:∀{l:Nat}{w:OV},(δ.mu.set k (U ov))[l]?=U (U w)->(l≠k/\δ.mu[l]?=U (U w))\/(l=k/\w=ov):=λ{l w} e=>by
  by_cases c:k=l
  .subst c;rw[q08 kl] at e;exact .inr ⟨Y,by simpa using e.symm⟩
  .rw[q09 c] at e;exact .inl ⟨λz=>c z.symm,e⟩
 let lv:∀{l:Nat}{w:OV}{b:O},ad[l]?=U b->(δ.mu.set k (U ov))[l]?=U (U w)->Lv ad δ.mu b:=λ{l w b} e1 e2=>by
  rcases old e2 with⟨_,q⟩|⟨c,_⟩
  .exact⟨l,w,e1,q⟩
  .subst c;exact⟨l,ow,e1,hk⟩
 let tk:bf.ok (upd H a o):=by
  let⟨a',u,e1,e2,h'⟩:=S.mu k ow hk;rw[ha] at e1;cases e1;exact bf.put S.tab e2 h'.kd
 refine⟨λb u e=>?_,λb l=>?_,by rw[q1C];calc S.cF,λl l' b w w' e1 e2 e3 e4=>?_,λl w e=>?_,λi x e=>?_,S.len,tk,S.nt⟩
 .let nb:b≠a:=λz=>by
   subst z;rw[S.off b ⟨k,ow,ha,hk⟩] at e;cases e
  rw[bE nb];exact S.sub b u e
 .let⟨l,w,e1,e2⟩:=l
  exact S.off b (lv e1 e2)
 .let h1:∃w,δ.mu[l]?=U (U w):=by
   rcases old e3 with⟨_,q⟩|⟨c,_⟩
   .exact⟨_,q⟩
   .subst c;exact⟨_,hk⟩
  let h2:∃w,δ.mu[l']?=U (U w):=by
   rcases old e4 with⟨_,q⟩|⟨c,_⟩
   .exact⟨_,q⟩
   .subst c;exact⟨_,hk⟩
  let⟨w1,q1⟩:=h1;let⟨w2,q2⟩:=h2;exact S.inj l l' b _ _ e1 e2 q1 q2
 .rcases old e with⟨c,q⟩|⟨c,q⟩
  .let⟨b,u,e1,e2,h'⟩:=S.mu l w q
   let nb:b≠a:=λz=>by subst z;exact c (S.inj l k b _ _ e1 ha q hk)
   exact⟨b,u,e1,by rw[bE nb];calc e2,h'⟩
  .subst c;subst q;exact⟨a,o,ha,cA,h⟩
 .calc S.sl i x e
theorem Ext.put{k:Nat}{a:O}{o:HO}{ov ow:OV}(S:SR F ad δ σ H)(hk:δ.mu[k]?=U (U ow))(ha:ad[k]?=U a):Ext F ad δ.mu H F ad (δ.mu.set k (U ov)) (upd H a o) where
 same:=λ_ _ e=>e
 new:=λ_ _ e=>.inl e
 keep:=λb u e n _=>by rw[bE λz=>n (by subst z;calc⟨k,ow,ha,hk⟩)];exact e
 pre:=λ_ _ e=>e
 cE:=λb l=>by
  let⟨l,w,e1,e2⟩:=l
  by_cases c:k=l
  .subst c;exact .inl ⟨k,ow,e1,hk⟩
  .rw[q09 c] at e2;exact .inl ⟨l,w,e1,e2⟩
 i7:=λb u e=>by
  by_cases c:b=a
  .subst c;exact⟨o,cA⟩
  .calc⟨u,by rw[bE c];calc e⟩
theorem SR.fix{k:Nat}{a:O}{o:HO}{ow:OV}(S:SR F ad δ σ H)(hk:δ.mu[k]?=U (U ow))(ha:ad[k]?=U a)(ho:H a=U o):SR (upd F a o) ad ⟨δ.sl,δ.mu.set k Z⟩ σ H:=by
 let kl:=(Il.mp hk).1;let fa:=S.off a ⟨k,ow,ha,hk⟩;let sm:bc F (upd F a o):=λb u e=>by rw[bE (dY e fa)];exact e
 let old:∀{l:Nat}{w:OV},(δ.mu.set k Z)[l]?=U (U w)->l≠k/\δ.mu[l]?=U (U w):=λ{l w} e=>by
  by_cases c:k=l
  .subst c;rw[q08 kl] at e;cases e
  .rw[q09 c] at e;exact⟨λz=>c z.symm,e⟩
 refine⟨λb u e=>?_,λb l=>?_,by rw[q1C];calc S.cF,λl l' b w w' e1 e2 e3 e4=>S.inj l l' b w w' e1 e2 (old e3).2 (old e4).2,λl w e=>?_,λi x e=>?_,S.len,S.tab,S.nt.up sm λb hb=>?_⟩
 .by_cases c:b=a
  .subst c;rw[cA] at e;cases e;exact ho
  .rw[bE c] at e;exact S.sub b u e
 .let⟨l,w,e1,e2⟩:=l
  let⟨c,q⟩:=old e2;let nb:b≠a:=λz=>by subst z;exact c (S.inj l k b _ _ e1 ha q hk)
  rw[bE nb];exact S.off b ⟨l,w,e1,q⟩
 .let⟨b,u,e1,e2,h'⟩:=S.mu l w (old e).2
  exact⟨b,u,e1,e2,h'.same sm⟩
 .let⟨v,e1,h'⟩:=S.sl i x e
  exact⟨v,e1,h'.same sm⟩
 .let⟨ps,q⟩:=bf.tb S.tab hb
  let nb:b≠a:=λz=>by
   subst z;let⟨a',u,e1,e2,h'⟩:=S.mu k ow hk;rw[ha] at e1;cases e1;rw[q] at e2;cases e2;exact h'.kind ps Y
  rw[bE nb];calc S.nt b hb
theorem Ext.fix{k:Nat}{a:O}{o:HO}{ow:OV}(S:SR F ad δ σ H)(hk:δ.mu[k]?=U (U ow))(ha:ad[k]?=U a):Ext F ad δ.mu H (upd F a o) ad (δ.mu.set k Z) H where
 same:=λb u e=>by rw[bE (dY e (S.off a ⟨k,ow,ha,hk⟩))];exact e
 new:=λb u e=>by
  by_cases c:b=a
  .subst c;exact .inr (.inr ⟨k,ow,ha,hk⟩)
  .rw[bE c] at e;exact .inl e
 keep:=λb u e _ _=>e
 pre:=λ_ _ e=>e
 cE:=λb l=>by
  let⟨l,w,e1,e2⟩:=l
  by_cases c:k=l
  .subst c;rw[q08 (Il.mp hk).1] at e2;cases e2
  .rw[q09 c] at e2;exact .inl ⟨l,w,e1,e2⟩
 i7:=λb u e=>⟨u,e⟩
theorem SR.set{i:Nat}{x:DV}{v:V}(S:SR F ad δ σ H)(h:dG F ad x v):SR F ad ⟨δ.sl.set i (U x),δ.mu⟩ (σ.set i (U v)) H:=by
 refine⟨S.sub,S.off,S.cF,S.inj,S.mu,λj y e=>?_,by rw[q1C,q1C];calc S.len,S.tab,S.nt⟩
 by_cases c:i=j
 .subst c
  let hl:=(Il.mp e).1;rw[q1C] at hl;rw[q08 hl] at e;cases e
  exact⟨v,q08 (by rw[S.len];calc hl),h⟩
 .rw[q09 c] at e
  let⟨w,e1,h1⟩:=S.sl j y e;calc⟨w,by rw[q09 c];calc e1,h1⟩
end
abbrev WE:=aN->(DV->aN->Prop)->Prop
abbrev WA:=aN->(-DV->aN->Prop)->Prop
abbrev WT:=aN->(Bool->aN->Prop)->Prop
def cG(F:Hp)(ad:-O):-DV->-V->Prop
 |[],vs=>vs=[]
 |x::xs,vs=>∃v r,vs=v::r/\dG F ad x v/\cG F ad xs r
theorem cG.ext{F F' H H':Hp}{ad aL:-O}{mu c9:-(Option OV)}(e:Ext F ad mu H F' aL c9 H'):∀{xs:-DV}{vs:-V},cG F ad xs vs->cG F' aL xs vs
 |[],_,h=>h
 |_::_,_,⟨v,r,q,h1,h2⟩=>⟨v,r,q,h1.ext e,cG.ext e h2⟩
inductive tD (f:WE) (σ:St) (H:Hp) (Q:VK):Prop
 |mk (F:Hp) (ad:-O) (δ:aN) (K:DV->aN->Prop) (S:SR F ad δ σ H) (q:f δ K) (k:∀x δ',K x δ'->∀v F' aL H',Ext F ad δ.mu H F' aL δ'.mu H'->SR F' aL δ' σ H'->dG F' aL x v->Q v H')
inductive cy (f:WA) (σ:St) (H:Hp) (Q:-V->Hp->Prop):Prop
 |mk (F:Hp) (ad:-O) (δ:aN) (K:-DV->aN->Prop) (S:SR F ad δ σ H) (q:f δ K) (k:∀xs δ',K xs δ'->∀vs F' aL H',Ext F ad δ.mu H F' aL δ'.mu H'->SR F' aL δ' σ H'->cG F' aL xs vs->Q vs H')
inductive dH (f:WT) (σ:St) (H:Hp) (Q:Bool->Hp->Prop):Prop
 |mk (F:Hp) (ad:-O) (δ:aN) (K:Bool->aN->Prop) (S:SR F ad δ σ H) (q:f δ K) (k:∀b δ',K b δ'->∀F' aL H',Ext F ad δ.mu H F' aL δ'.mu H'->SR F' aL δ' σ H'->Q b H')
def kj(F H:Hp):D->V->Prop
 |.lst ds,v=>∃a vs,v=.ref a/\H a=U (.lst vs)/\ai F ds vs
 |d,v=>Is F d v
def jN(x:DV)(δ:aN)(K:D->Prop):Prop:=match x with
 |.p d=>K d
 |.o k=>match δ.mu[k]? with
  |some (some (.lst ds))=>K (.lst ds)
  |some (some (.al _ ds))=>K (.lst ds)
  |_=>False
 |.w _=>False
 |.u _ _=>False
 |.t _ _=>False
theorem kj.of{F H:Hp}(s:bc F H):∀{d:D}{v:V},Is F d v->kj F H d v
 |.lst _,_,h=>by
  erw[Is] at h;let⟨a,vs,e,h1,h2⟩:=h;exact⟨a,vs,e,s _ _ h1,h2⟩
 |.tup _,_,h=>h
 |.non,_,h=>h
 |.bl _,_,h=>h
 |.int _,_,h=>h
 |.str _,_,h=>h
theorem kj.is{F H:Hp}(s:bc F H):∀{d:D}{v:V},kj F H d v->Is H d v
 |.lst _,_,h=>by
  let⟨a,vs,e,h1,h2⟩:=h;erw[Is];exact⟨a,vs,e,h1,h2.same s⟩
 |.tup _,_,h=>Is.same s h
 |.non,_,h=>Is.same s h
 |.bl _,_,h=>Is.same s h
 |.int _,_,h=>Is.same s h
 |.str _,_,h=>Is.same s h
theorem lM{F H:Hp}{ad:-O}{δ:aN}{σ:St}{x:DV}{v:V}{K:D->Prop}(S:SR F ad δ σ H)(hv:dG F ad x v)(h:jN x δ K):∃d,K d/\kj F H d v:=by
 cases x with
 |p d=>exact⟨d,h,kj.of S.sub hv⟩
 |o k =>
  unfold jN at h;dsimp only at h;split at h
  .rename_i ds e
   let⟨a,e1,rfl⟩:=hv;let⟨a',o,e2,e3,vs,rfl,h4⟩:=S.mu k _ e;rw[e1] at e2;cases e2;exact⟨_,h,a,vs,Y,e3,h4⟩
  .rename_i ds e
   let⟨a,e1,rfl⟩:=hv;let⟨a',o,e2,e3,_,vs,rfl,h4⟩:=S.mu k _ e;rw[e1] at e2;cases e2;exact⟨_,h,a,vs,Y,e3,h4⟩
  .exact h.elim
 |w _=>exact h.elim
 |u _ _=>exact h.elim
 |t _ _=>calc h.elim
def mD:-DV->aN->(-D->Prop)->Prop
 |[],_,K=>K []
 |x::xs,δ,K=>jN x δ λd=>mD xs δ λds=>K (d::ds)
def jO(F H:Hp):-D->-V->Prop
 |[],vs=>vs=[]
 |d::ds,vs=>∃v r,vs=v::r/\kj F H d v/\jO F H ds r
theorem vW{F H:Hp}{ad:-O}{δ:aN}{σ:St}(S:SR F ad δ σ H):∀{xs:-DV}{vs:-V}{K:-D->Prop},cG F ad xs vs->mD xs δ K->∃ds,K ds/\jO F H ds vs
 |[],_,_,hv,h=>⟨[],h,hv⟩
 |x::xs,_,_,⟨v,r,rfl,h1,h2⟩,h=>by
  let⟨d,h',rd⟩:=lM S h1 h;let⟨ds,t9,nW⟩:=vW S h2 h';calc⟨d::ds,t9,v,r,Y,rd,nW⟩
abbrev Made(F H:Hp)(K:D->Prop)(Q:VK):Prop:=∀z v H',K z->bc H H'->Is (Nw F H H') z v->Q v H'
inductive B5 (g:D->D->(D->Prop)->Prop) (x y:V) (H:Hp) (Q:VK):Prop
 |mk (F:Hp) (d e:D) (K:D->Prop) (s:bc F H) (rd:kj F H d x) (re:kj F H e y) (q:g d e K) (md:Made F H K Q)
inductive I0 (g:-D->(D->Prop)->Prop) (xs:-V) (H:Hp) (Q:VK):Prop
 |mk (F:Hp) (ds:-D) (K:D->Prop) (s:bc F H) (rd:jO F H ds xs) (q:g ds K) (md:Made F H K Q)
def fK(X:Cx)(f:L->L->Sem L)(g:D->D->(D->Prop)->Prop):Prop :=
 eU X f λx y H Q=>B5 g x y H Q
def I_(X:Cx)(g:D->D->(D->Prop)->Prop):Prop :=
 nQ X λx y H Q=>B5 g x y H Q
def dQ(X:Cx)(f:L)(g:-D->(D->Prop)->Prop):Prop :=
 gZ X f λxs H Q=>I0 g xs H Q
def d2(f g:WE)(op:D->D->(D->Prop)->Prop):WE:=fun δ K=>f δ λx δ1=>g δ1 λy δ2=>jN x δ2 λd=>jN y δ2 λe=>op d e λz=>K (.p z) δ2
def d1(f:WE)(op:D->(D->Prop)->Prop):WE:=fun δ K=>f δ λx δ1=>jN x δ1 λd=>op d λz=>K (.p z) δ1
def dN(f:WA)(op:-D->(D->Prop)->Prop):WE:=fun δ K=>f δ λxs δ1=>mD xs δ1 λds=>op ds λz=>K (.p z) δ1
def dC(d:D):WE:=fun δ K=>K (.p d) δ
def aa(i:Nat):WE:=fun δ K=>match δ.sl[i]? with
 |some (some x)=>K x δ
 |_=>False
def ah:WA:=fun δ K=>K [] δ
def aq(f:WE)(g:WA):WA:=fun δ K=>f δ λx δ1=>g δ1 λxs δ2=>K (x::xs) δ2
section
variable{X:Cx}{a b c:l}{f g h:WE}{fa:WA}{pos:y}
theorem vX{e:l}{d:D}{v:V}(h:JE X e (tC v))(hi:∀F,Is F d v):JE X e (tD (dC d)):=h.weak fun σ H Q ⟨F,ad,δ,K,S,q,k⟩↦k _ _ q _ _ _ _ .refl S (hi F)
theorem cb{i j pos}:JE X (.Constant (.int i) j pos) (tD (dC (.int i))):=vX qy λ_=>Y
theorem t_{i j pos}:JE X (.Constant (.bool i) j pos) (tD (dC (.bl i))):=vX OB λ_=>Y
theorem jP{j pos}:JE X (.Constant .none j pos) (tD (dC .non)):=vX OC λ_=>Y
theorem vY{x j pos}:JE X (.Constant (.str x) j pos) (tD (dC (.str x))):=vX xT λ_=>Y
theorem RD{x:J}{i:Int}{u:L}{pos:y}(hg:Gl X x)(hm:X.mg x=U u)(r:RelV (.int i) u)(hd:b7 x:=by decide):JE X (.Name x pos) (tD (dC (.int i))):=vX (Ho hg hm r hd) λ_=>Y
theorem dv(i:Nat){x:J}{pos:y}(hN:X.N[i]?=U x:=by rfl)(hv:u_ X.env.scope x:=by first|exact q5l Y|exact q5m (q5l Y)|calc q5m (q5m Y))
  (hd:b7 x:=by decide) (hX:(x==("__classdict__" : J))=ι:=by decide):JE X (.Name x pos) (tD (aa i)) :=
 (Hn hN hv hd hX).weak fun σ H Q ⟨F,ad,δ,K,S,q,k⟩↦by
  unfold aa at q;split at q
  .rename_i x e
   let⟨v,e1,h1⟩:=S.sl i x e;exact⟨v,e1,k _ _ q _ _ _ _ .refl S h1⟩
  .calc q.elim
theorem yx{r:R2}{ta tb:TE}{op:D->D->(D->Prop)->Prop}(hr:∀x y H Q,(B5 op x y H Q)->r x y H Q):∀σ H Q,tD (d2 f g op) σ H Q->vm r (tD f) (tD g) σ H Q:=by
 ext σ H Q ⟨F,ad,δ,K,S,q,k⟩;calc⟨F,ad,δ,_,S,q,λx δ1 h1 v1 F1 bp H1 E1 S1 V1=>⟨F1,bp,δ1,_,S1,h1,λy δ2 h2 v2 F2 cz H2 E2 S2 V2=>hr _ _ _ _ ?_⟩⟩;let⟨d,h3,rd⟩:=lM S2 (V1.ext E2) h2;let⟨e,h4,re⟩:=lM S2 V2 h3;calc⟨F2,d,e,_,S2.sub,rd,re,h4,λz v H' hz sm is=>k _ _ hz _ _ _ _ ((E1.trans E2).trans (Ext.al S2 sm)) (S2.al sm) is⟩
theorem g5{op:Operator}{o:D->D->(D->Prop)->Prop}(ho:fK X (binaryOp op) o)(ha:JE X a (tD f))(hb:JE X b (tD g)):JE X (.BinOp a op b pos) (tD (d2 f g o)) :=
 (vn ho ha hb).weak (yx (ta:=tD f) (tb:=tD g) λ_ _ _ _ h=>h)
theorem nX{op:CmpOp}{o:D->D->(D->Prop)->Prop}(ho:fK X (compareOp op) o)(ha:JE X a (tD f))(hb:JE X b (tD g))(hm:behindInMarks op b=ι):JE X (.Compare a [op] [b] pos) (tD (d2 f g o)) :=
 (Pg ho ha hb hm).weak (yx (ta:=tD f) (tb:=tD g) λ_ _ _ _ h=>h)
theorem d6{o:D->D->(D->Prop)->Prop}(ho:I_ X o)(ha:JE X a (tD f))(hb:JE X b (tD g))(hs:Bs b):JE X (.Subscript a b pos) (tD (d2 f g o)) :=
 (Bt ho ha hb hs).weak (yx (ta:=tD f) (tb:=tD g) λ_ _ _ _ h=>h)
theorem bF:JA X [] (cy ah):=c7.weak fun σ H Q ⟨F,ad,δ,K,S,q,k⟩↦k _ _ q _ _ _ _ .refl S Y
theorem sx:∀σ H Q,cy (aq f fa) σ H Q->qA (tD f) (cy fa) σ H Q:=by
 ext σ H Q ⟨F,ad,δ,K,S,q,k⟩;calc⟨F,ad,δ,_,S,q,λx δ1 h1 v1 F1 bp H1 E1 S1 V1=>⟨F1,bp,δ1,_,S1,h1,λxs δ2 h2 vs F2 cz H2 E2 S2 V2=>k _ _ h2 _ _ _ _ (E1.trans E2) S2 ⟨v1,vs,Y,V1.ext E2,V2⟩⟩⟩
theorem jQ{e:l}{es:-l}(ha:JE X e (tD f))(hr:JA X es (cy fa))(hs:cI X e es:=by rfl):JA X (e::es) (cy (aq f fa)):=(kL ha hr hs).weak sx
theorem b8{es:-l}{c j p}(ha:JE X (.Constant c j p) (tD f))(hr:JA X es (cy fa)):JA X (.Constant c j p::es) (cy (aq f fa)):=(BO ha hr).weak sx
theorem bg{es:-l}{x p}(ha:JE X (.Name x p) (tD f))(hr:JA X es (cy fa)):JA X (.Name x p::es) (cy (aq f fa)):=(si ha hr).weak sx
theorem dR{es:-l}{x y k p}(ha:JE X (.Call x y k p) (tD f))(hr:JA X es (cy fa)):JA X (.Call x y k p::es) (cy (aq f fa)):=(oR ha hr).weak sx
theorem B6{es:-l}{x p}(ha:JE X (.List x p) (tD f))(hr:JA X es (cy fa)):JA X (.List x p::es) (cy (aq f fa)):=(BP ha hr).weak sx
theorem vZ{es:-l}{x k p}(ha:JE X (.Tuple x k p) (tD f))(hr:JA X es (cy fa)):JA X (.Tuple x k p::es) (cy (aq f fa)):=(BQ ha hr).weak sx
theorem cm{es:-l}{x k p}(ha:JE X (.Subscript x k p) (tD f))(hr:JA X es (cy fa)):JA X (.Subscript x k p::es) (cy (aq f fa)):=(BR ha hr).weak sx
theorem Ja{r:-V->Hp->VK->Prop}{op:-D->(D->Prop)->Prop}(hr:∀xs H Q,(I0 op xs H Q)->r xs H Q):∀σ H Q,tD (dN fa op) σ H Q->x9 r (cy fa) σ H Q:=by
 ext σ H Q ⟨F,ad,δ,K,S,q,k⟩;calc⟨F,ad,δ,_,S,q,λxs δ1 h1 vs F1 bp H1 E1 S1 V1=>hr _ _ _ ?_⟩;let⟨ds,h2,nW⟩:=vW S1 V1 h1;calc⟨F1,ds,_,S1.sub,nW,h2,λz v H' hz sm is=>k _ _ hz _ _ _ _ (E1.trans (Ext.al S1 sm)) (S1.al sm) is⟩
theorem gy{x:J}{p:y}{e:l}{es:-l}{id:String}{o:-D->(D->Prop)->Prop}(hc:dQ X (.builtin id) o)(hg:Gl X x)(hm:X.mg x=Z)(hv:bootBuiltins x=U (.builtin id))(ha:JA X (e::es) (cy fa))(hn:x≠"__name__" := by decide)(c8:b7 x:=by decide)
  (he:cI X e es:=by rfl) (cX:cS X pos es:=by rfl):JE X (.Call (.Name x p) (e::es) [] pos) (tD (dN fa o)) :=
 (x_ hc hg hm hv ha hn c8 he cX).weak (Ja λ_ _ _ h=>h)
theorem Jb{x:J}{p:y}{e:l}{es:-l}{T:String}{o:-D->(D->Prop)->Prop}(hc:dQ X (.type T) o)(hg:Gl X x)(hm:X.mg x=Z)(hv:bootBuiltins x=U (.type T))(ha:JA X (e::es) (cy fa))(hn:x≠"__name__" := by decide)(c8:b7 x:=by decide)
  (he:cI X e es:=by rfl) (cX:cS X pos es:=by rfl):JE X (.Call (.Name x p) (e::es) [] pos) (tD (dN fa o)) :=
 (rS hc hg hm hv ha hn c8 he cX).weak (Ja λ_ _ _ h=>h)
end
noncomputable def Jc(k:Nat)(ds:-D):Option DV->Option DV
 |some (.o j)=>if j=k then U (.p (.lst ds)) else U (.o j)
 |some (.t d j)=>if j=k then Z else U (.t d j)
 |s=>s
noncomputable def aN.fix(δ:aN)(k:Nat)(ds:-D):aN:=⟨δ.sl.map (Jc k ds),δ.mu.set k Z⟩
def lN(x:DV)(δ:aN)(K:D->aN->Prop):Prop:=match x with
 |.p d=>K d δ
 |.o k=>match δ.mu[k]? with
  |some (some (.lst ds))=>K (.lst ds) (δ.fix k ds)
  |_=>False
 |.w _=>False
 |.u _ _=>False
 |.t _ _=>False
def kU:-DV->aN->(-D->aN->Prop)->Prop
 |[],δ,K=>K [] δ
 |x::xs,δ,K=>lN x δ λd δ1=>kU xs δ1 λds δ2=>K (d::ds) δ2
section
variable{F F' H H':Hp}{ad aL:-O}{δ δ':aN}{σ σ':St}
theorem SR.fixed{k:Nat}{a:O}{vs:-V}{ds:-D}(S:SR F ad δ σ H)(hk:δ.mu[k]?=U (U (.lst ds)))(ha:ad[k]?=U a)(ho:H a=U (.lst vs))(hi:ai F ds vs):SR (upd F a (.lst vs)) ad (δ.fix k ds) σ H:=by
 let S1:=S.fix hk ha ho;let sm:bc F (upd F a (.lst vs)):=(Ext.fix (o:=.lst vs) S hk ha).same;calc⟨S1.sub,S1.off,S1.cF,S1.inj,S1.mu,λi x e=>?_,by rw[S.len];unfold aN.fix;rw[BE],S1.tab,S1.nt⟩;unfold aN.fix at e;rw[Qw] at e;let⟨s,e1,e2⟩:=q0f.mp e
 match s,e2 with
 |none,e2=>cases e2
 |some (.p d),e2 =>
  cases(show U (DV.p d)=U x from e2)
  exact S1.sl i _ e1
 |some (.w d),e2 =>
  cases(show U (DV.w d)=U x from e2)
  exact S1.sl i _ e1
 |some (.u t fs),e2 =>
  cases(show U (DV.u t fs)=U x from e2)
  exact S1.sl i _ e1
 |some (.t d j),e2 =>
  let e3:(if j=k then Z else U (DV.t d j))=U x:=e2
  by_cases c:j=k
  .rw[q0k c] at e3;cases e3
  .rw[q0i c] at e3;cases e3;exact S1.sl i _ e1
 |some (.o j),e2 =>
  let e3:(if j=k then U (DV.p (.lst ds)) else U (DV.o j))=U x:=e2;clear e2;let⟨v,h1,a',h2,h3⟩:=S.sl i _ e1
  by_cases c:j=k
  .rw[q0k c] at e3
   subst c;cases e3
   rw[ha] at h2;cases h2;calc⟨v,h1,?_⟩;show Is _ (.lst ds) v;erw[Is];exact⟨a,vs,h3,cA,hi.same sm⟩
  .rw[q0i c] at e3
   cases e3
   calc⟨v,h1,a',h2,h3⟩
theorem sy{x:DV}{v:V}{K:D->aN->Prop}(S:SR F ad δ σ H)(hv:dG F ad x v)(h:lN x δ K):∃d δ' F',K d δ'/\Ext F ad δ.mu H F' ad δ'.mu H/\SR F' ad δ' σ H/\Is F' d v:=by
 cases x with
 |p d=>exact⟨d,δ,F,h,.refl,S,hv⟩
 |o k =>
  unfold lN at h;dsimp only at h;split at h
  .rename_i ds e
   let⟨a,e1,rfl⟩:=hv;let⟨a',o,e2,e3,vs,rfl,h4⟩:=S.mu k _ e;rw[e1] at e2;cases e2;calc⟨_,_,_,h,Ext.fix S e e1,S.fixed e e1 e3 h4,?_⟩;erw[Is];exact⟨a,vs,Y,cA,h4.same (Ext.fix (o:=.lst vs) S e e1).same⟩
  .exact h.elim
 |w _=>exact h.elim
 |u _ _=>exact h.elim
 |t _ _=>calc h.elim
theorem yy:∀{xs:-DV}{vs:-V}{δ:aN}{F:Hp}{K:-D->aN->Prop},SR F ad δ σ H->cG F ad xs vs->kU xs δ K->∃ds δ' F',K ds δ'/\Ext F ad δ.mu H F' ad δ'.mu H/\SR F' ad δ' σ H/\ai F' ds vs
 |[],_,δ,F,_,S,hv,h=>⟨[],δ,F,h,.refl,S,by erw[ai];calc hv⟩
 |x::xs,_,δ,F,_,S,⟨v,r,e,h1,h2⟩,h=>by
  subst e;let⟨d,δ1,F1,h',E1,S1,i1⟩:=sy S h1 h;let⟨ds,δ2,F2,t9,E2,S2,i2⟩:=yy S1 (h2.ext E1) h';calc⟨d::ds,δ2,F2,t9,E1.trans E2,S2,.cons (i1.same E2.same) i2⟩
end
def bW(fa:WA):WE:=fun δ K=>fa δ λxs δ1=>kU xs δ1 λds δ2=>↑ds<=1000/\K (.p (.tup ds)) δ2
def dS(fa:WA):WE:=fun δ K=>fa δ λxs δ1=>kU xs δ1 λds δ2=>↑ds<=1000/\K (.p (.lst ds)) δ2
def oS(fa:WA):WE:=fun δ K=>fa δ λxs δ1=>kU xs δ1 λds δ2=>↑ds<=1000/\K (.o ↑δ2.mu) ⟨δ2.sl,δ2.mu++[U (.lst ds)]⟩
section
variable{X:Cx}{a b c:l}{es:-l}{f g h:WE}{fa:WA}{t u:WT}{pos:y}
theorem kW{n:Nat}(h:n<=1000):n<=sizeLine:=q1e (qH h)
theorem km{x1}(ha:JA X es (cy fa)):JE X (.Tuple es x1 pos) (tD (bW fa)):=(Bh ha).weak fun σ H Q ⟨F,ad,δ,K,S,q,k⟩ =>
 ⟨F,ad,δ,_,S,q,λxs δ1 h1 vs F1 bp H1 E1 S1 V1=>by
  let⟨ds,δ2,F2,⟨hl,h2⟩,E2,S2,i2⟩:=yy S1 V1 h1;calc⟨kW (by rw[↑i2];calc hl),λp hp=>?_⟩;let sm:bc H1 (upd H1 p (.tup vs)):=cK hp;calc k _ _ h2 _ _ _ _ ((E1.trans E2).trans (Ext.al S2 sm)) (S2.al sm) ?_;show Is _ (.tup ds) _;erw[Is];rw[Nw.upd S2.sub hp];refine⟨p,vs,Y,cA,i2.same λb o e=>?_⟩
  rw[bE (dY (S2.sub b o e) hp)];calc e⟩
theorem mE(ha:JA X es (cy fa)):JE X (.List es pos) (tD (dS fa)):=(Bi ha).weak fun σ H Q ⟨F,ad,δ,K,S,q,k⟩ =>
 ⟨F,ad,δ,_,S,q,λxs δ1 h1 vs F1 bp H1 E1 S1 V1=>by
  let⟨ds,δ2,F2,⟨hl,h2⟩,E2,S2,i2⟩:=yy S1 V1 h1;calc⟨kW (by rw[↑i2];calc hl),λp hp=>?_⟩;let sm:bc H1 (upd H1 p (.lst vs)):=cK hp;calc k _ _ h2 _ _ _ _ ((E1.trans E2).trans (Ext.al S2 sm)) (S2.al sm) ?_;show Is _ (.lst ds) _;erw[Is];rw[Nw.upd S2.sub hp];refine⟨p,vs,Y,cA,i2.same λb o e=>?_⟩
  rw[bE (dY (S2.sub b o e) hp)];calc e⟩
theorem ua(ha:JA X es (cy fa)):JE X (.List es pos) (tD (oS fa)):=(Bi ha).weak fun σ H Q ⟨F,ad,δ,K,S,q,k⟩ =>
 ⟨F,ad,δ,_,S,q,λxs δ1 h1 vs F1 bp H1 E1 S1 V1=>by
  let⟨ds,δ2,F2,⟨hl,h2⟩,E2,S2,i2⟩:=yy S1 V1 h1;calc⟨kW (by rw[↑i2];calc hl),λp hp=>?_⟩;let oi:∀{mF},eN F2 mF (.lst ds) (.lst vs):=λ{mF}=>⟨vs,Y,i2⟩;refine k _ _ h2 _ _ _ _ ((E1.trans E2).trans (Ext.own S2 hp)) (S2.own hp oi) ⟨p,?_,Y⟩
  rw[<-S2.cF,q0b (Im _),q03];rfl⟩
def ub(x:DV)(P:Bool->Prop):Prop:=match x with
 |.p (.bl b)=>P b
 |_=>False
def dT(f:WE):WT:=fun δ K=>f δ λx δ1=>ub x λb=>K b δ1
def fQ(t u:WT):WT:=fun δ K=>t δ λb δ1=>if b=θ then u δ1 K else K ι δ1
def nY(t u:WT):WT:=fun δ K=>t δ λb δ1=>if b=θ then K θ δ1 else u δ1 K
def gK(t:WT):WT:=fun δ K=>t δ λb δ1=>K (!b) δ1
def uc(t:WT)(f g:WE):WE:=fun δ K=>t δ λb δ1=>if b=θ then f δ1 K else g δ1 K
def lP(f g:WE):WE:=fun δ K=>f δ λx δ1=>ub x λb=>if b=θ then g δ1 K else K (.p (.bl ι)) δ1
def B7(f:WE):WE:=fun δ K=>f δ λx δ1=>ub x λb=>K (.p (.bl (!b))) δ1
theorem v3{F:Hp}{ad:-O}{x:DV}{v:V}{P:Bool->Prop}(hv:dG F ad x v)(h:ub x P):∃b,v=.bl b/\P b:=by
 unfold ub at h;split at h
 .rename_i b
  exact⟨b,hv,h⟩
 .calc h.elim
theorem nZ(ha:JE X a (tD f))(he:∀whole,isTrue a X.env whole=(do let v <- whole;standAt a.pos;holding [v] (truthy v)):=by ext _;rfl):JT X a (dH (dT f)) :=
 (OF ha he).weak fun σ H Q ⟨F,ad,δ,K,S,q,k⟩↦⟨F,ad,δ,_,S,q,λx δ1 h1 v F1 bp H1 E1 S1 V1=>by
  let⟨b,rfl,h2⟩:=v3 V1 h1
  calc⟨b,Y,k _ _ h2 _ _ _ E1 S1⟩⟩
theorem e7{op:CmpOp}{o:D->D->(D->Prop)->Prop}(ho:fK X (compareOp op) o)(ha:JE X a (tD f))(hb:JE X b (tD g))(hm:behindInMarks op b=ι):JT X (.Compare a [op] [b] pos) (dH (dT (d2 f g o))) :=
 (Pj ho ha hb hm).weak fun σ H Q ⟨F,ad,δ,K,S,q,k⟩↦yx (ta:=tD f) (tb:=tD g) (λ_ _ _ _ h=>h) σ H _ ⟨F,ad,δ,_,S,q,λx δ1 h1 v F1 bp H1 E1 S1 V1=>by
  let⟨b,rfl,h2⟩:=v3 V1 h1
  calc⟨b,Y,k _ _ h2 _ _ _ E1 S1⟩⟩
theorem yz(ha:JT X a (dH t)):JT X (.UnaryOp .Not a pos) (dH (gK t)):=(OK ha).weak fun σ H Q ⟨F,ad,δ,K,S,q,k⟩↦⟨F,ad,δ,_,S,q,λb δ1 h1 F1 bp H1 E1 S1=>k _ _ h1 _ _ _ E1 S1⟩
theorem RE:∀σ H Q,dH (fQ t u) σ H Q->vf (dH t) (dH u) σ H Q:=fun σ H Q ⟨F,ad,δ,K,S,q,k⟩↦⟨F,ad,δ,_,S,q,λb δ1 h1 F1 bp H1 E1 S1=>by
 cases b with
 |true =>
  rw[q0k Y] at h1 ⊢;exact⟨F1,bp,δ1,_,S1,h1,λb δ2 h2 F2 cz H2 E2 S2=>k _ _ h2 _ _ _ (E1.trans E2) S2⟩
 |false =>
  rw[q0i q0F] at h1 ⊢
  calc k _ _ h1 _ _ _ E1 S1⟩
theorem RF:∀σ H Q,dH (nY t u) σ H Q->Hq (dH t) (dH u) σ H Q:=fun σ H Q ⟨F,ad,δ,K,S,q,k⟩↦⟨F,ad,δ,_,S,q,λb δ1 h1 F1 bp H1 E1 S1=>by
 cases b with
 |false =>
  rw[q0i q0F] at h1 ⊢;exact⟨F1,bp,δ1,_,S1,h1,λb δ2 h2 F2 cz H2 E2 S2=>k _ _ h2 _ _ _ (E1.trans E2) S2⟩
 |true =>
  rw[q0k Y] at h1 ⊢
  calc k _ _ h1 _ _ _ E1 S1⟩
theorem JW.weak{e:l}{t t':TT}(h:JW X e t)(k:∀σ H Q,t' σ H Q->t σ H Q):JW X e t':=⟨λwh pins s σ H Q I q=>h wh pins s σ H Q I (k σ H Q q)⟩
theorem v5(ha:JT X a (dH t)):JW X (.BoolOp .And [a] pos) (dH t):=OG ha
theorem sA(ha:JT X a (dH t)):JW X (.BoolOp .Or [a] pos) (dH t):=OH ha
theorem ud{rest:-l}(ha:JT X a (dH t))(hb:JW X (.BoolOp .And (b::rest) pos) (dH u)):JW X (.BoolOp .And (a::b::rest) pos) (dH (fQ t u)):=(OI ha hb).weak RE
theorem qN{rest:-l}(ha:JT X a (dH t))(hb:JW X (.BoolOp .Or (b::rest) pos) (dH u)):JW X (.BoolOp .Or (a::b::rest) pos) (dH (nY t u)):=(OJ ha hb).weak RF
theorem yA{op}(ha:JE X a (tD f)):JE X (.BoolOp op [a] pos) (tD f):=OO ha
theorem v7{rest:-l}(ha:JE X a (tD f))(hb:JE X (.BoolOp .And (b::rest) pos) (tD g)):JE X (.BoolOp .And (a::b::rest) pos) (tD (lP f g)) :=
 (OP ha hb).weak fun σ H Q ⟨F,ad,δ,K,S,q,k⟩=>⟨F,ad,δ,_,S,q,λx δ1 h1 v F1 bp H1 E1 S1 V1=>by
  let⟨b,rfl,h2⟩:=v3 V1 h1;refine⟨b,Y,?_⟩
  cases b with
  |true =>
   rw[q0k Y] at h2 ⊢;exact⟨F1,bp,δ1,_,S1,h2,λx δ2 h3 v F2 cz H2 E2 S2 V2=>k _ _ h3 _ _ _ _ (E1.trans E2) S2 V2⟩
  |false =>
   rw[q0i q0F] at h2 ⊢
   calc k _ _ h2 _ _ _ _ E1 S1 Y⟩
theorem RG(ha:JE X a (tD f)):JE X (.UnaryOp .Not a pos) (tD (B7 f)) :=
 (OQ ha).weak fun σ H Q ⟨F,ad,δ,K,S,q,k⟩↦⟨F,ad,δ,_,S,q,λx δ1 h1 v F1 bp H1 E1 S1 V1=>by
  let⟨b,rfl,h2⟩:=v3 V1 h1
  calc⟨b,Y,k _ _ h2 _ _ _ _ E1 S1 Y⟩⟩
theorem Jd(hc:JT X c (dH t))(ha:JE X a (tD f))(hb:JE X b (tD g)):JE X (.IfExp c a b pos) (tD (uc t f g)) :=
 (OS hc ha hb).weak fun σ H Q ⟨F,ad,δ,K,S,q,k⟩↦⟨F,ad,δ,_,S,q,λb δ1 h1 F1 bp H1 E1 S1=>by
  cases b with
  |true =>
   rw[q0k Y] at h1 ⊢;exact⟨F1,bp,δ1,_,S1,h1,λx δ2 h3 v F2 cz H2 E2 S2 V2=>k _ _ h3 _ _ _ _ (E1.trans E2) S2 V2⟩
  |false =>
   rw[q0i q0F] at h1 ⊢
   calc⟨F1,bp,δ1,_,S1,h1,λx δ2 h3 v F2 cz H2 E2 S2 V2=>k _ _ h3 _ _ _ _ (E1.trans E2) S2 V2⟩⟩
end
structure KS where
 nx:aN->Prop
 rt:DV->aN->Prop
 bk:aN->Prop:=λ_=>False
 ct:aN->Prop:=λ_=>False
abbrev WS:=KS->aN->Prop
def Cn(F:Hp)(ad:-O)(mu:-(Option OV))(H:Hp)(P:aN->Prop)(R:St->Hp->Prop):Prop:=∀δ',P δ'->∀F' aL σ' H',Ext F ad mu H F' aL δ'.mu H'->SR F' aL δ' σ' H'->R σ' H'
class kq where
 ok:Nat->Int->Prop
 kp:-O->-(Option OV)->Hp->Prop
 st:∀{F ad mu H F' aL c9 H'},Ext F ad mu H F' aL c9 H'->kp ad mu H->kp aL c9 H'
instance (priority:=low) RH:kq:=⟨λ_ _=>False,λ_ _ _=>True,λ_ _=>trivial⟩
section
variable[kq]
structure yB(F:Hp)(ad:-O)(mu:-(Option OV))(H:Hp)(K:KS)(D:Ends):Prop where
 nx:Cn F ad mu H K.nx D.nx
 bk:Cn F ad mu H K.bk D.bk
 ct:Cn F ad mu H K.ct D.ct
 rt:∀x δ',K.rt x δ'->∀v F' aL σ' H',Ext F ad mu H F' aL δ'.mu H'->SR F' aL δ' σ' H'->dG F' aL x v->D.rt v H'
 kp:kq.kp ad mu H
theorem Cn.ext{F F' H H':Hp}{ad aL:-O}{mu c9:-(Option OV)}{P:aN->Prop}{R:St->Hp->Prop}(c:Cn F ad mu H P R)(e:Ext F ad mu H F' aL c9 H'):Cn F' aL c9 H' P R:=fun δ' h _ _ _ _ E S=>c δ' h _ _ _ _ (e.trans E) S
theorem yB.ext{F F' H H':Hp}{ad aL:-O}{mu c9:-(Option OV)}{K:KS}{D:Ends}(c:yB F ad mu H K D)(e:Ext F ad mu H F' aL c9 H'):yB F' aL c9 H' K D :=
 ⟨c.nx.ext e,c.bk.ext e,c.ct.ext e,λx δ' h _ _ _ _ _ E S V=>c.rt x δ' h _ _ _ _ _ (e.trans E) S V,kq.st e c.kp⟩
inductive dU (G:WS) (D:Ends) (σ:St) (H:Hp):Prop
 |mk (F:Hp) (ad:-O) (δ:aN) (K:KS) (S:SR F ad δ σ H) (q:G K δ) (k:yB F ad δ.mu H K D)
def aD(G G':WS):WS:=λK δ=>G {K with nx:=G' K} δ
def dZ:WS:=λK δ=>K.nx δ
def bj(i:Nat)(f:WE):WS:=λK δ=>f δ λx δ1=>K.nx ⟨δ1.sl.set i (U x),δ1.mu⟩
def ky(f:WE):WS:=λK δ=>f δ λ_ δ1=>K.nx δ1
def bh(f:WE):WS:=λK δ=>f δ λx δ1=>K.rt x δ1
def bS(t:WT)(G G':WS):WS:=λK δ=>t δ λb δ1=>if b=θ then G K δ1 else G' K δ1
section
variable{X:Cx}{e c:l}{st:R}{rest:-R}{f:WE}{t:WT}{G G':WS}{pos:y}
theorem iM:dM X [] (dU dZ):=oB.weak λD σ H ⟨F,ad,δ,K,S,q,k⟩↦k.nx _ q _ _ _ _ .refl S
theorem cN(h:JS X st (dU G)):dM X [st] (dU G):=AR h
theorem bX(h:JS X st (dU G))(r:dM X rest (dU G')):dM X (st::rest) (dU (aD G G')) :=
 (xW h r).weak λD σ H ⟨F,ad,δ,K,S,q,k⟩↦⟨F,ad,δ,_,S,q,⟨fun δ' h _ _ _ _ E S'=>⟨_,_,δ',K,S',h,k.ext E⟩,k.bk,k.ct,k.rt,k.kp⟩⟩
theorem RI{i:Nat}:∀D σ H,dU (bj i f) D σ H->me (tD f) (xX i) D σ H:=λD σ H ⟨F,ad,δ,K,S,q,k⟩↦⟨F,ad,δ,_,S,q,λx δ1 h1 v F1 bp H1 E1 S1 V1=>k.nx _ h1 _ _ _ _ E1 (S1.set V1)⟩
theorem fL{i:Nat}{x:J}{pos':y}(hN:X.N.Nodup)(hi:X.N[i]?=U x)(hx:Loc X.env.scope x)(he:JE X e (tD f))(hs:swapsWith e (U (.Name x pos')) pos.line X.env=pure ι:=by rfl)
  (hf:hV X x:=by first|exact .inl Y|exact .inr Y|assumption):JS X (.Assign [.Name x pos'] e pos) (dU (bj i f)):=(A0 hN hi hx he hs hf).weak RI
theorem mG(he:JE X e (tD f))(hs:swapsWith e Z pos.line X.env=pure ι:=by rfl):JS X (.Expr e pos) (dU (ky f)) :=
 (OW he hs).weak λD σ H ⟨F,ad,δ,K,S,q,k⟩↦⟨F,ad,δ,_,S,q,λx δ1 h1 v F1 bp H1 E1 S1 V1=>k.nx _ h1 _ _ _ _ E1 S1⟩
theorem eD(he:JE X e (tD f)):JS X (.Return (U e) pos) (dU (bh f)) :=
 (Hr he).weak λD σ H ⟨F,ad,δ,K,S,q,k⟩↦⟨F,ad,δ,_,S,q,λx δ1 h1 v F1 bp H1 E1 S1 V1=>k.rt _ _ h1 _ _ _ _ _ E1 S1 V1⟩
theorem iN{a b:-R}(hc:JT X c (dH t))(ha:dM X a (dU G))(hb:dM X b (dU G')):JS X (.If c a b pos) (dU (bS t G G')) :=
 (OX hc ha hb).weak λD σ H ⟨F,ad,δ,K,S,q,k⟩↦⟨F,ad,δ,_,S,q,λb δ1 h1 F1 bp H1 E1 S1=>by
  cases b with
  |true =>
   rw[q0k Y] at h1 ⊢;exact⟨F1,bp,δ1,K,S1,h1,k.ext E1⟩
  |false =>
   rw[q0i q0F] at h1 ⊢
   calc⟨F1,bp,δ1,K,S1,h1,k.ext E1⟩⟩
def ue:WS:=λ_ _=>False
abbrev WG:=DV->aN->(aN->Prop)->Prop
inductive jR (g:WG) (v:V) (σ:St) (H:Hp) (Q:St->Hp->Prop):Prop
 |mk (F:Hp) (ad:-O) (δ:aN) (x:DV) (K:aN->Prop) (S:SR F ad δ σ H) (V:dG F ad x v) (q:g x δ K) (k:Cn F ad δ.mu H K Q)
abbrev sC:=-D->aN->(aN->Prop)->Prop
def oT(g:sC):lH:=λvs σ H Q=>∃F ad δ ds K,SR F ad δ σ H/\ai F ds vs/\g ds δ K/\Cn F ad δ.mu H K Q
def bQ(i:Nat):WG:=λx δ K=>K ⟨δ.sl.set i (U x),δ.mu⟩
def iO:sC:=λds δ K=>match ds with
 |[]=>K δ
 |_=>False
def d7(g:WG)(g':sC):sC:=λds δ K=>match ds with
 |d::r=>g (.p d) δ fun δ1=>g' r δ1 K
 |[]=>False
theorem JG.weak{tg:l}{t t':TG}(h:JG X tg t)(k:∀v σ H Q,t' v σ H Q->t v σ H Q):JG X tg t':=⟨λpins s σ H v u Q I r q=>h pins s σ H v u Q I r (k v σ H Q q)⟩
theorem j_.weak{ts:-l}{t t':lH}(h:j_ X ts t)(k:∀v σ H Q,t' v σ H Q->t v σ H Q):j_ X ts t':=⟨λpins s σ H v u Q I r q=>h pins s σ H v u Q I r (k v σ H Q q)⟩
theorem g6{i:Nat}{x:J}(hN:X.N.Nodup)(hi:X.N[i]?=U x)(hx:Loc X.env.scope x)(hf:hV X x:=by first|exact .inl Y|exact .inr Y|assumption):JG X (.Name x pos) (jR (bQ i)) :=
 (AV hN hi hx hf).weak λv σ H Q ⟨F,ad,δ,x,K,S,V,q,k⟩↦k _ q _ _ _ _ .refl (S.set V)
theorem uf:j_ X [] (oT iO):=ka.weak λvs σ H Q ⟨F,ad,δ,ds,K,S,V,q,k⟩↦by
 unfold iO at q;split at q
 .erw[ai] at V
  exact⟨V,k _ q _ _ _ _ .refl S⟩
 .calc q.elim
theorem mH{es:-l}{g:WG}{g':sC}(h1:JG X e (jR g))(h2:j_ X es (oT g'))(hs:(assignEach (e::es) X.env).map (·.2)=assign e X.env::(assignEach es X.env).map (·.2):=by rfl):j_ X (e::es) (oT (d7 g g')) :=
 (AX h1 h2 hs).weak λvs σ H Q ⟨F,ad,δ,ds,K,S,V,q,k⟩↦by
  unfold d7 at q;split at q
  .rename_i d r
   erw[ai] at V;let⟨v,r',e,i1,i2⟩:=V;exact⟨v,r',e,F,ad,δ,.p d,_,S,i1,q,fun δ' h _ _ _ _ E S'=>⟨_,_,δ',r,K,S',i2.same E.same,h,k.ext E⟩⟩
  .calc q.elim
def i8(n:Nat)(g:sC):WG:=λx δ K=>jN x δ λd=>match d with
 |.tup ds=>↑ds=n/\g ds δ K
 |.lst ds=>↑ds=n/\g ds δ K
 |_=>False
theorem JG.or{tg:l}{t t':TG}(h:JG X tg t)(h':JG X tg t'):JG X tg (λv σ H Q=>t v σ H Q\/t' v σ H Q):=⟨λpins s σ H v u Q I r q=>q.elim (λq=>h pins s σ H v u Q I r q) λq=>h' pins s σ H v u Q I r q⟩
theorem ug{es:-l}{k:Nat}{g:sC}{n:Nat}(hc:X.calm=θ)(h:j_ X es (oT g))(hn:↑(assignEach es X.env)=n:=by rfl)(jE:(assignEach es X.env).findIdx? (·.1)=Z:=by rfl):JG X (.Tuple es k pos) (jR (i8 n g)) :=
 ((Hs hc h hn jE).or (RC hc h hn jE)).weak λv σ H Q ⟨F,ad,δ,x,K,S,V,q,k⟩↦by
  let⟨d,q,rd⟩:=lM S V q;split at q
  .rename_i ds
   let yC:Is F (.tup ds) v:=rd;erw[Is] at yC;let⟨a,vs,e,h1,h2⟩:=yC;exact .inl ⟨a,vs,e,bZ.of (S.sub _ _ h1),by rw[↑h2];calc q.1,F,ad,δ,ds,K,S,h2,q.2,k⟩
  .rename_i ds
   let⟨a,vs,e,h1,h2⟩:=rd;exact .inr ⟨a,vs,e,bT.of h1,by rw[↑h2];calc q.1,F,ad,δ,ds,K,S,h2,q.2,k⟩
  .calc q.elim
def i9(f:WE)(g:WG):WS:=λK δ=>f δ λx δ1=>g x δ1 K.nx
theorem Je{tg:l}{g:WG}(he:JE X e (tD f))(hg:JG X tg (jR g))(hs:swapsWithSole [tg] e pos.line X.env=pure ι:=by rfl)(hw:swappedStores [tg] e X.env=pure Z:=by rfl)
  (h1:(assignEach [tg] X.env).map (·.2)=[assign tg X.env]:=by rfl):JS X (.Assign [tg] e pos) (dU (i9 f g)) :=
 (xY he hg hs hw h1).weak λD σ H ⟨F,ad,δ,K,S,q,k⟩↦⟨F,ad,δ,_,S,q,λx δ1 h1 v F1 bp H1 E1 S1 V1=>⟨F1,bp,δ1,x,K.nx,S1,V1,h1,k.nx.ext E1⟩⟩
end
end
structure oU where
 items:-D
 b9:aN->Prop
abbrev WI:=aN->(oU->aN->Prop)->Prop
def sD(F:Hp)(ad:-O)(it:oU)(J:It):Prop:=∀(F':Hp)(aL:-O)(δ:aN)(σ:St)(H:Hp),bc F F'->(∀(k:Nat)(a:O),ad[k]?=U a->aL[k]?=U a)->SR F' aL δ σ H->it.b9 δ →
 J.stop ↑it.items H/\∀(i:Nat)(d:D),it.items[i]?=U d->J.go i H/\∀x H',J.tQ i H x H'->bc H H'/\Is (Nw F' H H') d x
inductive kz (w:WI) (σ:St) (H:Hp) (R:It->Hp->Prop):Prop
 |mk (F:Hp) (ad:-O) (δ:aN) (K:oU->aN->Prop) (S:SR F ad δ σ H) (q:w δ K) (k:∀it δ',K it δ'->∀J F' aL H',Ext F ad δ.mu H F' aL δ'.mu H'->SR F' aL δ' σ H'->sD F' aL it J->R J H')
noncomputable def yD(n:Nat):Option DV->Option DV->Option DV
 |none,_=>Z
 |some _,some (.o k)=>if k<n then U (.o k) else Z
 |some _,some (.t d k)=>if k<n then U (.t d k) else Z
 |some _,s=>s
noncomputable def gM(n:Nat):-(Option DV)->-(Option DV)->-(Option DV)
 |s0::r0,s::r=>yD n s0 s::gM n r0 r
 |[],_::r=>Z::gM n [] r
 |_,[]=>[]
noncomputable def aN.trim(δ0 δ:aN):aN:=⟨gM ↑δ0.mu δ0.sl δ.sl,δ.mu.take ↑δ0.mu⟩
theorem B8{n:Nat}:∀(l0 l:-(Option DV)),↑(gM n l0 l)=↑l
 |_::r0,_::r=>by rw[gM,Ip,Ip,B8 r0 r]
 |[],_::r=>by rw[gM,Ip,Ip,B8 [] r]
 |[],[]=>Y
 |_::_,[]=>Y
theorem B9{n:Nat}:∀{l0 l:-(Option DV)}{i:Nat}{x:DV},(gM n l0 l)[i]?=U (U x)->l[i]?=U (U x)/\∀k,x=.o k\/(∃d,x=.t d k)->k<n
 |s0::r0,s::r,0,x,h=>by
  let h:yD n s0 s=U x:=by simpa[gM] using h
  match s0,s,h with
  |none,_,h=>cases h
  |some _,none,h=>cases h
  |some _,some (.p d),h=>cases(show U (DV.p d)=U x from h);exact⟨Y,λk e=>by rcases e with e|⟨_,e⟩<;>cases e⟩
  |some _,some (.w d),h=>cases(show U (DV.w d)=U x from h);exact⟨Y,λk e=>by rcases e with e|⟨_,e⟩<;>cases e⟩
  |some _,some (.u t d),h=>cases(show U (DV.u t d)=U x from h);exact⟨Y,λk e=>by rcases e with e|⟨_,e⟩<;>cases e⟩
  |some _,some (.t d k),h =>
   let h:(if k<n then U (DV.t d k) else Z)=U x:=h
   by_cases c:k<n
   .rw[q0k c] at h;cases h;exact⟨Y,λk' e=>by rcases e with e|⟨_,e⟩<;>cases e;calc c⟩
   .rw[q0i c] at h;cases h
  |some _,some (.o k),h =>
   let h:(if k<n then U (DV.o k) else Z)=U x:=h
   by_cases c:k<n
   .rw[q0k c] at h;cases h;exact⟨Y,λk' e=>by rcases e with e|⟨_,e⟩<;>cases e;calc c⟩
   .rw[q0i c] at h;cases h
 |s0::r0,s::r,i+1,x,h=>by
  let h:(gM n r0 r)[i]?=U (U x):=by simpa[gM] using h
  simpa using B9 h
 |[],s::r,0,x,h=>by simp[gM] at h
 |[],s::r,i+1,x,h=>by
  let h:(gM n [] r)[i]?=U (U x):=by simpa[gM] using h
  simpa using B9 h
 |[],[],i,x,h=>by simp[gM] at h
 |_::_,[],i,x,h=>by simp[gM] at h
section
variable{F F' H H':Hp}{ad aL:-O}{δ δ' δ0:aN}{σ σ' τ:St}{mu c9:-(Option OV)}{l:O}{o:HO}
theorem Lv.take{n:Nat}{a:O}(h:Lv (ad.take n) (mu.take n) a):Lv ad mu a:=by
 let⟨k,ov,e1,e2⟩:=h
 let hk:k<n:=by
  let:=(Il.mp e1).1;rw[q0D] at this;symm
 rw[q0N hk] at e1 e2;calc⟨k,ov,e1,e2⟩
theorem SR.trim(S:SR F ad δ σ H):SR F (ad.take ↑δ0.mu) (δ0.trim δ) σ H:=by
 let tk:∀{k:Nat}{a:O},(ad.take ↑δ0.mu)[k]?=U a->k<↑δ0.mu/\ad[k]?=U a:=λ{k a} e=>by
  let hk:k<↑δ0.mu:=by
   let:=(Il.mp e).1;rw[q0D] at this;symm
  rw[q0N hk] at e;exact⟨hk,e⟩
 let tm:∀{k:Nat}{w:Option OV},(δ.mu.take ↑δ0.mu)[k]?=U w->k<↑δ0.mu/\δ.mu[k]?=U w:=λ{k w} e=>by
  let hk:k<↑δ0.mu:=by
   let:=(Il.mp e).1;rw[q0D] at this;symm
  rw[q0N hk] at e;exact⟨hk,e⟩
 refine⟨S.sub,λa x=>S.off a x.take,?_,λk l a w w' e1 e2 e3 e4=>S.inj k l a w w' (tk e1).2 (tk e2).2 (tm e3).2 (tm e4).2,λk ov e=>?_,λi x e=>?_,?_,S.tab,S.nt⟩
 .show ↑(ad.take _)=↑(δ.mu.take _)
  rw[q0D,q0D,S.cF]
 .let⟨a,o,e1,e2,h⟩:=S.mu k ov (tm e).2
  exact⟨a,o,by rw[q0N (tm e).1];calc e1,e2,h⟩
 .let⟨e1,e2⟩:=B9 e
  let⟨v,h1,h2⟩:=S.sl i x e1;exact⟨v,h1,h2.pre λk a h3 z=>by rw[q0N (e2 k z)];calc h3⟩
 .show ↑σ=↑(gM _ _ _)
  rw[B8];calc S.len
theorem Ext.trim{n:Nat}(e:Ext F ad mu H F' aL c9 H')(hn:↑ad=n):Ext F ad mu H F' (aL.take n) (c9.take n) H' :=
 ⟨e.same,e.new,e.keep,λk a h=>by rw[q0N (by rw[<-hn];calc(Il.mp h).1)];calc e.pre k a h,λa x=>e.cE a x.take,e.i7⟩
theorem SR.other(S:SR F ad δ σ H)(hf:F l=Z)(hl:¬ Lv ad δ.mu l)(tk:bf.ok (upd H l o)):SR F ad δ σ (upd H l o):=by
 refine⟨λa u e=>?_,S.off,S.cF,S.inj,λk ov e=>?_,S.sl,S.len,tk,S.nt⟩
 .rw[bE (dY e hf)];exact S.sub a u e
 .let⟨a,u,e1,e2,h⟩:=S.mu k ov e
  calc⟨a,u,e1,by rw[bE λz=>hl (by subst z;calc⟨k,ov,e1,e⟩)];calc e2,h⟩
theorem Ext.other(e:Ext F ad mu H F' aL c9 H')(hl:H l=Z):Ext F ad mu H F' aL c9 (upd H' l o) :=
 ⟨e.same,e.new,λa u h n t=>by rw[bE (dY h hl)];calc e.keep a u h n t,e.pre,e.cE,λa u h=>by rw[bE (dY h hl)];calc e.i7 a u h⟩
theorem SR.adopt(S:SR F ad δ σ H)(hf:F l=Z)(ho:H l=U o)(hl:¬ Lv ad δ.mu l)(no:∀ps,o≠.tbl ps:=by ext _ z;cases z):SR (upd F l o) ad δ σ H:=by
 let sm:bc F (upd F l o):=cK hf
 refine⟨λa u e=>?_,λa x=>?_,S.cF,S.inj,λk ov e=>?_,λi x e=>?_,S.len,S.tab,S.nt.up sm λa ha=>by
  let⟨ps,q⟩:=bf.tb S.tab ha;rw[bE λz=>by subst z;rw[ho] at q;calc no ps (q0A q)]
  calc S.nt a ha⟩
 .by_cases c:a=l
  .subst c;rw[cA] at e;cases e;exact ho
  .rw[bE c] at e;exact S.sub a u e
 .rw[bE λz=>hl (by subst z;calc x)];exact S.off a x
 .let⟨a,u,e1,e2,h⟩:=S.mu k ov e
  exact⟨a,u,e1,e2,h.same sm⟩
 .let⟨v,e1,h⟩:=S.sl i x e
  calc⟨v,e1,h.same sm⟩
theorem Ext.adopt(e:Ext F ad mu H F' aL c9 H')(hl:H l=Z)(hf:F' l=Z):Ext F ad mu H (upd F' l o) aL c9 H' :=
 ⟨e.same.trans (cK hf),λa u h=>by
  by_cases c:a=l
  .subst c;exact .inr (.inl hl)
  .rw[bE c] at h;calc e.new a u h,e.keep,e.pre,e.cE,e.i7⟩
theorem SR.c_{ov:OV}(S:SR F ad δ σ H)(hf:F l=Z)(ho:H l=U o)(hl:¬ Lv ad δ.mu l)(h:eN F l ov o):SR F (ad++[l]) ⟨δ.sl,δ.mu++[U ov]⟩ σ H:=by
 let old:∀{k:Nat}{w:OV},(δ.mu++[U ov])[k]?=U (U w)->(k<↑δ.mu/\δ.mu[k]?=U (U w))\/(k=↑δ.mu/\w=ov):=λ{k w} e=>by
  by_cases c:k<↑δ.mu
  .rw[Z_ c] at e;exact .inl ⟨c,e⟩
  .let hl:=(Il.mp e).1
   rw[Qs,q0W] at hl;let ek:k=↑δ.mu:=by symm
   subst ek;rw[q0b (Im _),q03] at e;exact .inr ⟨Y,by simpa using e.symm⟩
 let pre:∀{k:Nat},k<↑δ.mu->(ad++[l])[k]?=ad[k]?:=λ{k} c=>Z_ (by rw[S.cF];calc c);let last:(ad++[l])[↑δ.mu]?=U l:=by rw[<-S.cF,q0b (Im _),q03];rfl
 refine⟨S.sub,λa x=>?_,by rw[Qs,Qs,S.cF];rfl,λk k' a w w' e1 e2 e3 e4=>?_,λk w e=>?_,λi x e=>?_,S.len,S.tab,S.nt⟩
 .let⟨k,w,e1,e2⟩:=x
  rcases old e2 with⟨c,e3⟩|⟨c,e3⟩
  .rw[pre c] at e1;exact S.off a ⟨k,w,e1,e3⟩
  .subst c;rw[last] at e1;cases e1;exact hf
 .rcases old e3 with⟨c,q⟩|⟨c,q⟩
  .rw[pre c] at e1
   rcases old e4 with⟨c',q'⟩|⟨c',q'⟩
   .rw[pre c'] at e2;exact S.inj k k' a w w' e1 e2 q q'
   .subst c';rw[last] at e2;cases e2;exact absurd ⟨k,w,e1,q⟩ hl
  .subst c;rw[last] at e1;cases e1
   rcases old e4 with⟨c',q'⟩|⟨c',q'⟩
   .rw[pre c'] at e2;exact absurd ⟨k',w',e2,q'⟩ hl
   .exact c'.symm
 .rcases old e with⟨c,q⟩|⟨c,q⟩
  .let⟨a,u,e1,e2,h'⟩:=S.mu k w q
   exact⟨a,u,by rw[pre c];calc e1,e2,h'⟩
  .subst c;subst q;exact⟨l,o,last,ho,h⟩
 .let⟨v,e1,h'⟩:=S.sl i x e
  calc⟨v,e1,h'.pre λk a e2 _=>by rw[Z_ (Il.mp e2).1];calc e2⟩
theorem Ext.c_{ov:OV}(e:Ext F ad mu H F' aL c9 H')(hl:H l=Z)(hm:↑aL=↑c9):Ext F ad mu H F' (aL++[l]) (c9++[U ov]) H' :=
 ⟨e.same,e.new,e.keep,λk a h=>by rw[Z_ (Il.mp (e.pre k a h)).1];calc e.pre k a h,λa x=>by
  let⟨k,w,e1,e2⟩:=x
  by_cases c:k<↑c9
  .rw[Z_ c] at e2
   rw[Z_ (by rw[hm];calc c)] at e1;exact e.cE a ⟨k,w,e1,e2⟩
  .let jS:=(Il.mp e2).1
   rw[Qs,q0W] at jS;let ek:k=↑aL:=by rw[hm];symm
   subst ek;rw[q0b (Im _),q03] at e1;let:l=a:=by simpa using e1
   subst this;calc .inr hl,e.i7⟩
theorem SR.back{sl:-(Option DV)}(S0:SR F ad δ σ H)(e:Ext F ad δ.mu H F' aL c9 H')(S:SR F' aL ⟨sl,c9⟩ τ H'):SR F' aL ⟨δ.sl,c9⟩ σ H' :=
 ⟨S.sub,S.off,S.cF,S.inj,S.mu,λi x q=>let⟨v,h1,h2⟩:=S0.sl i x q;⟨v,h1,h2.ext e⟩,S0.len,S.tab,S.nt⟩
noncomputable def d8(cp:-(Option Nat))(sl:-(Option DV)):-(Option DV):=cp.map λo=>match o with
 |some i=>(sl[i]?).join
 |none=>Z
theorem SR.v8{cp:-(Option Nat)}(S:SR F ad δ σ H):SR F ad ⟨d8 cp δ.sl,δ.mu⟩ (jy cp σ) H:=by
 calc⟨S.sub,S.off,S.cF,S.inj,S.mu,λj x e=>?_,by unfold jy d8;rw[BE,BE],S.tab,S.nt⟩;unfold d8 at e;rw[Qw] at e;let⟨o,e1,e2⟩:=q0f.mp e
 match o,e2 with
 |none,e2=>cases e2
 |some i,e2 =>
  let e2:(δ.sl[i]?).join=U x:=e2
  cases q:δ.sl[i]? with
  |none=>rw[q] at e2;cases e2
  |some z =>
   rw[q] at e2;let e3:z=U x:=e2;subst e3;let⟨v,h1,h2⟩:=S.sl i x q;calc⟨v,?_,h2⟩;unfold jy;rw[Qw,e1];show U ((σ[i]?).join)=U (U v);rw[h1];rfl
end
def mI(δ0:aN)(b9:aN->Prop)(g:WG)(b:WS)(K:KS):-D->aN->Prop
 |[],δ=>b9 δ/\K.nx δ
 |d::r,δ=>b9 δ/\g (.p d) δ fun δ1=>b {nx:=fun δ2=>mI δ0 b9 g b K r (δ0.trim δ2),ct:=fun δ2=>mI δ0 b9 g b K r (δ0.trim δ2),bk:=K.nx,rt:=K.rt} δ1
def e8(w:WI)(g:WG)(b:WS):WS:=λK δ=>w δ λit δ1=>mI δ1 it.b9 g b K it.items δ1
def kA(δ0:aN)(b9:aN->Prop)(g:WG)(t:WT)(f:WE)(K:-D->aN->Prop):-D->-D->aN->Prop
 |[],acc,δ=>b9 δ/\K acc δ
 |d::r,acc,δ=>b9 δ/\g (.p d) δ fun δ1=>t δ1 λb δ2=>if b=θ then f δ2 λx δ3=>lN x δ3 λe δ4=>↑acc<1000/\kA δ0 b9 g t f K r (acc++[e]) (δ0.trim δ4) else kA δ0 b9 g t f K r acc (δ0.trim δ2)
def d9(w:WI)(cp:-(Option Nat))(g:WG)(t:WT)(f:WE):WE:=fun δ K=>w δ λit δ1=>kA ⟨d8 cp δ1.sl,δ1.mu⟩ it.b9 g t f (λacc δ'=>K (.p (.lst acc)) ⟨δ1.sl,δ'.mu⟩) it.items [] ⟨d8 cp δ1.sl,δ1.mu⟩
def qO(w:WI)(cp:-(Option Nat))(g:WG)(t:WT)(f:WE):WE:=fun δ K=>w δ λit δ1=>kA ⟨d8 cp δ1.sl,δ1.mu⟩ it.b9 g t f (λacc δ'=>K (.o ↑δ'.mu) ⟨δ1.sl,δ'.mu++[U (.lst acc)]⟩) it.items [] ⟨d8 cp δ1.sl,δ1.mu⟩
section
variable{X:Cx}{tg iter elt:l}{body:-R}{w:WI}{g:WG}{b:WS}{pos:y}{ifs:-l}{t:WT}{f:WE}{scope:a}
theorem qP[kq](hp:PassesOwn (ς X.prog X.w) X.A X.env X.xe)(hc:X.calm=θ)(hi:JI X tg iter (kz w))(hg:JG X tg (jR g))(hb:dM X body (dU b))(hs:∀x,foldedSetIterable iter X.env x=pure x:=by ext _;rfl):
  JS X (.For tg iter body [] pos) (dU (e8 w g b)):=(A6 hp hc hi hg hb hs).weak λD σ H ⟨F,ad,δ,K,S,q,k⟩=>by
 calc⟨F,ad,δ,_,S,q,λit δ1 h1 J F1 bp H1 E1 S1 I1=>?_⟩;let k1:=k.ext E1;calc⟨λi m σ' H'=>∃F' aL δ',i+m=↑it.items/\Ext F1 bp δ1.mu H1 F' aL δ'.mu H'/\SR F' aL δ' σ' H'/\mI δ1 it.b9 g b K (it.items.drop i) δ',⟨↑it.items,F1,bp,δ1,⋯,.refl,S1,h1⟩,?_⟩;ext i m σ' H' ⟨F',aL,δ',hm,E',S',h⟩
 by_cases dX:i<↑it.items
 .rw[q2t dX] at h
  let⟨ck,h⟩:=h;let⟨go,yl⟩:=(I1 F' aL δ' σ' H' E'.same E'.pre S' ck).2 i _ (vD dX);calc .inr ⟨go,fun σ2 H2=>∃F2 cz δ2,Ext F1 bp δ1.mu H1 F2 cz δ2.mu H2/\SR F2 cz δ2 σ2 H2/\mI δ1 it.b9 g b K (it.items.drop (i+1)) δ2,fun σ2 H2 ⟨F2,cz,δ2,e1,e2,e3⟩↦⟨m-1,⋯,F2,cz,δ2,⋯,e1,e2,e3⟩,λx H2 y=>?_⟩;let⟨sm,is⟩:=yl x H2 y;let E2:=E'.trans (Ext.al S' sm);calc⟨_,aL,δ',.p _,_,S'.al sm,is,h,fun δ3 h3 F3 oV σ3 H3 E3 S3=>?_⟩;let mJ:=E2.trans E3;refine⟨F3,oV,δ3,_,S3,h3,⟨fun δ4 h4 F4 uh σ4 H4 E4 S4=>⟨F4,_,_,(mJ.trans E4).trim S1.cF,S4.trim,h4⟩,k1.nx.ext mJ,fun δ4 h4 F4 uh σ4 H4 E4 S4=>⟨F4,_,_,(mJ.trans E4).trim S1.cF,S4.trim,h4⟩,(k1.ext mJ).rt,(k1.ext mJ).kp⟩⟩
 .let ei:i=↑it.items:=by symm
  subst ei;rw[q3l (Im _)] at h;let⟨ck,h⟩:=h;calc .inl ⟨(I1 F' aL δ' σ' H' E'.same E'.pre S' ck).1,k1.nx _ h _ _ _ _ E' S'⟩
def du:WT:=fun δ K=>K θ δ
theorem JF.weak{ifs:-l}{t t':TT}(h:JF X ifs t)(k:∀σ H Q,t' σ H Q->t σ H Q):JF X ifs t':=⟨λpins s σ H Q I q=>h pins s σ H Q I (k σ H Q q)⟩
theorem B_:JF X [] (dH du):=sg.weak fun σ H Q ⟨F,ad,δ,K,S,q,k⟩↦k _ _ q _ _ _ .refl S
theorem yE{c:l}(h:JT X c (dH t)):JF X [c] (dH t):=Qy h
theorem Jf{J:It}{l:O}{F1:Hp}{bp:-O}{δ1:aN}{σ:St}{H1:Hp}{it:oU}{cp:-(Option Nat)}{Q:VK}{K:-D->aN->Prop}(S1:SR F1 bp δ1 σ H1)(I1:sD F1 bp it J)(hl:H1 l=Z)
  (h:kA ⟨d8 cp δ1.sl,δ1.mu⟩ it.b9 g t f K it.items [] ⟨d8 cp δ1.sl,δ1.mu⟩)
  (fin:∀acc δ' F' aL τ H' ys,K acc δ'->Ext F1 bp δ1.mu H1 F' aL δ'.mu H'->SR F' aL δ' τ H'->H' l=U (.lst ys)->F' l=Z->¬ Lv aL δ'.mu l->ai F' acc ys->Q (.ref l) H') :
  Iu J (jR g) (dH t) (tD f) l (jy cp σ) (upd H1 l (.lst [])) Q:=by
 let f1:F1 l=Z:=by
  cases q:F1 l with
  |none=>rfl
  |some u=>rw[S1.sub l u q] at hl;cases hl
 let nl:∀{ad mu},(∀a,Lv ad mu a->Lv bp δ1.mu a\/H1 a=Z)->True:=λ_=>trivial
 let l1:¬ Lv bp δ1.mu l:=λ⟨k,ov,e1,e2⟩↦by
  let⟨a,o,e3,e4,_⟩:=S1.mu k ov e2;rw[e1] at e3;cases e3;rw[hl] at e4;cases e4
 let S0:SR F1 bp ⟨d8 cp δ1.sl,δ1.mu⟩ (jy cp σ) (upd H1 l (.lst [])):=S1.v8.other f1 l1 (bf.same S1.tab (cK hl));calc⟨λi m τ H'=>∃F' aL δ' acc ys,i+m=↑it.items/\Ext F1 bp δ1.mu H1 F' aL δ'.mu H'/\SR F' aL δ' τ H'/\H' l=U (.lst ys)/\F' l=Z/\¬ Lv aL δ'.mu l/\ai F' acc ys/\kA ⟨d8 cp δ1.sl,δ1.mu⟩ it.b9 g t f K (it.items.drop i) acc δ',⟨↑it.items,F1,bp,_,[],[],⋯,Ext.refl.other hl,S0,cA,f1,l1,.nil,h⟩,?_⟩;ext i m τ H' ⟨F',aL,δ',acc,ys,hm,E',S',jS,oW,qQ,ia,h⟩
 by_cases dX:i<↑it.items
 .rw[q2t dX] at h
  let⟨ck,h⟩:=h;let⟨go,yl⟩:=(I1 F' aL δ' τ H' E'.same E'.pre S' ck).2 i _ (vD dX)
  let step:∀{F2:Hp}{cz:-O}{Ca:-(Option OV)}{H2:Hp},Ext F' aL δ'.mu H' F2 cz Ca H2->H2 l=U (.lst ys)/\F2 l=Z/\¬ Lv cz Ca l/\ai F2 acc ys:=λ{F2 cz Ca H2} e=>by
   refine⟨e.keep _ _ jS qQ (λz=>by let⟨ps,q⟩:=bf.tb S1.tab z;rw[hl] at q;cases q),?_,λz=>?_,ia.same e.same⟩
   .cases q:F2 l with
    |none=>rfl
    |some u =>
     rcases e.new l u q with z|z|z
     .rw[oW] at z;cases z
     .rw[jS] at z;cases z
     .exact absurd z qQ
   .rcases e.cE l z with z|z
    .exact qQ z
    .rw[jS] at z;cases z
  refine .inr ⟨go,fun τ2 H2=>∃F2 cz δ2 oX yF,Ext F1 bp δ1.mu H1 F2 cz δ2.mu H2/\SR F2 cz δ2 τ2 H2/\H2 l=U (.lst yF)/\F2 l=Z/\¬ Lv cz δ2.mu l/\ai F2 oX yF/\kA ⟨d8 cp δ1.sl,δ1.mu⟩ it.b9 g t f K (it.items.drop (i+1)) oX δ2,
   fun τ2 H2 ⟨F2,cz,δ2,oX,yF,r⟩↦⟨m-1,⋯,F2,cz,δ2,oX,yF,⋯,r⟩,λx H2 y=>?_⟩
  let⟨sm,is⟩:=yl x H2 y;let X2:=Ext.al S' sm;calc⟨_,aL,δ',.p _,_,S'.al sm,is,h,fun δ3 h3 F3 oV σ3 H3 X3 S3=>?_⟩;calc⟨F3,oV,δ3,_,S3,h3,λbb δ4 h4 F4 uh H4 X4 S4=>?_⟩;let Cb:=(X2.trans X3).trans X4
  cases bb with
  |false =>
   dsimp only at h4 ⊢;rw[q0i q0F] at h4 ⊢;let⟨a1,a2,a3,a4⟩:=step Cb;exact⟨F4,_,_,acc,ys,(E'.trans Cb).trim S1.cF,S4.trim (δ0:=⟨d8 cp δ1.sl,δ1.mu⟩),a1,a2,λz=>a3 z.take,a4,h4⟩
  |true =>
   dsimp only at h4 ⊢;rw[q0k Y] at h4 ⊢;calc⟨F4,uh,δ4,_,S4,h4,λy δ5 h5 v F5 ad5 H5 X5 S5 V5=>?_⟩;let⟨e,δ6,F6,⟨hlen,h6⟩,X6,S6,i6⟩:=sy S5 V5 h5;let Jg:=(Cb.trans X5).trans X6;let⟨a1,a2,a3,a4⟩:=step Jg;calc⟨ys,a1,qH (by rw[↑a4];symm),F6,_,_,acc++[e],ys++[v],?_,(S6.other a2 a3 (bf.put S6.tab a1 (.inl ⟨_,Y⟩))).trim (δ0:=⟨d8 cp δ1.sl,δ1.mu⟩),cA,a2,λz=>a3 z.take,a4.snoc i6,h6⟩;exact((E'.trans Jg).other hl).trim S1.cF
 .let ei:i=↑it.items:=by symm
  subst ei;rw[q3l (Im _)] at h;let⟨ck,h⟩:=h;calc .inl ⟨(I1 F' aL δ' τ H' E'.same E'.pre S' ck).1,fin _ _ _ _ _ _ _ h E' S' jS oW qQ ia⟩
theorem Jh{cp:-(Option Nat)}:∀σ H Q,tD (d9 w cp g t f) σ H Q->vG (kz w) cp (λ_=>jR g) (λ_=>dH t) (λ_=>tD f) σ H Q:=fun σ H Q ⟨F,ad,δ,K,S,q,k⟩=>by
 calc⟨F,ad,δ,_,S,q,λit δ1 h1 J F1 bp H1 E1 S1 I1=>λd l hl=>?_⟩;calc Jf S1 I1 hl h1 λacc δ' F' aL τ H' ys hk E' S' jS oW qQ ia=>?_;let sm:bc F' (upd F' l (.lst ys)):=cK oW;calc k _ _ hk _ _ _ _ (E1.trans (E'.adopt hl oW)) (SR.back (sl:=δ'.sl) S1 (E'.adopt hl oW) (S'.adopt oW jS qQ)) ?_;show Is _ (.lst acc) _;erw[Is];calc⟨l,ys,Y,cA,ia.same sm⟩
theorem RJ{cp:-(Option Nat)}:∀σ H Q,tD (qO w cp g t f) σ H Q->vG (kz w) cp (λ_=>jR g) (λ_=>dH t) (λ_=>tD f) σ H Q:=fun σ H Q ⟨F,ad,δ,K,S,q,k⟩=>by
 calc⟨F,ad,δ,_,S,q,λit δ1 h1 J F1 bp H1 E1 S1 I1=>λd l hl=>?_⟩;calc Jf S1 I1 hl h1 λacc δ' F' aL τ H' ys hk E' S' jS oW qQ ia=>?_;let S2:=S'.c_ (ov:=.lst acc) oW jS qQ ⟨ys,Y,ia⟩;let E2:=E'.c_ (ov:=.lst acc) hl S'.cF;calc k _ _ hk _ _ _ _ (E1.trans E2) (SR.back (sl:=δ'.sl) S1 E2 S2) ⟨l,?_,Y⟩;rw[<-S'.cF,q0b (Im _),q03];rfl
theorem v9(cp:-(Option Nat))(Nb:-J)(hc:X.calm=θ)(hi:JI X tg iter (kz w))(hg:∀d,JG (cV X scope Nb d) tg (jR g))(hf:∀d,JF (cV X scope Nb d) ifs (dH t))(he:∀d,JE (cV X scope Nb d) elt (tD f))
  (hk:scope.kind=.function:=by rfl) (ho:mz X.N X.env.scope scope Nb cp=θ:=by first|rfl|kernel_rfl) (hs:∀x,foldedSetIterable iter X.env x=pure x:=by ext _;rfl) :
  JE X (.ListComp elt [⟨tg,iter,ifs,0⟩] scope pos) (tD (d9 w cp g t f)):=(IB cp Nb hc hi hg hf he hk ho hs).weak Jh
theorem RL(cp:-(Option Nat))(Nb:-J)(hc:X.calm=θ)(hi:JI X tg iter (kz w))(hg:∀d,JG (cV X scope Nb d) tg (jR g))(hf:∀d,JF (cV X scope Nb d) ifs (dH t))(he:∀d,JE (cV X scope Nb d) elt (tD f))
  (hk:scope.kind=.function:=by rfl) (ho:mz X.N X.env.scope scope Nb cp=θ:=by first|rfl|kernel_rfl) (hs:∀x,foldedSetIterable iter X.env x=pure x:=by ext _;rfl) :
  JE X (.ListComp elt [⟨tg,iter,ifs,0⟩] scope pos) (tD (qO w cp g t f)):=(IB cp Nb hc hi hg hf he hk ho hs).weak RJ
theorem Ji[kq](cp:-(Option Nat))(Nb:-J){i:Nat}{x:J}{pos' iZ:y}(hN:X.N.Nodup)(hi:X.N[i]?=U x)(hx:Loc X.env.scope x)(hc:X.calm=θ)(hit:JI X tg iter (kz w))(hg:∀d,JG (cV X scope Nb d) tg (jR g))(hf:∀d,JF (cV X scope Nb d) ifs (dH t))(he:∀d,JE (cV X scope Nb d) elt (tD f))
  (hk:scope.kind=.function:=by rfl) (ho:mz X.N X.env.scope scope Nb cp=θ:=by first|rfl|kernel_rfl) (hs:∀x,foldedSetIterable iter X.env x=pure x:=by ext _;rfl)
  (vK:swapsWith (.ListComp elt [⟨tg,iter,ifs,0⟩] scope pos) (U (.Name x pos')) iZ.line X.env=pure θ:=by rfl)
  (nP:hV X x:=by first|exact .inl Y|exact .inr Y|assumption) :
  JS X (.Assign [.Name x pos'] (.ListComp elt [⟨tg,iter,ifs,0⟩] scope pos) iZ) (dU (bj i (d9 w cp g t f))) :=
 (QO cp Nb hN hi hx hc hit hg hf he hk ho hs vK nP).weak λD σ H ⟨F,ad,δ,K,S,q,k⟩↦Jh σ H _ ⟨F,ad,δ,_,S,q,λx δ1 h1 v F1 bp H1 E1 S1 V1=>k.nx _ h1 _ _ _ _ E1 (S1.set V1)⟩
end
inductive RV where
 |p (d:D)|n (ds:-D)|a (j:Nat)|t (d:D) (ds:-D)
def sE(F' H H':Hp)(d:D)(ds:-D)(v:V):Prop:=∃a b u vs,v=.ref a/\F' a=U (.tup [u,.ref b])/\Is F' d u/\H b=Z/\H' b=U (.lst vs)/\F' b=Z/\ai F' ds vs
abbrev GD:=-DV->-OV->(RV->-OV->Prop)->Prop
structure Cc(F:Hp)(ad:-O)(H:Hp)(r:RV)(ows:-OV)(v:V)(F' H':Hp):Prop where
 sub:bc F' H'
 same:bc F F'
 new:∀a o,F' a=U o->F a=U o\/H a=Z
 keep:∀a o,H a=U o->a∉ad->a∉bf.ad->H' a=U o
 tab:bf.ok H'
 nt:NT F'
 len:↑ows=↑ad
 own:∀(j:Nat)(ow:OV),ows[j]?=U ow->∃a o,ad[j]?=U a/\H' a=U o/\eN F' a ow o
 off:∀a∈ad,F' a=Z
 res:match r with
  |.p d=>Is F' d v
  |.n ds=>∃a vs,v=.ref a/\H a=Z/\H' a=U (.lst vs)/\F' a=Z/\ai F' ds vs
  |.a j=>∃a,ad[j]?=U a/\v=.ref a
  |.t d ds=>sE F' H H' d ds v
inductive lQ (G:GD) (n:Nat) (vs:-V) (H:Hp) (Q:VK) (_:XK):Prop
 |mk (hl:↑vs=n) (F:Hp) (ad:-O) (ys:-DV) (aB:-OV) (K:RV->-OV->Prop) (S:SR F ad ⟨ys.map U,aB.map U⟩ (vs.map U) H) (g:G ys aB K) (k:∀r ows,K r ows->∀v F' H',Cc F ad H r ows v F' H'->Q v H')
def ib(n:Nat)(K:RV->-OV->Prop)(x:DV)(δ:aN):Prop:=∃ows,δ.mu.take n=ows.map U/\↑ows=n/\match x with
 |.p d=>K (.p d) ows
 |.o k=>if k<n then K (.a k) ows else match δ.mu[k]? with
  |some (some (.lst ds))=>K (.n ds) ows\/K (.p (.lst ds)) ows
  |_=>False
 |.w _=>False
 |.u _ _=>False
 |.t d k=>n<=k/\match δ.mu[k]? with
  |some (some (.lst ds))=>K (.t d ds) ows
  |_=>False
noncomputable def jT(n:Nat)(K:RV->-OV->Prop):KS where
 nx:=ib n K (.p .non)
 rt:=ib n K
section
variable{F F' H H':Hp}{ad aL:-O}{σ σ':St}
theorem v_{α:Type}{l:-α}{i:Nat}{x:α}(h:(l.map U)[i]?=U (U x)):l[i]?=U x:=by
 rw[Qw] at h;let⟨y,e,q⟩:=q0f.mp h;cases q;calc e
theorem wa{α:Type}{l:-α}{i:Nat}{x:α}(h:l[i]?=U x):(l.map U)[i]?=U (U x):=by
 rw[Qw,h];rfl
theorem SR.start{ys:-DV}{mu:-(Option OV)}{vs:-V}{N:-J}(S:SR F ad ⟨ys.map U,mu⟩ (vs.map U) H):SR F ad ⟨ys.map U++q0h (↑N-↑vs) Z,mu⟩ (start N vs) H:=by
 let hl:↑vs=↑ys:=by
  let:=S.len;rw[BE] at this;rw[this];rw[BE]
 refine⟨S.sub,S.off,S.cF,S.inj,S.mu,λi x e=>?_,?_,S.tab,S.nt⟩
 .let hi:i<↑ys:=by
   by_cases c:i<↑ys
   .exact c
   .rw[q0b (by rw[BE];symm),q2_] at e
    split at e
    .cases e
    .cases e
  rw[Z_ (by rw[BE];calc hi)] at e;let⟨v,h1,h2⟩:=S.sl i x e;exact⟨v,by unfold L2.start;rw[Z_ (by rw[BE,hl];calc hi)];calc h1,h2⟩
 .unfold L2.start
  rw[Qs,Qs,q3r,q3r,BE,BE,hl]
theorem yG{aB:-OV}{δ:aN}{x:DV}{v:V}{K:RV->-OV->Prop}{Q:VK}{sl:-(Option DV)}{τ:St}(S0:SR F ad ⟨sl,aB.map U⟩ τ H)(E:Ext F ad (aB.map U) H F' aL δ.mu H')(S:SR F' aL δ σ' H')(V:dG F' aL x v)
  (h:ib ↑aB K x δ) (k:∀r ows,K r ows->∀v F' H',Cc F ad H r ows v F' H'->Q v H'):Q v H':=by
 let⟨ows,tk,hl,h⟩:=h;let al:↑ad=↑aB:=by let:=S0.cF;rwa [BE] at this
 let lv:∀(j:Nat)(a:O),ad[j]?=U a->∃ow,ows[j]?=U ow/\δ.mu[j]?=U (U ow)/\Lv aL δ.mu a:=λj a e=>by
  let hj:j<↑aB:=by rw[<-al];exact(Il.mp e).1
  let h1:(δ.mu.take ↑aB)[j]?=U (U (ows[j]'(by rw[hl];calc hj))):=by
   rw[tk,Qw,vD (by rw[hl];calc hj)];rfl
  rw[q0N hj] at h1;exact⟨_,vD (by rw[hl];calc hj),h1,j,_,E.pre j a e,h1⟩
 let kX:∀a∈ad,F' a=Z:=λa ha=>by
  let⟨j,e⟩:=q0j.mp ha;let⟨_,_,_,l⟩:=lv j a e;exact S.off a l
 let base:∀{F2:Hp},bc F' F2->bc F2 H'->(∀a o,F2 a=U o->F' a=U o\/(H a=Z/\¬ a∈ad))->(∀a∈ad,F2 a=Z)->NT F2->∀{r:RV},(match r with
   |.p d=>Is F2 d v
   |.n ds=>∃a vs,v=.ref a/\H a=Z/\H' a=U (.lst vs)/\F2 a=Z/\ai F2 ds vs
   |.a j=>∃a,ad[j]?=U a/\v=.ref a
   |.t d ds=>sE F2 H H' d ds v)->Cc F ad H r ows v F2 H':=λ{F2} s1 s2 n2 o2 RM {r} res=>by
  refine⟨s2,E.same.trans s1,λa o e=>?_,λa o e n t=>?_,S.tab,RM,by rw[hl,al],λj ow e=>?_,o2,res⟩
  .rcases n2 a o e with e|⟨e,_⟩
   .rcases E.new a o e with z|z|⟨j,ov,z,_⟩
    .exact .inl z
    .exact .inr z
    .rw[kX a (q0j.mpr ⟨j,z⟩)] at e;cases e
   .exact .inr e
  .exact E.keep a o e (λ⟨j,ov,z,_⟩↦n (q0j.mpr ⟨j,z⟩)) t
  .let hj:j<↑ad:=by rw[al,<-hl];exact(Il.mp e).1
   let⟨Cd,e1,e2,_⟩:=lv j _ (vD hj);rw[e] at e1;cases e1;let⟨a,o,e3,e4,h5⟩:=S.mu j _ e2;rw[E.pre j _ (vD hj)] at e3;cases e3
   exact⟨_,o,vD hj,e4,h5.same s1⟩
 let fresh:∀{i:Nat}{ds:-D}{a:O},¬ i<↑aB->aL[i]?=U a->δ.mu[i]?=U (U (.lst ds))->∃vs,H' a=U (.lst vs)/\ai F' ds vs/\a∉ad/\F' a=Z/\H a=Z:=λ{i ds a} c e1 em=>by
  let⟨a',o,e2,e3,vs,rfl,h4⟩:=S.mu i _ em;rw[e1] at e2;cases e2
  let na:a∉ad:=λz=>by
   let⟨j,e⟩:=q0j.mp z;let⟨ow,_,e5,_⟩:=lv j a e;let:i=j:=S.inj i j a _ _ e1 (E.pre j a e) em e5;subst this;exact c (by rw[<-al];calc(Il.mp e).1)
  calc⟨vs,e3,h4,na,S.off a ⟨i,_,e1,em⟩,?_⟩;rcases E.cE a ⟨i,_,e1,em⟩ with⟨j,ov,z,_⟩|z
  .exact absurd (q0j.mpr ⟨j,z⟩) na
  .exact z
 cases x with
 |p d=>exact k _ _ h _ _ _ (base (F2:=F') (λ_ _ e=>e) S.sub (λ_ _ e=>.inl e) kX S.nt V)
 |w _=>exact h.elim
 |u _ _=>exact h.elim
 |t d i =>
  let⟨a,b,u,rfl,e0,e2,e1⟩:=V;let⟨c,h⟩:=h;split at h
  .rename_i ds em
   let⟨vs,e3,h4,na,fa,ha⟩:=fresh ⋯ e1 em;exact k _ _ h _ _ _ (base (F2:=F') (λ_ _ e=>e) S.sub (λ_ _ e=>.inl e) kX S.nt ⟨a,b,u,vs,Y,e0,e2,ha,e3,fa,h4⟩)
  .exact h.elim
 |o i =>
  dsimp only at h;let⟨a,e1,rfl⟩:=V
  by_cases c:i<↑aB
  .rw[q0k c] at h
   let ei:ad[i]?=U a:=by
    let:=E.pre i _ (vD (by rw[al];calc c));rw[e1] at this;rw[vD (by rw[al];calc c)];exact this.symm
   exact k _ _ h _ _ _ (base (F2:=F') (λ_ _ e=>e) S.sub (λ_ _ e=>.inl e) kX S.nt ⟨a,ei,Y⟩)
  .rw[q0i c] at h
   split at h
   .rename_i ds em
    let⟨vs,e3,h4,na,fa,ha⟩:=fresh c e1 em;rcases h with h|h
    .exact k _ _ h _ _ _ (base (F2:=F') (λ_ _ e=>e) S.sub (λ_ _ e=>.inl e) kX S.nt ⟨a,vs,Y,ha,e3,fa,h4⟩)
    .refine k _ _ h _ _ _ (base (F2:=upd F' a (.lst vs)) (cK fa) (λb o e=>?_) (λb o e=>?_) (λb hb=>?_) (S.nt.up (cK fa) λb hb=>?_) ?_)
     .by_cases z:b=a
      .subst z;rw[cA] at e;cases e;exact e3
      .rw[bE z] at e;exact S.sub b o e
     .by_cases z:b=a
      .subst z;exact .inr ⟨ha,na⟩
      .rw[bE z] at e;exact .inl e
     .rw[bE λz=>na (by subst z;calc hb)];exact kX b hb
     .let⟨ps,q⟩:=bf.tb S.tab hb
      rw[bE λz=>by subst z;rw[e3] at q;cases q];exact S.nt b hb
     .show Is _ (.lst ds) _
      exact⟨a,vs,Y,cA,h4.same (cK fa)⟩
   .calc h.elim
end
theorem gx.RN{P:t}{w:ω}{K:My}{mg:J->Option L}{base:I}{x qual:J}{st:R}{f:O}{fd:FuncData}{N ps:-J}{k:Nat}{G:GD}(F:gx K x qual st f fd)(S:oF N ps (cM st))
  (eY:∀(bJ:L)(A:o)(outer:-X)(s:ο)(H:Hp)(E:XK),bB k (A.deeper (envOfC qual (cM st) ⇑s f bJ)) →
   ∃B:WS,dM (fz eZ P w K mg base N qual (cM st) f bJ A outer s H E).lG (fZ st) (dU B)/\∀ys aB K',↑ys=↑ps->G ys aB K'->B (jT ↑aB K') ⟨ys.map U++q0h (↑N-↑ps) Z,aB.map U⟩) :
  cf P w K mg base eZ (k+1) f fd ps (lQ G ↑ps) :=
 F.ye S (λvs H Q E h=>h.1) λbJ A outer s H vs Q E hr h=>by
  let⟨hl,Fz,ad,ys,aB,K',S0,g,kk⟩:=h;let⟨B,jb,hb⟩:=eY bJ A outer s H E hr
  let hy:↑ys=↑ps:=by
   let:=S0.len;rw[BE] at this;rw[<-hl,this];rw[BE]
  refine⟨_,jb,Fz,ad,⟨ys.map U++q0h (↑N-↑ps) Z,aB.map U⟩,jT ↑aB K',by rw[<-hl];calc S0.start,hb ys aB K' hy g,⟨fun δ' h F' aL σ' H' E' S'=>?_,fun δ' h=>h.elim,fun δ' h=>h.elim,λy δ' h v F' aL σ' H' E' S' V=>?_,trivial⟩⟩
  .exact yG (σ':=σ') S0 E' S' (x:=.p .non) (v:=.non) Y h kk
  .calc yG (σ':=σ') S0 E' S' V h kk
noncomputable def passes(mu:-(Option OV)):-DV->Nat->Option (-DV×-(Nat×OV))
 |[],_=>U ([],[])
 |.p d::xs,j=>match passes mu xs j with
  |some r=>U (.p d::r.1,r.2)
  |none=>Z
 |.o k::xs,j=>match mu[k]? with
  |some (some ov)=>match passes mu xs (j+1) with
   |some r=>U (.o j::r.1,(k,ov)::r.2)
   |none=>Z
  |_=>Z
 |.w a::xs,j=>match passes mu xs j with
  |some r=>U (.w a::r.1,r.2)
  |none=>Z
 |.u _ _::_,_=>Z
 |.t _ _::_,_=>Z
noncomputable def cZ(mu:-(Option OV)):-(Nat×OV)->-OV->-(Option OV)
 |(k,_)::r,ow::ows=>cZ (mu.set k (U ow)) r ows
 |_,_=>mu
noncomputable def kY:-(Nat×OV)->Bool
 |[]=>θ
 |(k,_)::r => !(r.any λe=>e.1==k)&&kY r
def oY(δ:aN)(bY:-(Nat×OV))(K:DV->aN->Prop)(r:RV)(ows:-OV):Prop:=match r with
 |.p d=>K (.p d) ⟨δ.sl,cZ δ.mu bY ows⟩
 |.n ds=>K (.p (.lst ds)) ⟨δ.sl,cZ δ.mu bY ows⟩
 |.t d ds=>K (.p (.tup [d,.lst ds])) ⟨δ.sl,cZ δ.mu bY ows⟩
 |.a j=>match bY[j]? with
  |some ko=>K (.o ko.1) ⟨δ.sl,cZ δ.mu bY ows⟩
  |none=>False
def wb(δ:aN)(bY:-(Nat×OV))(K:DV->aN->Prop)(r:RV)(ows:-OV):Prop:=match r with
 |.n ds=>K (.o ↑(cZ δ.mu bY ows)) ⟨δ.sl,cZ δ.mu bY ows++[U (.lst ds)]⟩
 |_=>False
def aJ(n:Nat)(G:GD)(fa:WA):WE:=fun δ K=>fa δ λxs δ1=>match passes δ1.mu xs 0 with
 |some r=>(kY r.2=θ/\↑r.1=n)/\G r.1 (r.2.map (·.2)) (oY δ1 r.2 K)
 |none=>False
def wc(n:Nat)(G:GD)(fa:WA):WE:=fun δ K=>fa δ λxs δ1=>match passes δ1.mu xs 0 with
 |some r=>(kY r.2=θ/\↑r.1=n)/\G r.1 (r.2.map (·.2)) (wb δ1 r.2 K)
 |none=>False
section
variable{F F' H H':Hp}{ad aL:-O}{δ:aN}{σ σ':St}
theorem ui{mu:-(Option OV)}(hm:∀(k:Nat) (ov:OV),mu[k]?=U (U ov)->∃a o,ad[k]?=U a/\H a=U o/\eN F a ov o):∀{xs:-DV}{vs:-V}{j:Nat}{r:-DV×-(Nat×OV)},passes mu xs j=U r->cG F ad xs vs →
  ∃as:-O,↑as=↑r.2/\(∀(i:Nat)(ko:Nat×OV),r.2[i]?=U ko->mu[ko.1]?=U (U ko.2)/\∃a o,as[i]?=U a/\ad[ko.1]?=U a/\H a=U o/\eN F a ko.2 o) ∧
   ∀(pre:-O),pre.length=j->∃_u:Unit,↑vs=↑r.1/\∀(i:Nat)(y:DV),r.1[i]?=U y->∃v,vs[i]?=U v/\dG F (pre++as) y v
 |[],vs,j,r,h,hv=>by
  cases h
  let:vs=[]:=hv;subst this;exact⟨[],Y,λi ko e=>by simp at e,λpre _=>⟨(),Y,λi y e=>by simp at e⟩⟩
 |.p d::xs,_,j,r,h,⟨v,t,e,h1,h2⟩=>by
  subst e;unfold passes at h;split at h
  .rename_i r' hr
   cases h
   let⟨as,l,b,c⟩:=ui hm hr h2;refine⟨as,l,b,λpre hp=>⟨(),?_,λi y e=>?_⟩⟩
   .let⟨_,c1,_⟩:=c pre hp
    rw[Ip,Ip,c1]
   .let⟨_,_,c2⟩:=c pre hp
    cases i with
    |zero=>cases(show U (DV.p d)=U y by simpa using e);exact⟨v,Y,h1⟩
    |succ i=>simpa using c2 i y e⁻¹
  .cases h
 |.w d::xs,_,j,r,h,⟨v,t,e,h1,h2⟩=>by
  subst e;unfold passes at h;split at h
  .rename_i r' hr
   cases h
   let⟨as,l,b,c⟩:=ui hm hr h2;refine⟨as,l,b,λpre hp=>⟨(),?_,λi y e=>?_⟩⟩
   .let⟨_,c1,_⟩:=c pre hp
    rw[Ip,Ip,c1]
   .let⟨_,_,c2⟩:=c pre hp
    cases i with
    |zero=>cases(show U (DV.w d)=U y by simpa using e);exact⟨v,Y,h1⟩
    |succ i=>simpa using c2 i y e⁻¹
  .cases h
 |.o k::xs,_,j,r,h,⟨v,t,e,h1,h2⟩=>by
  subst e;unfold passes at h;split at h
  .rename_i ov hk
   split at h
   .rename_i r' hr
    cases h
    let⟨as,l,b,c⟩:=ui hm hr h2;let⟨a,e1,rfl⟩:=h1;let⟨a',o,e2,e3,e4⟩:=hm k ov hk;rw[e1] at e2;cases e2;refine⟨a::as,by rw[Ip,Ip,l],λi ko e=>?_,λpre hp=>⟨(),?_,λi y e=>?_⟩⟩
    .cases i with
     |zero=>cases(show U (k,ov)=U ko by simpa using e);exact⟨hk,a,o,Y,e1,e3,e4⟩
     |succ i=>simpa using b i ko e⁻¹
    .let⟨_,c1,_⟩:=c (pre++[a]) (by rw[Qs,hp];rfl)
     rw[Ip,Ip,c1]
    .let⟨_,_,c2⟩:=c (pre++[a]) (by rw[Qs,hp];rfl)
     cases i with
     |zero =>
      cases(show U (DV.o j)=U y by simpa using e)
      calc⟨_,Y,a,?_,Y⟩;rw[q0b ⋯,hp,q03];rfl
     |succ i =>
      let⟨v',c3,c4⟩:=c2 i y e⁻¹;exact⟨v',by simpa using c3,by rw[q2v] at c4;calc c4⟩
   .cases h
  .cases h
theorem Ce:∀{bY:-(Nat×OV)},kY bY=θ->∀(i j:Nat)(k:Nat)(a b:OV),bY[i]?=U (k,a)->bY[j]?=U (k,b)->i=j
 |[],_,i,j,k,a,b,e,_=>by simp at e
 |(k',ov)::r,h,i,j,k,a,b,e1,e2=>by
  unfold kY at h;erw[q0L,q3m] at h
  let no:∀(m:Nat)(c:OV),r[m]?=U (k',c)->False:=λm c e=>by
   let:=q2c.mp h.1 _ (q0j.mpr ⟨m,e⟩);exact this (by simp)
  cases i with
  |zero =>
   cases(show U (k',ov)=U (k,a) by simpa using e1)
   cases j with
   |zero=>rfl
   |succ j=>exact(no j b e2⁻¹).elim
  |succ i =>
   cases j with
   |zero=>cases(show U (k',ov)=U (k,b) by simpa using e2);exact(no i a e1⁻¹).elim
   |succ j=>rw[Ce h.2 i j k a b e1⁻¹ e2⁻¹]
theorem Cf:∀(bY:-(Nat×OV))(ows:-OV)(mu:-(Option OV)),↑(cZ mu bY ows)=↑mu
 |(k,_)::r,ow::ows,mu=>by rw[cZ,Cf r ows,q1C]
 |[],_,_=>Y
 |_::_,[],_=>Y
theorem wd:∀(bY:-(Nat×OV))(ows:-OV)(mu:-(Option OV))(l:Nat),(∀ko∈bY,ko.1≠l)->(cZ mu bY ows)[l]?=mu[l]?
 |(k,_)::r,ow::ows,mu,l,h=>by
  rw[cZ,wd r ows _ l λko hk=>h ko (q0l _ hk),q09 (h _ q0m)]
 |[],_,_,_,_=>Y
 |_::_,[],_,_,_=>Y
theorem Cg:∀{bY:-(Nat×OV)}{ows:-OV}{mu:-(Option OV)}{i:Nat}{ko:Nat×OV}{ow:OV},kY bY=θ->bY[i]?=U ko->ows[i]?=U ow->ko.1<↑mu->(cZ mu bY ows)[ko.1]?=U (U ow)
 |(k,ov)::r,Cd::ows,mu,0,ko,ow,h,e1,e2,hl=>by
  cases(show U (k,ov)=U ko by simpa using e1)
  cases(show U Cd=U ow by simpa using e2)
  unfold kY at h;erw[q0L,q3m] at h;rw[cZ,wd r ows _ k λko hk z=>absurd z⁻¹ (q2c.mp h.1 ko hk),q08 hl]
 |(k,ov)::r,Cd::ows,mu,i+1,ko,ow,h,e1,e2,hl=>by
  unfold kY at h;erw[q0L,q3m] at h;rw[cZ];exact Cg h.2 e1⁻¹ e2⁻¹ (by rw[q1C];calc hl)
 |[],_,_,i,_,_,_,e1,_,_=>by simp at e1
 |_::_,[],_,i,_,_,_,_,e2,_=>by simp at e2
theorem Ci{xs:-DV}{vs:-V}{r:-DV×-(Nat×OV)}{G:GD}{n:Nat}{Q:VK}{E:XK}{K:RV->-OV->Prop}(S:SR F ad δ σ H)(V:cG F ad xs vs)(hn:↑vs=n)(hp:passes δ.mu xs 0=U r)(nd:kY r.2=θ)(g:G r.1 (r.2.map (·.2)) K)
  (fin:∀res ows v F' H',K res ows->Ext F ad δ.mu H F' ad (cZ δ.mu r.2 ows) H'->SR F' ad ⟨δ.sl,cZ δ.mu r.2 ows⟩ σ H'->(match res with
   |.p d=>Is F' d v
   |.n ds=>∃a vs,v=.ref a/\H a=Z/\H' a=U (.lst vs)/\F' a=Z/\ai F' ds vs
   |.a j=>∃ko a,r.2[j]?=U ko/\ad[ko.1]?=U a/\v=.ref a
   |.t d ds=>sE F' H H' d ds v)->Q v H'):lQ G n vs H Q E:=by
 let⟨as,al,b,c⟩:=ui S.mu hp V;let⟨_,c1,c2⟩:=c [] Y
 let kB:∀(i:Nat)(a:O),as[i]?=U a->Lv ad δ.mu a/\∃ko,r.2[i]?=U ko/\ad[ko.1]?=U a/\δ.mu[ko.1]?=U (U ko.2):=λi a e=>by
  let hi:i<↑r.2:=by rw[<-al];exact(Il.mp e).1
  let⟨m1,a',o,e1,e2,_,_⟩:=b i _ (vD hi);rw[e] at e1;cases e1;exact⟨⟨_,_,e2,m1⟩,_,vD hi,e2,m1⟩
 refine⟨hn,F,as,r.1,r.2.map (·.2),K,⟨S.sub,λa ⟨i,ov,e1,e2⟩↦S.off a (kB i a e1).1,by rw[al];rw[BE,BE],λi j a ov ow e1 e2 _ _=>?_,λi ov e=>?_,λi y e=>?_,?_,S.tab,S.nt⟩,g,λres ows hk v F' H' P=>?_⟩
 .let⟨_,ko,k1,k2,k3⟩:=kB i a e1
  let⟨_,kp,p1,p2,p3⟩:=kB j a e2;let:ko.1=kp.1:=S.inj _ _ a _ _ k2 p2 k3 p3;exact Ce nd i j ko.1 ko.2 kp.2 k1 (by rw[this];calc p1)
 .let e:=v_ e
  rw[Qw] at e;let⟨ko,e1,rfl⟩:=q0f.mp e;let⟨_,a,o,e2,_,e4,e5⟩:=b i ko e1;exact⟨a,o,e2,e4,e5⟩
 .let⟨v,e1,e2⟩:=c2 i y (v_ e)
  exact⟨v,wa e1,by simpa using e2⟩
 .show ↑(vs.map U)=↑(r.1.map U)
  rw[BE,BE,c1]
 .let ol:↑ows=↑r.2:=by rw[P.len,al]
  let gG:∀(l:Nat)(ow:OV),(cZ δ.mu r.2 ows)[l]?=U (U ow)->(∃(i:Nat)(ko:Nat×OV),r.2[i]?=U ko/\ko.1=l/\ows[i]?=U ow)\/((∀ko∈r.2,ko.1≠l)/\δ.mu[l]?=U (U ow)):=λl ow e=>by
   by_cases z:∃ko∈r.2,ko.1=l
   .let⟨ko,hk,rfl⟩:=z
    let⟨i,hi⟩:=q0j.mp hk;let n6:i<↑ows:=by rw[ol];exact(Il.mp hi).1
    let:=Cg (mu:=δ.mu) nd hi (vD n6) (Il.mp (b i ko hi).1).1;rw[e] at this;cases this
    exact .inl ⟨i,ko,hi,Y,vD n6⟩
   .let z':∀ko∈r.2,ko.1≠l:=λko hk q=>z ⟨ko,hk,q⟩
    rw[wd _ _ _ _ z'] at e;exact .inr ⟨z',e⟩
  let oZ:∀(l:Nat)(ow:OV)(a:O),ad[l]?=U a->(cZ δ.mu r.2 ows)[l]?=U (U ow)->Lv ad δ.mu a:=λl ow a e1 e2=>by
   rcases gG l ow e2 with⟨i,ko,hi,rfl,_⟩|⟨_,q⟩
   .exact⟨_,_,e1,(b i ko hi).1⟩
   .exact⟨_,_,e1,q⟩
  let we:∀a,a∈as->Lv ad δ.mu a:=λa ha=>by
   let⟨i,e⟩:=q0j.mp ha;exact(kB i a e).1
  let ex:Ext F ad δ.mu H F' ad (cZ δ.mu r.2 ows) H':=by
   refine⟨P.same,λa o e=>?_,λa o e n t=>P.keep a o e (λz=>n (we a z)) t,λ_ _ e=>e,λa ⟨l,ow,e1,e2⟩↦.inl (oZ l ow a e1 e2),λa o e=>?_⟩
   .rcases P.new a o e with z|z
    .exact .inl z
    .exact .inr (.inl z)
   .by_cases z:a∈as
    .let⟨i,e1⟩:=q0j.mp z
     let hi:i<↑ows:=by rw[P.len];exact(Il.mp e1).1
     let⟨a',o',e2,e3,_⟩:=P.own i _ (vD hi);rw[e1] at e2;cases e2;exact⟨o',e3⟩
    .by_cases t:a∈bf.ad
     .let⟨ps,q⟩:=bf.tb P.tab t
      exact⟨_,q⟩
     .exact⟨o,P.keep a o e z t⟩
  let sF:∀a,Lv ad δ.mu a->F' a=Z:=λa l=>by
   by_cases z:a∈as
   .exact P.off a z
   .cases q:F' a with
    |none=>rfl
    |some u =>
     rcases P.new a u q with y|y
     .rw[S.off a l] at y;cases y
     .let⟨k,ov,e1,e2⟩:=l
      let⟨a',o,e3,e4,_⟩:=S.mu k ov e2;rw[e1] at e3;cases e3;rw[y] at e4;cases e4
  let sr:SR F' ad ⟨δ.sl,cZ δ.mu r.2 ows⟩ σ H':=by
   refine⟨P.sub,λa ⟨l,ow,e1,e2⟩↦sF a (oZ l ow a e1 e2),by rw[S.cF];calc(Cf _ _ _).symm,λk l a ov ow e1 e2 e3 e4=>?_,λl ow e=>?_,λi y e=>?_,S.len,P.tab,P.nt⟩
   .let h3:∃w,δ.mu[k]?=U (U w):=by
     rcases gG k ov e3 with⟨i,ko,hi,rfl,_⟩|⟨_,q⟩
     .exact⟨_,(b i ko hi).1⟩
     .exact⟨_,q⟩
    let h4:∃w,δ.mu[l]?=U (U w):=by
     rcases gG l ow e4 with⟨i,ko,hi,rfl,_⟩|⟨_,q⟩
     .exact⟨_,(b i ko hi).1⟩
     .exact⟨_,q⟩
    let⟨_,h3⟩:=h3;let⟨_,h4⟩:=h4;exact S.inj k l a _ _ e1 e2 h3 h4
   .rcases gG l ow e with⟨i,ko,hi,rfl,ho⟩|⟨z,q⟩
    .let⟨_,a,o,e1,e2,_,_⟩:=b i ko hi
     let⟨a',o',e3,e4,h5⟩:=P.own i ow ho;rw[e1] at e3;cases e3;exact⟨a,o',e2,e4,h5⟩
    .let⟨a,o,e1,e2,h⟩:=S.mu l ow q
     refine⟨a,o,e1,P.keep a o e2 (λy=>?_) (λt=>?_),h.same P.same⟩
     .let⟨i,e3⟩:=q0j.mp y
      let⟨_,ko,k1,k2,k3⟩:=kB i a e3;exact z ko (q0j.mpr ⟨i,k1⟩) (S.inj _ _ a _ _ k2 e1 k3 q)
     .let⟨ps,q2⟩:=bf.tb S.tab t
      rw[e2] at q2;cases q2
      exact h.kind ps Y
   .let⟨v,e1,h⟩:=S.sl i y e
    exact⟨v,e1,h.ext ex⟩
  calc fin res ows v F' H' hk ex sr ?_;let ic:=P.res
  cases res with
  |p d=>exact ic
  |n ds=>exact ic
  |t d ds=>exact ic
  |a j =>
   let⟨a,e1,e2⟩:=ic;let⟨_,ko,k1,k2,_⟩:=kB j a e1;calc⟨ko,a,k1,k2,e2⟩
end
section
variable{X:Cx}{fa:WA}{G:GD}{pos:y}
theorem Cj{F1 F2 H1 H2:Hp}{bp:-O}{δ1:aN}{σ:St}{xs:-DV}{vs:-V}{r:-DV×-(Nat×OV)}{ows:-OV}{a:O}(S1:SR F1 bp δ1 σ H1)(V1:cG F1 bp xs vs)(hp:passes δ1.mu xs 0=U r)(n1:H1 a=Z):¬ Lv bp (cZ δ1.mu r.2 ows) a:=λ⟨k,ov,e1,e2⟩↦by
 let c:∃ov,δ1.mu[k]?=U (U ov):=by
  by_cases y:∃ko∈r.2,ko.1=k
  .let⟨ko,jz,rfl⟩:=y
   let⟨as,_,b,_⟩:=ui S1.mu hp V1;let⟨i,hi⟩:=q0j.mp jz;exact⟨_,(b i ko hi).1⟩
  .rw[wd _ _ _ _ λko jz q=>y ⟨ko,jz,q⟩] at e2
   exact⟨_,e2⟩
 let⟨RO,c⟩:=c;let⟨a',o,e3,e4,_⟩:=S1.mu k RO c;rw[e1] at e3;cases e3;rw[n1] at e4;cases e4
theorem cG.length{F:Hp}{ad:-O}:∀{xs:-DV}{vs:-V},cG F ad xs vs->↑vs=↑xs
 |[],vs,h=>by let h:vs=[]:=h;rw[h];rfl
 |x::xs,vs,⟨v,r,e,_,h2⟩=>by rw[e,Ip,Ip,cG.length h2]
theorem uj{mu:-(Option OV)}:∀{xs:-DV}{j:Nat}{r:-DV×-(Nat×OV)},passes mu xs j=U r->↑r.1=↑xs
 |[],j,r,h=>by cases h;rfl
 |.p d::xs,j,r,h=>by
  unfold passes at h;split at h
  .rename_i r' hr;cases h;rw[Ip,Ip,uj hr]
  .cases h
 |.w d::xs,j,r,h=>by
  unfold passes at h;split at h
  .rename_i r' hr;cases h;rw[Ip,Ip,uj hr]
  .cases h
 |.o k::xs,j,r,h=>by
  unfold passes at h;split at h
  .split at h
   .rename_i r' hr;cases h;rw[Ip,Ip,uj hr]
   .cases h
  .cases h
section
variable{k:Nat}{f:O}{fd:FuncData}{ps:-J}{x:J}{p:y}{e:l}{es:-l}{n:Nat}
theorem RP{E:XK}{F F1 H H1:Hp}{ad bp:-O}{δ δ1:aN}{σ:St}{K:DV->aN->Prop}{Q:VK}{xs:-DV}{vs:-V}(kk:∀x δ',K x δ'->∀v F' aL H',Ext F ad δ.mu H F' aL δ'.mu H'->SR F' aL δ' σ H'->dG F' aL x v->Q v H')(h1:match passes δ1.mu xs 0 with
 |some r=>(kY r.2=θ/\↑r.1=n)/\G r.1 (r.2.map (·.2)) (oY δ1 r.2 K)
 |none=>False)(E1:Ext F ad δ.mu H F1 bp δ1.mu H1)(S1:SR F1 bp δ1 σ H1)(V1:cG F1 bp xs vs):lQ G n (vs++[]) H1 Q E:=by
 split at h1
 .rename_i r hp
  let⟨⟨nd,hn⟩,h1⟩:=h1;rw[oO];calc Ci S1 V1 (by rw[↑V1,<-uj hp,hn]) hp nd h1 λres ows v F2 H2 hk E2 S2 dW=>?_;unfold oY at hk
  cases res with
  |p d=>exact kk _ _ hk _ _ _ _ (E1.trans E2) S2 dW
  |n ds =>
   let⟨a,us,rfl,n1,n2,n3,n4⟩:=dW;calc kk _ _ hk _ _ _ _ (E1.trans (E2.adopt (o:=.lst us) n1 n3)) (S2.adopt n3 n2 (Cj (F2:=F2) (H2:=H2) S1 V1 hp n1)) ?_;show Is _ (.lst ds) _;exact⟨a,us,Y,cA,n4.same (cK n3)⟩
  |t d ds =>
   let⟨a,b,u,us,rfl,m1,m2,n1,n2,n3,n4⟩:=dW;calc kk _ _ hk _ _ _ _ (E1.trans (E2.adopt (o:=.lst us) n1 n3)) (S2.adopt n3 n2 (Cj (F2:=F2) (H2:=H2) S1 V1 hp n1)) ?_;show Is _ (.tup [d,.lst ds]) _;let sm:bc F2 (upd F2 b (.lst us)):=cK n3;exact⟨a,_,Y,sm _ _ m1,u,_,Y,m2.same sm,.ref b,_,Y,⟨b,us,Y,cA,n4.same sm⟩,Y⟩
  |a j =>
   let⟨ko,a,h1,h2,h3⟩:=dW;dsimp only at hk;rw[h1] at hk;exact kk _ _ hk _ _ _ _ (E1.trans E2) S2 ⟨a,h2,h3⟩
 .calc h1.elim
theorem RQ{E:XK}:∀σ H Q,tD (aJ n G fa) σ H Q->vq (lQ G n) [] E (cy fa) σ H Q:=fun σ H Q ⟨F,ad,δ,K,S,q,kk⟩ ↦
 ⟨F,ad,δ,_,S,q,λxs δ1 h1 vs F1 bp H1 E1 S1 V1=>RP kk h1 E1 S1 V1⟩
theorem RR{E:XK}:∀σ H Q,tD (wc n G fa) σ H Q->vq (lQ G n) [] E (cy fa) σ H Q:=fun σ H Q ⟨F,ad,δ,K,S,q,kk⟩=>by
 calc⟨F,ad,δ,_,S,q,λxs δ1 h1 vs F1 bp H1 E1 S1 V1=>?_⟩;split at h1
 .rename_i r hp
  let⟨⟨nd,hn⟩,h1⟩:=h1;rw[oO];refine Ci S1 V1 (by rw[↑V1,<-uj hp,hn]) hp nd h1 λres ows v F2 H2 hk E2 S2 dW=>?_
  cases res with
  |p d=>exact hk.elim
  |n ds =>
   let⟨a,us,rfl,n1,n2,n3,n4⟩:=dW;let oi:∀{ax},eN F2 ax (.lst ds) (.lst us):=λ{ax}=>⟨us,Y,n4⟩;calc kk _ _ hk _ _ _ _ (E1.trans (E2.c_ (ov:=.lst ds) n1 S2.cF)) (S2.c_ n3 n2 (Cj (F2:=F2) (H2:=H2) S1 V1 hp n1) oi) ⟨a,?_,Y⟩;let:↑bp=↑(cZ δ1.mu r.2 ows):=S2.cF;rw[<-this,q0b (Im _),q03];rfl
  |a j=>exact hk.elim
  |t d ds=>exact hk.elim
 .calc h1.elim
theorem RS(Fn:cf X.prog X.w X.K X.mg X.base eZ k f fd ps (lQ G n))(hr:bB k X.A)(hg:Gl X x)(hm:X.mg x=U (.ref f))(hk:q0_ X.K (.ref f)=θ)(hb:Binds X.K fd ps [])
  (ha:JA X (e::es) (cy fa)) (c8:b7 x:=by decide) (he:cI X e es:=by rfl) (cX:cS X pos es:=by rfl) :
  JE X (.Call (.Name x p) (e::es) [] pos) (tD (aJ n G fa)):=(vt Fn hr hg hm hk hb .nil oP ha c8 he cX).weak RQ
theorem RT(Fn:cf X.prog X.w X.K X.mg X.base eZ k f fd ps (lQ G n))(hr:bB k X.A)(hg:Gl X x)(hm:X.mg x=U (.ref f))(hk:q0_ X.K (.ref f)=θ)(hb:Binds X.K fd ps [])
  (ha:JA X (e::es) (cy fa)) (c8:b7 x:=by decide) (he:cI X e es:=by rfl) (cX:cS X pos es:=by rfl) :
  JE X (.Call (.Name x p) (e::es) [] pos) (tD (wc n G fa)):=(vt Fn hr hg hm hk hb .nil oP ha c8 he cX).weak RR
end
end
end L2
namespace PySem
open Sem (wp)
open AutoSeq1 (wpAny_loadPart')
theorem RU(l:O)(items:Array L)(n:Nat)(dct:Option O)(sl:Array (Option L)):
  Meets (Builtin.«enumerate.__new__» ⟨[.type "enumerate",.ref l],[]⟩) (λ_ R s=>s.heap.get? l=U {cls:=.type "tuple",dict:=dct,data:=.seq items n,slots:=sl} ∧
   R (.ok (.ret (.ref (s.heap.push {cls:=.type "tuple_iterator",data:=.fields #[.ref l,.int 0 0]}).objs.size)))
    {s with heap:=(s.heap.push {cls:=.type "tuple_iterator",data:=.fields #[.ref l,.int 0 0]}).push {cls:=.type "enumerate",data:=.fields #[.none,.bool ι,.ref ⇑s,rawInt 0,.none,.none]}}) :=
 .of_wp λprog w A R s h=>by
  let⟨hp,g,d,tk,os⟩:=s;let⟨hl,h⟩:=h;let Cm:=sub_enumerate;let hL:Heap.IsTuple (q6U ⟨hp,g,d,tk,os⟩) l items:=⟨_,hl,Y,n,Y⟩
  wp_walk using q1m hl
  calc wpAny_stack_any λst=>Io ?_;split
  .rename_i c _ _ _ _ _
   cases(c==q1T "enumerate")
   .wp_walk using q1m hl,q2o hL
    exact⟨_,Y,h⟩
   .wp_walk using q1m hl,q2o hL
    exact⟨_,Y,h⟩
  .wp_walk using q1m hl,q2o hL
   calc⟨_,Y,h⟩
section
variable{prog:t}{w:S}{A:o}{E:bA}{s:B}
theorem RW{l:O}{items:Array L}{Q:bA}(hL:s.heap.IsTuple l items)
  (h:∀h',IsEnum h' (⇑s+1) ⇑s 0 .none->h'.IsTupleIter ⇑s l 0->h'.objs.size=⇑s+2 →
   (∀b o,s.heap.get? b=U o->h'.get? b=U o)->Q (.ref (⇑s+1)) {s with heap:=h'}) :
  M (g prog w) A (call (.type "enumerate") [.ref l]) Q E s:=by
 let⟨⟨c,dct,dt,sl⟩,hl,hc,n,hd⟩:=hL;subst hc hd
 refine callType_new F.called_enumerate (by decide) (F.typeCall_enumerate_1 _) (F.newCall_enumerate_1 _) (λobj=>F.args_object_init_2 obj _) F.entry_enumerate_new
  (RU l items n dct sl) ⟨hl,?_⟩
 let hz:(s.heap.push {cls:=.type "tuple_iterator",data:=.fields #[.ref l,.int 0 0]}).objs.size=⇑s+1:=q00 ..;rw[hz]
 let he:IsEnum ((s.heap.push {cls:=.type "tuple_iterator",data:=.fields #[.ref l,.int 0 0]}).push
   {cls:=.type "enumerate",data:=.fields #[.none,.bool ι,.ref ⇑s,rawInt 0,.none,.none]}) (⇑s+1) ⇑s 0 .none:=by
  let:=q0c (s.heap.push {cls:=.type "tuple_iterator",data:=.fields #[.ref l,.int 0 0]})
   (o:={cls:=.type "enumerate",data:=.fields #[.none,.bool ι,.ref ⇑s,rawInt 0,.none,.none]}) Y
  rw[hz] at this;exact this
 calc⟨⟨_,he,Y⟩,h _ he ⟨_,yd _ (q0c _ Y),Y,Y⟩ (by rw[q00,hz]) λb o x=>yd _ (yd _ x)⟩
theorem RX{it l:O}{i:Nat}{items:Array L}{x:L}{Q:bA}(hit:s.heap.IsTupleIter it l i)(hl:s.heap.IsTuple l items)(hx:items[i]?=U x)
  (hQ:∀h',h'.IsTupleIter it l (i+1)->q2L it s.heap h'->Q x {s with heap:=h'}):M (g prog w) A (q1G (.ref it)) Q E s:=by
 let⟨o,ho,hc,hd⟩:=id hit;let⟨ol,Co,_,nl,Cp⟩:=hl;let nn:¬ ((q0J l==q0E)=θ):=q0F;calc sf (q1f (name:=q02 "__next__") hit.typeIs q2p (q1g q2p hit.typeIs q3P ?_ (q3I _)));show M _ _ (field (.ref it) 0 >>= _) _ _ s;calc sf (q1J ho hd (x:=.ref l) Y ?_);calc sf (q1J ho hd (x:=.int i 0) Y ?_);calc sf (q1K Co Cp ?_);erw[q0x,hx];calc sf (q3i ho hd (by simp) (Io ⟨x,Y,Io (hQ _ ⟨_,q01 _ ho (q3q (q2l hd _)),(q4e ..).trans hc,?_⟩ (q0Q ..))⟩));rw[q2l hd];simp[rawInt]
theorem RY{it l:O}{i:Nat}{items:Array L}{Q:bA}(hh:A.handled=Z)(hit:s.heap.IsTupleIter it l i)(hl:s.heap.IsTuple l items)(hx:items[i]?=Z)
  (hE:∀h' e,Heap.ExtBut it s.heap h'->(∃o,h'.get? e=U o/\o.cls=.type "StopIteration")->E (.ref e) {s with heap:=h'}):M (g prog w) A (q1G (.ref it)) Q E s:=by
 let⟨o,ho,hc,hd⟩:=id hit;let⟨ol,Co,_,nl,Cp⟩:=hl;let nn:¬ ((q0J l==q0E)=θ):=q0F;calc sf (q1f (name:=q02 "__next__") hit.typeIs q2p (q1g q2p hit.typeIs q3P ?_ (q3I _)));show M _ _ (field (.ref it) 0 >>= _) _ _ s;calc sf (q1J ho hd (x:=.ref l) Y ?_);calc sf (q1J ho hd (x:=.int i 0) Y ?_);calc sf (q1K Co Cp ?_);erw[q0x,hx];calc sf (q3v (sf (q3i ho hd (by simp) ?_)));calc sf ?_;calc sf (m:=firstArgMember _ _) (q5t (a:=q0E) (by first|rfl|(erw[firstArgMember];rfl)) (q1H ?_ (by size_fits)));refine sf (q7H ?_)
 first|rw[show A.in1.handled=Z from hh]|rw[hh]
 calc sf (Io (wpAny_throw (hE _ _ (((q0Q ..).extBut.push _).push _) ⟨_,q0c _ Y,Y⟩)))
theorem Cq(hh:A.handled=Z)(it l:O)(gC:l≠it)(items:Array L):Draws prog w A it [it,l] items.size (λi v=>items[i]?=U v) (λi h=>h.IsTupleIter it l i/\h.IsTuple l items) where
 live:=λ_ _ st=>let⟨o,ho,_⟩:=st.1;⟨o,ho⟩
 frame:=λ_ _ _ st hk=>⟨st.1.at λo e=>hk it (by simp) o e,st.2.at λo e=>hk l (by simp) o e⟩
 item:=λi s Q E hi st hQ=>RX st.1 st.2 (x:=items[i]) (by simp[hi]) λh' Cr yq=>hQ _ h' s.toks (by simp[hi]) ⟨Cr,st.2.extBut yq.extBut gC⟩ yq
 done:=λs Q E st hE=>RY hh st.1 st.2 (by simp) hE
end
end PySem
namespace L2
open PySem PySem.Spec PyProof.Rows
noncomputable def wj(K:My)(a:O):It :=
 ⟨λi H=>∃xs x,bZ K H a xs/\xs[i]?=U x,λi H x H'=>∃T v,x=.ref T/\H T=Z/\H'=upd H T (.tup [.int (i:Nat),v])/\∀xs,bZ K H a xs->xs[i]?=U v,λi H=>∃xs,bZ K H a xs/\↑xs=i⟩
theorem RZ{P:t}{w:S}{K:My}{elts:-l}{x1}{tp:Ε}(a e it:O)(gC:e≠it)(R0:a≠e)(Jj:a≠it):
  Turn P w K (.Tuple elts x1 tp) (wj K a) [e,it] e (λi h=>(∃old,IsEnum h e it (i:Nat) old)/\h.IsTupleIter it a i) where
 mem:=by simp
 obj:=λi h st b hb=>by
  let⟨⟨old,he⟩,o,hi,hc,hd⟩:=st;rcases Qu.mp hb with rfl|hb
  .exact⟨_,he,λv z=>by cases z⟩
  .let z:b=it:=by simpa using hb
   subst z;exact⟨o,hi,λv z=>by rw[hd] at z;cases z⟩
 keep:=λi h h' st k=>by
  let⟨⟨old,he⟩,hi⟩:=st;exact⟨⟨old,k e (by simp) _ he⟩,hi.at λo q=>k it (by simp) o q⟩
 item:=by
  ext X hP hw hK hc i pins s σ H E I hf st hg;subst hP hw hK;let⟨⟨old,he⟩,hi⟩:=st;let⟨xs,x,hq,hx⟩:=hg;let⟨aA,rv,p,hz⟩:=I.tuple hq;let⟨u,hu,ru⟩:=rv.get hx;let D:=Cq (prog:=X.prog) (w:=X.w) (A:=X.A.in1) (by rw[q2n];calc I.ok.hd hc) it a Jj aA.toArray;let n6:i<aA.toArray.size:=by rw[Qt];exact(Il.mp hu).1
  refine wpAny_pyNext_enum_itemD D he ⟨hi,p⟩ n6 gC (by simp[gC,q2h R0]) λy h1 tk py nL vL vM hsz hk=>⟨_,Y,?_⟩
  let ey:y=u:=by
   rw[q2r,hu] at py;cases py;rfl
  subst ey;calc q34 nL λh2 yi eV=>?_;let hT:⇑s≠e:=q1P (q0a he);let l4:h2.get? ⇑s=U {cls:=.type "tuple",data:=.seq #[.int i tk,y]}:=(eV.2 _ hT).trans vM
  let k2:∀b o,b∉[e,it]->s.heap.get? b=U o->h2.get? b=U o:=λb o hb q=>by
   let oQ:b≠e:=λz=>hb (by simp[z]);let f_:b≠it:=λz=>hb (by simp[z]);exact(eV.2 _ oQ).trans (hk b o oQ f_ q)
  let hn:H ⇑s=Z:=I.bu.fresh (Im _);refine⟨.ref ⇑s,upd H ⇑s (.tup [.int i,x]),I.gh (ch:=[e,it]) (t':=tk+1) hf k2 (Im _) ?_,Y,⟨_,x,Y,hn,Y,λys hy=>by rw[I.fy hy hq];calc hx⟩,⟨⟨y,?_⟩,?_⟩,λb hb=>?_⟩
  .exact⟨by show 2<=sizeLine;decide,[.int i tk,y],.cons ⟨_,Y⟩ (.cons ru .nil),_,l4,Y,_,Y⟩
  .let e3:((i:Int)+1)=(((i+1:Nat)):Int):=by symm
   exact yi
  .exact vL.1.at λo q=>(eV.2 _ (q2h gC)).trans q
  .let:b<⇑s:=by
    let⟨o,q,_⟩:=hi;rcases Qu.mp hb with rfl|hb
    .exact q0a he
    .let z:b=it:=by simpa using hb
     subst z;exact q0a q
   rw[bE (q0g this)];exact(hf b hb).1
 done:=by
  ext X hP hw hK hc i pins s σ H E I hf st hg;subst hP hw hK;let⟨⟨old,he⟩,hi⟩:=st;let⟨xs,hq,hx⟩:=hg;let⟨aA,rv,p,hz⟩:=I.tuple hq;let D:=Cq (prog:=X.prog) (w:=X.w) (A:=X.A.in1) (by rw[q2n];calc I.ok.hd hc) it a Jj aA.toArray;let n6:aA.toArray.size=i:=by rw[Qt,<-↑rv];exact hx
  calc wpAny_pyNext_enum_endD D he (by rw[n6];calc⟨hi,p⟩) λh1 eb=>⟨Y,?_⟩;let⟨f0,f1,f2,f3,f4,f5⟩:=hf it (by simp);exact I.turned (t':=s.toks) (λb o hb q=>eb b o hb q) f0 f1 f3 f4 f5
 self:=λA i s Q E st h=>by
  let⟨⟨old,he⟩,hi⟩:=st;calc q2d he h
section
variable{X:Cx}{elts:-l}{x1:Nat}{tp:y}{tg:l}
def R1(K:My)(ta:TA):TI:=fun σ H R=>ta σ H λvs H1=>∃a,vs=[.ref a]/\(((∃xs,bT K H1 a xs)/\R (tY K a) H1)\/((∃xs,bZ K H1 a xs)/\R (wj K a) H1))
theorem R3{a:υ}{ta:TA}{p pos:y}(hg:Gl X "enumerate")(hm:X.mg "enumerate" = Z)(ha:JA X [a] ta)(hs:starEach [a] X.env=[(ι,eval a X.env)]:=by rfl):
  JI X (.Tuple elts x1 tp) (.Call (.Name "enumerate" p) [a] [] pos) (R1 X.K ta):=by
 calc⟨?_⟩;ext pins s σ H R I h;calc Call_ (oA I hg hm ID (q1w (bL (ha pos pins s σ H _ I h) λus s1 ⟨vs,H1,I1,r1,q1⟩=>?_) hs Y));let⟨l,e,q⟩:=q1;subst e;let⟨u,rfl,rx⟩:=vals1 r1;cases rx
 let fp:∀b∈[⇑s1+1,⇑s1],b_ X pins H1 b:=λb hb=>by
  let hb':⇑s1<=b:=by
   rcases Qu.mp hb with rfl|hb
   .exact q3C _
   .let z:b=⇑s1:=by simpa using hb
    rw[z];exact Im _
  exact I1.hZ hb' (I1.bu.fresh hb')
 rcases q with⟨⟨xs,hq⟩,q⟩|⟨⟨xs,hq⟩,q⟩
 .let⟨aA,rv,p,hz⟩:=I1.list hq
  calc q5E p.isList λh' he hi hsz hk=>?_;let I2:Inv X pins σ H1 {s1 with heap:=h'}:=I1.kept (t':=s1.toks) hk;calc q2d he ?_;exact⟨_,_,_,_,H1,Y,I2,IC l (⇑s1+1) ⇑s1 (q4H _),⟨⟨_,he⟩,hi⟩,fp,q⟩
 .let⟨aA,rv,p,hz⟩:=I1.tuple hq
  let yH:l<⇑s1:=by let⟨o,e,_⟩:=p;exact q0a e
  calc RW p λh' he hi hsz hk=>?_;let I2:Inv X pins σ H1 {s1 with heap:=h'}:=I1.kept (t':=s1.toks) hk;calc q2d he ?_;calc⟨_,_,_,_,H1,Y,I2,RZ l (⇑s1+1) ⇑s1 (q4H _) (q0g (q0O yH)) (q0g yH),⟨⟨_,he⟩,hi⟩,fp,q⟩
def Cu(K:My)(tl:TE):TI:=fun σ H R=>tl σ H λx H1=>∃a,x=.ref a/\(((∃xs,bT K H1 a xs)/\R (Ht K a) H1)\/((∃xs,bZ K H1 a xs)/\R (Hu K a) H1))
theorem Jk{l:υ}{tl:TE}(hl:JE X l tl):JI X tg l (Cu X.K tl):=by
 calc⟨?_⟩;ext pins s σ H R I h;calc bL (hl pins s σ H _ I h) λv s1 ⟨x,H1,I1,r1,q1⟩=>?_;let⟨a,e,q⟩:=q1;subst e;cases r1
 let fp:∀b∈[⇑s1],b_ X pins H1 b:=λb hb=>by
  let e:b=⇑s1:=by simpa using hb
  subst e;exact I1.hZ (Im _) (I1.bu.fresh (Im _))
 rcases q with⟨⟨xs,hq⟩,q⟩|⟨⟨xs,hq⟩,q⟩
 .let⟨aA,rv,p,hz⟩:=I1.list hq
  exact q15 p.isList ⟨⇑s1,[⇑s1],_,_,H1,Y,I1.kept (t':=s1.toks) λb o e=>yd _ e,OZ a _,⟨_,q0c _ Y,Y,Y⟩,fp,q⟩
 .let⟨aA,rv,p,hz⟩:=I1.tuple hq
  calc q2o (show s1.heap.IsTuple a aA.toArray from p) ⟨⇑s1,[⇑s1],_,_,H1,Y,I1.kept (t':=s1.toks) λb o e=>yd _ e,O0 a _,⟨_,q0c _ Y,Y,Y⟩,fp,q⟩
end
variable[bf]
noncomputable def dw(lo:Int)(n:Nat):-D:=(q0C n).map λi:Nat=>D.int (lo+i)
noncomputable def jA:Nat->-D->-D
 |_,[]=>[]
 |i,d::r=>.tup [.int i,d]::jA (i+1) r
noncomputable def df:-D->-D->-D
 |a::r,b::s=>.tup [a,b]::df r s
 |_,_=>[]
def qR(x:DV)(δ:aN)(K:oU->Prop):Prop:=match x with
 |.p (.lst ds)=>K ⟨ds,λ_=>True⟩
 |.p (.tup ds)=>K ⟨ds,λ_=>True⟩
 |.o k=>match δ.mu[k]? with
  |some (some (.lst ds))=>K ⟨ds,fun δ'=>δ'.mu[k]?=U (U (.lst ds))⟩
  |some (some (.al a ds))=>K ⟨ds,fun δ'=>δ'.mu[k]?=U (U (.al a ds))⟩
  |_=>False
 |_=>False
def cq(f:WE):WI:=fun δ K=>f δ λx δ1=>qR x δ1 λit=>K it δ1
def mK(fa:WA):WI:=fun δ K=>fa δ λxs δ1=>match xs with
 |[.p (.int j)]=>(-(2 ^ 62)<=j/\j<2 ^ 62)/\K ⟨dw 0 j.toNat,λ_=>True⟩ δ1
 |_=>False
def Cv(fa:WA):WI:=fun δ K=>fa δ λxs δ1=>match xs with
 |[.p (.int i),.p (.int j)]=>(-(2 ^ 62)<=i/\i<2 ^ 62 /\ -(2 ^ 62)<=j/\j<2 ^ 62)/\K ⟨dw i (j-i).toNat,λ_=>True⟩ δ1
 |_=>False
def i_(fa:WA):WI:=fun δ K=>fa δ λxs δ1=>match xs with
 |[x]=>qR x δ1 λit=>K ⟨jA 0 it.items,it.b9⟩ δ1
 |_=>False
def Cw(x:DV)(δ:aN)(K:oU->Prop):Prop:=match x with
 |.p (.lst ds)=>K ⟨ds,λ_=>True⟩
 |.o k=>match δ.mu[k]? with
  |some (some (.lst ds))=>K ⟨ds,fun δ'=>δ'.mu[k]?=U (U (.lst ds))⟩
  |some (some (.al a ds))=>K ⟨ds,fun δ'=>δ'.mu[k]?=U (U (.al a ds))⟩
  |_=>False
 |_=>False
theorem o8{lo:Int}{n i:Nat}{d:D}(h:(dw lo n)[i]?=U d):i<n/\d=.int (lo+i):=by
 unfold dw at h;rw[Qw] at h;let⟨j,e,rfl⟩:=q0f.mp h;let hj:=(Il.mp e).1;rw[q07] at hj;rw[q2f hj] at e;cases e
 calc⟨hj,Y⟩
theorem n8(lo:Int)(n:Nat):↑(dw lo n)=n:=by unfold dw;rw[BE,q07]
theorem o9:∀(ds:-D)(i:Nat),↑(jA i ds)=↑ds
 |[],_=>Y
 |d::r,i=>by rw[jA,Ip,Ip,o9 r]
theorem o_:∀{ds:-D}{k i:Nat}{d:D},(jA k ds)[i]?=U d->∃e,ds[i]?=U e/\d=.tup [.int ((k+i:Nat):Int),e]
 |[],k,i,d,h=>by simp[jA] at h
 |e::r,k,0,d,h=>by
  cases(show U (D.tup [.int (k:Nat),e])=U d by simpa[jA] using h)
  exact⟨e,Y,Y⟩
 |e::r,k,i+1,d,h=>by
  let⟨e',h1,h2⟩:=o_ (ds:=r) (k:=k+1) (i:=i) (d:=d) (by simpa[jA] using h);calc⟨e',by simpa using h1,by rw[h2];congr 4;symm⟩
theorem Jl:∀{as bs:-D}{i:Nat}{d:D},(df as bs)[i]?=U d->∃a b,as[i]?=U a/\bs[i]?=U b/\d=.tup [a,b]
 |[],_,i,d,h=>by simp[df] at h
 |_::_,[],i,d,h=>by simp[df] at h
 |a::r,b::s,0,d,h=>by
  cases(show U (D.tup [a,b])=U d by simpa[df] using h)
  exact⟨a,b,Y,Y,Y⟩
 |a::r,b::s,i+1,d,h=>by
  let⟨x,y,h1,h2,h3⟩:=Jl (as:=r) (bs:=s) (i:=i) (d:=d) (by simpa[df] using h);calc⟨x,y,by simpa using h1,by simpa using h2,h3⟩
theorem yI:∀(as bs:-D),↑(df as bs)=min ↑as bs.length
 |[],_=>by simp[df]
 |_::_,[]=>by simp[df]
 |a::r,b::s=>by rw[df,Ip,Ip,Ip,yI r s];symm
section
variable{X:Cx}{tg l a b:υ}{f:WE}{fa:WA}{F H:Hp}{ad:-O}{δ:aN}{σ:St}
theorem JI.weak{iter:υ}{w w':TI}(h:JI X tg iter w)(k:∀σ H R,w' σ H R->w σ H R):JI X tg iter w':=⟨λpins s σ H R I q=>h pins s σ H R I (k σ H R q)⟩
theorem qT{ds:-D}{vs:-V}(h:ai F ds vs){i:Nat}{d:D}(e:ds[i]?=U d):∃v,vs[i]?=U v/\Is F d v:=by
 let hl:=↑h;let hi:i<↑vs:=by rw[hl];exact(Il.mp e).1
 let⟨d',e1,h1⟩:=h.get (vD hi);rw[e] at e1;cases e1;calc⟨_,vD hi,h1⟩
theorem Jo{x:DV}{v:V}{K:oU->Prop}(S:SR F ad δ σ H)(V1:dG F ad x v)(h:Cw x δ K):∃a it,v=.ref a/\K it/\(∃vs,H a=U (.lst vs)) ∧
  ∀(F':Hp)(aL:-O)(δ':aN)(σ':St)(H':Hp),bc F F'->(∀(k:Nat)(a:O),ad[k]?=U a->aL[k]?=U a)->SR F' aL δ' σ' H'->it.b9 δ'->∃vs,H' a=U (.lst vs)/\ai F' it.items vs:=by
 unfold Cw at h;split at h
 .rename_i ds
  let V2:Is F (.lst ds) v:=V1;erw[Is] at V2;let⟨a,vs,rfl,h1,h2⟩:=V2;exact⟨a,_,Y,h,⟨vs,S.sub _ _ h1⟩,λF' aL δ' σ' H' s _ S' _=>⟨vs,S'.sub _ _ (s _ _ h1),h2.same s⟩⟩
 .rename_i k
  split at h
  .rename_i ds e
   let⟨a,e1,rfl⟩:=V1;let⟨a',o,e2,e3,vs,rfl,h4⟩:=S.mu k _ e;rw[e1] at e2;cases e2;calc⟨a,_,Y,h,⟨vs,e3⟩,λF' aL δ' σ' H' _ pre S' ck=>?_⟩;let⟨R4,o,e5,e6,ws,rfl,h7⟩:=S'.mu k _ ck;rw[pre k a e1] at e5;cases e5;exact⟨ws,e6,h7⟩
  .rename_i b ds e
   let⟨a,e1,rfl⟩:=V1;let⟨a',o,e2,e3,z,vs,rfl,h4⟩:=S.mu k _ e;rw[e1] at e2;cases e2;calc⟨a,_,Y,h,⟨vs,e3⟩,λF' aL δ' σ' H' _ pre S' ck=>?_⟩;let⟨R4,o,e5,e6,_,ws,rfl,h7⟩:=S'.mu k _ ck;rw[pre k a e1] at e5;cases e5;exact⟨ws,e6,h7⟩
  .exact h.elim
 .calc h.elim
theorem Cy{x:DV}{v:V}{K:oU->Prop}(S:SR F ad δ σ H)(V1:dG F ad x v)(h:qR x δ K):∃a it,v=.ref a/\K it ∧
  (((∃vs,H a=U (.lst vs))/\∀(F':Hp)(aL:-O)(δ':aN)(σ':St)(H':Hp),bc F F'->(∀(k:Nat)(a:O),ad[k]?=U a->aL[k]?=U a)->SR F' aL δ' σ' H'->it.b9 δ'->∃vs,H' a=U (.lst vs)/\ai F' it.items vs) ∨
  ((∃vs,H a=U (.tup vs))/\∀(F':Hp)(aL:-O)(δ':aN)(σ':St)(H':Hp),bc F F'->(∀(k:Nat)(a:O),ad[k]?=U a->aL[k]?=U a)->SR F' aL δ' σ' H'->it.b9 δ'->∃vs,H' a=U (.tup vs)/\ai F' it.items vs)):=by
 unfold qR at h;split at h
 .rename_i ds
  let⟨a,it,e,k,r⟩:=Jo (x:=.p (.lst ds)) S V1 h;exact⟨a,it,e,k,.inl r⟩
 .rename_i ds
  let V2:Is F (.tup ds) v:=V1;erw[Is] at V2;let⟨a,vs,rfl,h1,h2⟩:=V2;exact⟨a,_,Y,h,.inr ⟨⟨vs,S.sub _ _ h1⟩,λF' aL δ' σ' H' s _ S' _=>⟨vs,S'.sub _ _ (s _ _ h1),h2.same s⟩⟩⟩
 .rename_i k
  let⟨a,it,e,k,r⟩:=Jo (x:=.o k) S V1 h;exact⟨a,it,e,k,.inl r⟩
 .calc h.elim
theorem uk(hl:JE X l (tD f)):JI X tg l (kz (cq f)):=(Jk hl).weak fun σ H R ⟨F,ad,δ,K,S,q,k⟩=>⟨F,ad,δ,_,S,q,λx δ1 h1 v F1 bp H1 E1 S1 V1=>by
 let⟨a,it,rfl,hk,r⟩:=Cy S1 V1 h1;calc⟨a,Y,?_⟩;rcases r with⟨⟨vs,e⟩,r⟩|⟨⟨vs,e⟩,r⟩
 .refine .inl ⟨⟨vs,bT.of e⟩,k _ _ hk _ _ _ _ E1 S1 λF' aL δ' σ' H' s pre S' ck=>?_⟩
  let⟨ws,e1,e2⟩:=r F' aL δ' σ' H' s pre S' ck;calc⟨⟨ws,bT.of e1,by rw[↑e2];calc Im _⟩,λi d ed=>?_⟩;let⟨w,e3,e4⟩:=qT e2 ed;calc⟨⟨ws,w,bT.of e1,e3⟩,λy lL ⟨eh,hy⟩=>?_⟩;subst eh;calc⟨λ_ _ e=>e,?_⟩;let:=hy ws (bT.of e1);rw[e3] at this;cases this;rw[Nw.refl S'.sub];exact e4
 .refine .inr ⟨⟨vs,bZ.of e⟩,k _ _ hk _ _ _ _ E1 S1 λF' aL δ' σ' H' s pre S' ck=>?_⟩
  let⟨ws,e1,e2⟩:=r F' aL δ' σ' H' s pre S' ck;calc⟨⟨ws,bZ.of e1,by rw[↑e2];calc Im _⟩,λi d ed=>?_⟩;let⟨w,e3,e4⟩:=qT e2 ed;calc⟨⟨ws,w,bZ.of e1,e3⟩,λy lL ⟨eh,hy⟩=>?_⟩;subst eh;calc⟨λ_ _ e=>e,?_⟩;let:=hy ws (bZ.of e1);rw[e3] at this;cases this
  rw[Nw.refl S'.sub];calc e4⟩
theorem Cz{F H:Hp}{T:O}{d e:D}{x y:V}(s:bc F H)(hT:H T=Z)(h1:Is F d x)(h2:Is F e y):Is (Nw F H (upd H T (.tup [x,y]))) (.tup [d,e]) (.ref T):=by
 rw[Nw.upd s hT]
 let hF:F T=Z:=by
  cases q:F T with
  |none=>rfl
  |some u=>rw[s T u q] at hT;cases hT
 let sm:bc F (upd F T (.tup [x,y])):=cK hF;erw[Is];calc⟨T,_,Y,cA,.cons (h1.same sm) (.cons (h2.same sm) .nil)⟩
theorem yJ{elts:-υ}{x1:Nat}{tp p pos:Ε}(hg:Gl X "enumerate")(hm:X.mg "enumerate" = Z)(ha:JA X [a] (cy fa))(hs:starEach [a] X.env=[(ι,eval a X.env)]:=by rfl):
  JI X (.Tuple elts x1 tp) (.Call (.Name "enumerate" p) [a] [] pos) (kz (i_ fa)):=(R3 hg hm ha hs).weak fun σ H R ⟨F,ad,δ,K,S,q,k⟩=>⟨F,ad,δ,_,S,q,λxs δ1 h1 vs F1 bp H1 E1 S1 V1=>by
 match xs,h1,V1 with
 |[x],g1,⟨v,r,e,W1,W2⟩ =>
  subst e;let W3:r=[]:=W2;subst W3;let⟨a,it,rfl,hk,r⟩:=Cy S1 W1 g1;calc⟨a,Y,?_⟩;rcases r with⟨⟨vs,e⟩,r⟩|⟨⟨vs,e⟩,r⟩
  .refine .inl ⟨⟨vs,bT.of e⟩,k _ _ hk _ _ _ _ E1 S1 λF' aL δ' σ' H' s pre S' ck=>?_⟩
   let⟨ws,e1,e2⟩:=r F' aL δ' σ' H' s pre S' ck;calc⟨⟨ws,bT.of e1,by rw[↑e2,o9];calc Im _⟩,λi d ed=>?_⟩;let⟨d',CA,rfl⟩:=o_ ed;let⟨w,e3,e4⟩:=qT e2 CA;calc⟨⟨ws,w,bT.of e1,e3⟩,λy lL ⟨T,v,ey,hT,eh,hy⟩=>?_⟩;subst eh ey;let:=hy ws (bT.of e1);rw[e3] at this;cases this;calc⟨cK hT,?_⟩;rw[q0G];exact Cz S'.sub hT Y e4
  .refine .inr ⟨⟨vs,bZ.of e⟩,k _ _ hk _ _ _ _ E1 S1 λF' aL δ' σ' H' s pre S' ck=>?_⟩
   let⟨ws,e1,e2⟩:=r F' aL δ' σ' H' s pre S' ck;calc⟨⟨ws,bZ.of e1,by rw[↑e2,o9]⟩,λi d ed=>?_⟩;let⟨d',CA,rfl⟩:=o_ ed;let⟨w,e3,e4⟩:=qT e2 CA;calc⟨⟨ws,w,bZ.of e1,e3⟩,λy lL ⟨T,v,ey,hT,eh,hy⟩=>?_⟩;subst eh ey;let:=hy ws (bZ.of e1);rw[e3] at this;cases this;calc⟨cK hT,?_⟩;rw[q0G];exact Cz S'.sub hT Y e4
 |[],h1,_=>exact h1.elim
 |_::_::_,h1,_=>calc h1.elim⟩
theorem Jp{F1:Hp}{bp:-O}{lo:Int}{n:Nat}:sD F1 bp ⟨dw lo n,λ_=>True⟩ (vi lo n):=λF' aL δ' σ' H' s pre S' _=>by
 calc⟨by show n<=↑(dw lo n);rw[n8];calc Im _,λi d ed=>?_⟩;let⟨hi,rfl⟩:=o8 ed;calc⟨hi,λx lL ⟨eh,ex⟩=>?_⟩;subst eh ex;calc⟨λ_ _ e=>e,Y⟩
theorem yK{p pos:y}(hg:Gl X "range")(hm:X.mg "range" = Z)(ha:JA X [a] (cy fa))(hs:starEach [a] X.env=[(ι,eval a X.env)]:=by rfl):JI X tg (.Call (.Name "range" p) [a] [] pos) (kz (mK fa)) :=
 (O5 hg hm ha hs).weak fun σ H R ⟨F,ad,δ,K,S,q,k⟩↦⟨F,ad,δ,_,S,q,λxs δ1 h1 vs F1 bp H1 E1 S1 V1=>by
  split at h1
  .rename_i j
   let⟨v,r,e,V1,V2⟩:=V1;let V2:r=[]:=V2;let V1:v=.int j:=V1;subst V2 V1 e;exact⟨j,Y,h1.1.1,h1.1.2,k _ _ h1.2 _ _ _ _ E1 S1 Jp⟩
  .calc h1.elim⟩
theorem R5{p pos:y}(hg:Gl X "range")(hm:X.mg "range" = Z)(ha:JA X [a,b] (cy fa))(hs:starEach [a,b] X.env=[(ι,eval a X.env),(ι,eval b X.env)]:=by rfl)(eV:starEach [b] X.env=[(ι,eval b X.env)]:=by rfl):
  JI X tg (.Call (.Name "range" p) [a,b] [] pos) (kz (Cv fa)) :=
 (O6 hg hm ha hs eV).weak fun σ H R ⟨F,ad,δ,K,S,q,k⟩↦⟨F,ad,δ,_,S,q,λxs δ1 h1 vs F1 bp H1 E1 S1 V1=>by
  split at h1
  .rename_i i j
   let⟨v,r,e,V1,w,r2,e2,V2,V3⟩:=V1;let V3:r2=[]:=V3;let V1:v=.int i:=V1;let V2:w=.int j:=V2;subst V3 V1 V2 e2 e;exact⟨i,j,Y,h1.1,k _ _ h1.2 _ _ _ _ E1 S1 Jp⟩
  .calc h1.elim⟩
end
end L2
namespace L2
open PySem PySem.Spec PyProof.Rows
mutual
noncomputable def dEq:D->D->Bool
 |.non,.non=>θ
 |.bl a,.bl b=>a==b
 |.bl a,.int b=>(if a then 1 else 0)==b
 |.int a,.bl b=>a==(if b then 1 else 0)
 |.int a,.int b=>a==b
 |.str a,.str b=>a==b
 |.tup a,.tup b=>dy a b
 |.lst a,.lst b=>dy a b
 |_,_=>ι
noncomputable def dy:-D->-D->Bool
 |[],[]=>θ
 |a::r,b::s=>dEq a b&&dy r s
 |_,_=>ι
end
mutual
theorem gN:∀d:D,dEq d d=θ
 |.non=>by simp[dEq]
 |.bl a=>by simp[dEq]
 |.int a=>by simp[dEq]
 |.str a=>by simp[dEq]
 |.tup a=>by erw[dEq];exact CB a
 |.lst a=>by erw[dEq];calc CB a
theorem CB:∀ds:-D,dy ds ds=θ
 |[]=>by simp[dy]
 |d::r=>by erw[dy,gN d,CB r,q7Q]
end
mutual
theorem Is.inj {H:Hp}:∀{d e:D}{v:V},Is H d v->Is H e v->d=e
 |.non,e,v,h,q=>by cases e<;>erw[Is] at h q<;>first|rfl|(subst h;first|(let⟨_,_,z,_⟩:=q;cases z;done)|(cases q;done)|(cases q;rfl))
 |.bl a,e,v,h,q=>by cases e<;>erw[Is] at h q<;>(subst h;first|(let⟨_,_,z,_⟩:=q;cases z;done)|(cases q;done)|(cases q;rfl))
 |.int a,e,v,h,q=>by cases e<;>erw[Is] at h q<;>(subst h;first|(let⟨_,_,z,_⟩:=q;cases z;done)|(cases q;done)|(cases q;rfl))
 |.str a,e,v,h,q=>by cases e<;>erw[Is] at h q<;>(subst h;first|(let⟨_,_,z,_⟩:=q;cases z;done)|(cases q;done)|(cases q;rfl))
 |.tup a,e,v,h,q=>by
  erw[Is] at h;let⟨p,vs,rfl,h1,h2⟩:=h
  cases e with
  |tup b =>
   erw[Is] at q;let⟨p',ws,z,q1,q2⟩:=q;cases z
   rw[h1] at q1;cases q1;rw[ai.inj h2 q2]
  |lst b =>
   erw[Is] at q;let⟨p',ws,z,q1,q2⟩:=q;cases z
   rw[h1] at q1;cases q1
  |non=>erw[Is] at q;cases q
  |bl _=>erw[Is] at q;cases q
  |int _=>erw[Is] at q;cases q
  |str _=>erw[Is] at q;cases q
 |.lst a,e,v,h,q=>by
  erw[Is] at h;let⟨p,vs,rfl,h1,h2⟩:=h
  cases e with
  |lst b =>
   erw[Is] at q;let⟨p',ws,z,q1,q2⟩:=q;cases z
   rw[h1] at q1;cases q1;rw[ai.inj h2 q2]
  |tup b =>
   erw[Is] at q;let⟨p',ws,z,q1,q2⟩:=q;cases z
   rw[h1] at q1;cases q1
  |non=>erw[Is] at q;cases q
  |bl _=>erw[Is] at q;cases q
  |int _=>erw[Is] at q;cases q
  |str _=>erw[Is] at q;cases q
theorem ai.inj {H:Hp}:∀{ds es:-D}{vs:-V},ai H ds vs->ai H es vs->ds=es
 |[],es,vs,h,q=>by
  erw[ai] at h;subst h
  cases es with
  |nil=>rfl
  |cons _ _=>erw[ai] at q;let⟨_,_,z,_⟩:=q;cases z
 |d::ds,es,vs,h,q=>by
  erw[ai] at h;let⟨v,r,rfl,h1,h2⟩:=h
  cases es with
  |nil=>erw[ai] at q;cases q
  |cons e es =>
   erw[ai] at q;let⟨v',r',z,q1,q2⟩:=q;cases z
   rw[Is.inj h1 q1,ai.inj h2 q2]
end
theorem wk:∀{ds es:-D},↑ds≠↑es->dy ds es=ι
 |[],[],h=>absurd Y h
 |[],_::_,_=>by simp[dy]
 |_::_,[],_=>by simp[dy]
 |d::r,e::s,h=>by erw[dy];rw[wk (λz=>h (by rw[Ip,Ip,z])),q7q]
noncomputable def sG(ds es:-D)(j:Nat):Bool:=match ds[j]?,es[j]? with
 |some a,some b=>dEq a b
 |_,_=>θ
theorem wm:∀{ds es:-D},↑ds=↑es->(q0C ↑ds).all (sG ds es)=dy ds es
 |[],[],_=>by simp[dy]
 |[],_::_,h=>by simp at h
 |_::_,[],h=>by simp at h
 |d::r,e::s,h=>by
  let ih:=wm (ds:=r) (es:=s) h⁻¹;rw[Ip,List.range_succ_eq_map,List.all_cons,List.all_map];erw[dy];rw[<-ih];rfl
section
variable{X:Cx}{pins:aM}{σ:St}{H:Hp}{s:B}
theorem wo{vs:-V}{aA:-L}(r:Vals vs aA){j:Nat}(h:j<aA.toArray.size):∃v,vs[j]?=U v/\RelV v aA.toArray[j]:=by
 let hj:j<↑aA:=by simpa using h
 let hv:j<↑vs:=by rw[↑r];exact hj
 let⟨u,e,ru⟩:=r.get (vD hv)
 let:aA.toArray[j]=u:=by
  let:=(Il.mp e).2;simpa using this
 rw[this];calc⟨_,vD hv,ru⟩
theorem d_(I:Inv X pins σ H s){a:O}{vs:-V}(h:H a=U (.lst vs)):∃aA:-L,Vals vs aA/\s.heap.IsList a aA.toArray:=by
 let⟨aA,r,p,_⟩:=I.list (bT.of h);calc⟨aA,r,p.isList⟩
theorem eg(I:Inv X pins σ H s){a:O}{vs:-V}(h:H a=U (.tup vs)):∃aA:-L,Vals vs aA/\s.heap.IsTuple a aA.toArray:=by
 let⟨aA,r,p,_⟩:=I.tuple (bZ.of h);calc⟨aA,r,p⟩
theorem in1_units(A:o):A.in1.units=A.units+1:=rfl
theorem CD(I:Inv X pins σ H s):∀(n:Nat){A:o}{d e:D}{v u:V}{x y:L},dep d<=n->A.units+n<cLine->Is H d v->Is H e u->RelV v x->RelV u y->q4S A s x y (dEq d e)/\q7u A s x y (dEq d e):=by
 ext n
 induction n with
 |zero =>
  ext A d e v u x y hd hu hv hw rv ru;let nz:A.units<cLine:=by symm
  cases d with
  |tup ds=>simp[dep] at hd
  |lst ds=>simp[dep] at hd
  |non =>
   cases(show v=.non from hv);cases rv
   cases e with
   |non=>cases(show u=.non from hw);cases ru;erw[dEq];exact⟨q49 _,SeqAt.RcAt.none_none⟩
   |bl b=>cases(show u=.bl b from hw);cases ru;erw[dEq];exact⟨SeqAt.EqAt.none_bool _,SeqAt.RcAt.none_bool _⟩
   |int b=>cases(show u=.int b from hw);let⟨t,rfl⟩:=ru;erw[dEq];exact⟨SeqAt.EqAt.none_int _ _,SeqAt.RcAt.none_int _ _⟩
   |str b=>cases(show u=.str b from hw);let⟨t,rfl⟩:=ru;erw[dEq];exact⟨SeqAt.EqAt.none_str _ _,SeqAt.RcAt.none_str _ _⟩
   |tup es=>erw[Is] at hw;let⟨a,vs,rfl,h1,_⟩:=hw;cases ru;let⟨_,_,p⟩:=eg I h1;erw[dEq];exact⟨SeqAt.EqAt.none_tuple p nz,SeqAt.RcAt.none_tuple p nz⟩
   |lst es=>erw[Is] at hw;let⟨a,vs,rfl,h1,_⟩:=hw;cases ru;let⟨_,_,p⟩:=d_ I h1;erw[dEq];exact⟨SeqAt.EqAt.none_list p nz,SeqAt.RcAt.none_list p nz⟩
  |bl b0 =>
   cases(show v=.bl b0 from hv);cases rv
   cases e with
   |non=>cases(show u=.non from hw);cases ru;erw[dEq];exact⟨SeqAt.EqAt.bool_none _,SeqAt.RcAt.bool_none _⟩
   |bl b=>cases(show u=.bl b from hw);cases ru;erw[dEq];exact⟨SeqAt.EqAt.bool_bool _ _,SeqAt.RcAt.bool_bool _ _⟩
   |int b=>cases(show u=.int b from hw);let⟨t,rfl⟩:=ru;erw[dEq];exact⟨SeqAt.EqAt.bool_int _ _ _,SeqAt.RcAt.bool_int _ _ _⟩
   |str b=>cases(show u=.str b from hw);let⟨t,rfl⟩:=ru;erw[dEq];exact⟨SeqAt.EqAt.bool_str _ _ _,SeqAt.RcAt.bool_str _ _ _⟩
   |tup es=>erw[Is] at hw;let⟨a,vs,rfl,h1,_⟩:=hw;cases ru;let⟨_,_,p⟩:=eg I h1;erw[dEq];exact⟨SeqAt.EqAt.bool_tuple _ p nz,SeqAt.RcAt.bool_tuple _ p nz⟩
   |lst es=>erw[Is] at hw;let⟨a,vs,rfl,h1,_⟩:=hw;cases ru;let⟨_,_,p⟩:=d_ I h1;erw[dEq];exact⟨SeqAt.EqAt.bool_list _ p nz,SeqAt.RcAt.bool_list _ p nz⟩
  |int b0 =>
   cases(show v=.int b0 from hv);let⟨t0,rfl⟩:=rv
   cases e with
   |non=>cases(show u=.non from hw);cases ru;erw[dEq];exact⟨SeqAt.EqAt.int_none _ _,SeqAt.RcAt.int_none _ _⟩
   |bl b=>cases(show u=.bl b from hw);cases ru;erw[dEq];exact⟨SeqAt.EqAt.int_bool _ _ _,SeqAt.RcAt.int_bool _ _ _⟩
   |int b=>cases(show u=.int b from hw);let⟨t,rfl⟩:=ru;erw[dEq];exact⟨q50 _ _ _ _,SeqAt.RcAt.int_int _ _ _ _⟩
   |str b=>cases(show u=.str b from hw);let⟨t,rfl⟩:=ru;erw[dEq];exact⟨q5X _ _ _ _,SeqAt.RcAt.int_str _ _ _ _⟩
   |tup es=>erw[Is] at hw;let⟨a,vs,rfl,h1,_⟩:=hw;cases ru;let⟨_,_,p⟩:=eg I h1;erw[dEq];exact⟨SeqAt.EqAt.int_tuple _ _ p nz,SeqAt.RcAt.int_tuple _ _ p nz⟩
   |lst es=>erw[Is] at hw;let⟨a,vs,rfl,h1,_⟩:=hw;cases ru;let⟨_,_,p⟩:=d_ I h1;erw[dEq];exact⟨SeqAt.EqAt.int_list _ _ p nz,SeqAt.RcAt.int_list _ _ p nz⟩
  |str b0 =>
   cases(show v=.str b0 from hv);let⟨t0,rfl⟩:=rv
   cases e with
   |non=>cases(show u=.non from hw);cases ru;erw[dEq];exact⟨SeqAt.EqAt.str_none _ _,SeqAt.RcAt.str_none _ _⟩
   |bl b=>cases(show u=.bl b from hw);cases ru;erw[dEq];exact⟨SeqAt.EqAt.str_bool _ _ _,SeqAt.RcAt.str_bool _ _ _⟩
   |int b=>cases(show u=.int b from hw);let⟨t,rfl⟩:=ru;erw[dEq];exact⟨q5Y _ _ _ _,SeqAt.RcAt.str_int _ _ _ _⟩
   |str b=>cases(show u=.str b from hw);let⟨t,rfl⟩:=ru;erw[dEq];exact⟨SeqAt.EqAt.str_str _ _ _ _,SeqAt.RcAt.str_str _ _ _ _⟩
   |tup es=>erw[Is] at hw;let⟨a,vs,rfl,h1,_⟩:=hw;cases ru;let⟨_,_,p⟩:=eg I h1;erw[dEq];exact⟨SeqAt.EqAt.str_tuple _ _ p nz,SeqAt.RcAt.str_tuple _ _ p nz⟩
   |lst es=>erw[Is] at hw;let⟨a,vs,rfl,h1,_⟩:=hw;cases ru;let⟨_,_,p⟩:=d_ I h1;erw[dEq];exact⟨SeqAt.EqAt.str_list _ _ p nz,SeqAt.RcAt.str_list _ _ p nz⟩
 |succ n ih =>
  ext A d e v u x y hd hu hv hw rv ru;let nz:A.units<cLine:=by symm
  let step:∀{ds es:-D}{vs us:-V}{aA bO:-L}(r1:Vals vs aA)(r2:Vals us bO),bV ds<=n->ai H ds vs->ai H es us →
    ∀(j:Nat)(h1:j<aA.toArray.size)(h2:j<bO.toArray.size),q4S A.in1 s aA.toArray[j] bO.toArray[j] (sG ds es j):=λ{ds es vs us aA bO} r1 r2 hl i1 i2 j h1 h2=>by
   let⟨v1,e1,q1⟩:=wo r1 h1;let⟨v2,e2,q2⟩:=wo r2 h2;let⟨d1,f1,g1⟩:=i1.get e1;let⟨d2,f2,g2⟩:=i2.get e2;unfold sG;rw[f1,f2];exact(ih (q0B (BS f1) hl) (by rw[in1_units];symm) g1 g2 q1 q2).1
  cases d with
  |tup ds =>
   let hl:bV ds<=n:=by erw[dep] at hd;symm
   let CF:=hv;erw[Is] at hv;let⟨a,vs,rfl,h1,i1⟩:=hv;cases rv
   let⟨aA,r1,p1⟩:=eg I h1
   cases e with
   |tup es =>
    let CG:=hw;erw[Is] at hw;let⟨b,us,rfl,h2,i2⟩:=hw;cases ru
    let⟨bO,r2,p2⟩:=eg I h2
    let rc:q7u A s (.ref a) (.ref b) (dEq (.tup ds) (.tup es)):=by
     let:=SeqAt.RcAt.tuples p1 p2 nz (step r1 r2 hl i1 i2);let l1:aA.toArray.size=↑ds:=by rw[Qt,<-↑r1,↑i1]
     let l2:bO.toArray.size=↑es:=by rw[Qt,<-↑r2,↑i2]
     rw[l1,l2] at this
     let eb:((q0C (min ↑ds ↑es)).all (sG ds es)&&↑ds==↑es)=dEq (.tup ds) (.tup es):=by
      erw[dEq]
      by_cases c:↑ds=↑es
      .rw[<-c,q6t,wm c];simp
      .rw[wk c];simp[c]
     rw[eb] at this;exact this
    refine⟨?_,rc⟩
    by_cases c:a=b
    .subst c
     let:=Is.inj CF CG;rw[this,gN];exact q49 _
    .exact q52 c rc
   |lst es =>
    erw[Is] at hw;let⟨b,us,rfl,h2,i2⟩:=hw;cases ru
    let⟨bO,r2,p2⟩:=d_ I h2;erw[dEq];exact⟨SeqAt.EqAt.tuple_list p1 p2 nz,SeqAt.RcAt.tuple_list p1 p2 nz⟩
   |non=>cases(show u=.non from hw);cases ru;erw[dEq];exact⟨SeqAt.EqAt.tuple_none p1 nz,SeqAt.RcAt.tuple_none p1 nz⟩
   |bl b=>cases(show u=.bl b from hw);cases ru;erw[dEq];exact⟨SeqAt.EqAt.tuple_bool _ p1 nz,SeqAt.RcAt.tuple_bool _ p1 nz⟩
   |int b=>cases(show u=.int b from hw);let⟨t,rfl⟩:=ru;erw[dEq];exact⟨SeqAt.EqAt.tuple_int _ _ p1 nz,SeqAt.RcAt.tuple_int _ _ p1 nz⟩
   |str b=>cases(show u=.str b from hw);let⟨t,rfl⟩:=ru;erw[dEq];exact⟨SeqAt.EqAt.tuple_str _ _ p1 nz,SeqAt.RcAt.tuple_str _ _ p1 nz⟩
  |lst ds =>
   let hl:bV ds<=n:=by erw[dep] at hd;symm
   let CF:=hv;erw[Is] at hv;let⟨a,vs,rfl,h1,i1⟩:=hv;cases rv
   let⟨aA,r1,p1⟩:=d_ I h1
   cases e with
   |lst es =>
    let CG:=hw;erw[Is] at hw;let⟨b,us,rfl,h2,i2⟩:=hw;cases ru
    let⟨bO,r2,p2⟩:=d_ I h2;let l1:aA.toArray.size=↑ds:=by rw[Qt,<-↑r1,↑i1]
    let l2:bO.toArray.size=↑es:=by rw[Qt,<-↑r2,↑i2]
    let rc:q7u A s (.ref a) (.ref b) (dEq (.lst ds) (.lst es)):=by
     by_cases c:↑ds=↑es
     .let:=SeqAt.RcAt.lists p1 p2 (by rw[l1,l2];calc c) nz (step r1 r2 hl i1 i2)
      rw[l1,wm c] at this;erw[dEq];exact this
     .erw[dEq];rw[wk c]
      exact SeqAt.RcAt.lists_lengths p1 p2 (by rw[l1,l2];simpa using c) nz
    refine⟨?_,rc⟩
    by_cases c:a=b
    .subst c
     let:=Is.inj CF CG;rw[this,gN];exact q49 _
    .exact q52 c rc
   |tup es =>
    erw[Is] at hw;let⟨b,us,rfl,h2,i2⟩:=hw;cases ru
    let⟨bO,r2,p2⟩:=eg I h2;erw[dEq];exact⟨SeqAt.EqAt.list_tuple p1 p2 nz,SeqAt.RcAt.list_tuple p1 p2 nz⟩
   |non=>cases(show u=.non from hw);cases ru;erw[dEq];exact⟨SeqAt.EqAt.list_none p1 nz,SeqAt.RcAt.list_none p1 nz⟩
   |bl b=>cases(show u=.bl b from hw);cases ru;erw[dEq];exact⟨SeqAt.EqAt.list_bool _ p1 nz,SeqAt.RcAt.list_bool _ p1 nz⟩
   |int b=>cases(show u=.int b from hw);let⟨t,rfl⟩:=ru;erw[dEq];exact⟨SeqAt.EqAt.list_int _ _ p1 nz,SeqAt.RcAt.list_int _ _ p1 nz⟩
   |str b=>cases(show u=.str b from hw);let⟨t,rfl⟩:=ru;erw[dEq];exact⟨SeqAt.EqAt.list_str _ _ p1 nz,SeqAt.RcAt.list_str _ _ p1 nz⟩
  |non=>exact ih (by simp[dep]) ⋯ hv hw rv ru
  |bl b0=>exact ih (by simp[dep]) ⋯ hv hw rv ru
  |int b0=>exact ih (by simp[dep]) ⋯ hv hw rv ru
  |str b0=>calc ih (by simp[dep]) ⋯ hv hw rv ru
theorem R6(I:Inv X pins σ H s){A:o}{d e:D}{v u:V}{x y:L}(hd:dep d<=60)(hu:A.units+61<cLine)(hv:Is H d v)(hw:Is H e u)(rv:RelV v x)(ru:RelV u y):SeqAt.RcNeAt A s x y (!dEq d e):=by
 let nz:A.units<cLine:=by symm
 let step:∀{ds es:-D}{vs us:-V}{aA bO:-L}(r1:Vals vs aA)(r2:Vals us bO),bV ds<=59->ai H ds vs->ai H es us →
   ∀(j:Nat)(h1:j<aA.toArray.size)(h2:j<bO.toArray.size),q4S A.in1 s aA.toArray[j] bO.toArray[j] (sG ds es j):=λ{ds es vs us aA bO} r1 r2 hl i1 i2 j h1 h2=>by
  let⟨v1,e1,q1⟩:=wo r1 h1;let⟨v2,e2,q2⟩:=wo r2 h2;let⟨d1,f1,g1⟩:=i1.get e1;let⟨d2,f2,g2⟩:=i2.get e2;unfold sG;rw[f1,f2];exact(CD I 59 (q0B (BS f1) hl) (by rw[in1_units];symm) g1 g2 q1 q2).1
 cases d with
 |tup ds =>
  let hl:bV ds<=59:=by erw[dep] at hd;symm
  erw[Is] at hv;let⟨a,vs,rfl,h1,i1⟩:=hv;cases rv
  let⟨aA,r1,p1⟩:=eg I h1
  cases e with
  |tup es =>
   erw[Is] at hw;let⟨b,us,rfl,h2,i2⟩:=hw;cases ru
   let⟨bO,r2,p2⟩:=eg I h2;let:=SeqAt.RcNeAt.tuples p1 p2 nz (step r1 r2 hl i1 i2);let l1:aA.toArray.size=↑ds:=by rw[Qt,<-↑r1,↑i1]
   let l2:bO.toArray.size=↑es:=by rw[Qt,<-↑r2,↑i2]
   rw[l1,l2] at this
   let eb:((q0C (min ↑ds ↑es)).all (sG ds es)&&↑ds==↑es)=dEq (.tup ds) (.tup es):=by
    erw[dEq]
    by_cases c:↑ds=↑es
    .rw[<-c,q6t,wm c];simp
    .rw[wk c];simp[c]
   rw[eb] at this;exact this
  |lst es=>erw[Is] at hw;let⟨b,us,rfl,h2,i2⟩:=hw;cases ru;let⟨bO,r2,p2⟩:=d_ I h2;erw[dEq];exact SeqAt.RcNeAt.tuple_list p1 p2 nz
  |non=>cases(show u=.non from hw);cases ru;erw[dEq];exact SeqAt.RcNeAt.tuple_none p1 nz
  |bl b=>cases(show u=.bl b from hw);cases ru;erw[dEq];exact SeqAt.RcNeAt.tuple_bool _ p1 nz
  |int b=>cases(show u=.int b from hw);let⟨t,rfl⟩:=ru;erw[dEq];exact SeqAt.RcNeAt.tuple_int _ _ p1 nz
  |str b=>cases(show u=.str b from hw);let⟨t,rfl⟩:=ru;erw[dEq];exact SeqAt.RcNeAt.tuple_str _ _ p1 nz
 |lst ds =>
  let hl:bV ds<=59:=by erw[dep] at hd;symm
  erw[Is] at hv;let⟨a,vs,rfl,h1,i1⟩:=hv;cases rv
  let⟨aA,r1,p1⟩:=d_ I h1
  cases e with
  |lst es =>
   erw[Is] at hw;let⟨b,us,rfl,h2,i2⟩:=hw;cases ru
   let⟨bO,r2,p2⟩:=d_ I h2;let l1:aA.toArray.size=↑ds:=by rw[Qt,<-↑r1,↑i1]
   let l2:bO.toArray.size=↑es:=by rw[Qt,<-↑r2,↑i2]
   by_cases c:↑ds=↑es
   .let:=SeqAt.RcNeAt.lists p1 p2 (by rw[l1,l2];calc c) nz (step r1 r2 hl i1 i2)
    rw[l1,wm c] at this;erw[dEq];exact this
   .erw[dEq];rw[wk c]
    exact SeqAt.RcNeAt.lists_lengths p1 p2 (by rw[l1,l2];simpa using c) nz
  |tup es=>erw[Is] at hw;let⟨b,us,rfl,h2,i2⟩:=hw;cases ru;let⟨bO,r2,p2⟩:=eg I h2;erw[dEq];exact SeqAt.RcNeAt.list_tuple p1 p2 nz
  |non=>cases(show u=.non from hw);cases ru;erw[dEq];exact SeqAt.RcNeAt.list_none p1 nz
  |bl b=>cases(show u=.bl b from hw);cases ru;erw[dEq];exact SeqAt.RcNeAt.list_bool _ p1 nz
  |int b=>cases(show u=.int b from hw);let⟨t,rfl⟩:=ru;erw[dEq];exact SeqAt.RcNeAt.list_int _ _ p1 nz
  |str b=>cases(show u=.str b from hw);let⟨t,rfl⟩:=ru;erw[dEq];exact SeqAt.RcNeAt.list_str _ _ p1 nz
 |non =>
  cases(show v=.non from hv);cases rv
  cases e with
  |non=>cases(show u=.non from hw);cases ru;erw[dEq];exact SeqAt.RcNeAt.none_none
  |bl b=>cases(show u=.bl b from hw);cases ru;erw[dEq];exact SeqAt.RcNeAt.none_bool _
  |int b=>cases(show u=.int b from hw);let⟨t,rfl⟩:=ru;erw[dEq];exact SeqAt.RcNeAt.none_int _ _
  |str b=>cases(show u=.str b from hw);let⟨t,rfl⟩:=ru;erw[dEq];exact SeqAt.RcNeAt.none_str _ _
  |tup es=>erw[Is] at hw;let⟨a,vs,rfl,h1,_⟩:=hw;cases ru;let⟨_,_,p⟩:=eg I h1;erw[dEq];exact SeqAt.RcNeAt.none_tuple p nz
  |lst es=>erw[Is] at hw;let⟨a,vs,rfl,h1,_⟩:=hw;cases ru;let⟨_,_,p⟩:=d_ I h1;erw[dEq];exact SeqAt.RcNeAt.none_list p nz
 |bl b0 =>
  cases(show v=.bl b0 from hv);cases rv
  cases e with
  |non=>cases(show u=.non from hw);cases ru;erw[dEq];exact SeqAt.RcNeAt.bool_none _
  |bl b=>cases(show u=.bl b from hw);cases ru;erw[dEq];exact SeqAt.RcNeAt.bool_bool _ _
  |int b=>cases(show u=.int b from hw);let⟨t,rfl⟩:=ru;erw[dEq];exact SeqAt.RcNeAt.bool_int _ _ _
  |str b=>cases(show u=.str b from hw);let⟨t,rfl⟩:=ru;erw[dEq];exact SeqAt.RcNeAt.bool_str _ _ _
  |tup es=>erw[Is] at hw;let⟨a,vs,rfl,h1,_⟩:=hw;cases ru;let⟨_,_,p⟩:=eg I h1;erw[dEq];exact SeqAt.RcNeAt.bool_tuple _ p nz
  |lst es=>erw[Is] at hw;let⟨a,vs,rfl,h1,_⟩:=hw;cases ru;let⟨_,_,p⟩:=d_ I h1;erw[dEq];exact SeqAt.RcNeAt.bool_list _ p nz
 |int b0 =>
  cases(show v=.int b0 from hv);let⟨t0,rfl⟩:=rv
  cases e with
  |non=>cases(show u=.non from hw);cases ru;erw[dEq];exact SeqAt.RcNeAt.int_none _ _
  |bl b=>cases(show u=.bl b from hw);cases ru;erw[dEq];exact SeqAt.RcNeAt.int_bool _ _ _
  |int b=>cases(show u=.int b from hw);let⟨t,rfl⟩:=ru;erw[dEq];exact SeqAt.RcNeAt.int_int _ _ _ _
  |str b=>cases(show u=.str b from hw);let⟨t,rfl⟩:=ru;erw[dEq];exact SeqAt.RcNeAt.int_str _ _ _ _
  |tup es=>erw[Is] at hw;let⟨a,vs,rfl,h1,_⟩:=hw;cases ru;let⟨_,_,p⟩:=eg I h1;erw[dEq];exact SeqAt.RcNeAt.int_tuple _ _ p nz
  |lst es=>erw[Is] at hw;let⟨a,vs,rfl,h1,_⟩:=hw;cases ru;let⟨_,_,p⟩:=d_ I h1;erw[dEq];exact SeqAt.RcNeAt.int_list _ _ p nz
 |str b0 =>
  cases(show v=.str b0 from hv);let⟨t0,rfl⟩:=rv
  cases e with
  |non=>cases(show u=.non from hw);cases ru;erw[dEq];exact SeqAt.RcNeAt.str_none _ _
  |bl b=>cases(show u=.bl b from hw);cases ru;erw[dEq];exact SeqAt.RcNeAt.str_bool _ _ _
  |int b=>cases(show u=.int b from hw);let⟨t,rfl⟩:=ru;erw[dEq];exact SeqAt.RcNeAt.str_int _ _ _ _
  |str b=>cases(show u=.str b from hw);let⟨t,rfl⟩:=ru;erw[dEq];exact SeqAt.RcNeAt.str_str _ _ _ _
  |tup es=>erw[Is] at hw;let⟨a,vs,rfl,h1,_⟩:=hw;cases ru;let⟨_,_,p⟩:=eg I h1;erw[dEq];exact SeqAt.RcNeAt.str_tuple _ _ p nz
  |lst es=>erw[Is] at hw;let⟨a,vs,rfl,h1,_⟩:=hw;cases ru;let⟨_,_,p⟩:=d_ I h1;erw[dEq];calc SeqAt.RcNeAt.str_list _ _ p nz
end
variable[bf]
noncomputable def intsOf:-D->Option (-Int)
 |[]=>U []
 |.int i::r=>match intsOf r with
  |some ns=>U (i::ns)
  |none=>Z
 |_=>Z
theorem n9:∀ns:-Int,intsOf (ns.map D.int)=U ns
 |[]=>Y
 |n::r=>by show(match intsOf (r.map D.int) with|some ns=>U (n::ns)|none=>Z)=_;rw[n9 r]
theorem sH:∀{ds:-D}{ns:-Int},intsOf ds=U ns->ds=ns.map D.int
 |[],ns,h=>by cases h;rfl
 |.int i::r,ns,h=>by
  unfold intsOf at h;split at h
  .rename_i ms e;cases h;rw[q0r,sH e]
  .cases h
 |.non::r,ns,h=>by cases h
 |.bl _::r,ns,h=>by cases h
 |.str _::r,ns,h=>by cases h
 |.tup _::r,ns,h=>by cases h
 |.lst _::r,ns,h=>by cases h
theorem pb{F:Hp}:∀{ns:-Int}{vs:-V},ai F (ns.map D.int) vs->vs=ns.map V.int
 |[],vs,h=>by erw[q2b,ai] at h;exact h
 |n::r,vs,h=>by
  erw[q0r,ai] at h;let⟨v,t,rfl,h1,h2⟩:=h;let h1:v=.int n:=h1;rw[pb h2,h1];rfl
theorem um{F:Hp}:∀{ns:-Int},ai F (ns.map D.int) (ns.map V.int)
 |[]=>.nil
 |n::r=>.cons (show _=_ from Y) um
theorem uo{F:Hp}:∀{as bs:-D}{us vs:-V},ai F as us->ai F bs vs->ai F (as++bs) (us++vs)
 |[],bs,us,vs,h,q=>by erw[ai] at h;subst h;exact q
 |a::r,bs,us,vs,h,q=>by
  erw[ai] at h;let⟨v,t,rfl,h1,h2⟩:=h;calc .cons h1 (uo h2 q)
theorem Jq{F:Hp}:∀{as:-D}{us:-V}(n:Nat),ai F as us->ai F (as.take n) (us.take n)
 |as,us,0,_=>by rw[q36,q36];exact .nil
 |[],us,n+1,h=>by erw[ai] at h;subst h;exact .nil
 |a::r,us,n+1,h=>by
  erw[ai] at h;let⟨v,t,rfl,h1,h2⟩:=h;calc .cons h1 (Jq n h2)
theorem Jr{F:Hp}:∀{as:-D}{us:-V}(n:Nat),ai F as us->ai F (as.drop n) (us.drop n)
 |as,us,0,h=>h
 |[],us,n+1,h=>by erw[ai] at h;subst h;exact .nil
 |a::r,us,n+1,h=>by
  erw[ai] at h;let⟨v,t,rfl,h1,h2⟩:=h;calc Jr n h2
theorem Js{F:Hp}:∀{as:-D}{us:-V}(n:Nat){d:D}{v:V},ai F as us->Is F d v->ai F (as.set n d) (us.set n v)
 |[],us,n,d,v,h,_=>by erw[ai] at h;subst h;exact .nil
 |a::r,us,0,d,v,h,q=>by
  erw[ai] at h;let⟨w,t,rfl,h1,h2⟩:=h;exact .cons q h2
 |a::r,us,n+1,d,v,h,q=>by
  erw[ai] at h;let⟨w,t,rfl,h1,h2⟩:=h;calc .cons h1 (Js n h2 q)
theorem Jt{F:Hp}:∀{as:-D}{us:-V}(n:Nat),ai F as us->ai F (as.eraseIdx n) (us.eraseIdx n)
 |[],us,n,h=>by erw[ai] at h;subst h;exact .nil
 |a::r,us,0,h=>by
  erw[ai] at h;let⟨w,t,rfl,h1,h2⟩:=h;exact h2
 |a::r,us,n+1,h=>by
  erw[ai] at h;let⟨w,t,rfl,h1,h2⟩:=h;calc .cons h1 (Jt n h2)
theorem mL{F H:Hp}{p:O}{ds:-D}{vs:-V}(s:bc F H)(hp:H p=Z)(h:ai F ds vs):Is (Nw F H (upd H p (.lst vs))) (.lst ds) (.ref p):=by
 rw[Nw.upd s hp];erw[Is];calc⟨p,vs,Y,cA,h.same (cK (s.free hp))⟩
theorem CH{F H:Hp}{p:O}{ds:-D}{vs:-V}(s:bc F H)(hp:H p=Z)(h:ai F ds vs):Is (Nw F H (upd H p (.tup vs))) (.tup ds) (.ref p):=by
 rw[Nw.upd s hp];erw[Is];calc⟨p,vs,Y,cA,h.same (cK (s.free hp))⟩
theorem wq{F H:Hp}{d:D}{v:V}(s:bc F H)(h:Is F d v):Is (Nw F H H) d v:=by rw[Nw.refl s];calc h
def sI:D->D->(D->Prop)->Prop
 |.int i,.int j,K=>K (.int (i+j))
 |.lst a,.lst b,K=>↑a+↑b<=1000/\K (.lst (a++b))
 |.tup a,.tup b,K=>(a≠[]/\↑a+↑b<=1000)/\K (.tup (a++b))
 |.str a,.str b,K=>↑a+↑b<=1000/\K (.str (a++b))
 |_,_,_=>False
def oI(f:Int->Int->D):D->D->(D->Prop)->Prop
 |.int i,.int j,K=>K (f i j)
 |_,_,_=>False
def ft(C:Int->Int->Prop)(f:Int->Int->D):D->D->(D->Prop)->Prop
 |.int i,.int j,K=>C i j/\K (f i j)
 |_,_,_=>False
def e_:D->D->(D->Prop)->Prop
 |.int i,.int j,K=>kK i j/\K (.int (i*j))
 |.lst a,.int j,K=>(-(2 ^ 63)<=j/\j<2 ^ 63/\↑a*j.toNat<=1000)/\K (.lst (q0h j.toNat a).flatten)
 |_,_,_=>False
section
variable{X:Cx}
theorem yL{f:L->L->Sem L}{g:Int->Int->V}{h:Int->Int->D}(op:eU X f (oC g))(hg:∀F i j,Is F (h i j) (g i j)):fK X f (oI h):=by
 ext pins s σ H x y v u Q I rx ry ⟨F,d,e,K,sub,rd,re,q,md⟩;unfold oI at q;split at q
 .rename_i i j
  exact op pins s σ H x y v u Q I rx ry ⟨i,j,rd,re,md _ _ _ q (λ_ _ e=>e) (hg _ i j)⟩
 .calc q.elim
theorem CI{f:L->L->Sem L}{C:Int->Int->Prop}{g:Int->Int->V}{h:Int->Int->D}(op:eU X f (rI C g))(hg:∀F i j,Is F (h i j) (g i j)):fK X f (ft C h):=by
 ext pins s σ H x y v u Q I rx ry ⟨F,d,e,K,sub,rd,re,q,md⟩;unfold ft at q;split at q
 .rename_i i j
  exact op pins s σ H x y v u Q I rx ry ⟨i,j,rd,re,q.1,md _ _ _ q.2 (λ_ _ e=>e) (hg _ i j)⟩
 .calc q.elim
theorem yM:fK X (binaryOp .Add) sI:=by
 ext pins s σ H x y v u Q I rx ry ⟨F,d,e,K,sub,rd,re,q,md⟩;unfold sI at q;split at q
 .rename_i i j
  exact Hw pins s σ H x y v u Q I rx ry ⟨i,j,rd,re,md _ _ _ q (λ_ _ e=>e) Y⟩
 .rename_i as bs
  let⟨a,us,rfl,h1,h2⟩:=rd;let⟨b,ws,rfl,h3,h4⟩:=re;refine Ij pins s σ H _ _ v u Q I rx ry ⟨a,b,us,ws,Y,Y,h1,h3,kW (by rw[↑h2,↑h4];calc q.1),λp hp=>md _ _ _ q.2 (cK hp) (mL sub hp (uo h2 h4))⟩
 .rename_i as bs
  let dj:Is F (.tup as) x:=rd;let ja:Is F (.tup bs) y:=re;erw[Is] at dj ja;let⟨a,us,rfl,h1,h2⟩:=dj;let⟨b,ws,rfl,h3,h4⟩:=ja;let ne:us≠[]:=λz=>q.1.1 (q1X.mp (by rw[<-↑h2,z];rfl));calc Qf pins s σ H _ _ v u Q I rx ry ⟨a,b,us,ws,Y,Y,bZ.of (sub _ _ h1),bZ.of (sub _ _ h3),ne,kW (by rw[↑h2,↑h4];calc q.1.2),λz=>?_,λz p hp=>md _ _ _ q.2 (cK hp) (CH sub hp (uo h2 h4))⟩;let:bs=[]:=q1X.mp (by rw[<-↑h4,z];rfl);subst this;calc md _ _ _ q.2 (λ_ _ e=>e) (wq sub ?_);rw[oO];exact rd
 .rename_i as bs
  let dj:x=.str as:=rd;let ja:y=.str bs:=re;subst dj ja;exact Pn pins s σ H _ _ v u Q I rx ry ⟨as,bs,Y,Y,kW q.1,md _ _ _ q.2 (λ_ _ e=>e) Y⟩
 .calc q.elim
theorem wt:fK X (binaryOp .Sub) (oI λi j=>.int (i-j)):=yL O8 λ_ _ _=>Y
theorem CJ:fK X (binaryOp .Mult) e_:=by
 ext pins s σ H x y v u Q I rx ry ⟨F,d,e,K,sub,rd,re,q,md⟩;unfold e_ at q;split at q
 .rename_i i j
  exact O9 pins s σ H x y v u Q I rx ry ⟨i,j,rd,re,q.1,md _ _ _ q.2 (λ_ _ e=>e) Y⟩
 .rename_i as j
  let⟨a,us,rfl,h1,h2⟩:=rd;refine Qp pins s σ H _ _ v u Q I rx ry ⟨a,j,us,Y,re,h1,q.1.1,q.1.2.1,kW (by rw[↑h2];calc q.1.2.2),λp hp=>md _ _ _ q.2 (cK hp) (mL sub hp ?_)⟩
  let:∀k:Nat,ai F (q0h k as).flatten (q0h k us).flatten:=λk=>by
   induction k with
   |zero=>exact .nil
   |succ k ih=>rw[q1s,q1s,q2x,q2x];exact uo h2 ih
  exact this _
 .calc q.elim
theorem R7:fK X (binaryOp .Mod) (ft (λ_ j=>0<j) λi j=>.int (i%j)):=CI A9 λ_ _ _=>Y
theorem R8:fK X (binaryOp .Pow) (ft h8 λi j=>.int (i ^ j.toNat)):=CI O_ λ_ _ _=>Y
def oEq:D->D->(D->Prop)->Prop:=λd e K=>dep d<=60/\K (.bl (dEq d e))
def pd:D->D->(D->Prop)->Prop:=λd e K=>dep d<=60/\K (.bl (!dEq d e))
theorem pe(hu:X.A.units+64<cLine):fK X (compareOp .Eq) oEq:=by
 ext pins s σ H x y v u Q I rx ry ⟨F,d,e,K,sub,rd,re,q,md⟩;calc(CD I 60 q.1 ⋯ (rd.is sub) (re.is sub) rx ry).2 _ _ _ _ ⟨.bl _,H,I,Y,md _ _ _ q.2 (λ_ _ e=>e) Y⟩
theorem uq(hu:X.A.units+64<cLine):fK X (compareOp .NotEq) pd:=by
 ext pins s σ H x y v u Q I rx ry ⟨F,d,e,K,sub,rd,re,q,md⟩;calc R6 I q.1 ⋯ (rd.is sub) (re.is sub) rx ry _ _ _ _ ⟨.bl _,H,I,Y,md _ _ _ q.2 (λ_ _ e=>e) Y⟩
def oLt:D->D->(D->Prop)->Prop
 |.int i,.int j,K=>K (.bl (G (i<j)))
 |.tup a,.tup b,K=>match intsOf a,intsOf b with
  |some ns,some ms=>K (.bl (HT.lexLt ns ms))
  |_,_=>False
 |_,_,_=>False
theorem CK(hu:X.A.units+64<cLine):fK X (compareOp .Lt) oLt:=by
 ext pins s σ H x y v u Q I rx ry ⟨F,d,e,K,sub,rd,re,q,md⟩;unfold oLt at q;split at q
 .rename_i i j
  exact Pa pins s σ H x y v u Q I rx ry ⟨i,j,rd,re,md _ _ _ q (λ_ _ e=>e) Y⟩
 .rename_i as bs
  split at q
  .rename_i ns ms e1 e2
   rw[sH e1] at rd;rw[sH e2] at re;let dj:Is F (.tup (ns.map D.int)) x:=rd;let ja:Is F (.tup (ms.map D.int)) y:=re;erw[Is] at dj ja;let⟨a,us,rfl,h1,h2⟩:=dj;let⟨b,ws,rfl,h3,h4⟩:=ja;rw[pb h2] at h1;rw[pb h4] at h3;exact Qd ⋯ pins s σ H _ _ v u Q I rx ry ⟨a,b,ns,ms,Y,Y,bZ.of (sub _ _ h1),bZ.of (sub _ _ h3),md _ _ _ q (λ_ _ e=>e) Y⟩
  .exact q.elim
 .calc q.elim
theorem Ju:fK X (compareOp .LtE) (oI λi j=>.bl (G (i<=j))):=yL Pb λ_ _ _=>Y
theorem Jv:fK X (compareOp .Gt) (oI λi j=>.bl (G (j<i))):=yL Pc λ_ _ _=>Y
theorem R9:fK X (compareOp .GtE) (oI λi j=>.bl (G (j<=i))):=yL Pd λ_ _ _=>Y
def ie:D->D->(D->Prop)->Prop
 |.non,.non,K=>K (.bl θ)
 |.bl _,.non,K=>K (.bl ι)
 |.int _,.non,K=>K (.bl ι)
 |.str _,.non,K=>K (.bl ι)
 |.tup _,.non,K=>K (.bl ι)
 |.lst _,.non,K=>K (.bl ι)
 |_,_,_=>False
theorem Jw{F H:Hp}{d e:D}{x y:V}{K:D->Prop}(rd:kj F H d x)(re:kj F H e y)(q:ie d e K):y=.non/\K (.bl (G (x=.non))):=by
 unfold ie at q;split at q
 .let:x=.non:=rd;let h2:y=.non:=re;subst this;exact⟨h2,q⟩
 .rename_i b;let:x=.bl b:=rd;let h2:y=.non:=re;subst this;exact⟨h2,q⟩
 .rename_i b;let:x=.int b:=rd;let h2:y=.non:=re;subst this;exact⟨h2,q⟩
 .rename_i b;let:x=.str b:=rd;let h2:y=.non:=re;subst this;exact⟨h2,q⟩
 .rename_i b;let rd:Is F (.tup b) x:=rd;erw[Is] at rd;let⟨a,_,rfl,_⟩:=rd;exact⟨re,q⟩
 .rename_i b;let⟨a,_,rfl,_⟩:=rd;exact⟨re,q⟩
 .calc q.elim
def wu:D->D->(D->Prop)->Prop:=λd e K=>ie d e λz=>match z with
 |.bl b=>K (.bl (!b))
 |_=>False
theorem R_:fK X (compareOp .Is) ie:=by
 ext pins s σ H x y v u Q I rx ry ⟨F,d,e,K,sub,rd,re,q,md⟩;let⟨h1,h2⟩:=Jw rd re q;calc Pe pins s σ H x y v u Q I rx ry ⟨h1,md _ _ _ h2 (λ_ _ e=>e) Y⟩
theorem Sa:fK X (compareOp .IsNot) wu:=by
 ext pins s σ H x y v u Q I rx ry ⟨F,d,e,K,sub,rd,re,q,md⟩;let⟨h1,h2⟩:=Jw rd re q;calc Pf pins s σ H x y v u Q I rx ry ⟨h1,md _ _ _ h2 (λ_ _ e=>e) Y⟩
def f6(neg:Bool):D->D->(D->Prop)->Prop
 |d,.lst es,K=>bV es<=55/\K (.bl (if neg then !(es.any λe=>dEq e d) else es.any λe=>dEq e d))
 |d,.tup es,K=>bV es<=55/\K (.bl (if neg then !(es.any λe=>dEq e d) else es.any λe=>dEq e d))
 |_,_,_=>False
noncomputable def jB(H:Hp)(d:D)(u:L):Bool:=by
 classical calc if ∃e v,Is H e v/\RelV v u/\dEq e d=θ then θ else ι
theorem Jx{H:Hp}{d e:D}{v:V}{u:L}(h:Is H e v)(r:RelV v u):jB H d u=dEq e d:=by
 unfold jB;split
 .rename_i z
  let⟨e',v',h',r',q⟩:=z;let:v'=v:=r'.inj r;subst this;rw[Is.inj h h'];exact q.symm
 .rename_i z
  cases q:dEq e d with
  |false=>rfl
  |true=>calc absurd ⟨e,v,h,r,q⟩ z
theorem wx{H:Hp}{d:D}:∀{es:-D}{vs:-V}{us:-L},ai H es vs->Vals vs us->us.any (jB H d)=es.any λe=>dEq e d
 |[],vs,us,h,r=>by erw[ai] at h;subst h;cases r;rfl
 |e::es,vs,us,h,r=>by
  erw[ai] at h;let⟨v,t,rfl,h1,h2⟩:=h
  cases r with
  |cons r1 r2=>rw[q2C,q2C,Jx h1 r1,wx h2 r2]
theorem wy{pins:aM}{σ:St}{H:Hp}{s:B}(I:Inv X pins σ H s){A:o}(hu:A.units+60<cLine){d:D}{x:V}{w:L}(hd:Is H d x)(rd:RelV x w):∀{es:-D}{vs:-V}{us:-L},bV es<=55->ai H es vs->Vals vs us->∀u∈us,q4S A s u w (jB H d u)
 |[],vs,us,_,h,r=>by erw[ai] at h;subst h;cases r;ext u hu;cases hu
 |e::es,vs,us,hp,h,r=>by
  erw[ai] at h;let⟨v,t,rfl,h1,h2⟩:=h;erw[bV] at hp
  cases r with
  |cons r1 r2 =>
   ext u hu';rcases Qu.mp hu' with rfl|hu'
   .rw[Jx h1 r1];exact(CD I 55 ⋯ ⋯ h1 hd r1 rd).1
   .calc wy I hu hd rd ⋯ h2 r2 u hu'
theorem sJ(hu:X.A.units+64<cLine):fK X (compareOp .In) (f6 ι):=by
 ext pins s σ H x y v u Q I rx ry ⟨F,d,e,K,sub,rd,re,q,md⟩;unfold f6 at q;split at q
 .rename_i es
  let⟨a,vs,rfl,h1,h2⟩:=re;cases ry
  let⟨aA,r,p⟩:=d_ I h1;let f_:=h2.same sub;calc SeqAt.in_listAt (jB H d) p (λw hw=>wy I (by rw[in1_units];symm) (rd.is sub) rx q.1 f_ r w hw⁻¹) ⟨.bl _,H,I,Y,?_⟩;rw[show aA.toArray.any (jB H d)=aA.any (jB H d) by simp,wx f_ r];exact md _ _ _ q.2 (λ_ _ e=>e) Y
 .rename_i es
  let ja:Is F (.tup es) y:=re;erw[Is] at ja;let⟨a,vs,rfl,h1,h2⟩:=ja;cases ry
  let⟨aA,r,p⟩:=eg I (sub _ _ h1);let f_:=h2.same sub;calc SeqAt.in_tupleAt (jB H d) p (λw hw=>wy I (by rw[in1_units];symm) (rd.is sub) rx q.1 f_ r w hw⁻¹) ⟨.bl _,H,I,Y,?_⟩;rw[show aA.toArray.any (jB H d)=aA.any (jB H d) by simp,wx f_ r];exact md _ _ _ q.2 (λ_ _ e=>e) Y
 .calc q.elim
theorem yN(hu:X.A.units+64<cLine):fK X (compareOp .NotIn) (f6 θ):=by
 ext pins s σ H x y v u Q I rx ry ⟨F,d,e,K,sub,rd,re,q,md⟩;unfold f6 at q;split at q
 .rename_i es
  let⟨a,vs,rfl,h1,h2⟩:=re;cases ry
  let⟨aA,r,p⟩:=d_ I h1;let f_:=h2.same sub;calc SeqAt.notIn_listAt (jB H d) p (λw hw=>wy I (by rw[in1_units];symm) (rd.is sub) rx q.1 f_ r w hw⁻¹) ⟨.bl _,H,I,Y,?_⟩;rw[show aA.toArray.any (jB H d)=aA.any (jB H d) by simp,wx f_ r];exact md _ _ _ q.2 (λ_ _ e=>e) Y
 .rename_i es
  let ja:Is F (.tup es) y:=re;erw[Is] at ja;let⟨a,vs,rfl,h1,h2⟩:=ja;cases ry
  let⟨aA,r,p⟩:=eg I (sub _ _ h1);let f_:=h2.same sub;calc SeqAt.notIn_tupleAt (jB H d) p (λw hw=>wy I (by rw[in1_units];symm) (rd.is sub) rx q.1 f_ r w hw⁻¹) ⟨.bl _,H,I,Y,?_⟩;rw[show aA.toArray.any (jB H d)=aA.any (jB H d) by simp,wx f_ r];exact md _ _ _ q.2 (λ_ _ e=>e) Y
 .calc q.elim
def bw:D->D->(D->Prop)->Prop
 |.lst ds,.int i,K=>match eK ds i with
  |some d=>K d
  |none=>False
 |.tup ds,.int i,K=>match eK ds i with
  |some d=>K d
  |none=>False
 |.str z,.int i,K=>↑z<=1000/\match eK z.cps.toList i with
  |some c=>K (.str ⟨#[c]⟩)
  |none=>False
 |_,_,_=>False
theorem Jy{F:Hp}{ds:-D}{vs:-V}{i:Int}{d:D}(h:ai F ds vs)(e:eK ds i=U d):∃v,eK vs i=U v/\Is F d v:=by
 unfold eK at e ⊢;rw[↑h]
 cases q:iX ↑ds i with
 |none=>rw[q] at e;cases e
 |some j =>
  rw[q] at e;calc qT h (show ds[j]?=U d from e)
theorem eA:I_ X bw:=by
 ext value slice pins s σ H x y v u Q I rx ry ⟨F,d,e,K,sub,rd,re,q,md⟩ hs;unfold bw at q;split at q
 .rename_i ds i
  split at q
  .rename_i d' e1
   let⟨a,vs,rfl,h1,h2⟩:=rd;let⟨w,e2,h3⟩:=Jy h2 e1;exact h9 value slice pins s σ H _ _ v u Q I rx ry ⟨a,vs,i,w,Y,re,bT.of h1,e2,md _ _ _ q (λ_ _ e=>e) (wq sub h3)⟩ hs
  .exact q.elim
 .rename_i ds i
  split at q
  .rename_i d' e1
   let dj:Is F (.tup ds) x:=rd;erw[Is] at dj;let⟨a,vs,rfl,h1,h2⟩:=dj;let⟨w,e2,h3⟩:=Jy h2 e1;exact mq value slice pins s σ H _ _ v u Q I rx ry ⟨a,vs,i,w,Y,re,bZ.of (sub _ _ h1),e2,md _ _ _ q (λ_ _ e=>e) (wq sub h3)⟩ hs
  .exact q.elim
 .rename_i z i
  let⟨hz,q⟩:=q;split at q
  .rename_i c e1
   let dj:x=.str z:=rd;subst dj;exact HX value slice pins s σ H _ _ v u Q I rx ry ⟨z,i,c,Y,re,kW hz,e1,md _ _ _ q (λ_ _ e=>e) Y⟩ hs
  .exact q.elim
 .calc q.elim
noncomputable def cutD(ds:-D)(lo hi:Option Int):-D:=(ds.drop (HT.bP ↑ds 0 lo)).take (HT.bP ↑ds ↑ds hi-HT.bP ↑ds 0 lo)
theorem Jz{F:Hp}{ds:-D}{vs:-V}(h:ai F ds vs)(lo hi:Option Int):ai F (cutD ds lo hi) (dP vs lo hi):=by
 unfold cutD dP;rw[↑h];calc Jq _ (Jr _ h)
abbrev WO:=aN->(Option Int->aN->Prop)->Prop
def yO(f:WO):TO:=fun σ H Q=>∃F ad δ K,SR F ad δ σ H/\f δ K/\∀o δ',K o δ'->∀F' aL H',Ext F ad δ.mu H F' aL δ'.mu H'->SR F' aL δ' σ H'->Q o H'
def gi:WO:=fun δ K=>K Z δ
def mM(f:WE):WO:=fun δ K=>f δ λx δ1=>match x with
 |.p (.int i)=>K (U i) δ1
 |_=>False
theorem ur:PO X Z (yO gi):=λpins s σ H Q I ⟨F,ad,δ,K,S,q,k⟩↦HS pins s σ H Q I (k _ _ q _ _ _ .refl S)
theorem uu{e:l}{f:WE}(h:JE X e (tD f)):PO X (U e) (yO (mM f)):=λpins s σ H Q I ⟨F,ad,δ,K,S,q,k⟩↦yb h pins s σ H Q I ⟨F,ad,δ,_,S,q,λx δ1 h1 v F1 bp H1 E1 S1 V1=>by
 split at h1
 .rename_i i
  exact⟨i,V1,k _ _ h1 _ _ _ E1 S1⟩
 .calc h1.elim⟩
def CL(f g h:WE)(o o':D->D->(D->Prop)->Prop):WE:=fun δ K=>f δ λx δ1=>g δ1 λy δ2=>jN x δ2 λd=>jN y δ2 λe=>o d e λz=>match z with
 |.bl true=>h δ2 λw δ3=>jN y δ3 λe'=>jN w δ3 λc=>o' e' c λz'=>K (.p z') δ3
 |.bl false=>K (.p (.bl ι)) δ2
 |_=>False
theorem Sb{a b c:l}{f g h:WE}{op rO:CmpOp}{o o':D->D->(D->Prop)->Prop}{pos:Ε}(ho:fK X (compareOp op) o)(l9:fK X (compareOp rO) o')(ha:JE X a (tD f))(hb:JE X b (tD g))(hc:JE X c (tD h))
  (hm:lastMarks [op,rO] [b,c]=ι:=by with_unfolding_all rfl):JE X (.Compare a [op,rO] [b,c] pos) (tD (CL f g h o o')) :=
 (Pl ho l9 ha hb hc hm).weak fun σ H Q ⟨F,ad,δ,K,S,q,k⟩=>by
  calc⟨F,ad,δ,_,S,q,λx δ1 h1 v1 F1 bp H1 E1 S1 V1=>⟨F1,bp,δ1,_,S1,h1,λy δ2 h2 v2 F2 cz H2 E2 S2 V2=>?_⟩⟩;let⟨d,h3,rd⟩:=lM S2 (V1.ext E2) h2;let⟨e,h4,re⟩:=lM S2 V2 h3;calc⟨F2,d,e,_,S2.sub,rd,re,h4,λz v H' hz sm is=>?_⟩;let S3:=S2.al sm;let E3:=Ext.al S2 sm;split at hz
  .refine⟨θ,is,?_⟩
   rw[q0k Y];calc⟨_,cz,δ2,_,S3,hz,λw δ4 h5 v4 F4 uh H4 E4 S4 V4=>?_⟩;let⟨d',h6,yC⟩:=lM S4 ((V2.ext E3).ext E4) h5;let⟨e',h7,Sd⟩:=lM S4 V4 h6;exact⟨F4,d',e',_,S4.sub,yC,Sd,h7,λz v H' hz sm is=>k _ _ hz _ _ _ _ ((((E1.trans E2).trans E3).trans E4).trans (Ext.al S4 sm)) (S4.al sm) is⟩
  .refine⟨ι,is,?_⟩
   rw[q0i q0F];exact k _ _ hz _ _ _ _ ((E1.trans E2).trans E3) S3 Y
  .calc hz.elim
end
noncomputable def sortI(ns:-Int):-Int:=ns.mergeSort λa b=>G (a<=b)
theorem sortI_perm(ns:-Int):(sortI ns).Perm ns:=List.mergeSort_perm ns _
theorem JB(ns:-Int):(sortI ns).Pairwise (· <= ·):=by
 let:=List.pairwise_mergeSort (le:=λa b:Int=>G (a<=b)) (λa b c h1 h2=>by simp at *;symm) (λa b=>by simp;symm) ns;calc this.imp λh=>by simpa using h
theorem JD:∀{as bs:-Int},as.Perm bs->as.Pairwise (· <= ·)->bs.Pairwise (· <= ·)->as=bs
 |[],bs,p,_,_=>p.nil_eq
 |a::as,[],p,_,_=>absurd p.length_eq (by simp)
 |a::as,b::bs,p,s,t=>by
  let e:a=b:=by
   let h1:a<=b:=by
    let hb:b∈a::as:=p.mem_iff.mpr (q0m ..);rcases Qu.mp hb with h|h
    .omega
    .exact (q1y.mp s).1 b h
   let h2:b<=a:=by
    let ha:a∈b::bs:=p.mem_iff.mp (q0m ..);rcases Qu.mp ha with h|h
    .omega
    .exact (q1y.mp t).1 a h
   symm
  subst e;rw[JD (List.perm_cons a |>.mp p) (q1y.mp s).2 (q1y.mp t).2]
theorem yP{as bs:-Int}(p:as.Perm bs)(s:as.Pairwise (· <= ·)):as=sortI bs:=JD (p.trans (sortI_perm bs).symm) s (JB bs)
theorem JH(ns:-Int):↑(sortI ns)=↑ns:=(sortI_perm ns).length_eq
def cw:-D->(D->Prop)->Prop
 |[.lst ds],K=>K (.int ↑ds)
 |[.tup ds],K=>K (.int ↑ds)
 |[.str z],K=>↑z<=1000/\K (.int ↑z)
 |_,_=>False
def wz:-D->(D->Prop)->Prop
 |[.lst ds],K=>K (.lst ds)
 |[.tup ds],K=>K (.lst ds)
 |_,_=>False
def wA:-D->(D->Prop)->Prop
 |[.lst ds],K=>K (.tup ds)
 |[.tup ds],K=>K (.tup ds)
 |_,_=>False
def mN:-D->(D->Prop)->Prop
 |[.lst ds],K=>match intsOf ds with
  |some ns=>↑ns<64/\K (.lst ((sortI ns).map D.int))
  |none=>False
 |_,_=>False
noncomputable def uv:-D->Option (-Bool)
 |[]=>U []
 |.bl b::r=>match uv r with
  |some bs=>U (b::bs)
  |none=>Z
 |_=>Z
theorem JJ:∀bs:-Bool,uv (bs.map D.bl)=U bs
 |[]=>Y
 |n::r=>by show(match uv (r.map D.bl) with|some ns=>U (n::ns)|none=>Z)=_;rw[JJ r]
theorem JK:∀{ds:-D}{bs:-Bool},uv ds=U bs->ds=bs.map D.bl
 |[],ns,h=>by cases h;rfl
 |.bl i::r,ns,h=>by
  unfold uv at h;split at h
  .rename_i ms e;cases h;rw[q0r,JK e]
  .cases h
 |.non::r,ns,h=>by cases h
 |.int _::r,ns,h=>by cases h
 |.str _::r,ns,h=>by cases h
 |.tup _::r,ns,h=>by cases h
 |.lst _::r,ns,h=>by cases h
theorem JL{F:Hp}:∀{bs:-Bool}{vs:-V},ai F (bs.map D.bl) vs->vs=bs.map V.bl
 |[],vs,h=>by erw[q2b,ai] at h;exact h
 |n::r,vs,h=>by
  erw[q0r,ai] at h;let⟨v,t,rfl,h1,h2⟩:=h;let h1:v=.bl n:=h1;rw[JL h2,h1];rfl
def pf:-D->(D->Prop)->Prop
 |[.lst ds],K=>match uv ds with
  |some bs=>K (.bl (bs.all id))
  |none=>False
 |_,_=>False
def wB:-D->(D->Prop)->Prop
 |[.int i,.int j],K=>K (.int (min i j))
 |_,_=>False
def yQ:-D->(D->Prop)->Prop
 |[.int i,.int j],K=>K (.int (max i j))
 |_,_=>False
section
variable{X:Cx}
theorem dj{F H:Hp}{d:D}{xs:-V}(h:jO F H [d] xs):∃v,xs=[v]/\kj F H d v:=by
 let⟨v,r,rfl,h1,h2⟩:=h;let h2:r=[]:=h2;subst h2;calc⟨v,Y,h1⟩
theorem JM{F H:Hp}{d e:D}{xs:-V}(h:jO F H [d,e] xs):∃v w,xs=[v,w]/\kj F H d v/\kj F H e w:=by
 let⟨v,r,rfl,h1,h2⟩:=h;let⟨w,rfl,h3⟩:=dj h2;calc⟨v,w,Y,h1,h3⟩
theorem lR:dQ X (.builtin "len") cw:=by
 ext pins s σ H xs us Q I r ⟨F,ds,K,sub,rd,q,md⟩;unfold cw at q;split at q
 .let⟨v,rfl,a,vs,rfl,h1,h2⟩:=dj rd
  exact HZ pins s σ H _ us Q I r ⟨a,vs,Y,.inl (bT.of h1),by rw[↑h2];calc md _ _ _ q (λ_ _ e=>e) Y⟩
 .rename_i es
  let⟨v,rfl,h⟩:=dj rd;let h:Is F (.tup es) v:=h;erw[Is] at h;let⟨a,vs,rfl,h1,h2⟩:=h;exact HZ pins s σ H _ us Q I r ⟨a,vs,Y,.inr (bZ.of (sub _ _ h1)),by rw[↑h2];calc md _ _ _ q (λ_ _ e=>e) Y⟩
 .rename_i z
  let⟨v,rfl,h⟩:=dj rd;let h:v=.str z:=h;subst h;exact Ql pins s σ H _ us Q I r ⟨z,Y,kW q.1,md _ _ _ q.2 (λ_ _ e=>e) Y⟩
 .calc q.elim
theorem Se:dQ X (.type "list") wz:=by
 ext pins s σ H xs us Q I r ⟨F,ds,K,sub,rd,q,md⟩;unfold wz at q;split at q
 .let⟨v,rfl,a,vs,rfl,h1,h2⟩:=dj rd
  exact vA pins s σ H _ us Q I r ⟨a,vs,Y,.inl (bT.of h1),λl hl=>md _ _ _ q (cK hl) (mL sub hl h2)⟩
 .rename_i es
  let⟨v,rfl,h⟩:=dj rd;let h:Is F (.tup es) v:=h;erw[Is] at h;let⟨a,vs,rfl,h1,h2⟩:=h;exact vA pins s σ H _ us Q I r ⟨a,vs,Y,.inr (bZ.of (sub _ _ h1)),λl hl=>md _ _ _ q (cK hl) (mL sub hl h2)⟩
 .calc q.elim
theorem Sf:dQ X (.type "tuple") wA:=by
 ext pins s σ H xs us Q I r ⟨F,ds,K,sub,rd,q,md⟩;unfold wA at q;split at q
 .let⟨v,rfl,a,vs,rfl,h1,h2⟩:=dj rd
  exact H_ pins s σ H _ us Q I r ⟨a,vs,Y,.inl ⟨bT.of h1,λl hl=>md _ _ _ q (cK hl) (CH sub hl h2)⟩⟩
 .rename_i es
  let⟨v,rfl,h⟩:=dj rd;let h0:Is F (.tup es) v:=h;let h:Is F (.tup es) v:=h;erw[Is] at h;let⟨a,vs,rfl,h1,h2⟩:=h;exact H_ pins s σ H _ us Q I r ⟨a,vs,Y,.inr ⟨bZ.of (sub _ _ h1),md _ _ _ q (λ_ _ e=>e) (wq sub h0)⟩⟩
 .calc q.elim
theorem yR:dQ X (.builtin "sorted") mN:=by
 ext pins s σ H xs us Q I r ⟨F,ds,K,sub,rd,q,md⟩;unfold mN at q;split at q
 .rename_i es
  split at q
  .rename_i ns e
   let⟨v,rfl,a,vs,rfl,h1,h2⟩:=dj rd;rw[sH e] at h2;rw[pb h2] at h1;calc Rz pins s σ H _ us Q I r ⟨a,ns,Y,bT.of h1,q.1,λl dF pm pw hl=>?_⟩;rw[yP pm pw];exact md _ _ _ q.2 (cK hl) (mL sub hl um)
  .exact q.elim
 .calc q.elim
theorem Sg(hc:X.calm=θ):dQ X (.builtin "all") pf:=by
 ext pins s σ H xs us Q I r ⟨F,ds,K,sub,rd,q,md⟩;unfold pf at q;split at q
 .rename_i es
  split at q
  .rename_i bs e
   let⟨v,rfl,a,vs,rfl,h1,h2⟩:=dj rd;rw[JK e] at h2;rw[JL h2] at h1;exact Ru hc pins s σ H _ us Q I r ⟨a,bs,Y,bT.of h1,md _ _ _ q (λ_ _ e=>e) Y⟩
  .exact q.elim
 .calc q.elim
theorem Sh(hc:X.calm=θ):dQ X (.builtin "min") wB:=by
 ext pins s σ H xs us Q I r ⟨F,ds,K,sub,rd,q,md⟩;unfold wB at q;split at q
 .rename_i i j
  let⟨v,w,rfl,h1,h2⟩:=JM rd;let h1:v=.int i:=h1;let h2:w=.int j:=h2;subst h1 h2;calc Pq hc pins s σ H _ us Q I r ⟨i,j,Y,?_⟩;let:(if j<i then j else i)=min i j:=by split<;>symm
  rw[this];exact md _ _ _ q (λ_ _ e=>e) Y
 .calc q.elim
theorem Si(hc:X.calm=θ):dQ X (.builtin "max") yQ:=by
 ext pins s σ H xs us Q I r ⟨F,ds,K,sub,rd,q,md⟩;unfold yQ at q;split at q
 .rename_i i j
  let⟨v,w,rfl,h1,h2⟩:=JM rd;let h1:v=.int i:=h1;let h2:w=.int j:=h2;subst h1 h2;calc Pp hc pins s σ H _ us Q I r ⟨i,j,Y,?_⟩;let:(if j>i then j else i)=max i j:=by split<;>symm
  rw[this];exact md _ _ _ q (λ_ _ e=>e) Y
 .calc q.elim
def yS(fa:WA):WE:=fun δ K=>fa δ λxs δ1=>match xs with
 |[.p (.int j)]=>(0<=j/\j<=1000)/\K (.p (.lst (dw 0 j.toNat))) δ1
 |_=>False
theorem wC(n:Nat):dw 0 n=(cj n).map D.int:=by
 unfold dw cj;rw[q0I];calc q2E λi _=>?_;show D.int (0+(i:Int))=D.int (i:Int);rw[q6s]
theorem Sj{a:υ}{fa:WA}{p1 p2 q1 q2:y}(hc:X.calm=θ)(wD:Gl X "list")(hl:X.mg "list" = Z)(wF:bootBuiltins "list" = U (.type "list"))(wG:Gl X "range")(hr:X.mg "range" = Z)(wH:bootBuiltins "range" = U (.type "range"))(ha:JA X [a] (cy fa))
  (he:starEach [a] X.env=[(ι,eval a X.env)]:=by rfl) (wI:starEach [.Call (.Name "range" p2) [a] [] q2] X.env=[(ι,eval (.Call (.Name "range" p2) [a] [] q2) X.env)]:=by rfl):JE X (.Call (.Name "list" p1) [.Call (.Name "range" p2) [a] [] q2] [] q1) (tD (yS fa)) :=
 (rS (Ry hc) wD hl wF (oR (rS Rx wG hr wH ha (he:=he)) c7) (he:=wI)).weak fun σ H Q ⟨F,ad,δ,K,S,q,k⟩=>⟨F,ad,δ,_,S,q,λxs δ1 h1 vs F1 bp H1 E1 S1 V1=>by
  split at h1
  .rename_i j
   let⟨v,r,e,W1,W2⟩:=V1;let W2:r=[]:=W2;let W1:v=.int j:=W1;subst W2 W1 e;calc⟨j,Y,λrr Sk=>⟨rr,j.toNat,Y,by rw[cA,Int.toNat_of_nonneg h1.1.1],⋯,λl hl=>?_⟩⟩;let s1:bc H1 (upd H1 rr (.rng 0 j)):=cK Sk;let S2:=S1.al s1;let E2:=Ext.al S1 s1;calc k _ _ h1.2 _ _ _ _ ((E1.trans E2).trans (Ext.al S2 (cK hl))) (S2.al (cK hl)) ?_;let:Is (Nw (Nw F1 H1 (upd H1 rr (.rng 0 j))) (upd H1 rr (.rng 0 j)) (upd (upd H1 rr (.rng 0 j)) l (.lst ((cj j.toNat).map V.int)))) (.lst ((cj j.toNat).map D.int)) (.ref l):=mL S2.sub hl um;rw[wC];exact this
  .calc h1.elim⟩
def dz(T:String):D->(D->Prop)->Prop:=λd K=>K (.bl (bK (cY d) T))
theorem jU{T:String}{t:J}{a:l}{f:WE}{p p2 pos:y}(hk:∀d:D,q1l X.K (.type (cY d)) (.type T)=U (bK (cY d) T))(hg:Gl X "isinstance")(hm:X.mg "isinstance" = Z)(Sl:Gl X t)(Sm:X.mg t=Z)(Sn:bootBuiltins t=U (.type T))(ha:JE X a (tD f))
  (vM:t≠"__name__" := by decide) (l4:b7 t:=by decide) (he:starEach [a,.Name t p2] X.env=(ι,eval a X.env)::starEach [.Name t p2] X.env:=by rfl):JE X (.Call (.Name "isinstance" p) [a,.Name t p2] [] pos) (tD (d1 f (dz T))) :=
 (x_ QV hg hm PyProof.Rows.boot_isinstance (kL ha (si (OD Sl Sm Sn (v:=.ty T) Y vM l4) c7) he) (he:=he)).weak fun σ H Q ⟨F,ad,δ,K,S,q,k⟩↦⟨F,ad,δ,_,S,q,λx δ1 h1 v F1 bp H1 E1 S1 V1=>by
  let⟨d,h2,rd⟩:=lM S1 V1 h1
  calc⟨v,.ty T,.type T,.type (cY d),_,Y,Y,Is.ty (rd.is S1.sub),hk d,k _ _ h2 _ _ _ _ E1 S1 Y⟩⟩
theorem CM{K:My}:∀d:D,q1l K (.type (cY d)) (.type "int")=U (bK (cY d) "int"):=λd=>QY _ (vO d)
theorem wJ{K:My}:∀d:D,q1l K (.type (cY d)) (.type "bool")=U (bK (cY d) "bool"):=λd=>QX _ (vO d)
theorem JN{K:My}:∀d:D,q1l K (.type (cY d)) (.type "str")=U (bK (cY d) "str"):=λd=>QZ _ (vO d)
theorem CN{K:My}:∀d:D,q1l K (.type (cY d)) (.type "tuple")=U (bK (cY d) "tuple"):=λd=>kit_tuple _ (vO d)
theorem JO{K:My}:∀d:D,q1l K (.type (cY d)) (.type "list")=U (bK (cY d) "list"):=λd=>Q0 _ (vO d)
def gj(x:DV)(δ:aN)(K:Nat->(-D->OV)->-D->Prop):Prop:=match x with
 |.o k=>match δ.mu[k]? with
  |some (some (.lst ds))=>K k OV.lst ds
  |some (some (.al a ds))=>K k (OV.al a) ds
  |_=>False
 |_=>False
theorem sL{F H:Hp}{ad:-O}{δ:aN}{σ:St}{x:DV}{v:V}{K:Nat->(-D->OV)->-D->Prop}(S:SR F ad δ σ H)(V1:dG F ad x v)(h:gj x δ K):∃k B ds a vs,x=.o k/\K k B ds/\v=.ref a/\ad[k]?=U a/\H a=U (.lst vs)/\ai F ds vs/\δ.mu[k]?=U (U (B ds))/\∀{F' es us},ai F' es us->eN F' a (B es) (.lst us):=by
 unfold gj at h;split at h
 .rename_i k
  split at h
  .rename_i ds e
   let⟨a,e1,rfl⟩:=V1;let⟨a',o,e2,e3,vs,rfl,h4⟩:=S.mu k _ e;rw[e1] at e2;cases e2;exact⟨k,_,ds,a,vs,Y,h,Y,e1,e3,h4,e,λi=>⟨_,Y,i⟩⟩
  .rename_i b ds e
   let⟨a,e1,rfl⟩:=V1;let⟨a',o,e2,e3,z,vs,rfl,h4⟩:=S.mu k _ e;rw[e1] at e2;cases e2;exact⟨k,_,ds,a,vs,Y,h,Y,e1,e3,h4,e,λi=>⟨z,_,Y,i⟩⟩
  .exact h.elim
 .calc h.elim
def ij(f:WE)(fa:WA):WE:=fun δ K=>f δ λx δ1=>gj x δ1 λ_ _ _=>fa δ1 λys δ2=>match ys with
 |[y]=>lN y δ2 λd δ3=>gj x δ3 λk B ds=>↑ds<1000/\K (.p .non) ⟨δ3.sl,δ3.mu.set k (U (B (ds++[d])))⟩
 |_=>False
theorem sM{f:WE}{fa:WA}{K0:My}:∀σ H Q,tD (ij f fa) σ H Q->yc K0 "list" Ie (tD f) (cy fa) σ H Q:=fun σ H Q ⟨F,ad,δ,K,S,q,k⟩=>⟨F,ad,δ,_,S,q,λx δ1 h1 v F1 bp H1 E1 S1 V1=>by
 let⟨k0,B0,JP,a,vs,rfl,h2,rfl,e1,e2,i1,m1,qU⟩:=sL S1 V1 h1;refine⟨.inl ⟨Y,vs,bT.of e2⟩,F1,bp,δ1,_,S1,h2,λys δ2 h3 us F2 cz H2 E2 S2 V2=>?_⟩
 match ys,h3,V2 with
 |[y],g3,⟨u,r,e,W1,W2⟩ =>
  let W3:r=[]:=W2;subst W3 e;let⟨d,δ3,F3,h4,E3,S3,i3⟩:=sy S2 W1 g3;let⟨k1,B,ds,b,ws,ek,h5,eb,e3,e4,i4,m4,wK⟩:=sL (x:=.o k0) S3 ((V1.ext E2).ext E3) h4;cases ek
  let wL:a=b:=by injection eb
  subst wL;let oi:=wK (F':=F3) (i4.snoc i3);calc⟨a,ws,u,Y,Y,e4,qH (by rw[↑i4];symm),?_⟩;exact k _ _ h5.2 _ _ _ _ (((E1.trans E2).trans E3).trans (Ext.put S3 m4 e3)) (S3.put m4 e3 oi) Y
 |[],g3,_=>exact g3.elim
 |_::_::_,g3,_=>calc g3.elim⟩
def ph(f:WE)(fa:WA):WE:=fun δ K=>f δ λx δ1=>gj x δ1 λ_ _ _=>fa δ1 λys δ2=>match ys with
 |[.p (.lst es)]=>gj x δ2 λk B ds=>↑ds+↑es<=1000/\K (.p .non) ⟨δ2.sl,δ2.mu.set k (U (B (ds++es)))⟩
 |_=>False
theorem JQ{f:WE}{fa:WA}{K0:My}:∀σ H Q,tD (ph f fa) σ H Q->yc K0 "list" Ig (tD f) (cy fa) σ H Q:=fun σ H Q ⟨F,ad,δ,K,S,q,k⟩=>⟨F,ad,δ,_,S,q,λx δ1 h1 v F1 bp H1 E1 S1 V1=>by
 let⟨k0,B0,JP,a,vs,rfl,h2,rfl,e1,e2,i1,m1,qU⟩:=sL S1 V1 h1;calc⟨.inl ⟨Y,vs,bT.of e2⟩,F1,bp,δ1,_,S1,h2,λys δ2 h3 us F2 cz H2 E2 S2 V2=>?_⟩;split at h3
 .rename_i es
  let⟨u,r,e,W1,W2⟩:=V2;let W3:r=[]:=W2;let W4:Is F2 (.lst es) u:=W1;erw[Is] at W4;let⟨b,zs,rfl,z1,z2⟩:=W4;subst W3 e;let⟨k1,B,ds,b',ws,ek,h5,eb,e3,e4,i4,m4,wK⟩:=sL (x:=.o k0) S2 (V1.ext E2) h3;cases ek
  let wL:a=b':=by injection eb
  subst wL;let oi:=wK (F':=F2) (uo i4 z2);calc⟨a,b,ws,zs,Y,Y,e4,S2.sub _ _ z1,kW (by rw[↑i4,↑z2];calc h5.1),?_⟩;exact k _ _ h5.2 _ _ _ _ ((E1.trans E2).trans (Ext.put S2 m4 e3)) (S2.put m4 e3 oi) Y
 .calc h3.elim⟩
def CO(f:WE)(fa:WA):WE:=fun δ K=>f δ λx δ1=>gj x δ1 λ_ _ _=>fa δ1 λys δ2=>match ys with
 |[.p (.int i)]=>gj x δ2 λk B ds=>(-(2 ^ 63)<=i/\i<2 ^ 63)/\match seqIndex? i ↑ds with
  |some j=>match ds[j]? with
   |some d=>K (.p d) ⟨δ2.sl,δ2.mu.set k (U (B (ds.eraseIdx j)))⟩
   |none=>False
  |none=>False
 |_=>False
theorem So{f:WE}{fa:WA}{K0:My}:∀σ H Q,tD (CO f fa) σ H Q->yc K0 "list" Ii (tD f) (cy fa) σ H Q:=fun σ H Q ⟨F,ad,δ,K,S,q,k⟩=>⟨F,ad,δ,_,S,q,λx δ1 h1 v F1 bp H1 E1 S1 V1=>by
 let⟨k0,B0,JP,a,vs,rfl,h2,rfl,e1,e2,i1,m1,qU⟩:=sL S1 V1 h1;calc⟨.inl ⟨Y,vs,bT.of e2⟩,F1,bp,δ1,_,S1,h2,λys δ2 h3 us F2 cz H2 E2 S2 V2=>?_⟩;split at h3
 .rename_i i
  let⟨u,r,e,W1,W2⟩:=V2;let W3:r=[]:=W2;let W4:u=.int i:=W1;subst W3 W4 e;let⟨k1,B,ds,b',ws,ek,⟨h5,h6⟩,eb,e3,e4,i4,m4,wK⟩:=sL (x:=.o k0) S2 (V1.ext E2) h3;cases ek
  let wL:a=b':=by injection eb
  subst wL;split at h6
  .rename_i j hj
   split at h6
   .rename_i d hd
    let⟨w,g1,g2⟩:=qT i4 hd;let oi:=wK (F':=F2) (Jt j i4);calc⟨a,ws,i,j,w,Y,Y,e4,h5.1,h5.2,by rw[↑i4];calc hj,g1,?_⟩;exact k _ _ h6 _ _ _ _ ((E1.trans E2).trans (Ext.put S2 m4 e3)) (S2.put m4 e3 oi) g2
   .exact h6.elim
  .exact h6.elim
 .calc h3.elim⟩
def qV(f fo fi:WE):WS:=λK δ=>f δ λx δ1=>fo δ1 λo δ2=>fi δ2 λi δ3=>lN x δ3 λd δ4=>gj o δ4 λk B ds=>match i with
 |.p (.int j)=>match iX ↑ds j with
  |some m=>K.nx ⟨δ4.sl,δ4.mu.set k (U (B (ds.set m d)))⟩
  |none=>False
 |_=>False
theorem JR[kq]{f fo fi:WE}:∀D σ H,dU (qV f fo fi) D σ H->me (tD f) (vh (tD fo) (tD fi) HY) D σ H:=λD σ H ⟨F,ad,δ,K,S,q,k⟩=>⟨F,ad,δ,_,S,q,λx δ1 h1 v F1 bp H1 E1 S1 V1=>⟨F1,bp,δ1,_,S1,h1,λo δ2 h2 ov F2 cz H2 E2 S2 V2=>⟨F2,cz,δ2,_,S2,h2,λi δ3 h3 iv F3 oV H3 E3 S3 V3=>by
 let⟨d,δ4,F4,h4,E4,S4,i4⟩:=sy S3 ((V1.ext E2).ext E3) h3;let⟨k0,B,ds,a,vs,rfl,h5,rfl,e1,e2,i1,m1,qU⟩:=sL S4 ((V2.ext E3).ext E4) h4;split at h5
 .rename_i j
  split at h5
  .rename_i m hm
   let V3:iv=.int j:=V3;subst V3;let oi:=qU (F':=F4) (Js m i1 i4);calc⟨a,vs,j,m,Y,Y,e2,by rw[↑i1];calc hm,?_⟩;exact k.nx _ h5 _ _ _ _ ((((E1.trans E2).trans E3).trans E4).trans (Ext.put S4 m1 e1)) (S4.put m1 e1 oi)
  .exact h5.elim
 .calc h5.elim⟩⟩⟩
end
end L2
namespace L2
open PySem PySem.Spec PyProof.Rows PySem.W
abbrev LK:=-Int
def kle(a b:LK):Prop:=HT.lexLt b a=ι
theorem yT:∀a:LK,HT.lexLt a a=ι
 |[]=>Y
 |x::r=>by rw[HT.oJ,q0k Y];calc yT r
theorem yU:∀{a b:LK},HT.lexLt a b=ι->HT.lexLt b a=ι->a=b
 |[],[],_,_=>Y
 |[],_::_,h,_=>by cases h
 |_::_,[],_,h=>by cases h
 |x::r,y::s,h,q=>by
  rw[HT.oJ] at h q
  by_cases c:x=y
  .subst c
   rw[q0k Y] at h q;rw[yU h q]
  .rw[q0i c] at h
   rw[q0i (λz=>c z.symm)] at q;simp at h q;symm
theorem CP:∀{a b c:LK},HT.lexLt a b=θ->HT.lexLt b c=θ->HT.lexLt a c=θ
 |[],[],_,h,_=>by cases h
 |[],_::_,[],_,q=>by cases q
 |[],_::_,_::_,_,_=>Y
 |_::_,[],_,h,_=>by cases h
 |_::_,_::_,[],_,q=>by cases q
 |x::r,y::s,z::t,h,q=>by
  rw[HT.oJ] at h q ⊢
  by_cases c1:x=y
  .subst c1
   rw[q0k Y] at h
   by_cases c2:x=z
   .subst c2
    rw[q0k Y] at q ⊢;exact CP h q
   .rw[q0i c2] at q ⊢;exact q
  .rw[q0i c1] at h
   by_cases c2:y=z
   .subst c2
    rw[q0i c1];exact h
   .rw[q0i c2] at q
    let h1:x<y:=by simpa using h
    let h2:y<z:=by simpa using q
    rw[q0i ⋯];simp;symm
theorem kle_refl(a:LK):kle a a:=yT a
theorem sN{a b:LK}(h:HT.lexLt a b=θ):kle a b:=by
 unfold kle
 cases q:HT.lexLt b a with
 |false=>rfl
 |true=>let:=CP h q;rw[yT] at this;cases this
theorem kle_trans{a b c:LK}(h1:kle a b)(h2:kle b c):kle a c:=by
 unfold kle at *
 cases q:HT.lexLt c a with
 |false=>rfl
 |true =>
  cases q2:HT.lexLt a b with
  |true=>let:=CP q q2;rw[h2] at this;cases this
  |false =>
   let e:=yU q2 h1;subst e;rw[h2] at q;cases q
theorem JU{a b:LK}(h1:kle a b)(h2:kle b a):a=b:=yU h2 h1
section
variable{n:Nat}{k:Nat->LK}{I:B->Prop}{cmp:Nat->Nat->(Bool->B->Prop)->B->Prop}
def qW(n:Nat)(k:Nat->LK)(I:B->Prop)(cmp:Nat->Nat->(Bool->B->Prop)->B->Prop):Prop :=
 ∀(i j:Nat)(C:Bool->B->Prop)(s:B),i<n->j<n->I s->(∀s',I s'->C (HT.lexLt (k i) (k j)) s')->cmp i j C s
noncomputable def KA(k:Nat->LK)(p:Array Nat)(i:Nat):LK:=k (p.getD i 0)
structure eE(n:Nat)(p:Array Nat):Prop where
 perm:p.Perm (q0C n).toArray
theorem eE.size{p:Array Nat}(h:eE n p):p.size=n:=by let:=h.perm.size_eq;simpa using this
theorem eE.lt{p:Array Nat}(h:eE n p){i:Nat}(hi:i<n):p.getD i 0<n:=by
 let hs:=h.size;let e:p.getD i 0=p[i]:=by simp[q5W,hs,hi]
 rw[e];let:p[i]∈(q0C n).toArray:=(h.perm.mem_iff).mp (Array.getElem_mem _);simpa using this
theorem wM{p q:Array Nat}{i j:Nat}(h:p[i]?=q[j]?):p.getD i 0=q.getD j 0:=by
 rw[q0X,q0X,h]
theorem yV{p:Array Nat}{i j:Nat}(hj:j<=p.size)(t:Nat):KA k (kas_rev p i j) t=if i<=t/\t<j then KA k p (i+j-1-t) else KA k p t:=by
 let e:=getElem?_mirror_all (xs:=p) (i:=i) hj t;unfold KA kas_rev
 by_cases c:i<=t/\t<j
 .rw[q0k c] at e ⊢;rw[wM e]
 .rw[q0i c] at e ⊢;rw[wM e]
theorem Sq{p:Array Nat}{src d:Nat}(hs:src<p.size)(hd:d<=src)(t:Nat):
  KA k (bubble p src d) t=if t=src-d then KA k p src else if src-d<t/\t<=src then KA k p (t-1) else KA k p t:=by
 let e:=getElem?_bubble hs d hd t;unfold KA
 by_cases c:t=src-d
 .rw[q0k c] at e ⊢;rw[wM e]
 .rw[q0i c] at e ⊢
  by_cases c2:src-d<t/\t<=src
  .rw[q0k c2] at e ⊢;rw[wM e]
  .rw[q0i c2] at e ⊢;rw[wM e]
def Up(k:Nat->LK)(p:Array Nat)(m:Nat):Prop:=∀i j,i<=j->j<m->kle (KA k p i) (KA k p j)
def Dn(k:Nat->LK)(p:Array Nat)(m:Nat):Prop:=∀i j,i<=j->j<m->kle (KA k p j) (KA k p i)
theorem Up.snoc{p:Array Nat}{m:Nat}(h:Up k p m)(hm:1<=m)(q:kle (KA k p (m-1)) (KA k p m)):Up k p (m+1):=λi j kZ hj=>by
 by_cases c:j<m
 .exact h i j kZ c
 .let e:j=m:=by symm
  subst e
  by_cases c2:i=j
  .subst c2;exact kle_refl _
  .calc kle_trans (h i (j-1) ⋯ ⋯) q
theorem Dn.snoc{p:Array Nat}{m:Nat}(h:Dn k p m)(hm:1<=m)(q:kle (KA k p m) (KA k p (m-1))):Dn k p (m+1):=λi j kZ hj=>by
 by_cases c:j<m
 .exact h i j kZ c
 .let e:j=m:=by symm
  subst e
  by_cases c2:i=j
  .subst c2;exact kle_refl _
  .calc kle_trans q (h i (j-1) ⋯ ⋯)
theorem Up.one{p:Array Nat}:Up k p 1:=λi j kZ hj=>by
 let:i=j:=by symm
 subst this;calc kle_refl _
theorem Dn.one{p:Array Nat}:Dn k p 1:=λi j kZ hj=>by
 let:i=j:=by symm
 subst this;calc kle_refl _
theorem eE.rev{p:Array Nat}(h:eE n p)(i j:Nat):eE n (kas_rev p i j):=⟨(mirror_perm _ _ _ _).trans h.perm⟩
theorem eE.Sr{p:Array Nat}(h:eE n p)(i j:Nat):eE n (bubble p i j):=⟨(bubble_perm _ _ _).trans h.perm⟩
theorem JV(hc:qW n k I cmp){p:Array Nat}(hp:eE n p):∀(f m:Nat)(s:B)(Q:Nat->B->Prop),1<=m->m+f=n->Up k p m->I s →
  (∀m' s',m<=m'->m'<=n->Up k p m'->I s'->Q m' s')->(kas_asc p f m).kasWp cmp Q s
 |0,m,s,Q,h1,h2,up,hi,fin=>fin m s (Im _) ⋯ up hi
 |f+1,m,s,Q,h1,h2,up,hi,fin=>by
  refine hc _ _ _ s (hp.lt ⋯) (hp.lt ⋯) hi λs' dE=>?_
  cases q:HT.lexLt (k (p.getD m 0)) (k (p.getD (m-1) 0)) with
  |true=>dsimp only;rw[q0k Y];exact fin m s' (Im _) ⋯ up dE
  |false =>
   calc JV hc hp f (m+1) s' Q ⋯ ⋯ (up.snoc h1 q) dE λm' jI a b c d=>fin m' jI ⋯ b c d
def CQ(k:Nat->LK)(p:Array Nat)(m q:Nat):Prop:=∀t,m-(q+1)<=t->t<m->KA k p t=KA k p (m-1)
theorem JX{p:Array Nat}{m q:Nat}(hs:m<=p.size)(hq:q+1<=m)(e:CQ k p m q)(t:Nat):KA k (kas_rev p (m-(q+1)) m) t=KA k p t:=by
 rw[yV hs];split
 .rename_i c
  rw[e _ ⋯ ⋯,e t c.1 c.2]
 .rfl
theorem Dn.congr{p p':Array Nat}{m:Nat}(h:Dn k p m)(e:∀t,KA k p' t=KA k p t):Dn k p' m:=λi j a b=>by rw[e,e];calc h i j a b
theorem yW(hc:qW n k I cmp):∀(f:Nat)(p:Array Nat)(m q:Nat)(s:B)(Q:Array Nat×Nat×Nat->B->Prop),eE n p->1<=m->m+f=n->q+1<=m->Dn k p m->CQ k p m q->I s →
  (∀p' m' q' s',eE n p'->m<=m'->m'<=n->q'+1<=m'->Dn k p' m'->CQ k p' m' q'->I s'->Q (p',m',q') s')->(kas_desc f p m q).kasWp cmp Q s
 |0,p,m,q,s,Q,hp,h1,h2,hq,dn,es,hi,fin=>fin p m q s hp (Im _) ⋯ hq dn es hi
 |f+1,p,m,q,s,Q,hp,h1,h2,hq,dn,es,hi,fin=>by
  calc hc _ _ _ s (hp.lt ⋯) (hp.lt ⋯) hi λs' dE=>?_;let sz:=hp.size
  cases c1:HT.lexLt (k (p.getD m 0)) (k (p.getD (m-1) 0)) with
  |true =>
   let st:kle (KA k p m) (KA k p (m-1)):=sN c1
   by_cases JY:q>0
   .rw[q0k JY]
    let e:=JX (k:=k) (p:=p) (m:=m) (q:=q) ⋯ hq es;calc yW hc f _ (m+1) 0 s' Q (hp.rev _ _) ⋯ ⋯ ⋯ ((dn.snoc h1 st).congr e) (λt a b=>?_) dE λp' m' q' jI a b c d e g i=>fin p' m' q' jI a ⋯ c d e g i;let:t=m+1-1:=by symm
    rw[this]
   .rw[q0i JY]
    calc yW hc f p (m+1) 0 s' Q hp ⋯ ⋯ ⋯ (dn.snoc h1 st) (λt a b=>?_) dE λp' m' q' jI a b c d e g i=>fin p' m' q' jI a ⋯ c d e g i;let:t=m+1-1:=by symm
    rw[this]
  |false =>
   refine hc _ _ _ s' (hp.lt ⋯) (hp.lt ⋯) dE λs2 pz=>?_
   cases c2:HT.lexLt (k (p.getD (m-1) 0)) (k (p.getD m 0)) with
   |true=>dsimp only;rw[q0k Y];exact fin p m q s2 hp (Im _) ⋯ hq dn es pz
   |false =>
    let eq:KA k p m=KA k p (m-1):=yU c1 c2;calc yW hc f p (m+1) (q+1) s2 Q hp ⋯ ⋯ ⋯ (dn.snoc h1 (by rw[eq];calc kle_refl _)) (λt a b=>?_) pz λp' m' q' jI a b c d e g i=>fin p' m' q' jI a ⋯ c d e g i;show KA k p t=KA k p m
    by_cases z:t=m
    .rw[z]
    .rw[es t ⋯ ⋯,eq]
theorem Dn.rev{p:Array Nat}{m:Nat}(h:Dn k p m)(hs:m<=p.size):Up k (kas_rev p 0 m) m:=λi j kZ hj=>by
 rw[yV hs,yV hs,q0k ⟨q06 _,⋯⟩,q0k ⟨q06 _,hj⟩];calc h _ _ ⋯ ⋯
theorem JZ(hc:qW n k I cmp){p:Array Nat}(hp:eE n p){m:Nat}{s:B}{Q:Nat×Array Nat->B->Prop}(h1:1<=m)(hm:m<=n)(dn:Dn k p m)(hi:I s)
  (fin:∀p' m' s',eE n p'->1<=m'->m'<=n->Up k p' m'->I s'->Q (m',p') s'):(kas_tail3 m n p).kasWp cmp Q s:=by
 unfold kas_tail3;rw[KasT.kasWp_bind];let sz:=hp.size;calc JV hc (hp.rev 0 m) (n-m) m s _ h1 ⋯ (dn.rev ⋯) hi λm' s' a b c d=>?_;calc fin _ m' s' (hp.rev 0 m) ⋯ b c d
theorem J0(hc:qW n k I cmp){p:Array Nat}(hp:eE n p){m:Nat}{s:B}{Q:Nat×Array Nat->B->Prop}(h1:1<=m)(hm:m+1<=n)(dn:Dn k p (m+1))(hi:I s)
  (fin:∀p' m' s',eE n p'->1<=m'->m'<=n->Up k p' m'->I s'->Q (m',p') s'):(kas_descPart m n p).kasWp cmp Q s:=by
 unfold kas_descPart;rw[KasT.kasWp_bind];refine yW hc (n-(m+1)) p (m+1) 0 s _ hp ⋯ ⋯ ⋯ dn (λt a b=>?_) hi λp' m' q' s' a b c d e g i=>?_
 .let:t=m+1-1:=by symm
  rw[this]
 .let sz:=a.size
  dsimp only
  by_cases hq:q'>0
  .rw[q0k hq]
   exact JZ hc (a.rev _ _) ⋯ c (e.congr (JX ⋯ d g)) i fin
  .rw[q0i hq]
   calc JZ hc a ⋯ c e i fin
theorem Ss(hc:qW n k I cmp){p:Array Nat}(hp:eE n p){s:B}{Q:Nat×Array Nat->B->Prop}(h1:1<=n)(hi:I s)
  (fin:∀p' m' s',eE n p'->1<=m'->m'<=n->Up k p' m'->I s'->Q (m',p') s'):(kas_count n p).kasWp cmp Q s:=by
 unfold kas_count;rw[KasT.kasWp_bind];let sz:=hp.size
 let key:∀(f m:Nat)(s:B)(Q':Nat->B->Prop),1<=m->m+f=n->Up k p m->I s →
   (∀m' s',m<=m'->m'<=n->Up k p m'->(m'<n->HT.lexLt (KA k p m') (KA k p (m'-1))=θ)->I s'->Q' m' s')->(kas_asc p f m).kasWp cmp Q' s:=by
  ext f
  induction f with
  |zero=>ext m s Q' a b up hi fin;exact fin m s (Im _) ⋯ up (λz=>absurd z ⋯) hi
  |succ f ih =>
   ext m s Q' a b up hi fin;refine hc _ _ _ s (hp.lt ⋯) (hp.lt ⋯) hi λs' dE=>?_
   cases q:HT.lexLt (k (p.getD m 0)) (k (p.getD (m-1) 0)) with
   |true=>dsimp only;rw[q0k Y];exact fin m s' (Im _) ⋯ up (λ_=>q) dE
   |false =>
    exact ih (m+1) s' Q' ⋯ ⋯ (up.snoc a q) dE λm' jI a b c d e=>fin m' jI ⋯ b c d e
 refine key (n-1) 1 s _ (Im _) ⋯ Up.one hi λm s' a b up nx dE=>?_
 by_cases c1:m=n
 .subst c1
  rw[q0k (by simp)];exact fin p m s' hp a (Im _) up dE
 .rw[q0i c1⁻¹]
  let dX:m<n:=by symm
  let nx:=nx dX
  by_cases c2:m>1
  .rw[q0k c2]
   refine hc _ _ _ s' (hp.lt ⋯) (hp.lt ⋯) dE λs2 pz=>?_
   cases q:HT.lexLt (k (p.getD 0 0)) (k (p.getD (m-1) 0)) with
   |true=>dsimp only;exact fin p m s2 hp a b up pz
   |false =>
    let al:∀t,t<m->KA k p t=KA k p (m-1):=λt ht=>by
     refine JU (up t (m-1) ⋯ ⋯) (kle_trans q (up 0 t (q06 _) ht))
    let e:∀t,KA k (kas_rev p 0 m) t=KA k p t:=λt=>by
     rw[yV ⋯];split
     .rename_i c;rw[al _ ⋯,al t c.2]
     .rfl
    calc J0 hc (hp.rev 0 m) ⋯ ⋯ (Dn.congr (p:=p) ?_ e) pz fin;calc Dn.snoc (λi j kZ hj=>?_) ⋯ (sN nx);rw[al i ⋯,al j hj];exact kle_refl _
  .rw[q0i c2]
   let:m=1:=by symm
   subst this;calc J0 hc hp ⋯ ⋯ (Dn.one.snoc (Im _) (sN nx)) dE fin
theorem CS(hc:qW n k I cmp){p:Array Nat}(hp:eE n p){t:Nat}(ht:t<n)(up:Up k p t):∀(f l r:Nat)(s:B)(Q:Nat->B->Prop),l<=r->r<=t->r-l<=f →
  (∀i,i<l->kle (KA k p i) (KA k p t))->(∀i,r<=i->i<t->kle (KA k p t) (KA k p i))->I s →
  (∀l' s',l'<=t->(∀i,i<l'->kle (KA k p i) (KA k p t))->(∀i,l'<=i->i<t->kle (KA k p t) (KA k p i))->I s'->Q l' s')->(kas_place p t f l r).kasWp cmp Q s
 |0,l,r,s,Q,h1,h2,h3,lo,uw,hi,fin=>by
  let:l=r:=by symm
  subst this;exact fin l s h2 lo uw hi
 |f+1,l,r,s,Q,h1,h2,h3,lo,uw,hi,fin=>by
  unfold kas_place
  by_cases c:l ≥ r
  .rw[q0k c]
   let:l=r:=by symm
   subst this;exact fin l s h2 lo uw hi
  .rw[q0i c]
   refine hc _ _ _ s (hp.lt ht) (hp.lt ⋯) hi λs' dE=>?_
   cases q:HT.lexLt (k (p.getD t 0)) (k (p.getD ((l+r) / 2) 0)) with
   |true =>
    calc CS hc hp ht up f l ((l+r) / 2) s' Q ⋯ ⋯ ⋯ lo (λi a b=>?_) dE fin;exact kle_trans (sN q) (up _ _ a b)
   |false =>
    calc CS hc hp ht up f ((l+r) / 2+1) r s' Q ⋯ h2 ⋯ (λi a=>?_) uw dE fin;calc kle_trans (up i ((l+r) / 2) ⋯ ⋯) q
theorem J6(hc:qW n k I cmp):∀(f:Nat)(p:Array Nat)(t:Nat)(s:B)(Q:Array Nat->B->Prop),eE n p->t+f=n->Up k p t->I s →
  (∀p' s',eE n p'->Up k p' n->I s'->Q p' s')->(kas_bin f p t).kasWp cmp Q s
 |0,p,t,s,Q,hp,h2,up,hi,fin=>by
  let:t=n:=by symm
  subst this;exact fin p s hp up hi
 |f+1,p,t,s,Q,hp,h2,up,hi,fin=>by
  unfold kas_bin;rw[KasT.kasWp_bind];let sz:=hp.size;calc CS hc hp ⋯ up t 0 t s _ (q06 _) (Im _) ⋯ (λi a=>absurd a ⋯) (λi a b=>absurd b ⋯) hi λl s' hl lo uw dE=>?_;calc J6 hc f _ (t+1) s' Q (hp.Sr _ _) ⋯ (λi j kZ hj=>?_) dE fin;let kb:=λx=>Sq (k:=k) (p:=p) (src:=t) (d:=t-l) ⋯ ⋯ x;let el:t-(t-l)=l:=by symm
  rw[kb i,kb j,el]
  by_cases c1:i=l
  .subst c1
   rw[q0k Y]
   by_cases c2:j=i
   .rw[q0k c2];exact kle_refl _
   .rw[q0i c2,q0k ⟨⋯,⋯⟩]
    exact uw (j-1) ⋯ ⋯
  .rw[q0i c1]
   by_cases c2:j=l
   .subst c2
    rw[q0k Y,q0i ⋯];exact lo i ⋯
   .rw[q0i c2]
    by_cases c3:l<i/\i<=t
    .rw[q0k c3,q0k ⟨⋯,⋯⟩]
     exact up _ _ ⋯ ⋯
    .rw[q0i c3]
     by_cases c4:l<j/\j<=t
     .rw[q0k c4];exact up _ _ ⋯ ⋯
     .rw[q0i c4];calc up _ _ kZ ⋯
theorem Su(hc:qW n k I cmp){s:B}{Q:Array Nat->B->Prop}(h1:1<=n)(hi:I s)(fin:∀p s',eE n p->Up k p n->I s'->Q p s'):(kas_sort n).kasWp cmp Q s:=by
 unfold kas_sort;rw[KasT.kasWp_bind];refine Ss hc ⟨q68 _⟩ h1 hi λp m s' a b c d e=>?_
 by_cases q:m<n
 .rw[q0k q]
  let:max m 1=m:=by symm
  rw[this];exact J6 hc (n-m) p m s' Q a ⋯ d e fin
 .rw[q0i q]
  let:m=n:=by symm
  subst this;calc fin p s' a d e
end
end L2
namespace L2
open PySem PySem.Spec PyProof.Rows
theorem J7{δ0:aN}{b9:aN->Prop}{g:WG}{b:WS}{K:KS}(I:Nat->aN->Prop):∀(items:-D)(i:Nat)(δ:aN),I i δ →
  (∀j d δ (L:aN->Prop),items[j]?=U d->I (i+j) δ->(∀δ',I (i+j+1) δ'->L δ')->b9 δ/\g (.p d) δ fun δ1=>b {nx:=fun δ2=>L (δ0.trim δ2),ct:=fun δ2=>L (δ0.trim δ2),bk:=K.nx,rt:=K.rt} δ1) →
  (∀δ,I (i+↑items) δ->b9 δ/\K.nx δ)->mI δ0 b9 g b K items δ
 |[],i,δ,h,_,fin=>fin δ h
 |d::r,i,δ,h,st,fin=>by
  unfold mI;calc st 0 d δ (fun δ'=>mI δ0 b9 g b K r δ') Y h fun δ' hi=>?_;refine J7 I r (i+1) _ hi (λj e δ L hj hI hL=>?_) fun δ hI=>?_
  .let e:i+1+j=i+(j+1):=by symm
   rw[e] at hI hL;exact st (j+1) _ δ L hj⁻¹ hI hL
  .exact fin δ (by rw[Ip];let e:i+1+↑r=i+(↑r+1):=by symm
                   rw[e] at hI;calc hI)
theorem mO{δ0:aN}{b9:aN->Prop}{g:WG}{b:WS}{K:KS}{items:-D}{δ:aN}(I:Nat->aN->Prop)(h0:I 0 δ)
  (st:∀j d δ (L:aN->Prop),items[j]?=U d->I j δ->(∀δ',I (j+1) δ'->L δ')->b9 δ/\g (.p d) δ fun δ1=>b {nx:=fun δ2=>L (δ0.trim δ2),ct:=fun δ2=>L (δ0.trim δ2),bk:=K.nx,rt:=K.rt} δ1)
  (fin:∀δ,I ↑items δ->b9 δ/\K.nx δ):mI δ0 b9 g b K items δ :=
 J7 I items 0 δ h0 (λj d δ L hj hI hL=>by rw[q0G] at hI hL;calc st j d δ L hj hI hL) fun δ hI=>by rw[q0G] at hI;calc fin δ hI
def wN(δ0:aN)(b9:aN->Prop)(g:WG)(t:WT)(f:WE)(d:D)(acc:-D)(δ:aN)(L:-D->aN->Prop):Prop :=
 b9 δ/\g (.p d) δ fun δ1=>t δ1 λb δ2=>if b=θ then f δ2 λx δ3=>lN x δ3 λe δ4=>↑acc<1000/\L (acc++[e]) (δ0.trim δ4) else L acc (δ0.trim δ2)
theorem J8{δ0:aN}{b9:aN->Prop}{g:WG}{t:WT}{f:WE}{K:-D->aN->Prop}(I:Nat->-D->aN->Prop):∀(items:-D)(i:Nat)(acc:-D)(δ:aN),I i acc δ →
  (∀j d acc δ (L:-D->aN->Prop),items[j]?=U d->I (i+j) acc δ->(∀fO δ',I (i+j+1) fO δ'->L fO δ')->wN δ0 b9 g t f d acc δ L) →
  (∀acc δ,I (i+↑items) acc δ->b9 δ/\K acc δ)->kA δ0 b9 g t f K items acc δ
 |[],i,acc,δ,h,_,fin=>fin acc δ h
 |d::r,i,acc,δ,h,st,fin=>by
  unfold kA;calc st 0 d acc δ (λfO δ'=>kA δ0 b9 g t f K r fO δ') Y h λfO δ' hi=>?_;refine J8 I r (i+1) fO _ hi (λj e acc δ L hj hI hL=>?_) λacc δ hI=>?_
  .let e:i+1+j=i+(j+1):=by symm
   rw[e] at hI hL;exact st (j+1) _ acc δ L hj⁻¹ hI hL
  .exact fin acc δ (by rw[Ip];let e:i+1+↑r=i+(↑r+1):=by symm
                       rw[e] at hI;calc hI)
theorem CT{δ0:aN}{b9:aN->Prop}{g:WG}{t:WT}{f:WE}{K:-D->aN->Prop}{items:-D}{δ:aN}(I:Nat->-D->aN->Prop)(h0:I 0 [] δ)
  (st:∀j d acc δ (L:-D->aN->Prop),items[j]?=U d->I j acc δ->(∀fO δ',I (j+1) fO δ'->L fO δ')->wN δ0 b9 g t f d acc δ L)
  (fin:∀acc δ,I ↑items acc δ->b9 δ/\K acc δ):kA δ0 b9 g t f K items [] δ :=
 J8 I items 0 [] δ h0 (λj d acc δ L hj hI hL=>by rw[q0G] at hI hL;calc st j d acc δ L hj hI hL) λacc δ hI=>by rw[q0G] at hI;calc fin acc δ hI
theorem k6{δ0:aN}{b9:aN->Prop}{g:WG}{t:WT}{f:WE}{K:-D->aN->Prop}{items:-D}(p:D->Bool)(fn:D->D)(hl:↑items<=1000)(hc:b9 δ0)
  (st:∀d∈items,∀acc (L:-D->aN->Prop),↑acc<1000->(p d=θ->L (acc++[fn d]) δ0)->(p d=ι->L acc δ0)->wN δ0 b9 g t f d acc δ0 L)
  (fin:K ((items.filter p).map fn) δ0):kA δ0 b9 g t f K items [] δ0:=by
 refine CT (λi acc δ=>δ=δ0/\acc=((items.take i).filter p).map fn) ⟨Y,Y⟩ ?_ ?_
 .ext j d acc δ L hj ⟨rfl,rfl⟩ hL
  let dX:=(Il.mp hj).1;let hm:d∈items:=q0S hj
  let hn:↑(((items.take j).filter p).map fn)<1000:=by
   rw[BE];let:=q0P p (items.take j);rw[q0D] at this;symm
  let e:items.take (j+1)=items.take j++[d]:=by rw[q3n,hj];rfl
  refine st d hm _ L hn (λq=>hL _ _ ⟨Y,?_⟩) (λq=>hL _ _ ⟨Y,?_⟩)
  .rw[e,q37,q0w];simp[q9Y,q]
  .rw[e,q37,q0w];simp[q9Y,q]
 .ext acc δ ⟨rfl,rfl⟩
  rw[q1F (Im _)];calc⟨hc,fin⟩
theorem kC{δ0:aN}{b9:aN->Prop}{g:WG}{t:WT}{f:WE}{K:-D->aN->Prop}{items:-D}(fn:D->D)(hl:↑items<=1000)(hc:b9 δ0)
  (st:∀d∈items,∀acc (L:-D->aN->Prop),↑acc<1000->L (acc++[fn d]) δ0->wN δ0 b9 g t f d acc δ0 L)
  (fin:K (items.map fn) δ0):kA δ0 b9 g t f K items [] δ0 :=
 k6 (λ_=>θ) fn hl hc (λd hd acc L ha h _=>st d hd acc L ha (h Y)) (by rw[q5G.mpr λ_ _=>Y];calc fin)
end L2
namespace LJ
open PySem L2
theorem Sv:bootBuiltins "range" = U (.type "range"):=by decide +kernel
theorem Sw:bootBuiltins "max" = U (.builtin "max"):=by decide +kernel
theorem yX:bootBuiltins "min" = U (.builtin "min"):=by decide +kernel
theorem qX:bootBuiltins "sorted" = U (.builtin "sorted"):=by decide +kernel
structure BT(mg:J->Option L):Prop where
 len:mg "len" = Z
 range:mg "range" = Z
 list:mg "list" = Z
 tuple:mg "tuple" = Z
 set:mg "set" = Z
 sorted:mg "sorted" = Z
 min:mg "min" = Z
 max:mg "max" = Z
 sum:mg "sum" = Z
 all:mg "all" = Z
 any:mg "any" = Z
 enumerate:mg "enumerate" = Z
 zip:mg "zip" = Z
 isinstance:mg "isinstance" = Z
 int:mg "int" = Z
 bool:mg "bool" = Z
 str:mg "str" = Z
 repr:mg "repr" = Z
end LJ
namespace L2
open PySem PySem.Spec PyProof.Rows
variable[bf]
def J9(X:Cx)(f:L)(g:-D->(-D->Prop)->Prop):Prop :=
 gZ X f λxs H Q=>∃F ds K,bc F H/\jO F H ds xs/\g ds K/\∀zs vs a,K zs->H a=Z->ai F zs vs->Q (.ref a) (upd H a (.lst vs))
def ux(fa:WA)(op:-D->(-D->Prop)->Prop):WE:=fun δ K=>fa δ λxs δ1=>mD xs δ1 λds=>op ds λzs=>K (.o ↑δ1.mu) ⟨δ1.sl,δ1.mu++[U (.lst zs)]⟩
def uy:-D->(-D->Prop)->Prop
 |[.lst ds],K=>K ds
 |[.tup ds],K=>K ds
 |_,_=>False
section
variable{X:Cx}{fa:WA}{pos:y}
theorem J_{F H:Hp}{ad:-O}{δ:aN}{σ:St}{p:O}(S:SR F ad δ σ H):dG F (ad++[p]) (.o ↑δ.mu) (.ref p) :=
 ⟨p,by rw[<-S.cF,q0b (Im _),q03];rfl,Y⟩
theorem Sx{r:-V->Hp->VK->Prop}{op:-D->(-D->Prop)->Prop}(hr:∀xs H Q,(∃F ds K,bc F H/\jO F H ds xs/\op ds K/\∀zs vs a,K zs->H a=Z->ai F zs vs->Q (.ref a) (upd H a (.lst vs)))->r xs H Q):∀σ H Q,tD (ux fa op) σ H Q->x9 r (cy fa) σ H Q:=by
 ext σ H Q ⟨F,ad,δ,K,S,q,k⟩;calc⟨F,ad,δ,_,S,q,λxs δ1 h1 vs F1 bp H1 E1 S1 V1=>hr _ _ _ ?_⟩;let⟨ds,h2,nW⟩:=vW S1 V1 h1;calc⟨F1,ds,_,S1.sub,nW,h2,λzs us a hz hp is=>?_⟩;let oi:∀{mF},eN F1 mF (.lst zs) (.lst us):=λ{mF}=>⟨us,Y,is⟩;calc k _ _ hz _ _ _ _ (E1.trans (Ext.own S1 hp)) (S1.own hp oi) (J_ S1)
theorem CU{x:J}{p:y}{e:l}{es:-l}{T:String}{o:-D->(-D->Prop)->Prop}(hc:J9 X (.type T) o)(hg:Gl X x)(hm:X.mg x=Z)(hv:bootBuiltins x=U (.type T))(ha:JA X (e::es) (cy fa))(hn:x≠"__name__" := by decide)(c8:b7 x:=by decide)
  (he:cI X e es:=by rfl) (cX:cS X pos es:=by rfl):JE X (.Call (.Name x p) (e::es) [] pos) (tD (ux fa o)) :=
 (rS hc hg hm hv ha hn c8 he cX).weak (Sx λ_ _ _ h=>h)
theorem CV:J9 X (.type "list") uy:=by
 ext pins s σ H xs us Q I r ⟨F,ds,K,sub,rd,q,md⟩;unfold uy at q;split at q
 .let⟨v,rfl,a,vs,rfl,h1,h2⟩:=dj rd
  exact vA pins s σ H _ us Q I r ⟨a,vs,Y,.inl (bT.of h1),λl hl=>md _ _ _ q hl h2⟩
 .rename_i es
  let⟨v,rfl,h⟩:=dj rd;let h:Is F (.tup es) v:=h;erw[Is] at h;let⟨a,vs,rfl,h1,h2⟩:=h;exact vA pins s σ H _ us Q I r ⟨a,vs,Y,.inr (bZ.of (sub _ _ h1)),λl hl=>md _ _ _ q hl h2⟩
 .calc q.elim
def CW(f g:WE):WE:=fun δ K=>f δ λx δ1=>g δ1 λy δ2=>jN x δ2 λd=>jN y δ2 λe=>match d,e with
 |.lst a,.lst b=>↑a+↑b<=1000/\K (.o ↑δ2.mu) ⟨δ2.sl,δ2.mu++[U (.lst (a++b))]⟩
 |_,_=>False
theorem Sy{a b:l}{f g:WE}(ha:JE X a (tD f))(hb:JE X b (tD g)):JE X (.BinOp a .Add b pos) (tD (CW f g)) :=
 (vn Ij ha hb).weak fun σ H Q ⟨F,ad,δ,K,S,q,k⟩↦⟨F,ad,δ,_,S,q,λx δ1 h1 v1 F1 bp H1 E1 S1 V1=>⟨F1,bp,δ1,_,S1,h1,λy δ2 h2 v2 F2 cz H2 E2 S2 V2=>by
  let⟨d,h3,rd⟩:=lM S2 (V1.ext E2) h2;let⟨e,h4,re⟩:=lM S2 V2 h3;split at h4
  .rename_i as bs
   let⟨a,us,rfl,g1,g2⟩:=rd;let⟨b,ws,rfl,g3,g4⟩:=re;let oi:∀{mF},eN F2 mF (.lst (as++bs)) (.lst (us++ws)):=λ{mF}=>⟨_,Y,uo g2 g4⟩;exact⟨a,b,us,ws,Y,Y,g1,g3,kW (by rw[↑g2,↑g4];calc h4.1),λp hp=>k _ _ h4.2 _ _ _ _ ((E1.trans E2).trans (Ext.own S2 hp)) (S2.own hp oi) (J_ S2)⟩
  .calc h4.elim⟩⟩
theorem yY[kq]{st:R}:JS X st (dU ue):=⟨λpins s D σ H I q=>by let⟨F,ad,δ,K,S,q,k⟩:=q;calc q.elim⟩
end
end L2
namespace LJS
open PySem PySem.SetTable PyProof.Rows
section
variable{prog:t}{w:ω}{A:o}{S:O}{ks:-Int}
theorem ints_of:∀{l:-(Int×L)},(∀e∈l,∃k tk,e=(hashInt k,q04 k tk))->IntsAre (l.map (·.2)) (l.map keyOf)
 |[],_=>.nil
 |e::r,h=>by
  let⟨k,tk,rfl⟩:=h e q0m;calc .cons k tk (ints_of λe he=>h e (q0l _ he))
theorem Sz{E:bA}{s:B}{Q:bA}(hh:A.handled=Z)(hS:fw s.heap S (iJ w) ks)(hn:↑ks<64)
  (h:∀(h':I)(tk:Nat)(r:O)(out:Array L)(dF:-Int)(e:Nat),(∀b ob,s.heap.get? b=U ob->h'.get? b=U ob)->⇑s<=r->h'.get? r=U (seqObj "list" out e)->IntsAre out.toList dF->dF.Perm ks->dF.Pairwise (· <= ·)->Q (.ref r) {s with heap:=h',toks:=tk}) :
  M (g prog w) A (call (.builtin "sorted") [.ref S]) Q E s:=by
 let⟨o,es,ep,t,ho,hex,hd,T⟩:=hS;let hsz:=T.num;let lS:S<⇑s:=q0a ho;calc q4c kind_sorted plain_sorted entry_sorted (args_sorted1 _) ?_;unfold Builtin.«sorted»;calc sf (m:=checkCount "sorted" 1 1 _) (Io ?_);calc sf (Of (by simp[hh]) ho hex hd T ⋯ λh1 nK t8 le=>?_);let allI:∀e∈(iK w S ep es).toList,∃k tk,e=(hashInt k,q04 k tk):=λe he=>T.rz e ((Az w S ep es).mem_iff.mp he);let hI:IntsAre ((iK w S ep es).toList.map (·.2)) ((iK w S ep es).toList.map keyOf):=ints_of allI;let hP:((iK w S ep es).toList.map keyOf).Perm ks:=((Az w S ep es).map keyOf).trans T.keys
 let hL:↑((iK w S ep es).toList.map (·.2))=↑ks:=by rw[BE,q0d,xP,hsz]
 generalize(iK w S ep es).toList.map (·.2)=vs at hI hL ⊢;generalize(iK w S ep es).toList.map keyOf=ns at hI hP;calc sf (q4r ?_);let qw:(h1.push (seqObj "list" vs.toArray 0)).get? h1.objs.size=U (seqObj "list" vs.toArray 0):=q0c _ Y;calc sf (q0M (q1g (s:={s with heap:=h1.push (seqObj "list" vs.toArray 0),toks:=nK}) slot_list_sort ⟨_,qw,Y⟩ entry_list_sort (list_sort_tree qw hI ⋯ λout dF a1 a2 a3=>⟨_,Y,?_⟩) (args_list_sort _)));let⟨e,he⟩:=sortedHeap_at (out:=out) qw;calc Io ⟨_,Y,h _ _ _ out dF e (λb ob eb=>?_) le he a1 (a2.trans hP) a3⟩;let hb:b<h1.objs.size:=q0a (t8 b ob eb)
 show(sortedHeap (h1.push (seqObj "list" vs.toArray 0)) h1.objs.size vs out).get? b=U ob;rw[sortedHeap_old (q0g hb) (by rw[size_push'];calc q0O hb)];calc yd _ (t8 b ob eb)
end
end LJS
namespace L2
open PySem PySem.Spec PyProof.Rows
noncomputable def uz(led:Bool)(S:O)(ks:-Int):HO:=.ext λh=>LJS.fw h S led ks
theorem SA{P:t}{w:ω}{H:Hp}{h:I}{S:O}{led:Bool}{ks:-Int}(e:LJS.fw h S led ks):bz P w H h S (uz led S ks) :=
 ⟨e,let⟨o,_,_,_,ho,_⟩:=e;⟨o,ho⟩,λh1 h2 e1 k=>LJS.Aw e1 λo eo=>k o eo⟩
noncomputable def gz(ns:-Int):-Int:=LJS.jD ns ↑ns
section
variable{X:Cx}
theorem SD(hc:X.calm=θ):gZ X (.builtin "sorted") (λxs H Q=>∃(p:O)(ks:-Int),xs=[.ref p]/\H p=U (uz (LJS.iJ X.w) p ks)/\↑ks<64/\∀(r:O)(dF:-Int),dF.Perm ks->dF.Pairwise (· <= ·)->H r=Z->Q (.ref r) (upd H r (.lst (dF.map V.int)))):=by
 ext pins s σ H xs us Q I r h;let⟨p,ks,rfl,hp,hn,q⟩:=h;let⟨u,rfl,rx⟩:=vals1 r;cases rx
 let⟨se,_⟩:=I.bu p _ hp;calc LJS.Sz (I.ok.hd hc) se hn λh' tk r out dF e kp le he hI pm pw=>?_;calc⟨.ref r,_,I.laid (t':=tk) (o:=.lst (dF.map V.int)) kp le ?_,Y,q _ dF pm pw (I.bu.fresh le)⟩;calc⟨q1e (qH (by rw[BE,pm.length_eq];symm)),out.toList,e,B3 hI,?_⟩;simpa[seqObj] using he
end
end L2
namespace LJS
open PySem PySem.SetTable PyProof.Rows
section
variable{t:SetTable}{f:Nat->Int}{h:Int}
end
section
variable{hk:Nat->Int}{ad:Nat->O}{t:SetTable}{es:Array (Int×L)}{js:-Nat}
end
section
variable{prog:t}{w:ω}{A:o}{E:bA}{s:B}{ad:Nat->O}{ks:Nat->-Int}{js:-Nat}{S:O}
end
section
variable{prog:t}{w:ω}{A:o}{R:Result->B->Prop}{I S:O}{fp wr:-O}{G:Array GenState->Array GenState->Prop}{n:Nat}{P:Nat->L->Prop}{St:Nat->B->Prop}
end
section
variable{prog:t}{w:S}{A:o}{E:bA}{s:B}
end
end LJS
namespace L2
open PySem PySem.Spec PyProof.Rows
variable[bf]
section
variable{X:Cx}{fa:WA}
theorem Ka{F:Hp}:∀{ps:-(Int×Int)}{vs:-V},ai F (ps.map λp=>D.tup [.int p.1,.int p.2]) vs->∃as:-O,vs=as.map V.ref/\↑as=↑ps/\∀(i:Nat)(a:O)(k:Int×Int),as[i]?=U a->ps[i]?=U k->F a=U (.tup [.int k.1,.int k.2])
 |[],vs,h=>by
  let h:vs=[]:=by simpa only [q2b,ai] using h
  subst h;exact⟨[],Y,Y,λi a k e=>by simp at e⟩
 |p::r,vs,h=>by
  rw[q0r] at h;erw[ai] at h;let⟨v,r',rfl,h1,h2⟩:=h;let⟨as,rfl,hl,g⟩:=Ka h2;erw[Is] at h1;let⟨a,us,rfl,e1,e2⟩:=h1;erw[ai,Is] at e2;let⟨_,_,rfl,rfl,_,_,rfl,rfl,rfl⟩:=e2;refine⟨a::as,Y,by rw[Ip,Ip,hl],λi b k eb ek=>?_⟩
  cases i with
  |zero =>
   cases(show U a=U b by simpa using eb)
   cases(show U p=U k by simpa using ek)
   exact e1
  |succ i=>calc g i b k eb⁻¹ ek⁻¹
end
end L2
namespace HT
open PySem PySem.Spec PyProof.Rows
section
variable{prog:t}{w:S}{A:o}{E:bA}{s:B}
theorem SE{t b:O}{ws:-L}{Q:bA}(ht:IsTup s.heap t #[])(hb:IsTup s.heap b ws.toArray)(h:Q (.ref b) s):M (g prog w) A (binaryOp .Add (.ref t) (.ref b)) Q E s:=by
 let⟨⟨cls,dd,data,sl⟩,ho,hc,n,hd⟩:=id ht;let⟨⟨rW,lJ,data2,lK⟩,fW,jJ,n2,hd2⟩:=id hb;simp only at hc hd jJ hd2;subst hc hd jJ hd2
 exact q6k ⟨_,ho,Y⟩ ⟨_,fW,Y⟩ q4F q5O q3k q3a (q24 _ _)
  (tuple_addW0 t b #[] ws.toArray n n2 dd lJ sl lK Y) ⟨ho,fW,h⟩
theorem SF{t sl:O}{items:Array L}{vl vu:L}{lo hi:Option Int}{Q:bA}(ht:IsTup s.heap t items)(hs:s.heap.IsSliceOf sl vl vu .none)(pl:IsPart vl lo)(pu:IsPart vu hi)
  (hw:bP items.size 0 lo=0/\bP items.size items.size hi=items.size) (h:Q (.ref t) s):M (g prog w) A (getItem (.ref t) (.ref sl)) Q E s:=by
 let⟨os,rX,qE,vw⟩:=id hs;let Bn:s.TypeIs (.ref sl) "slice" := ⟨os,rX,qE⟩;unfold getItem
 try with_reducible refine q0M ?_
 first|refine sf (Io ?_)|skip
 refine sf (q6l ht.typeIs (by decide) ?_)
 refine sf (q1f (name:=q02 "__getitem__") ht.typeIs q1d
  (q1g q1d ht.typeIs q5D ?_ (q51 _ _)))
 show M _ _ (q32 (.ref t) >>= _) _ _ s;calc sf (tupleItemsOf_ ht ?_);calc sf (q3O Bn ?_);rw[q0k (by decide)];calc sf (HR hs pl pu ?_);show M _ _ (if(((bP items.size 0 lo:Nat):Int)==0&&(1:Int)==1&&(bP items.size items.size hi-bP items.size 0 lo)==items.size)=θ then _ else _) _ _ s;rw[q0k (by rw[hw.1,hw.2];simp)];unfold Builtin.Tuple.tupleIsExact;calc sf (sf (q3O ht.typeIs (Io ?_)));rw[q0k (by decide)];calc sf (q3v ?_);calc Io ⟨_,Y,Io h⟩
end
end HT
namespace L2
open PySem PySem.Spec PyProof.Rows
variable[bf]
section
variable{X:Cx}{e:l}{te:TE}{pos p2 p3 p4:y}
def SG(K:My):V->Option Int->Option Int->Hp->VK->Prop:=λx lo hi H Q=>∃a xs,x=.ref a/\bZ K H a xs ∧
 (HT.bP ↑xs 0 lo=0/\HT.bP ↑xs ↑xs hi=↑xs->Q (.ref a) H)/\(¬ (HT.bP ↑xs 0 lo=0/\HT.bP ↑xs ↑xs hi=↑xs)->∀p,H p=Z->Q (.ref p) (upd H p (.tup (dP xs lo hi))))
theorem SH:qF X (SG X.K):=by
 ext pins s σ H x v vl vu lo hi sl Q I rx hs pl pu h;let⟨a,xs,rfl,hx,q1,q2⟩:=h
 by_cases hw:HT.bP ↑xs 0 lo=0/\HT.bP ↑xs ↑xs hi=↑xs
 .cases rx
  let⟨aA,r,ht,hz⟩:=I.tuple hx;let hlen:aA.toArray.size=↑xs:=by rw[Qt];exact r.length.symm
  calc⟨"tuple",_,q1d.lookup,ht.typeIs,?_⟩;exact HT.SF ht hs pl pu (by rw[hlen];calc hw) ⟨.ref a,H,I,Y,q1 hw⟩
 .calc Qc pins s σ H _ v vl vu lo hi sl Q I rx hs pl pu ⟨a,xs,Y,hx,hw,q2 hw⟩
theorem SI:eU X (binaryOp .Add) (λx y H Q=>∃a b ys,x=.ref a/\y=.ref b/\bZ X.K H a []/\bZ X.K H b ys/\Q (.ref b) H):=by
 ext pins s σ H x y v u Q I rx ry h;let⟨a,b,ys,rfl,rfl,ha,hb,q⟩:=h;cases rx
 cases ry
 let⟨aA,r1,p1,_⟩:=I.tuple ha;let⟨bO,r2,p2,_⟩:=I.tuple hb;let:aA=[]:=r1.fY.mpr Y;subst this;calc HT.SE p1 p2 ⟨.ref b,H,I,Y,q⟩
theorem SJ:eU X (compareOp .Is) (λx y H Q=>∃a b,x=.bl a/\y=.bl b/\Q (.bl (a==b)) H):=by
 ext pins s σ H x y v u Q I rx ry h;let⟨a,b,rfl,rfl,q⟩:=h;cases rx
 cases ry
 calc Io ⟨.bl (a==b),H,I,by cases a<;>cases b<;>rfl,q⟩
theorem SK:eU X (compareOp .IsNot) (λx y H Q=>∃a b,x=.bl a/\y=.bl b/\Q (.bl (!(a==b))) H):=by
 ext pins s σ H x y v u Q I rx ry h;let⟨a,b,rfl,rfl,q⟩:=h;cases rx
 cases ry
 calc Io ⟨.bl (!(a==b)),H,I,by cases a<;>cases b<;>rfl,q⟩
def dh:D->D->(D->Prop)->Prop
 |.int i,.int j,K=>K (.int (i+j))
 |.lst a,.lst b,K=>↑a+↑b<=1000/\K (.lst (a++b))
 |.tup a,.tup b,K=>↑a+↑b<=1000/\K (.tup (a++b))
 |.str a,.str b,K=>↑a+↑b<=1000/\K (.str (a++b))
 |_,_,_=>False
theorem pA:fK X (binaryOp .Add) dh:=by
 ext pins s σ H x y v u Q I rx ry ⟨F,d,e,K,sub,rd,re,q,md⟩;unfold dh at q;split at q
 .exact yM pins s σ H x y v u Q I rx ry ⟨F,_,_,K,sub,rd,re,q,md⟩
 .exact yM pins s σ H x y v u Q I rx ry ⟨F,_,_,K,sub,rd,re,q,md⟩
 .rename_i as bs
  by_cases c:as=[]
  .subst c
   let dj:Is F (.tup []) x:=rd;let ja:Is F (.tup bs) y:=re;let SM:=ja;erw[Is] at dj ja;let⟨a,us,rfl,h1,h2⟩:=dj;let⟨b,ws,rfl,h3,h4⟩:=ja;let:us=[]:=by simpa only [ai] using h2
   subst this;exact SI pins s σ H _ _ v u Q I rx ry ⟨a,b,ws,Y,Y,bZ.of (sub _ _ h1),bZ.of (sub _ _ h3),md _ _ _ q.2 (λ_ _ e=>e) (wq sub SM)⟩
  .exact yM pins s σ H x y v u Q I rx ry ⟨F,_,_,K,sub,rd,re,⟨⟨c,q.1⟩,q.2⟩,md⟩
 .exact yM pins s σ H x y v u Q I rx ry ⟨F,_,_,K,sub,rd,re,q,md⟩
 .calc q.elim
def sP:D->Option Int->Option Int->(D->Prop)->Prop
 |.lst ds,lo,hi,K=>K (.lst (cutD ds lo hi))
 |.tup ds,lo,hi,K=>K (.tup (cutD ds lo hi))
 |_,_,_,_=>False
def gq(f:WE)(l h:WO):WE:=fun δ K=>f δ λx δ1=>l δ1 λlo δ2=>h δ2 λhi δ3=>jN x δ3 λd=>sP d lo hi λz=>K (.p z) δ3
theorem SN{ds:-D}{lo hi:Option Int}(h:HT.bP ↑ds 0 lo=0/\HT.bP ↑ds ↑ds hi=↑ds):cutD ds lo hi=ds:=by
 unfold cutD;rw[h.1,h.2,q3T,q56,q1F (Im _)]
theorem uA{e:υ}{f:WE}{lo hi:Option υ}{l h:WO}{pos p2:y}(he:JE X e (tD f))(hl:PO X lo (yO l))(hh:PO X hi (yO h)):JE X (.Subscript e (.Slice lo hi Z p2) pos) (tD (gq f l h)) :=
 (Bo (h_.or SH) he hl hh).weak fun σ H Q ⟨F,ad,δ,K,S,q,k⟩=>⟨F,ad,δ,_,S,q,λx δ1 h1 v F1 bp H1 E1 S1 V1=>⟨F1,bp,δ1,_,S1,h1,λlo δ2 h2 F2 cz H2 E2 S2=>⟨F2,cz,δ2,_,S2,h2,λhi δ3 h3 F3 oV H3 E3 S3=>by
  let⟨d,h4,rd⟩:=lM S3 ((V1.ext E2).ext E3) h3;let CY:=(E1.trans E2).trans E3;unfold sP at h4;split at h4
  .rename_i ds
   let⟨a,vs,rfl,g1,g2⟩:=rd;calc .inl ⟨a,vs,Y,bT.of g1,λp hp=>?_⟩;exact k _ _ h4 _ _ _ _ (CY.trans (Ext.al S3 (cK hp))) (S3.al (cK hp)) (mL S3.sub hp (Jz g2 _ _))
  .rename_i ds
   let dj:Is F3 (.tup ds) v:=rd;let SO:=dj;erw[Is] at dj;let⟨a,vs,rfl,g1,g2⟩:=dj;refine .inr ⟨a,vs,Y,bZ.of (S3.sub _ _ g1),λhw=>?_,λ_ p hp=>?_⟩
   .rw[↑g2] at hw
    rw[SN hw] at h4;exact k _ _ h4 _ _ _ _ CY S3 SO
   .exact k _ _ h4 _ _ _ _ (CY.trans (Ext.al S3 (cK hp))) (S3.al (cK hp)) (CH S3.sub hp (Jz g2 _ _))
  .calc h4.elim⟩⟩⟩
def jc:D->D->(D->Prop)->Prop
 |.bl a,.bl b,K=>K (.bl (a==b))
 |d,e,K=>ie d e K
def wO:D->D->(D->Prop)->Prop
 |.bl a,.bl b,K=>K (.bl (!(a==b)))
 |d,e,K=>wu d e K
theorem wQ:fK X (compareOp .Is) jc:=by
 ext pins s σ H x y v u Q I rx ry ⟨F,d,e,K,sub,rd,re,q,md⟩;unfold jc at q;split at q
 .rename_i a b
  exact SJ pins s σ H x y v u Q I rx ry ⟨a,b,rd,re,md _ _ _ q (λ_ _ e=>e) Y⟩
 .calc R_ pins s σ H x y v u Q I rx ry ⟨F,_,_,K,sub,rd,re,q,md⟩
theorem Kb:fK X (compareOp .IsNot) wO:=by
 ext pins s σ H x y v u Q I rx ry ⟨F,d,e,K,sub,rd,re,q,md⟩;unfold wO at q;split at q
 .rename_i a b
  exact SK pins s σ H x y v u Q I rx ry ⟨a,b,rd,re,md _ _ _ q (λ_ _ e=>e) Y⟩
 .calc Sa pins s σ H x y v u Q I rx ry ⟨F,_,_,K,sub,rd,re,q,md⟩
end
end L2
namespace L2
open PySem PySem.Spec PyProof.Rows
variable[bf]{X:Cx}
def yZ(_ j:Int):Prop:=j≠0/\j.natAbs<10 ^ 40
theorem SQ:fK X (binaryOp .FloorDiv) (ft yZ λi j=>.int (i.fdiv j)):=CI (x4 λi j _ _ _ _ _ hc q=>floordiv_int hc.1 q (.inl (PyProof.noPylong_of_log2 ((Nat.log2_lt (Int.natAbs_ne_zero.mpr hc.1)).mpr (q0o hc.2 (q0B (by decide:10 ^ 40<=2 ^ 200) (Nat.pow_le_pow_right (by decide) (by decide)))))))) λ_ _ _=>Y
end L2
open L2
open Lean in
local macro_rules
 |`(tactic|simp![$ls,*] $[$loc:location]?)=>do
  let t:=("q2I dep:2 bV:2 q06 Nat.max_self Nat.max_zero Nat.zero_max Nat.reduceLeDiff aD bj dN ux aq ah d1 d2 dC aa mD:2 jN:3 lN:3 kU:2 aN.fix Jc:2 bW dS oS dT ub:1 fQ nY gK uc lP B7 dZ ky bh bS bQ iO:1 d7:1 i8 i9 e8 d9 qO du cq qR:3 mK Cv i_ Cw:2 d8 aJ wc passes:4 kY:2 cZ:1 oY:4 wb:1 bw:3 sI:4 dh:4 sP:2 gq jc:1 wO:1 ue pf:1 e_:2 oI:1 ft:1 oEq pd oLt:2 ie wu f6:2 cw:3 wz:2 uy:2 wA:2 wB:1 yQ:1 dz yS CW gi mM qV gj:1 ij ph CO CL jT wN aN.trim gM:2 yD:3 Option.join_some Option.join_none q0r q2b q4I q47 q1s q5H List.getElem?_cons_zero q4J List.getElem?_nil q0Y q0Z Ip q1n q5F q36 q7T List.any_nil q2C Bool.not_false q4m q7Q q7U q5M q1b Bool.true_eq_false q2N q2g true_and and_true and_self reduceCtorEq beq_self_eq_true q0G q7V Nat.reduceLT Nat.reduceEqDiff Nat.reduceSub BE Qs".splitOn " ").map (·.splitOn ":")
  let m:List String->MacroM (Syntax.TSepArray [`Lean.Parser.Tactic.simpStar,`Lean.Parser.Tactic.simpErase,`Lean.Parser.Tactic.simpLemma] ","):=λl=>do
   let a←l.toArray.mapM λs=>`(Parser.Tactic.simpLemma|$(mkIdent s.toName):ident)
   pure ⟨(Syntax.SepArray.ofElems (sep:=",") ((a.push (←`(Parser.Tactic.simpLemma|↓reduceIte))).map (·.raw)++ls.getElems.map (·.raw))).elemsAndSeps⟩
  let a←m (t.map (·.head!))
  let d←m (t.flatMap fun|[x,n]=>(List.range n.toNat!).map λk=>s!"{x}.eq_{k+1}"|x=>x)
  if loc.isSome then `(tactic|simp only[$a,*] $[$loc]?) else `(tactic|first|((set_option backward.dsimp.useDefEqAttr false in dsimp only[$(⟨d.elemsAndSeps⟩),*]);try simp only[$a,*])|simp only[$a,*])
local macro_rules | `(tactic| simp! $[$l:location]?) => `(tactic| simp! [] $[$l]?)
set_option maxHeartbeats 8000000
namespace LJ
open PySem L2
variable[bf]
theorem Kc{ns:-Int}{k:Int}(h0:0<=k)(h1:k<(↑ns:Int)):∃n,eK (ns.map D.int) k=U (.int n):=by
 let⟨i,rfl⟩:∃i:Nat,k=i:=⟨k.toNat,⋯⟩;let hi:i<↑ns:=by symm
 calc⟨ns[i],kh ?_⟩;rw[Qw,vD hi];rfl
theorem dm{α:Type}{x:α}{r:-α}:eK (x::r) 0=U x:=kh (j:=0) Y
theorem eF{α:Type}{x y:α}{r:-α}:eK (x::y::r) 1=U y:=kh (j:=1) Y
theorem at2{α:Type}{x y z:α}{r:-α}:eK (x::y::z::r) 2=U z:=kh (j:=2) Y
theorem wR{a b A B:Int}(h0:0<=a)(h1:a<=A)(h2:0<=b)(h3:b<=B):0<=a*b/\a*b<=A*B :=
 ⟨Int.mul_nonneg h0 h2,Int.mul_le_mul h1 h3 h2 (Int.le_trans h0 h1)⟩
noncomputable def jd:-Int:=[2147483629,2147483587,2147483579,2147483563,2147483549,2147483543,2147483497,2147483489,2147483477,2147483423,2147483399,2147483353,2147483323]
theorem CZ(n:Int):∃q:Int,eK (jd.map D.int) (n%13)=U (.int q)/\0<q/\q<2147483648:=by
 let h0:0<=n%13:=q1O _ (by decide);let h1:n%13<13:=q1i _ (by decide);generalize n%13=j at h0 h1;let⟨i,rfl⟩:∃i:Nat,j=i:=⟨j.toNat,⋯⟩;let hi:i<13:=by symm
 let hl:(jd.map D.int)[i]?=U (.int (jd[i]'(by show i<13;calc hi))):=by
  rw[Qw,vD (by show i<13;calc hi)];rfl
 calc⟨_,kh hl,?_⟩;let all:∀q∈jd,0<q/\q<2147483648:=by decide
 calc all _ (q1Y _)
theorem SS:iX 3 1=U 1:=rfl
theorem Kd:iX 3 2=U 2:=rfl
abbrev Sem(n m:Nat)(g:GD)(b:WS):Prop:=∀ys aB K',↑ys=n->g ys aB K'->b (jT ↑aB K') ⟨ys.map U++q0h m Z,aB.map U⟩
theorem bt{A B:WS}{K:KS}{δ:aN}(h:∀N:aN->Prop,N=B K->A {K with nx:=N} δ):aD A B K δ:=h _ Y
theorem jC{t:WT}{G G':WS}{K:KS}{δ:aN}(h:∀A B:aN->Prop,A=G K->B=G' K->t δ λb δ1=>if b=θ then A δ1 else B δ1):bS t G G' K δ:=h _ _ Y Y
theorem pB{w:WI}{g:WG}{b:WS}{K:KS}{δ:aN}(h:∀g' b' K',g'=g->b'=b->K'=K->w δ λit δ1=>mI δ1 it.b9 g' b' K' it.items δ1):e8 w g b K δ:=h _ _ _ Y Y Y
theorem uB{f:WE}{g:WA}{δ:aN}{K:-DV->aN->Prop}(h:∀K',K'=(λx δ1=>g δ1 λxs δ2=>K (x::xs) δ2)->f δ K'):aq f g δ K:=h _ Y
inductive C0 (ys:-DV) (aB:-OV) (K:RV->-OV->Prop):Prop
 |mk (cell at_:Int) (_:ys=[.p (.int cell),.p (.int at_)]) (_:aB=[]) (_:0<=at_) (_:at_<2 ^ 30) (_:∀z:Int,K (.p (.int z)) [])
def C1:WS:=(aD (bS (dT (d2 (aa 0) (d2 (dC (.int 10)) (dC (.int 18)) (ft h8 λi j=>.int (i ^ j.toNat))) (oI λi j=>.bl (G (j<=i))))) (bh (aa 0)) dZ) (aD (bj 2 (dS (aq (dC (.int 2147483629)) (aq (dC (.int 2147483587)) (aq (dC (.int 2147483579)) (aq (dC (.int 2147483563)) (aq (dC (.int 2147483549)) (aq (dC (.int 2147483543)) (aq (dC (.int 2147483497)) (aq (dC (.int 2147483489)) ah)))))))))) (aD (bj 2 (d2 (aa 2) (dS (aq (dC (.int 2147483477)) (aq (dC (.int 2147483423)) (aq (dC (.int 2147483399)) (aq (dC (.int 2147483353)) (aq (dC (.int 2147483323)) ah)))))) dh)) (aD (bj 3 (d2 (d2 (d2 (d2 (d2 (d2 (aa 0) (dC (.int 1000000007)) (ft (λ_ j=>0<j) λi j=>.int (i%j))) (d2 (d2 (dC (.int 2)) (aa 1) e_) (dC (.int 69069)) dh) e_) (d2 (aa 1) (dC (.int 40503)) e_) dh) (dC (.int 977)) dh) (dC (.int 3)) (ft h8 λi j=>.int (i ^ j.toNat))) (d2 (aa 2) (d2 (aa 1) (dC (.int 13)) (ft (λ_ j=>0<j) λi j=>.int (i%j))) bw) (ft (λ_ j=>0<j) λi j=>.int (i%j)))) (aD (bj 4 (d2 (d2 (d2 (d2 (d2 (aa 3) (d2 (aa 1) (dC (.int 3)) dh) e_) (d2 (aa 0) (dC (.int 65537)) (ft (λ_ j=>0<j) λi j=>.int (i%j))) dh) (dC (.int 5)) dh) (dC (.int 5)) (ft h8 λi j=>.int (i ^ j.toNat))) (d2 (aa 2) (d2 (d2 (aa 1) (dC (.int 5)) dh) (dC (.int 13)) (ft (λ_ j=>0<j) λi j=>.int (i%j))) bw) (ft (λ_ j=>0<j) λi j=>.int (i%j)))) (aD (bj 5 (d2 (d2 (d2 (d2 (aa 4) (d2 (aa 3) (dC (.int 1009)) (ft (λ_ j=>0<j) λi j=>.int (i%j))) dh) (aa 1) dh) (dC (.int 3)) (ft h8 λi j=>.int (i ^ j.toNat))) (d2 (aa 2) (d2 (d2 (aa 1) (dC (.int 7)) dh) (dC (.int 13)) (ft (λ_ j=>0<j) λi j=>.int (i%j))) bw) (ft (λ_ j=>0<j) λi j=>.int (i%j)))) (bh (d2 (d2 (d2 (d2 (aa 3) (dC (.int 2147483647)) e_) (aa 4) dh) (dC (.int 2147483647)) e_) (aa 5) dh))))))))
theorem SU:Sem 2 4 C0 C1:=by
 ext ys aB K'-⟨cell,k,rfl,rfl,h0,h1,fin⟩;unfold C1;let mP:∀(z:Int)(sl:-(Option DV)),ib 0 K' (.p (.int z)) ⟨sl,[]⟩:=λz sl=>⟨[],Y,Y,fin z⟩;simp! at ⊢;calc⟨⟨by decide,by decide,by decide⟩,?_⟩;split
 .exact mP _ _
 let⟨q1,e1,p1,b1⟩:=CZ k;let⟨q2,e2,p2,b2⟩:=CZ (k+5);let⟨q3,e3,p3,b3⟩:=CZ (k+7);erw[jd,q0r,q2b] at e1 e2 e3;erw[e1,e2,e3];let c0:0<=cell%1000000007:=q1O _ (by decide);let c1:cell%1000000007<1000000007:=q1i _ (by decide);let m1:=wR c0 (Int.le_of_lt c1) (show(0:Int)<=2*k+69069 by symm) (show 2*k+69069<=2147552717 by symm);refine⟨by decide,.inl ⟨by decide,by decide⟩,.inl ⟨⋯,⋯⟩,.inr ⟨by decide,by decide⟩,⟨by decide,by decide,?cp1⟩,by decide,p1,?_⟩
 case cp1 =>
  generalize cell%1000000007*(2*k+69069)=m at m1 ⊢;symm
 generalize(cell%1000000007*(2*k+69069)+k*40503+977) ^ (3:Int).toNat=x1;let o0:0<=x1%q1:=q1O _ ⋯;let o1:x1%q1<q1:=q1i _ p1;let d0:0<=cell%65537:=q1O _ (by decide);let d1:cell%65537<65537:=q1i _ (by decide);let m2:=wR o0 (show x1%q1<=2147483648 by symm) (show(0:Int)<=k+3 by symm) (show k+3<=1073741827 by symm);refine⟨.inl ⟨⋯,⋯⟩,by decide,⟨by decide,by decide,?cp2⟩,by decide,p2,?_⟩
 case cp2 =>
  generalize x1%q1*(k+3)=m at m2 ⊢;symm
 let t0:0<=(x1%q1*(k+3)+cell%65537+5) ^ (5:Int).toNat%q2:=q1O _ ⋯;let t1:(x1%q1*(k+3)+cell%65537+5) ^ (5:Int).toNat%q2<q2:=q1i _ p2;let u0:0<=x1%q1%1009:=q1O _ (by decide);let u1:x1%q1%1009<1009:=q1i _ (by decide);generalize(x1%q1*(k+3)+cell%65537+5) ^ (5:Int).toNat%q2=m at t0 t1 ⊢;calc⟨by decide,⟨by decide,by decide,⋯⟩,by decide,p3,.inr ⟨by decide,by decide⟩,.inr ⟨by decide,by decide⟩,mP _ _⟩
noncomputable def jV(ns:-Int)(k z:Int):OV:=.lst [.lst (ns.map D.int),.int k,.int z]
structure bM(n:Int)(o:OV):Prop where
 out:∃ns k z,o=jV ns k z/\↑ns<=63/\0<=k/\k<=n
theorem bM.mono{n m:Int}{o:OV}(h:bM n o)(l:n<=m):bM m o:=by
 let⟨ns,k,z,e,h1,h2,h3⟩:=h.out;calc⟨ns,k,z,e,h1,h2,⋯⟩
inductive C2 (ys:-DV) (aB:-OV) (K:RV->-OV->Prop):Prop
 |mk (n) (o) (_:ys=[.o 0]) (_:aB=[o]) (_:bM n o) (_:∀o',bM n o'->K (.a 0) [o'])
def C3:WS:=(aD (qV (dC (.int 0)) (aa 0) (dC (.int 2))) (bh (aa 0)))
theorem SV:Sem 1 0 C2 C3:=by
 ext ys aB K'-⟨n,o,rfl,rfl,P,fin⟩;let⟨ns,k,z,rfl,h1,h2,h3⟩:=P.out;unfold C3 jV;simp!;calc⟨[jV ns k 0],Y,Y,fin _ ⟨ns,k,0,Y,h1,h2,h3⟩⟩
inductive gP (ys:-DV) (aB:-OV) (K:RV->-OV->Prop):Prop
 |mk (n m:Int) (o:OV) (_:ys=[.o 0,.p (.int m)]) (_:aB=[o]) (_:bM n o) (_:n<2 ^ 30) (_:0<m) (_:m<10 ^ 40) (_:∀r o',0<=r->r<m->bM (n+1) o'->K (.p (.int r)) [o'])
def C4:WS:=(aD (bS (dT (d2 (d2 (aa 0) (dC (.int 2)) bw) (aa 1) oLt)) (aD (bj 2 (d2 (aa 0) (dC (.int 1)) bw)) (aD (bj 3 (dC (.int 0))) (aD (bS (dT (d2 (aa 2) (dN (aq (d2 (aa 0) (dC (.int 0)) bw) ah) cw) oLt)) (bj 3 (d2 (d2 (aa 0) (dC (.int 0)) bw) (aa 2) bw)) (bS (dT (d2 (dN (aq (d2 (aa 0) (dC (.int 0)) bw) ah) cw) (dC (.int 0)) (oI λi j=>.bl (G (j<i))))) (bj 3 (d2 (d2 (d2 (aa 0) (dC (.int 0)) bw) (d2 (d2 (d2 (aa 2) (dC (.int 5)) e_) (dC (.int 3)) dh) (dN (aq (d2 (aa 0) (dC (.int 0)) bw) ah) cw) (ft (λ_ j=>0<j) λi j=>.int (i%j))) bw) (d2 (d2 (dC (.int 10)) (dC (.int 17)) (ft h8 λi j=>.int (i ^ j.toNat))) (aa 2) dh) (ft (λ_ j=>0<j) λi j=>.int (i%j)))) dZ)) (aD (qV (d2 (aa 2) (dC (.int 1)) dh) (aa 0) (dC (.int 1))) (qV (aJ 2 C0 (aq (aa 3) (aq (aa 2) ah))) (aa 0) (dC (.int 2))))))) dZ) (aD (bj 4 (d2 (d2 (aa 0) (dC (.int 2)) bw) (aa 1) (ft (λ_ j=>0<j) λi j=>.int (i%j)))) (aD (qV (d2 (d2 (aa 0) (dC (.int 2)) bw) (aa 1) (ft yZ λi j=>.int (i.fdiv j))) (aa 0) (dC (.int 2))) (bh (aa 4)))))
theorem SW:Sem 2 3 gP C4:=by
 ext ys aB K'-⟨n,m,o,rfl,rfl,P,hn,Ke,hm1,fin⟩;let⟨ns,k,z,rfl,h1,h2,h3⟩:=P.out;unfold C4 jV
 let last:∀(k' z':Int)(sl:-(Option DV)),0<=k'->k'<=n+1->ib 1 K' (.p (.int (z'%m))) ⟨sl,[U (.lst [.lst (ns.map D.int),.int k',.int (z'.fdiv m)])]⟩:=λk' z' sl a b =>
  ⟨[jV ns k' (z'.fdiv m)],Y,Y,fin _ _ (q1O _ ⋯) (q1i _ Ke) ⟨ns,k',_,Y,h1,a,b⟩⟩
 let SX:∀z,yZ z m:=λz=>⟨⋯,⋯⟩
 let rest:∀(k' z':Int)(s2 s3 s4:Option DV),0<=k'->k'<=n+1->(aD (bj 4 (d2 (d2 (aa 0) (dC (.int 2)) bw) (aa 1) (ft (λ_ j=>0<j) λi j=>.int (i%j)))) (aD (qV (d2 (d2 (aa 0) (dC (.int 2)) bw) (aa 1) (ft yZ λi j=>.int (i.fdiv j))) (aa 0) (dC (.int 2))) (bh (aa 4)))) (jT 1 K') ⟨[U (.o 0),U (.p (.int m)),s2,s3,s4],[U (.lst [.lst (ns.map D.int),.int k',.int z'])]⟩:=λk' z' s2 s3 s4 a b=>by
  simp![at2,Kd];exact⟨Ke,SX _,last _ _ _ a b⟩
 calc bt λN hN=>?_;calc jC λA B hA hB=>?_;simp![at2] at ⊢;split
 .subst hA
  calc bt λN2 mQ=>?_;simp![eF];subst mQ;calc bt λN2 mQ=>?_;simp!;subst mQ;refine bt λN2 mQ=>?_
  let go:∀(c:Int)(s4:Option DV),N2 ⟨[U (.o 0),U (.p (.int m)),U (.p (.int k)),U (.p (.int c)),s4],[U (.lst [.lst (ns.map D.int),.int k,.int z])]⟩:=λc s4=>by
   subst mQ;simp![SS];calc⟨c,k,Y,Y,h2,⋯,λz'=>?_⟩;simp![Kd];subst hN;exact rest _ _ _ _ _ ⋯ ⋯
  calc jC λA B hA hB=>?_;simp![dm] at ⊢;split
  .rename_i dX
   let⟨c,ec⟩:=Kc h2 (q0U dX);subst hA;simp![dm];rw[ec];exact go _ _
  .subst hB
   calc jC λA B hA hB=>?_;simp![dm] at ⊢;split
   .rename_i pC
    let pC:=q0U pC;let⟨c,ec⟩:=Kc (ns:=ns) (k:=(k*5+3)%(↑ns:Int)) (q1O _ ⋯) (q1i _ pC);subst hA;simp![dm];calc⟨.inr ⟨by decide,by decide⟩,pC,?_⟩;rw[ec];exact⟨⟨by decide,by decide,by decide⟩,by show(0:Int)<10 ^ 17+k;symm,go _ _⟩
   .subst hB
    exact go _ _
 .subst hB hN
  calc rest _ _ _ _ _ ⋯ ⋯
noncomputable def dq(p:Int×Int):D:=.tup [.int p.1,.int p.2]
structure eG(many:Int)(ps:-(Int×Int)):Prop where
 ends:∀p∈ps,0<=p.1/\p.1<p.2/\p.2<many
 l5:ps.Nodup
 iQ:↑ps<=66
theorem eG.sub{many:Int}{ps qs:-(Int×Int)}(h:eG many ps)(s:qs.Sublist ps):eG many qs :=
 ⟨λp hp=>h.ends p (s.subset hp),h.l5.sublist s,q0B s.length_le h.iQ⟩
inductive C5 (ys:-DV) (aB:-OV) (K:RV->-OV->Prop):Prop
 |mk (n kind many:Int) (o:OV) (_:ys=[.o 0,.p (.int kind),.p (.int many)]) (_:aB=[o]) (_:bM n o) (_:n+100<2 ^ 30) (_:1<=many) (_:many<=12) (_:∀ps o',eG many ps->bM (n+67) o'->K (.n (ps.map dq)) [o'])
def C6:WS:=(aD (bj 3 (oS ah)) (aD (e8 (mK (aq (aa 2) ah)) (bQ 4) (ky (ph (aa 3) (aq (d9 (mK (aq (aa 4) ah)) [Z,U 4] (bQ 0) du (bW (aq (aa 0) (aq (aa 1) ah)))) ah)))) (aD (bS (dT (d2 (aa 1) (dC (.int 1)) oEq)) (bh (qO (Cv (aq (dC (.int 1)) (aq (aa 2) ah))) [Z,U 0] (bQ 0) du (bW (aq (aJ 2 gP (aq (aa 1) (aq (aa 0) ah))) (aq (aa 0) ah))))) dZ) (aD (bS (dT (d2 (aa 1) (dC (.int 2)) oEq)) (aD (bj 5 (d9 (mK (aq (d2 (aa 2) (dC (.int 1)) (oI λi j=>.int (i-j))) ah)) [Z] (bQ 0) du (bW (aq (aa 0) (aq (d2 (aa 0) (dC (.int 1)) dh) ah))))) (bh (CW (aa 5) (d9 (cq (aa 3)) [Z,U 2] (bQ 0) (fQ (dT (d2 (aa 0) (bW (aq (dC (.int 0)) (aq (d2 (aa 1) (dC (.int 1)) (oI λi j=>.int (i-j))) ah))) oEq)) (dT (d2 (aa 1) (dC (.int 2)) (oI λi j=>.bl (G (j<i)))))) (aa 0))))) dZ) (aD (bS (dT (d2 (aa 1) (dC (.int 3)) oEq)) (bh (aa 3)) dZ) (aD (bS (dT (d2 (aa 1) (dC (.int 4)) oEq)) (bh (qO (cq (aa 3)) [Z,U 0] (bQ 0) (dT (d2 (aJ 2 gP (aq (aa 1) (aq (dC (.int 4)) ah))) (dC (.int 0)) oEq)) (aa 0))) dZ) (aD (bS (dT (d2 (aa 1) (dC (.int 5)) oEq)) (aD (bj 6 (aJ 2 gP (aq (aa 0) (aq (d2 (aa 2) (dC (.int 1)) dh) ah)))) (bh (qO (cq (aa 3)) [Z,U 6,U 0] (bQ 0) (fQ (dT (d2 (d2 (d2 (aa 0) (dC (.int 0)) bw) (aa 1) oLt) (d2 (d2 (aa 0) (dC (.int 1)) bw) (aa 1) oLt) oEq)) (dT (d2 (aJ 2 gP (aq (aa 2) (aq (dC (.int 3)) ah))) (dC (.int 0)) (oI λi j=>.bl (G (j<i)))))) (aa 0)))) dZ) (bh (qO (cq (aa 3)) [Z,U 0] (bQ 0) (dT (d2 (aJ 2 gP (aq (aa 1) (aq (dC (.int 2)) ah))) (dC (.int 0)) oEq)) (aa 0))))))))))
theorem sub_snoc{α:Type}{zs ps:-α}{i:Nat}{x:α}(h:zs.Sublist (ps.take i))(e:ps[i]?=U x):(zs++[x]).Sublist (ps.take (i+1))/\zs.Sublist (ps.take (i+1)):=by
 let:ps.take (i+1)=ps.take i++[x]:=by rw[q3n,e];rfl
 rw[this];calc⟨h.append (q6u _),h.trans (List.sublist_append_left _ _)⟩
theorem SY{α:Type}{l:-α}{c:α}(h:l.Nodup)(hc:∀x∈l,x=c):↑l<=1:=by
 match l,h,hc with
 |[],_,_=>exact q06 _
 |[_],_,_=>exact Im _
 |x::y::r,h,hc =>
  let:=(q1y.mp h).1 y (q0m);calc absurd ((hc x q0m).trans (hc y (q0l _ q0m)).symm) this
theorem C7{n:Int}{o:OV}{ps:-(Int×Int)}{t:WT}{K:-D->aN->Prop}{rest:-(Option DV)}{ev:Option OV}{b9:aN->Prop}(hc:∀sl o',b9 ⟨sl,[U o',ev]⟩)(hw:↑ps<=66)(P:bM n o)(hn:n+70<2 ^ 30)
  (ht:∀(p:Int×Int)(i:Nat)(o':OV)(Q:Bool->aN->Prop),p∈ps->i<=66->bM (n+i) o'->(∀b mR,bM (n+i+1) mR->Q b ⟨U (.p (dq p))::rest,[U mR,ev]⟩)->t ⟨U (.p (dq p))::rest,[U o',ev]⟩ Q)
  (hr:gM 2 rest rest=rest)
  (fin:∀(zs:-(Int×Int)) o',zs.Sublist ps->bM (n+↑ps) o'->K (zs.map dq) ⟨Z::rest,[U o',ev]⟩) :
  kA ⟨Z::rest,[U o,ev]⟩ b9 (bQ 0) t (aa 0) K (ps.map dq) [] ⟨Z::rest,[U o,ev]⟩:=by
 refine CT (λi acc δ=>∃(zs:-(Int×Int))(o':OV),zs.Sublist (ps.take i)/\acc=zs.map dq/\bM (n+i) o'/\δ=⟨Z::rest,[U o',ev]⟩) ⟨[],o,q6u _,Y,P.mono ⋯,Y⟩ ?_ ?_
 .ext j d acc δ L hj ⟨zs,o',hz,rfl,P',rfl⟩ hL
  rw[Qw] at hj;let⟨p,hp,rfl⟩:=q0f.mp hj;let hjl:j<↑ps:=(Il.mp hp).1;calc⟨hc _ _,?_⟩;show t ⟨U (.p (dq p))::rest,[U o',ev]⟩ _;refine ht p j o' _ (q0S hp) ⋯ P' λb mR pD=>?_
  let hlen:↑(zs.map dq)<1000:=by
   rw[BE];let:=hz.length_le;rw[q0D] at this;symm
  let P3:bM (n+((j+1:Nat):Int)) mR:=pD.mono ⋯
  cases b with
  |true =>
   rw[q0k Y];calc⟨hlen,hL _ _ ⟨zs++[p],mR,(sub_snoc hz hp).1,by rw[q0w];rfl,P3,?_⟩⟩;show(⟨Z::gM 2 rest rest,_⟩:aN)=_;rw[hr];rfl
  |false =>
   rw[q0i (by decide)];calc hL _ _ ⟨zs,mR,(sub_snoc hz hp).2,Y,P3,?_⟩;show(⟨Z::gM 2 rest rest,_⟩:aN)=_;rw[hr];rfl
 .ext acc δ ⟨zs,o',hz,rfl,P',rfl⟩
  rw[BE] at P' hz;rw[q1F (Im _)] at hz;calc⟨hc _ _,fin zs o' hz P'⟩
theorem S7:Sem 3 4 C5 C6:=by
 ext ys aB K'-⟨n,kind,many,o,rfl,rfl,P,hn,m1,iL,fin⟩;let⟨mm,rfl⟩:∃mm:Nat,many=mm:=⟨many.toNat,⋯⟩;let C8:mm<=12:=by symm
 unfold C6;let cQ:eG mm (ki mm):=⟨λp hp=>B1 hp,IV mm,IW mm C8⟩;calc bt λN hN=>?_;simp!;subst hN;calc bt λN hN=>?_;simp!;calc⟨⋯,?_⟩;refine mO (λi δ=>δ=⟨[U (.o 0),U (.p (.int kind)),U (.p (.int mm)),U (.o 1),Z,Z,Z],[U o,U (.lst ((ki i).map dq))]⟩) Y ?_ ?_
 .ext j d δ L hj rfl hL
  let⟨hj,rfl⟩:=o8 hj;simp!;let e:(0+(j:Int))=j:=by symm
  rw[e];refine⟨⋯,?_⟩
  refine kC (λd=>match d with
   |.int a=>dq (a,j)
   |_=>.non) (by rw[n8];symm) trivial ?_ ?_
  .ext d hd acc L' ha h
   let⟨i,hi⟩:=q0j.mp hd;let⟨hi,rfl⟩:=o8 hi;simp!;exact⟨ha,h⟩
  .let e2:(ki j).map dq++(dw 0 (j:Int).toNat).map (λd=>match d with
    |.int a=>dq (a,j)
    |_=>.non)=(ki (j+1)).map dq:=by
    show _=(ki j++_).map dq;unfold dw;rw[q0w,q0I,q0I];congr 1;calc q2E λa _=>?_;simp[q7W]
   simp!;let l66:=IW j ⋯;calc⟨by rw[n8];symm,?_⟩;rw[e2];exact hL _ Y
 .ext δ rfl
  calc⟨trivial,?_⟩;subst hN;let eL:((mm:Int)).toNat=mm:=by symm
  rw[n8,eL];dsimp only
  let back:∀(ps:-(Int×Int))(o':OV)(sl:-(Option DV))(m:-(Option OV)),eG mm ps->bM (n+67) o'->ib 1 K' (.o (↑m+1)) ⟨sl,U o'::(m++[U (.lst (ps.map dq))])⟩:=λps o' sl m h1 h2=>by
   calc⟨[o'],Y,Y,?_⟩;show if ↑m+1<1 then _ else _;rw[q0i ⋯]
   let:(U o'::(m++[U (OV.lst (ps.map dq))]))[↑m+1]?=U (U (.lst (ps.map dq))):=by
    rw[q4J,q0b (Im _),q03];rfl
   dsimp only;rw[this];exact .inl (fin ps o' h1 h2)
  calc bt λN hN=>?_;simp![dEq] at ⊢;split
  .refine⟨⋯,?_⟩
   refine CT (λi acc δ=>∃(zs:-(Int×Int))(o':OV),↑zs=i/\(∀(q:Nat)(p:Int×Int),zs[q]?=U p->p.2=q+1/\0<=p.1/\p.1<p.2)/\acc=zs.map dq/\bM (n+i) o'/\δ=⟨[Z,U (.o 0)],[U o',U (.lst ((ki mm).map dq))]⟩) ⟨[],o,Y,λq p e=>by simp at e,Y,P.mono ⋯,Y⟩ ?_ ?_
   .ext j d acc δ L hj ⟨zs,o',hz,hq,rfl,P',rfl⟩ hL
    let⟨hj,rfl⟩:=o8 hj;simp!;calc⟨n+j,1+j,o',Y,Y,P',⋯,⋯,⋯,λr mR r0 r1 pD=>?_⟩;simp!;refine⟨⋯,hL _ _ ⟨zs++[(r,1+(j:Int))],mR,by rw[Qs,hz];rfl,λq p e=>?_,by rw[q0w];rfl,pD.mono ⋯,Y⟩⟩
    by_cases c:q<↑zs
    .rw[Z_ c] at e
     exact hq q p e
    .let hl:=(Il.mp e).1
     rw[Qs,q0W] at hl;let:q=↑zs:=by symm
     subst this;rw[q0b (Im _),q03] at e;cases(show U (r,1+(j:Int))=U p by simpa using e)
     exact⟨by show 1+(j:Int)=_;symm,r0,r1⟩
   .ext acc δ ⟨zs,o',hz,hq,rfl,P',rfl⟩
    rw[n8] at hz P';calc⟨trivial,?_⟩;refine back zs o' _ [_] ⟨λp hp=>?_,?_,⋯⟩ (P'.mono ⋯)
    .let⟨q,qC⟩:=q0j.mp hp
     let:=hq q p qC;let hl:=(Il.mp qC).1;symm
    .refine q2Y.mpr λi j hi hj kZ e=>?_
     let q1:=hq i _ (vD hi);let q2:=hq j _ (vD hj);rw[e] at q1;symm
  subst hN;calc bt λN hN=>?_;simp![dEq] at ⊢;split
  .clear hN
   refine⟨⋯,?_⟩
   refine kC (λd=>match d with
    |.int a=>dq (a,a+1)
    |_=>.non) (by rw[n8];symm) trivial ?_ ?_
   .ext d hd acc L' ha h
    let⟨i,hi⟩:=q0j.mp hd;let⟨hi,rfl⟩:=o8 hi;simp!;exact⟨ha,h⟩
   .simp!
    refine k6 (λd=>dEq d (dq (0,mm-1))&&G ((2:Int)<mm)) id (by rw[BE];let:=cQ.iQ;symm) Y ?_ ?_
    .ext d hd acc L' ha h h'
     let⟨p,hp,rfl⟩:=q0q.mp hd;erw[dq] at h h';simp![dq] at ⊢;split
     .rename_i q1
      split
      .rename_i q2
       exact⟨ha,h (by rw[q1,q2];rfl)⟩
      .rename_i q2
       exact h' (by rw[q1,q6K _ |>.mp q2];rfl)
     .rename_i q1
      exact h' (by rw[q6K _ |>.mp q1];rfl)
    .simp!
     let er:(dw 0 ((mm:Int)-1).toNat).map (λd=>match d with
       |D.int a=>dq (a,a+1)
       |x=>D.non)=((q0C (mm-1)).map λi:Nat=>((i:Int),(i:Int)+1)).map dq:=by
      unfold dw;rw[q0I,q0I];let:((mm:Int)-1).toNat=mm-1:=by symm
      rw[this];calc q2E λa _=>?_;simp[q7W]
     let ef:(((ki mm).map dq).filter λd=>dEq d (dq (0,mm-1))&&G ((2:Int)<mm))=((ki mm).filter λp=>dEq (dq p) (dq (0,mm-1))&&G ((2:Int)<mm)).map dq:=by
      rw[q17];rfl
     rw[er,q5A,ef,<-q0w]
     let hf:∀p∈(ki mm).filter (λp=>dEq (dq p) (dq (0,mm-1))&&G ((2:Int)<mm)),p=(0,(mm:Int)-1)/\(2:Int)<mm:=λp hp=>by
      let:=(q0R.mp hp).2;simp[dq,dEq,dy] at this;let⟨a,b⟩:=p;simp at this ⊢;symm
     let h1:↑((ki mm).filter (λp=>dEq (dq p) (dq (0,mm-1))&&G ((2:Int)<mm)))<=1:=SY (cQ.l5.sublist q5I) λp hp=>(hf p hp).1;refine⟨by rw[n8,BE];symm,back _ o _ [_] ⟨λp hp=>?_,?_,?_⟩ (P.mono ⋯)⟩
     .rcases q0z.mp hp with hp|hp
      .let⟨i,hi,rfl⟩:=q0q.mp hp
       let:=q05.mp hi;exact⟨⋯,⋯,by show(i:Int)+1<mm;symm⟩
      .exact cQ.ends p (q0R.mp hp).1
     .refine q14.mpr ⟨?_,cQ.l5.sublist q5I,λa ha b hb e=>?_⟩
      .refine q2S.mpr (q4w.imp λ{a b} ne e=>ne ?_)
       let:=congrArg q9w e;exact q7P this
      .subst e
       let⟨i,hi,rfl⟩:=q0q.mp ha;let:=hf _ hb;let h2:=congrArg q9w this.1;let h3:=congrArg Prod.snd this.1;simp at h2 h3;symm
     .rw[Qs,BE,q07];symm
  subst hN;calc bt λN hN=>?_;simp![dEq] at ⊢;split
  .exact⟨[o],Y,Y,.inl (fin _ _ cQ (P.mono ⋯))⟩
  subst hN;calc bt λN hN=>?_;simp![dEq] at ⊢;split
  .refine C7 (λ_ _=>Y) cQ.iQ P ⋯ (λp i o' Q hp hi P' hQ=>?_) Y λzs o' hz P'=>?_
   .simp![dEq]
    calc⟨n+i,4,o',Y,Y,P',⋯,⋯,⋯,λr mR r0 r1 pD=>?_⟩;simp!;exact hQ _ _ pD
   .exact back zs o' _ [_] (cQ.sub hz) (P'.mono (by let:=cQ.iQ;symm))
  subst hN;calc bt λN hN=>?_;simp![dEq] at ⊢;split
  .refine⟨n,mm+1,o,Y,Y,P,⋯,⋯,⋯,λhalf o1 r0 r1 P1=>?_⟩
   simp!;refine C7 (n:=n+1) (λ_ _=>Y) cQ.iQ P1 ⋯ (λp i o' Q hp hi P' hQ=>?_) Y λzs o' hz P'=>?_
   .simp![dEq,dq,dm,eF] at ⊢
    split
    .refine⟨n+1+i,3,o',Y,Y,P',⋯,⋯,⋯,λr mR r0 r1 pD=>?_⟩
     simp!;exact hQ _ _ pD
    .exact hQ _ _ (P'.mono ⋯)
   .exact back zs o' _ [_] (cQ.sub hz) (P'.mono (by let:=cQ.iQ;symm))
  subst hN;simp![dEq];refine C7 (λ_ _=>Y) cQ.iQ P ⋯ (λp i o' Q hp hi P' hQ=>?_) Y λzs o' hz P'=>?_
  .simp![dEq]
   calc⟨n+i,2,o',Y,Y,P',⋯,⋯,⋯,λr mR r0 r1 pD=>?_⟩;simp!;exact hQ _ _ pD
  .calc back zs o' _ [_] (cQ.sub hz) (P'.mono (by let:=cQ.iQ;symm))
theorem Kf{α:Type}:∀{l:-α}{j:Nat}(h:j<↑l),q72 (l[j]::l.eraseIdx j) l
 |x::r,0,h=>q2G _
 |x::r,j+1,h=>by
  let hj:j<↑r:=by simpa using h
  show q72 (r[j]::x::r.eraseIdx j) (x::r);calc(q3V x r[j] _).trans ((Kf hj).cons x)
theorem Kg{α β:Type}(f:α->β):∀(l:-α)(j:Nat),(l.map f).eraseIdx j=(l.eraseIdx j).map f
 |[],_=>Y
 |_::_,0=>Y
 |x::r,j+1=>by
  show f x::(r.map f).eraseIdx j=f x::(r.eraseIdx j).map f;rw[Kg f r j]
noncomputable def bR(y:Int×Int×Int):D:=.tup [.int y.1,.int y.2.1,.int y.2.2]
noncomputable def bq(m:Int)(ys:-(Int×Int×Int)):D:=.tup [.int m,.tup (ys.map bR)]
noncomputable def pE(y:Int×Int×Int):Int×Int:=(y.1,y.2.1)
theorem eG.perm{many:Int}{ps qs:-(Int×Int)}(h:eG many ps)(p:qs.Perm ps):eG many qs :=
 ⟨λx hx=>h.ends x (p.mem_iff.mp hx),p.nodup_iff.mpr h.l5,by rw[p.length_eq];calc h.iQ⟩
inductive C9 (ys:-DV) (aB:-OV) (K:RV->-OV->Prop):Prop
 |mk (n eO most:Int) (o:OV) (_:ys=[.o 0,.p (.int eO),.p (.int most)]) (_:aB=[o]) (_:bM n o) (_:n+400<2 ^ 30) (_:1<=eO) (_:eO<=12) (_:0<=most) (_:most<=30) (_:∀m ws o',aY m ws->m<=eO->(↑ws:Int)<=most->bM (n+300) o'->K (.p (bq m ws)) [o'])
def C_:WS:=(aD (bj 3 (aJ 2 gP (aq (aa 0) (aq (dC (.int 8)) ah)))) (aD (bj 4 (aJ 2 gP (aq (aa 0) (aq (dC (.int 4)) ah)))) (aD (bj 5 (d2 (dC (.int 1)) (aJ 2 gP (aq (aa 0) (aq (aa 1) ah))) dh)) (aD (bj 6 (wc 3 C5 (aq (aa 0) (aq (aa 3) (aq (aa 5) ah))))) (aD (bj 7 (oS ah)) (aD (e8 (mK (aq (dN (aq (aa 2) (aq (dN (aq (aa 6) ah) cw) ah)) wB) ah)) (bQ 8) (aD (i9 (CO (aa 6) (aq (aJ 2 gP (aq (aa 0) (aq (dN (aq (aa 6) ah) cw) ah))) ah)) (i8 2 (d7 (bQ 9) (d7 (bQ 10) iO)))) (aD (bj 11 (d2 (dS (aq (dC (.int 7)) (aq (aJ 2 gP (aq (aa 0) (aq (dC (.int 3)) ah))) (aq (d2 (d2 (dC (.int 10)) (dC (.int 9)) (ft h8 λi j=>.int (i ^ j.toNat))) (aJ 2 gP (aq (aa 0) (aq (dC (.int 2)) ah))) (oI λi j=>.int (i-j))) (aq (aJ 2 gP (aq (aa 0) (aq (d2 (d2 (dC (.int 10)) (dC (.int 9)) (ft h8 λi j=>.int (i ^ j.toNat))) (dC (.int 1)) dh) ah))) ah))))) (aa 4) bw)) (ky (ij (aa 7) (aq (bW (aq (aa 9) (aq (aa 10) (aq (aa 11) ah)))) ah)))))) (bh (bW (aq (aa 5) (aq (dN (aq (aa 7) ah) wA) ah))))))))))
theorem S8:Sem 3 9 C9 C_:=by
 ext ys aB K'-⟨n,eO,most,o,rfl,rfl,P,hn,h1,S9,s0,s30,fin⟩;unfold C_;calc bt λN hN=>?_;simp!;calc⟨n,8,o,Y,Y,P,⋯,⋯,⋯,λkind o1 _ _ P1=>?_⟩;simp!;subst hN;calc bt λN hN=>?_;simp!;calc⟨n+1,4,o1,Y,Y,P1,⋯,⋯,⋯,λfB o2 p0 p4 P2=>?_⟩;simp!;subst hN;calc bt λN hN=>?_;simp!;calc⟨n+1+1,eO,o2,Y,Y,P2,⋯,⋯,⋯,λmm o3 m0 mh P3=>?_⟩;simp!;subst hN;calc bt λN hN=>?_;simp!;refine⟨n+1+1+1,kind,1+mm,o3,Y,Y,P3,⋯,⋯,⋯,λps o4 Kh P4=>?_⟩
 simp!;subst hN;calc bt λN hN=>?_;simp!;subst hN;calc bt λN hN=>?_;let f66:=Kh.iQ;simp!;calc⟨⋯,?_⟩;let ek:(min most (↑ps:Int)).toNat=min most.toNat ↑ps:=by symm
 rw[ek];generalize hk:min most.toNat ↑ps=k
 refine mO (λi δ=>∃(qs:-(Int×Int))(ws:-(Int×Int×Int))(o':OV),↑qs+i=↑ps/\↑ws=i/\eG (1+mm) (ws.map pE++qs)/\(∀y∈ws,0<=y.2.2/\y.2.2<=1000000000)/\bM (n+70+4*i) o' ∧
  δ=⟨[U (.o 0),U (.p (.int eO)),U (.p (.int most)),U (.p (.int kind)),U (.p (.int fB)),U (.p (.int (1+mm))),U (.o 1),U (.o 2),Z,Z,Z,Z],[U o',U (.lst (qs.map dq)),U (.lst (ws.map bR))]⟩)
  ⟨ps,[],o4,⋯,Y,Kh,λy hy=>absurd hy q0s,P4.mono ⋯,Y⟩ ?_ ?_
 .ext j d δ L hj ⟨qs,ws,o',hq,hw,hp,hy,P',rfl⟩ hL
  let⟨hj,rfl⟩:=o8 hj;let q0:0<↑qs:=by symm
  let S_:=hp.iQ;rw[Qs,BE] at S_;calc⟨trivial,?_⟩;erw[bQ,q0Y,q0Z];calc bt λN2 mQ=>?_;simp!;calc⟨n+70+4*j,↑qs,o',Y,Y,P',⋯,⋯,⋯,λr o1 r0 r1 P1=>?_⟩;let⟨rn,rfl⟩:∃rn:Nat,r=rn:=⟨r.toNat,⋯⟩;let hr:rn<↑qs:=by symm
  let ix:seqIndex? (rn:Int) ↑qs=U rn:=Rw hr;let eq:(qs.map dq)[rn]?=U (.tup [.int qs[rn].1,.int qs[rn].2]):=by rw[Qw,vD hr];rfl
  simp![ix,eq];calc⟨⟨⋯,⋯⟩,?_⟩;subst mQ;calc bt λN2 mQ=>?_;erw[bj,d2,dS];calc uB λK3 sQ=>?_;simp!;subst sQ;calc uB λK3 sQ=>?_;simp!;calc⟨n+70+4*j+1,3,o1,Y,Y,P1,⋯,⋯,⋯,λa1 o2 a10 a11 P2=>?_⟩;simp!;subst sQ;calc uB λK3 sQ=>?_;simp!;calc⟨⟨by decide,by decide,by decide⟩,n+70+4*j+1+1,2,o2,Y,Y,P2,⋯,⋯,⋯,λa2 o3 a20 a21 P3=>?_⟩;simp!;subst sQ;calc uB λK3 sQ=>?_;simp!;refine⟨⟨by decide,by decide,by decide⟩,n+70+4*j+1+1+1,10 ^ x1o 9+1,o3,Y,Y,P3,⋯,by decide,by decide,λa3 o4 a30 Ta P4=>?_⟩
  simp!;subst sQ;simp!;let e9:(10:Int) ^ x1o 9=1000000000:=by decide
  rw[e9] at Ta ⊢
  let⟨pr,Tb,Tc,Td⟩:∃pr:Int,eK [D.int 7,D.int a1,D.int (1000000000-a2),D.int a3] fB=U (.int pr)/\0<=pr/\pr<=1000000000:=by
   let:fB=0\/fB=1\/fB=2\/fB=3:=by symm
   rcases this with rfl|rfl|rfl|rfl
   .exact⟨7,Y,⋯,⋯⟩
   .exact⟨a1,Y,⋯,⋯⟩
   .exact⟨1000000000-a2,Y,⋯,⋯⟩
   .exact⟨a3,Y,⋯,⋯⟩
  rw[Tb];show N2 _;subst mQ;simp!;refine⟨⋯,hL _ ⟨qs.eraseIdx rn,ws++[(qs[rn].1,qs[rn].2,pr)],o4,?_,?_,?_,?_,P4.mono ⋯,?_⟩⟩
  .rw[q3U hr];symm
  .rw[Qs,hw];rfl
  .refine hp.perm ?_
   rw[q0w,q2v];calc q5e _ ?_;exact Kf hr
  .ext y uC
   rcases q0z.mp uC with h|h
   .exact hy y h
   .rw[q0K.mp h];exact⟨Tc,Td⟩
  .rw[q0w,Kg];rfl
 .ext δ ⟨qs,ws,o',hq,hw,hp,hy,P',rfl⟩
  calc⟨trivial,?_⟩;subst hN;simp!;rw[n8] at hw P';calc⟨[o'],Y,Y,?_⟩;refine fin (1+mm) ws o' ⟨⋯,⋯,⋯,λy uC=>?_,?_⟩ ⋯ ⋯ (P'.mono ⋯)
  .let:=hp.ends (pE y) (q1x _ (q0q.mpr ⟨y,uC,Y⟩))
   let h2:=hy y uC;erw[pE] at this;symm
  .calc (q14.mp hp.l5).1
end LJ
namespace L2
open PySem PySem.Spec PyProof.Rows
variable[bf]
section
variable{X:Cx}{fa:WA}
end
end L2
namespace LJ
open PySem L2
variable[bf]
noncomputable def Dd:D->Bool
 |.int _=>θ
 |_=>ι
noncomputable def De:D->Int->Int->Bool
 |.int i,lo,hi=>G (lo<=i)&&G (i<=hi)
 |_,_,_=>ι
noncomputable def sR:D->Int->Bool
 |.tup ds,n=>(↑ds:Int)==n
 |_,_=>ι
theorem ik{K:RV->-OV->Prop}{d:D}{sl:-(Option DV)}(h:K (.p d) []):ib 0 K (.p d) ⟨sl,[]⟩:=⟨[],Y,Y,h⟩
inductive y6 (ys:-DV) (aB:-OV) (K:RV->-OV->Prop):Prop
 |mk (d) (_:ys=[.p d]) (_:aB=[]) (_:K (.p (.bl (Dd d))) [])
def Df:WS:=(bh (lP (d1 (aa 0) (dz "int")) (B7 (d1 (aa 0) (dz "bool")))))
theorem Te:Sem 1 0 y6 Df:=by
 ext ys aB K'-⟨d,rfl,rfl,k⟩;unfold Df;simp!;cases d<;>erw[cY,bK]<;>calc ik k
inductive sS (ys:-DV) (aB:-OV) (K:RV->-OV->Prop):Prop
 |mk (d) (lo) (hi) (_:ys=[.p d,.p (.int lo),.p (.int hi)]) (_:aB=[]) (_:K (.p (.bl (De d lo hi))) [])
def Dg:WS:=(bh (lP (aJ 1 y6 (aq (aa 0) ah)) (CL (aa 1) (aa 0) (aa 2) (oI λi j=>.bl (G (i<=j))) (oI λi j=>.bl (G (i<=j))))))
theorem Tf:Sem 3 0 sS Dg:=by
 ext ys aB K'-⟨d,lo,hi,rfl,rfl,k⟩;unfold Dg;simp!;calc⟨d,Y,Y,?_⟩;cases d<;>simp![Dd,De] at k ⊢ <;> first|exact ik k|skip
 rename_i i
 by_cases c:lo<=i
 .rw[q0n c] at k ⊢
  erw[q5P] at k;exact ik k
 .rw[q0e c] at k ⊢
  erw[q5v] at k;calc ik k
inductive uD (ys:-DV) (aB:-OV) (K:RV->-OV->Prop):Prop
 |mk (d) (n) (_:ys=[.p d,.p (.int n)]) (_:aB=[]) (_:K (.p (.bl (sR d n))) [])
def Dh:WS:=(bh (lP (d1 (aa 0) (dz "tuple")) (d2 (dN (aq (aa 0) ah) cw) (aa 1) oEq)))
theorem Tg:Sem 2 0 uD Dh:=by
 ext ys aB K'-⟨d,n,rfl,rfl,k⟩;unfold Dh;simp!;cases d<;>simp![cY,bK,sR,dEq] at k ⊢ <;> calc ik k
theorem k9{K:RV->-OV->Prop}{d:D}{sl:-(Option DV)}{mu:-(Option OV)}(h:K (.p d) []):ib 0 K (.p d) ⟨sl,mu⟩:=⟨[],Y,Y,h⟩
theorem Di:∀{ds:-D}{d:D},d∈ds->dep d<=bV ds
 |a::r,d,h=>by
  erw[bV];rcases Qu.mp h with rfl|h
  .omega
  .let:=Di h;symm
theorem pF:bK "NoneType" "bool" = ι:=rfl
theorem pG:bK "NoneType" "int" = ι:=rfl
theorem pH:bK "NoneType" "str" = ι:=rfl
theorem pJ:bK "NoneType" "tuple" = ι:=rfl
theorem pK:bK "NoneType" "list" = ι:=rfl
theorem n_:bK "bool" "bool" = θ:=rfl
theorem oa:bK "bool" "int" = θ:=rfl
theorem og:bK "bool" "str" = ι:=rfl
theorem oh:bK "bool" "tuple" = ι:=rfl
theorem om:bK "bool" "list" = ι:=rfl
theorem mS:bK "int" "bool" = ι:=rfl
theorem mT:bK "int" "int" = θ:=rfl
theorem mU:bK "int" "str" = ι:=rfl
theorem mV:bK "int" "tuple" = ι:=rfl
theorem mW:bK "int" "list" = ι:=rfl
theorem lT:bK "str" "bool" = ι:=rfl
theorem lU:bK "str" "int" = ι:=rfl
theorem lV:bK "str" "str" = θ:=rfl
theorem lW:bK "str" "tuple" = ι:=rfl
theorem lX:bK "str" "list" = ι:=rfl
theorem pL:bK "tuple" "bool" = ι:=rfl
theorem pM:bK "tuple" "int" = ι:=rfl
theorem pN:bK "tuple" "str" = ι:=rfl
theorem pO:bK "tuple" "tuple" = θ:=rfl
theorem pP:bK "tuple" "list" = ι:=rfl
theorem pQ:bK "list" "bool" = ι:=rfl
theorem pR:bK "list" "int" = ι:=rfl
theorem pT:bK "list" "str" = ι:=rfl
theorem pU:bK "list" "tuple" = ι:=rfl
theorem pV:bK "list" "list" = θ:=rfl
theorem Dj:∀{as:-D}{d:D},d∈df as as->∃a,d=.tup [a,a]/\a∈as
 |[],d,h=>nomatch h
 |x::r,d,h=>by
  erw[df] at h;rcases Qu.mp h with rfl|h
  .exact⟨x,Y,q0m⟩
  .let⟨a,e,m⟩:=Dj h
   calc⟨a,e,q0l _ m⟩
theorem Dl:∀l:-D,bV (l.map λ_=>D.bl θ)<=55
 |[]=>q06 _
 |_::r=>by
  rw[q0r];let:=Dl r;erw[bV,dep];symm
end LJ
namespace L2
open PySem PySem.Spec PyProof.Rows
variable[bf]
def Ki:-D->(D->Prop)->Prop:=λds K=>∃ps:-(Int×Int),ds=[.lst (ps.map λp=>.tup [.int p.1,.int p.2])]/\↑ps<=30/\(∀p∈ps,0<=p.1/\p.1<p.2/\p.2<12)/\ps.Nodup/\K (.int ↑ps)
section
variable{X:Cx}{fa:WA}
theorem Th{a:l}{p1 p2 q1 q2:y}(hc:X.calm=θ)(hu:X.A.units+64<cLine)(wD:Gl X "len")(hl:X.mg "len" = Z)(wF:bootBuiltins "len" = U (.builtin "len"))(wG:Gl X "set")(hr:X.mg "set" = Z)(wH:bootBuiltins "set" = U (.type "set"))(ha:JA X [a] (cy fa))
  (he:starEach [a] X.env=[(ι,eval a X.env)]:=by rfl) (wI:starEach [.Call (.Name "set" p2) [a] [] q2] X.env=[(ι,eval (.Call (.Name "set" p2) [a] [] q2) X.env)]:=by rfl):JE X (.Call (.Name "len" p1) [.Call (.Name "set" p2) [a] [] q2] [] q1) (tD (dN fa Ki)) :=
 (x_ (Rt) wD hl wF (oR (rS (Rp hc hu) wG hr wH ha (he:=he)) c7) (he:=wI)).weak fun σ H Q ⟨F,ad,δ,K,S,q,k⟩=>⟨F,ad,δ,_,S,q,λxs δ1 h1 vs F1 bp H1 E1 S1 V1=>by
  let⟨ds,⟨ps,rfl,iT,bd,l5,h2⟩,nW⟩:=vW S1 V1 h1;let⟨v,rfl,a,vs,rfl,g1,g2⟩:=dj nW;let⟨as,rfl,hl,g⟩:=Ka g2;calc⟨a,as,ps,Y,bT.of g1,hl,λi b k' e1 e2=>S1.sub _ _ (g i b k' e1 e2),bd,l5,iT,λp hp=>⟨p,↑ps,Y,cA,⋯,?_⟩⟩;let s1:bc H1 (upd H1 p (mC p ↑ps)):=cK hp
  calc k _ _ h2 _ _ _ _ (E1.trans (Ext.al S1 s1)) (S1.al s1) Y⟩
end
end L2
namespace LJ
open PySem L2
variable[bf]
theorem wU{i lo hi:Int}(h:lo<=i)(h':i<=hi):De (.int i) lo hi=θ:=by
 show(G (lo<=i)&&G (i<=hi))=θ;rw[q0n h,q0n h'];rfl
inductive Dp (ys:-DV) (aB:-OV) (K:RV->-OV->Prop):Prop
 |mk (m i j:Int) (_:ys=[.p (.int m),.p (.int i),.p (.int j)]) (_:aB=[]) (_:0<=i) (_:i<j) (_:j<m) (_:K (.p (.bl θ)) [])
def Dq:WS:=(bh (lP (aJ 3 sS (aq (aa 1) (aq (dC (.int 0)) (aq (d2 (aa 0) (dC (.int 1)) (oI λi j=>.int (i-j))) ah)))) (aJ 3 sS (aq (aa 2) (aq (d2 (aa 1) (dC (.int 1)) dh) (aq (d2 (aa 0) (dC (.int 1)) (oI λi j=>.int (i-j))) ah))))))
theorem Ti:Sem 3 0 Dp Dq:=by
 ext ys aB K'-⟨m,i,j,rfl,rfl,h1,h2,h3,k⟩;unfold Dq;simp!;calc⟨.int i,0,m-1,Y,Y,?_⟩;rw[wU h1 ⋯];simp!;calc⟨.int j,i+1,m-1,Y,Y,?_⟩;rw[wU ⋯ ⋯];simp!;calc ik k
structure Kj(m:Int)(y:Int×Int×Int):Prop where
 low:0<=y.1
 up:y.1<y.2.1
 most:y.2.1<m
 pr:0<=y.2.2/\y.2.2<=1000000000
inductive Dr (ys:-DV) (aB:-OV) (K:RV->-OV->Prop):Prop
 |mk (m) (y) (_:Kj m y) (_:ys=[.p (.int m),.p (bR y)]) (_:aB=[]) (_:K (.p (.bl θ)) [])
def Ds:WS:=(aD (bS (gK (dT (aJ 2 uD (aq (aa 1) (aq (dC (.int 3)) ah))))) (bh (dC (.bl ι))) dZ) (bh (lP (aJ 3 Dp (aq (aa 0) (aq (d2 (aa 1) (dC (.int 0)) bw) (aq (d2 (aa 1) (dC (.int 1)) bw) ah)))) (aJ 3 sS (aq (d2 (aa 1) (dC (.int 2)) bw) (aq (dC (.int 0)) (aq (dC (.int 1000000000)) ah)))))))
theorem Tj:Sem 2 0 Dr Ds:=by
 ext ys aB K'-⟨m,y,W,rfl,rfl,k⟩;unfold Ds;calc bt λN hN=>?_;simp!;calc⟨bR y,3,Y,Y,?_⟩;rw[show sR (bR y) 3=θ from Y];simp!;subst hN;simp![bR,dm,eF,at2];calc⟨m,_,_,Y,Y,W.low,W.up,W.most,?_⟩;simp!;calc⟨_,0,1000000000,Y,Y,?_⟩;rw[wU W.pr.1 W.pr.2];simp!;calc ik k
theorem aY.way{m:Int}{ws:-(Int×Int×Int)}(W:aY m ws){y:Int×Int×Int}(h:y∈ws):Kj m y :=
 let⟨a,b,c,d,e⟩:=W.ends y h
 ⟨a,⋯,⋯,d,e⟩
inductive Dt (ys:-DV) (aB:-OV) (K:RV->-OV->Prop):Prop
 |mk (m) (ws) (_:aY m ws) (_:ys=[.p (.int m),.p (.tup (ws.map bR))]) (_:aB=[]) (_:K (.p (.bl θ)) [])
def Du:WS:=(aD (bS (nY (gK (dT (d1 (aa 1) (dz "tuple")))) (dT (d2 (dN (aq (aa 1) ah) cw) (dC (.int 30)) (oI λi j=>.bl (G (j<i)))))) (bh (dC (.bl ι))) dZ) (aD (bS (gK (dT (dN (aq (d9 (cq (aa 1)) [Z,U 0] (bQ 0) du (aJ 2 Dr (aq (aa 1) (aq (aa 0) ah)))) ah) pf))) (bh (dC (.bl ι))) dZ) (bh (d2 (dN (aq (d9 (cq (aa 1)) [Z] (bQ 0) du (gq (aa 0) gi (mM (dC (.int 2))))) ah) Ki) (dN (aq (aa 1) ah) cw) oEq))))
theorem Tn:Sem 2 0 Dt Du:=by
 ext ys aB K'-⟨m,ws,W,rfl,rfl,k⟩;let k_:=W.iT;let iL:=W.iL;unfold Du;calc bt λN hN=>?_;simp![cY,show bK "tuple" "tuple" = θ from rfl];rw[q0i (by rw[q0e ⋯];decide)];subst hN;calc bt λN hN=>?_;simp!;refine kC (λ_=>.bl θ) (by rw[BE];symm) trivial ?_ ?_
 .ext d hd acc L ha h
  let⟨y,hy,rfl⟩:=q0q.mp hd;simp!;calc⟨m,y,W.way hy,rfl,rfl,?_⟩;simp!;exact⟨ha,h⟩
 rw[show(ws.map bR).map (λ_=>D.bl θ)=(ws.map λ_=>θ).map D.bl by rw[q0I,q0I];rfl];simp![JJ];rw[show(ws.map λ_=>θ).all id=θ from q1V.mpr λb hb=>by let⟨_,_,rfl⟩:=q0q.mp hb;rfl];simp!;subst hN;simp!
 refine kC (λd=>match d with
  |.tup [a,b,_]=>.tup [a,b]
  |_=>.non) (by rw[BE];symm) trivial ?_ ?_
 .ext d hd acc L ha h
  let⟨y,hy,rfl⟩:=q0q.mp hd;let ec:cutD [D.int y.1,D.int y.2.1,D.int y.2.2] Z (U 2)=[D.int y.1,D.int y.2.1]:=by unfold cutD;rfl
  simp![bR,ec] at h ⊢;exact⟨ha,h⟩
 simp!;refine⟨ws.map pE,by rw[q0I,q0I];rfl,by rw[BE];calc k_,λp hp=>?_,W.unlike,?_⟩
 .let⟨y,hy,rfl⟩:=q0q.mp hp
  let Y:=W.way hy;let:=Y.most;exact⟨Y.low,Y.up,by show y.2.1<12;symm⟩
 rw[BE];simp![dEq];calc ik k
inductive Dv (ys:-DV) (aB:-OV) (K:RV->-OV->Prop):Prop
 |mk (m) (ws) (_:aY m ws) (_:ys=[.p (bq m ws)]) (_:aB=[]) (_:K (.p (.bl θ)) [])
def Dw:WS:=(aD (bS (gK (dT (aJ 2 uD (aq (aa 0) (aq (dC (.int 2)) ah))))) (bh (dC (.bl ι))) dZ) (bh (lP (aJ 3 sS (aq (d2 (aa 0) (dC (.int 0)) bw) (aq (dC (.int 1)) (aq (dC (.int 12)) ah)))) (aJ 2 Dt (aq (d2 (aa 0) (dC (.int 0)) bw) (aq (d2 (aa 0) (dC (.int 1)) bw) ah))))))
theorem To:Sem 1 0 Dv Dw:=by
 ext ys aB K'-⟨m,ws,W,rfl,rfl,k⟩;unfold Dw;calc bt λN hN=>?_;simp!;calc⟨bq m ws,2,Y,Y,?_⟩;rw[show sR (bq m ws) 2=θ from Y];simp!;subst hN;simp![bq,dm,eF];calc⟨.int m,1,12,Y,Y,?_⟩;rw[wU W.m1 W.iL];simp!;calc⟨m,ws,W,Y,Y,?_⟩;simp!;calc ik k
noncomputable def bH(ns:-Int):D:=.lst (ns.map D.int)
noncomputable def jW(fs:-Int)(i j:Nat):-Int:=fs.map λx=>if x=max (fs.getD i 0) (fs.getD j 0) then min (fs.getD i 0) (fs.getD j 0) else x
theorem Tp(fs:-Int)(i j:Nat):↑(jW fs i j)=fs.length:=by unfold jW;rw[BE]
theorem sT{ns:-Int}{i:Nat}(h:i<↑ns):eK (ns.map D.int) (i:Int)=U (.int (ns.getD i 0)):=by
 calc kh ?_;rw[Qw,vD h,Qv,vD h];rfl
theorem cB{K:RV->-OV->Prop}{d:D}{sl:-(Option DV)}{mu:-(Option OV)}(h:K (.p d) []):ib 0 K (.p d) ⟨sl,mu⟩:=⟨[],Y,Y,h⟩
inductive Dy (ys:-DV) (aB:-OV) (K:RV->-OV->Prop):Prop
 |mk (fs:-Int) (i j:Nat) (_:ys=[.p (bH fs),.p (.int i),.p (.int j)]) (_:aB=[]) (_:i<fs.length) (_:j<fs.length) (_:fs.length<=12) (_:K (.p (bH (jW fs i j))) [])
def Dz:WS:=(aD (bj 3 (dN (aq (d2 (aa 0) (aa 1) bw) (aq (d2 (aa 0) (aa 2) bw) ah)) yQ)) (aD (bj 4 (dN (aq (d2 (aa 0) (aa 1) bw) (aq (d2 (aa 0) (aa 2) bw) ah)) wB)) (bh (d9 (cq (aa 0)) [Z,U 4,U 3] (bQ 0) du (uc (dT (d2 (aa 0) (aa 2) oEq)) (aa 1) (aa 0))))))
theorem Tq:Sem 3 2 Dy Dz:=by
 ext ys aB K'-⟨fs,i,j,rfl,rfl,hi,hj,S9,k⟩;let a1:=sT hi;let a2:=sT hj;unfold Dz bH;calc bt λN hN=>?_;simp![a1,a2];subst hN;calc bt λN hN=>?_;simp![a1,a2];subst hN;simp!
 refine kC (λd=>match d with
  |.int x=>.int (if x=max (fs.getD i 0) (fs.getD j 0) then min (fs.getD i 0) (fs.getD j 0) else x)
  |_=>.non) (by rw[BE];symm) trivial ?_ ?_
 .ext d hd acc L ha h
  let⟨x,_,rfl⟩:=q0q.mp hd;simp!;cases q:dEq (.int x) (.int (max (fs.getD i 0) (fs.getD j 0)))
  .let:¬ x=max (fs.getD i 0) (fs.getD j 0):=λz=>by rw[z,gN] at q;cases q
   erw[this,q2g] at h;exact⟨ha,h⟩
  .let:x=max (fs.getD i 0) (fs.getD j 0):=by erw[dEq] at q;exact q1D q
   erw[this,q2N] at h;exact⟨ha,h⟩
 .refine cB ?_
  let e:(fs.map D.int).map (λd=>match d with
   |.int x=>D.int (if x=max (fs.getD i 0) (fs.getD j 0) then min (fs.getD i 0) (fs.getD j 0) else x)
   |_=>.non)=(jW fs i j).map D.int:=by
   unfold jW;rw[q0I,q0I];rfl
  rw[e];calc k
noncomputable def fg(ws:-(Int×Int×Int))(n:Int):Nat×Nat:=((ws.getD n.toNat (0,0,0)).1.toNat,(ws.getD n.toNat (0,0,0)).2.1.toNat)
noncomputable def ip(ws:-(Int×Int×Int))(fs:-Int)(ns:-Int):-Int:=ns.foldl (λfs n=>jW fs (fg ws n).1 (fg ws n).2) fs
theorem DA(ws:-(Int×Int×Int)):∀(ns:-Int)(fs:-Int),↑(ip ws fs ns)=fs.length
 |[],fs=>Y
 |n::r,fs=>by
  show↑(ip ws (jW fs _ _) r)=_;rw[DA ws r,Tp]
noncomputable def qY(m:Int)(ws:-(Int×Int×Int))(ns:-Int):-Int:=ip ws (cj m.toNat) ns
def Nums(ws:-(Int×Int×Int))(ns:-Int):Prop:=∀n∈ns,0<=n/\n<(↑ws:Int)
theorem qZ{m:Int}{ws:-(Int×Int×Int)}(W:aY m ws){n:Int}(h0:0<=n)(h1:n<(↑ws:Int)):∃y,ws.getD n.toNat (0,0,0)=y/\y∈ws/\eK (ws.map bR) n=U (bR y)/\∃i j:Nat,y.1=i/\y.2.1=j/\i<m.toNat/\j<m.toNat/\i<j:=by
 let⟨k,rfl⟩:∃k:Nat,n=k:=⟨n.toNat,⋯⟩;let hk:k<↑ws:=by symm
 refine⟨ws[k],?_,q1Y hk,kh ?_,?_⟩
 .rw[q0x,Qv,vD hk];rfl
 .rw[Qw,vD hk];rfl
 .let⟨a,b,c,_,_⟩:=W.ends _ (q1Y hk)
  calc⟨ws[k].1.toNat,ws[k].2.1.toNat,⋯,⋯,⋯,⋯,⋯⟩
inductive Tr (ys:-DV) (aB:-OV) (K:RV->-OV->Prop):Prop
 |mk (m:Int) (ws:-(Int×Int×Int)) (ns:-Int) (_:aY m ws) (_:Nums ws ns) (_:((ys=[.p (bq m ws),.p (bH ns)]/\aB=[]/\K (.p (bH (qY m ws ns))) [])\/(ys=[.p (bq m ws),.o 0]/\aB=[.lst (ns.map D.int)]/\K (.p (bH (qY m ws ns))) [.lst (ns.map D.int)])))
theorem Tt(a b:Int):sortI [a,b]=[min a b,max a b]:=by
 refine(yP (as:=[min a b,max a b]) ?_ ?_).symm
 .by_cases c:a<=b
  .rw[Int.min_eq_left c,Int.max_eq_right c]
  .rw[Int.min_eq_right ⋯,Int.max_eq_left ⋯]
   exact q3V ..
 .refine List.Pairwise.cons (λx hx=>?_) (List.pairwise_singleton _ _)
  rw[q0K.mp hx];symm
def DB:GD:=Tr
def y7:WS:=(aD (bj 2 (yS (aq (d2 (aa 0) (dC (.int 0)) bw) ah))) (aD (e8 (cq (aa 1)) (bQ 3) (aD (i9 (dN (aq (d9 (cq (gq (d2 (d2 (aa 0) (dC (.int 1)) bw) (aa 3) bw) gi (mM (dC (.int 2))))) [Z,U 2] (bQ 0) du (d2 (aa 1) (aa 0) bw)) ah) mN) (i8 2 (d7 (bQ 4) (d7 (bQ 5) iO)))) (bj 2 (d9 (cq (aa 2)) [Z,U 4,U 5] (bQ 0) du (uc (dT (d2 (aa 0) (aa 2) oEq)) (aa 1) (aa 0)))))) (bh (aa 2))))
theorem Tu:Sem 2 4 DB y7:=by
 ext ys aB K'-⟨m,ws,ns,W,hn,h⟩;let m1:=W.m1;let iL:=W.iL;let il:↑(cj m.toNat)=m.toNat:=by unfold cj;simp
 let core:∀(x:DV)(mu:-(Option OV))(b9:aN->Prop)(K:KS),(∀sl,b9 ⟨sl,mu⟩)->(∀fs,fs=qY m ws ns->K.nx ⟨[U (.p (bq m ws)),U x,U (.p (bH fs)),Z,Z,Z],mu⟩)->((∃d,x=.p d)\/∃k,x=.o k/\k<↑mu) →
   mI ⟨[U (.p (bq m ws)),U x,U (.p (bH (cj m.toNat))),Z,Z,Z],mu⟩ b9 (bQ 3) (aD (i9 (dN (aq (d9 (cq (gq (d2 (d2 (aa 0) (dC (.int 1)) bw) (aa 3) bw) gi (mM (dC (.int 2))))) [Z,U 2] (bQ 0) du (d2 (aa 1) (aa 0) bw)) ah) mN) (i8 2 (d7 (bQ 4) (d7 (bQ 5) iO)))) (bj 2 (d9 (cq (aa 2)) [Z,U 4,U 5] (bQ 0) du (uc (dT (d2 (aa 0) (aa 2) oEq)) (aa 1) (aa 0))))) K (ns.map D.int) ⟨[U (.p (bq m ws)),U x,U (.p (bH (cj m.toNat))),Z,Z,Z],mu⟩:=by
  ext x mu b9 K hc hK hx;refine mO (λi δ=>δ=⟨[U (.p (bq m ws)),U x,U (.p (bH (ip ws (cj m.toNat) (ns.take i)))),Z,Z,Z],mu⟩) Y ?_ ?_
  .ext j d δ L hj rfl hL
   rw[Qw] at hj;let⟨n,wV,rfl⟩:=q0f.mp hj;let⟨n0,n1⟩:=hn n (q0S wV);let⟨y,ey,hy,ea,i,k,e1,e2,h1,h2,_⟩:=qZ W n0 n1;calc⟨hc _,?_⟩;let hlen:↑(ip ws (cj m.toNat) (ns.take j))=m.toNat:=by rw[DA,il]
   let ej:jW (ip ws (cj m.toNat) (ns.take j)) i k=ip ws (cj m.toNat) (ns.take (j+1)):=by
    let:ns.take (j+1)=ns.take j++[n]:=by rw[q3n,wV];rfl
    rw[this];unfold ip;rw[q6v];show _=jW _ (fg ws n).1 (fg ws n).2
    let:fg ws n=(i,k):=by
     unfold fg;rw[ey,e1,e2,q0x,q0x]
    rw[this]
   generalize hfs:ip ws (cj m.toNat) (ns.take j)=fs at hlen ej;let a1:=sT (ns:=fs) (i:=i) ⋯;let a2:=sT (ns:=fs) (i:=k) ⋯;erw[bQ,q0Y,q0Z];calc bt λN hN=>?_;let ec:cutD [D.int y.1,D.int y.2.1,D.int y.2.2] Z (U 2)=[D.int i,D.int k]:=by rw[<-e1,<-e2];rfl
   simp![eF,bq,ea,bR,ec]
   refine L2.kC (λd=>match d with
    |.int z=>.int (fs.getD z.toNat 0)
    |_=>.non) (by show 2<=1000;decide) trivial ?_ ?_
   .ext d hd acc L' ha h'
    erw[Qu,q0s,q1v] at hd;rcases hd with rfl|rfl
    .simp![bH,a1]
     erw[q0x] at h';exact⟨ha,h'⟩
    .simp![bH,a2]
     erw[q0x] at h';exact⟨ha,h'⟩
   .let es:intsOf [D.int (fs.getD i 0),D.int (fs.getD k 0)]=U [fs.getD i 0,fs.getD k 0]:=Y
    simp![q0x,mN,es,Tt];subst hN;simp![bH]
    refine L2.kC (λd=>match d with
     |.int x=>.int (if x=max (fs.getD i 0) (fs.getD k 0) then min (fs.getD i 0) (fs.getD k 0) else x)
     |_=>.non) (by rw[BE];symm) trivial ?_ ?_
    .ext d hd acc L' ha h'
     let⟨z,_,rfl⟩:=q0q.mp hd;simp!;cases q:dEq (.int z) (.int (max (fs.getD i 0) (fs.getD k 0)))
     .let:¬ z=max (fs.getD i 0) (fs.getD k 0):=λw=>by rw[w,gN] at q;cases q
      erw[this,q2g] at h';exact⟨ha,h'⟩
     .let:z=max (fs.getD i 0) (fs.getD k 0):=by erw[dEq] at q;exact q1D q
      erw[this,q2N] at h';exact⟨ha,h'⟩
    .let e:(fs.map D.int).map (λd=>match d with
      |.int x=>D.int (if x=max (fs.getD i 0) (fs.getD k 0) then min (fs.getD i 0) (fs.getD k 0) else x)
      |_=>.non)=(jW fs i k).map D.int:=by
      unfold jW;rw[q0I,q0I];rfl
     rw[e,ej]
     let eq:(aN.trim ⟨[U (.p (bq m ws)),U x,U (.p (bH (cj m.toNat))),Z,Z,Z],mu⟩ ⟨[U (.p (bq m ws)),U x,U (.p (bH (ip ws (cj m.toNat) (ns.take (j+1))))),U (.p (.int n)),U (.p (.int (min (fs.getD i 0) (fs.getD k 0)))),U (.p (.int (max (fs.getD i 0) (fs.getD k 0))))],mu⟩)=⟨[U (.p (bq m ws)),U x,U (.p (bH (ip ws (cj m.toNat) (ns.take (j+1))))),Z,Z,Z],mu⟩:=by
      unfold aN.trim;rw[q2I];rcases hx with⟨d,rfl⟩|⟨q,rfl,this⟩
      .rfl
      .erw[gM,yD,this,q2N]
     let:=hL _ Y;rw[<-eq] at this;exact this
  .ext δ rfl
   rw[BE,q1F (Im _)];exact⟨hc _,hK _ Y⟩
 let rg:dw 0 m.toNat=(cj m.toNat).map D.int:=wC m.toNat;rcases h with⟨rfl,rfl,k⟩|⟨rfl,rfl,k⟩
 .unfold y7
  calc bt λN hN=>?_;simp![dm,bq];calc⟨⟨⋯,⋯⟩,?_⟩;subst hN;rw[rg];calc bt λN hN=>pB λg' b' K2 hg hb' hK=>?_;simp![bH];subst hg hb' hK;calc core (.p (bH ns)) [] _ _ (λ_=>trivial) (λfs e=>?_) (.inl ⟨_,Y⟩);subst e;show N _;subst hN;simp!;exact cB k
 .unfold y7
  calc bt λN hN=>?_;simp![dm,bq];calc⟨⟨⋯,⋯⟩,?_⟩;subst hN;rw[rg];calc bt λN hN=>pB λg' b' K2 hg hb' hK=>?_;simp!;subst hg hb' hK;calc core (.o 0) [U (.lst (ns.map D.int))] _ _ (λ_=>Y) (λfs e=>?_) (.inr ⟨0,Y,Nat.zero_lt_one⟩);subst e;show N _;subst hN;simp!;calc⟨[.lst (ns.map D.int)],Y,Y,k⟩
theorem DC{n:Nat}{z:Int}(h:z∈cj n):0<=z/\z<(n:Int):=by
 unfold cj at h;let⟨i,hi,rfl⟩:=q0q.mp h;let:=q05.mp hi;simp;symm
theorem uE{H:Hp}{a:O}{o:HO}(h:H a=Z):bc H (upd H a o):=λb u e=>by rw[bE (dY e h)];calc e
structure y8(H:Hp)(p c:O)(at_ z:Int):Prop where
 lst:H p=U (.lst [.ref c,.int at_,.int z])
 cells:∃ns:-Int,H c=U (.lst (ns.map V.int))/\↑ns<=63
 pos:0<=at_
theorem y8.ne{H:Hp}{p c:O}{k z:Int}(P:y8 H p c k z):c≠p:=by
 let⟨ns,h,_⟩:=P.cells;ext e;subst e;rw[P.lst] at h;let h':=q0A h;injection h' with t9
 cases ns with
 |nil=>cases t9
 |cons n r=>injection t9 with h1 _;cases h1
theorem Tv{ns:-Int}{k:Int}(h0:0<=k)(h1:k<(↑ns:Int)):∃n,eK (ns.map V.int) k=U (.int n):=by
 let⟨i,rfl⟩:∃i:Nat,k=i:=⟨k.toNat,⋯⟩;let hi:i<↑ns:=by symm
 calc⟨ns[i],kh ?_⟩;rw[Qw,vD hi];rfl
def Kk(K:My):Sp:=λvs H Q _=>∃(a:O)(ns:-Int),vs=[.ref a]/\bT K H a (ns.map V.int)/\↑ns<=63/\∀(p c:O)(H':Hp),bc H H'->H p=Z->y8 H' p c 0 0->Q (.ref p) H'
def y9(K:My):Sp:=λvs H Q _=>∃(a:O)(ns:-Int),vs=[.ref a]/\bT K H a (ns.map V.int)/\↑ns<=63/\bf.ok H/\∀H',Q (.bl θ) H'
theorem DD(ns:-Int)(lo hi:Option Int):dP (ns.map V.int) lo hi=((ns.drop (HT.bP ↑ns 0 lo)).take (HT.bP ↑ns ↑ns hi-HT.bP ↑ns 0 lo)).map V.int:=by
 unfold dP;rw[BE,q7X,List.map_drop]
theorem Tw{H:Hp}{p c a:O}{n:Nat}(hT:bf.ok H)(N:y8 H p c 0 0):∃(F:Hp)(ns:-Int),↑ns<=63/\SR F [p] ⟨Z::U (.o 0)::q0h n Z,[U (.lst [.lst (ns.map D.int),.int 0,.int 0])]⟩ (U (.ref a)::U (.ref p)::q0h n Z) H:=by
 let⟨ns,hc,hn⟩:=N.cells;let ne:=N.ne
 let cn:∀{b:O},((∃ps,H b=U (.tbl ps))\/∃vs,H b=U (.lst vs))->bf.cs b=Z:=λ{b} h=>by
  cases q:bf.cs b with
  |none=>rfl
  |some o =>
   let⟨vs,rfl⟩:=bf.ct q;let:=bf.co hT _ _ q;rcases h with⟨_,h⟩|⟨_,h⟩<;>rw[this] at h<;>cases h
 refine⟨upd bf.cs c (.lst (ns.map V.int)),ns,hn,⟨λb o e=>?_,λb ⟨k,ov,e1,e2⟩=>?_,Y,λk l a ov ow e1 e2 _ _=>?_,λk ov e=>?_,λi x e=>?_,by simp,hT,⟨λb hb=>by
  let⟨ps,q⟩:=bf.tb hT hb;rw[bE λz=>by subst z;rw[hc] at q;cases q]
  calc cn (q5l ⟨ps,q⟩),λb o e=>by rw[bE λz=>by subst z;rw[cn (q5m ⟨_,hc⟩)] at e;cases e];calc e⟩⟩⟩
 .by_cases z:b=c
  .subst z;rw[cA] at e;cases e;exact hc
  .rw[bE z] at e;exact bf.co hT _ _ e
 .cases k with
  |zero=>cases(show U p=U b by simpa using e1);rw[bE (q2h ne)];exact cn (q5m ⟨_,N.lst⟩)
  |succ k=>simp at e1
 .cases k with
  |zero =>
   cases l with
   |zero=>rfl
   |succ l=>simp at e2
  |succ k=>simp at e1
 .cases k with
  |zero =>
   cases(show OV.lst [.lst (ns.map D.int),.int 0,.int 0]=ov by simpa using e)
   calc⟨p,_,Y,N.lst,_,Y,?_⟩;calc .cons ?_ (.cons Y (.cons Y .nil));erw[Is];exact⟨c,_,Y,cA,um⟩
  |succ k=>simp at e
 .cases i with
  |zero=>simp at e
  |succ i =>
   cases i with
   |zero =>
    cases(show DV.o 0=x by simpa using e)
    exact⟨_,Y,p,Y,Y⟩
   |succ i =>
    exfalso;let e:(q0h n (Z:Option DV))[i]?=U (U x):=by simpa using e
    rw[q2_] at e;split at e<;>cases e
theorem Tx{B:WS}{F:Hp}{ad:-O}{δ:aN}{σ:St}{H:Hp}{Q:VK}(S:SR F ad δ σ H)(h:B ⟨λ_=>False,λx _=>x=.p (.bl θ),λ_=>False,λ_=>False⟩ δ)(q:∀H',Q (.bl θ) H'):dU B {nx:=λ_ H'=>Q .non H',rt:=Q} σ H :=
 ⟨F,ad,δ,_,S,h,⟨fun δ' h=>h.elim,fun δ' h=>h.elim,fun δ' h=>h.elim,λx δ' h v F' aL σ' H' E' S' V=>by
  let h:x=.p (.bl θ):=h;subst h;let V:v=.bl θ:=V;subst V
  calc q H',trivial⟩⟩
end LJ
namespace L2
open PySem PySem.Spec PyProof.Rows
def DE(Ts:-(O×Array L))(H:Hp):Prop:=∀b,(∃ps,Ts.lookup b=U ps/\H b=U (.tbl ps))\/(Ts.lookup b=Z/\(H b=Z\/(∃o xs,H b=U (.frz o (.lst xs)))\/∃xs,H b=U (.tup xs)))
noncomputable def eB(cs H:Hp):Hp:=λb=>match cs b with
 |none=>H b
 |some _=>Z
theorem DF{cs H:Hp}{b:O}{u:HO}(h:eB cs H b=U u):cs b=Z/\H b=U u:=by
 unfold eB at h
 cases q:cs b with
 |none=>rw[q] at h;exact⟨Y,h⟩
 |some o=>rw[q] at h;cases h
noncomputable def lY(cs H:Hp):Hp:=λb=>match cs b with
 |none=>H b
 |some o=>U o
theorem q9{cs H:Hp}{b:O}(h:cs b=Z):lY cs H b=H b:=by unfold lY;rw[h]
theorem y_{cs H:Hp}{b:O}{o:HO}(h:cs b=U o):lY cs H b=U o:=by unfold lY;rw[h]
structure Cs(P:t)(w:S)(cs:Hp)(h:I):Prop where
 ct:∀{b:O}{o:HO},cs b=U o->∃xs,o=.tup xs
 ok:∀{b:O}{xs:-V},cs b=U (.tup xs)->↑xs<=sizeLine/\∃aA:-L,Vals xs aA/\IsTup h b aA.toArray
theorem Cs.no{P:t}{w:S}{cs:Hp}{h:I}(C:Cs P w cs h){b:O}{u:Q}(e:h.get? b=U u)(n:u.cls≠.type "tuple"):cs b=Z:=by
 cases q:cs b with
 |none=>rfl
 |some o =>
  let⟨xs,rfl⟩:=C.ct q;let⟨_,aA,_,hI⟩:=C.ok q;let⟨o,e1,r⟩:=hI;rw[e] at e1;cases e1;calc absurd r.1 n
theorem Tz{P:ψ}{w:S}{K:My}{mg mb:J->Option L}{CX:lI}{k:Nat}{fa a:O}{fd:FuncData}{x:J}{sp:Sp}{s₁:B}{vs:-L}{ns:-Int}(Ts:-(O×Array L)){cs:Hp}(hC:Cs P w cs s₁.heap)
  (hT:∀b ps,Ts.lookup b=U ps->s₁.heap.get? b=U {cls:=.none,data:=.fields ps}/\isCodeTable s₁.heap b/\K.lookup b=Z)
  (KX:K.In s₁.heap) (wW:s₁.heap.Ns mainGlobals mg) (hb:s₁.heap.Ns builtinsNs mb) (TB:∀x:J,x≠"__name__" -> mb x=bootBuiltins x) (DG:s₁.heap.NoLimit) (hg:s₁.gens = #[])
  (ha:s₁.heap.get? a=U {cls:=.type "list",data:=.seq vs.toArray}) (hi:IntsAre vs ns) (hl:↑ns<=sizeLine) (hr:bB k callerA)
  (hB:∃bm ob,mg "__builtins__" = U (.ref bm)/\bm≠builtinsNs/\s₁.heap.get? bm=U ob/\ob.cls=.type "module" /\ ob.dict=U builtinsNs/\ob.data=.plain)
  (F:∀base:I,K.In base->base.Ns mainGlobals mg->(∀b ps,Ts.lookup b=U ps->base.BuiltinsAt mg b)->cf P w K mg base CX k fa fd [x] sp) (wX:∀(s:B)(u:L),BindsTo s fd ⟨[u],[]⟩ [(x,u)])
  (qD:∀H:Hp,DE Ts H->bc cs H->bT K H a (ns.map V.int)->sp [.ref a] H (λv _=>v=.bl θ) λ_ _ _=>False)
  (DH:∀H e s',CX [] H s₁ (λ_ _ _=>False) e s'->False) :
  codeAny (ς P w) callerA (.call (.ref fa) ⟨[.ref a],[]⟩) (λr s'=>r=.ok (.ret (.bool θ))/\OldK s₁.heap s'.heap/\s'.os=s₁.os/\AllBare s'.gens) s₁:=by
 let rv:=Ik hi;let DI:=↑hi
 let aT:Ts.lookup a=Z:=by
  cases q:Ts.lookup a with
  |none=>rfl
  |some ps =>
   let:=(hT a ps q).1;rw[ha] at this;let z:=congrArg Obj.cls (q0A this);cases(show q1T "list" = q0E from z)
 let aC:cs a=Z:=hC.no ha (show q1T "list" ≠ q1T "tuple" by decide)
 let tC:∀{b ps},Ts.lookup b=U ps->cs b=Z:=λ{b ps} t=>hC.no (hT b ps t).1 nofun
 let core:∀H:Hp,DE Ts H->bc cs H->bT K H a (ns.map V.int)->eT P w H s₁.heap->(∀b,Ts.lookup b=Z->cs b=Z->H b≠Z->b=a)->(H a≠Z->K.lookup a=Z) →
   codeAny (ς P w) callerA (.call (.ref fa) ⟨[.ref a],[]⟩) (λr s'=>r=.ok (.ret (.bool θ))/\OldK s₁.heap s'.heap/\s'.os=s₁.os/\AllBare s'.gens) s₁:=by
  ext H hO uF hS bu TC hK
  let hA:∀b,Ts.lookup b=Z->eB cs H b≠Z->b=a:=λb t n=>by
   cases q:eB cs H b with
   |none=>exact absurd q n
   |some u=>exact TC b t (DF q).1 (by rw[(DF q).2];simp)
  let iq:∀{b:O}{o:Q},s₁.heap.get? b=U o->eB cs H b=Z->(gF s₁.heap (eB cs H)).get? b=U o:=λe n=>OA e n
  let oG:∀{b:O}{o:Q}{es:Array DictEntry}{ep:Nat},s₁.heap.get? b=U o->o.data=.dict es ep->eB cs H b=Z:=λ{b o es ep} e d=>by
   cases q:eB cs H b with
   |none=>rfl
   |some u =>
    cases t:Ts.lookup b with
    |some ps =>
     let:=(hT b ps t).1;rw[e] at this;cases this;cases d
    |none =>
     let e':b=a:=hA b t (by rw[q];simp);subst e';rw[ha] at e;cases e;let d':Data.seq vs.toArray _=Data.dict es ep:=d;cases d'
  let za:∀{b:O}{m:J->Option L},s₁.heap.Ns b m->(gF s₁.heap (eB cs H)).Ns b m:=λ{b m} ⟨o,es,ep,e,d,r⟩=>⟨o,es,ep,iq e (oG e d),d,r⟩
  let Kl:K.In (gF s₁.heap (eB cs H)):=λb o e=>iq (KX b o e) (by
   cases q:eB cs H b with
   |none=>rfl
   |some u =>
    cases t:Ts.lookup b with
    |some ps=>rw[(hT b ps t).2.2] at e;cases e
    |none =>
     let e':b=a:=hA b t (by rw[q];simp);subst e'
     rw[hK (by rw[(DF q).2];simp)] at e;cases e)
  let TF:∀b ps,Ts.lookup b=U ps->(gF s₁.heap (eB cs H)).BuiltinsAt mg b:=λb ps t=>by
   let⟨bm,ob,b1,b2,b3,b4,b5,b6⟩:=hB;refine⟨bm,ob,b1,b2,λz=>?_,λz=>?_,iq b3 ?_,b4,b5,b6⟩
   .let⟨o,es,ep,e1,e2,_⟩:=wW
    rw[z,e1] at b3;cases b3;rw[e2] at b6;cases b6
   .let:=(hT b ps t).1
    rw[z,this] at b3;cases b3;cases b6
   .cases q:eB cs H bm with
    |none=>rfl
    |some u =>
     cases t':Ts.lookup bm with
     |some TH =>
      let:=(hT bm TH t').1;rw[b3] at this;cases this;cases b6
     |none =>
      let e':bm=a:=hA bm t' (by rw[q];simp);rw[e',ha] at b3;cases b3;cases b6
  let hM:Mod K mg (gF s₁.heap (eB cs H)):=⟨Kl,za wW,⟨mb,za hb,TB⟩,let⟨mc,h1,h2⟩:=DG;⟨mc,za h1,h2⟩⟩
  let e0:jH P w K mg (gF s₁.heap (eB cs H)) callerA [] s₁ H:=⟨Y,hM,λb o e=>⟨(Hf e).1,by
   let z:=(Hf e).2;unfold eB at z
   cases q:cs b with
   |none=>rw[q] at z;exact .inl z
   |some u =>
    let⟨xs,rfl⟩:=hC.ct q
    calc .inr ⟨xs,uF b _ q⟩⟩,q6e (Oz _ _),trivial,λb hb=>absurd (show b∈([]:-O) from hb) (by simp),bu,.of_eq hg⟩
  refine q2O ((F _ Kl (za wW) TF).run callerA [] s₁ H ⟨[.ref a],[]⟩ [.ref a] [.ref a] _ _ hr e0 (wX s₁ (.ref a)) (.cons Y .nil) (qD H hO uF hS)) λr s' h=>?_
  cases r with
  |error e=>exact(DH H e s' h).elim
  |ok fl =>
   cases fl with
   |next=>exact q1t h
   |brk=>exact q1t h
   |cont=>exact q1t h
   |ret u =>
    let⟨v,H',os,bare,un,wY,r',q⟩:=h;let q':v=.bl θ:=q;subst q';obtain rfl:u=q2P θ:=r'
    let all:∀b o,s₁.heap.get? b=U o->asItWas s₁.heap s'.heap b o/\∃o',s'.heap.get? b=U o':=λb o e=>by
     rcases hO b with⟨ps,t,z⟩|⟨t,z|⟨ob,xs,z⟩|⟨xs,z⟩⟩
     .let⟨more,z2⟩:=un.gE b ps z
      let e2:s'.heap.get? b=U {cls:=.none,data:=.fields (ps++more)}:=wY b _ z2;let e1:=(hT b ps t).1;rw[e] at e1;cases e1;exact⟨.inr (.inl ⟨(hT b ps t).2.1,Y,ps,more,Y,e2⟩),_,e2⟩
     .let e2:=un.keep b o e z (by ext z;calc absurd (show b∈([]:-O) from z) (by simp)) (by simp)
      exact⟨.inl e2,_,e2⟩
     .let z2:=un.gD b ob _ z
      let⟨e1,_⟩:=bu b _ z;let⟨e2,_⟩:=wY b _ z2;rw[e] at e1;cases e1;exact⟨.inl e2,_,e2⟩
     .let e2:=un.gb b xs o z e (by simp)
      exact⟨.inl e2,_,e2⟩
    exact⟨Y,⟨λb o e=>(all b o e).1,λb o e=>(all b o e).2⟩,os,bare⟩
 let q_:∀(H:Hp) b ps,Ts.lookup b=U ps->bz P w H s₁.heap b (.tbl ps):=λH b ps t=>(hT b ps t).1
 let one:∀{b:O}{R:Prop},(∀o,cs b=U o->R)->(cs b=Z->R)->R:=λ{b R} f g=>by
  cases q:cs b with
  |none=>exact g q
  |some o=>exact f o q
 let Km:∀{H:Hp}{b:O}{o u:HO},cs b=U o->lY cs H b=U u->bz P w (lY cs H) s₁.heap b u:=λ{H b o u} q z=>by
  rw[y_ q] at z;cases z;let⟨xs,rfl⟩:=hC.ct q;exact hC.ok q
 let cO:∀{H:Hp}{b:O}{o:HO},cs b=U o->(∃ps,Ts.lookup b=U ps/\lY cs H b=U (.tbl ps))\/(Ts.lookup b=Z/\(lY cs H b=Z\/(∃o xs,lY cs H b=U (.frz o (.lst xs)))\/∃xs,lY cs H b=U (.tup xs))):=λ{H b o} q=>by
  let⟨xs,rfl⟩:=hC.ct q;refine .inr ⟨?_,.inr (.inr ⟨xs,y_ q⟩)⟩
  cases t:Ts.lookup b with
  |none=>rfl
  |some ps=>rw[tC t] at q;cases q
 cases hk:K.lookup a with
 |some o =>
  let e:=KX a o hk;rw[ha] at e;cases e
  refine core (lY cs λb=>(Ts.lookup b).map HO.tbl) (λb=>one (λo q=>cO q) λq=>?_) (λb o q=>y_ q) (.inr ⟨_,vs.toArray,_,hk,Y,Y,Y,by rw[Qt,DI];calc hl,by simpa using rv⟩) (λb u z=>one (λo q=>Km q z) λq=>?_) (λb t q z=>?_) λz=>?_
  .rw[q9 q]
   cases t:Ts.lookup b with
   |some ps=>exact .inl ⟨ps,Y,Y⟩
   |none=>exact .inr ⟨Y,.inl Y⟩
  .rw[q9 q] at z
   let⟨ps,t,rfl⟩:=q0f.mp (show(Ts.lookup b).map HO.tbl=U u from z);exact q_ _ b ps t
  .rw[q9 q] at z
   exact absurd (show(Ts.lookup b).map HO.tbl=Z by rw[t];rfl) z
  .rw[q9 aC] at z
   exact absurd (show(Ts.lookup a).map HO.tbl=Z by rw[aT];rfl) z
 |none =>
  refine core (lY cs λb=>if b=a then U (.frz {cls:=.type "list",data:=.seq vs.toArray} (.lst (ns.map V.int))) else(Ts.lookup b).map HO.tbl) (λb=>one (λo q=>cO q) λq=>?_) (λb o q=>y_ q) (.inl (.inr ⟨{cls:=.type "list",data:=.seq vs.toArray},(q9 aC).trans (q0k Y)⟩)) (λb u z=>one (λo q=>Km q z) λq=>?_) (λb t q z=>?_) λ_=>hk
  .rw[q9 q]
   by_cases hb:b=a
   .subst hb
    exact .inr ⟨aT,.inr (.inl ⟨_,_,q0k Y⟩)⟩
   .cases t:Ts.lookup b with
    |some ps=>exact .inl ⟨ps,Y,q0i hb⟩
    |none=>exact .inr ⟨Y,.inl (q0i hb)⟩
  .rw[q9 q] at z
   by_cases hb:b=a
   .let z':=(q0k hb).symm.trans z
    cases z'
    subst hb;exact⟨ha,by rw[BE];calc hl,vs,_,rv,ha⟩
   .let z':=(q0i hb).symm.trans z
    let⟨ps,t,rfl⟩:=q0f.mp z';exact q_ _ b ps t
  .rw[q9 q] at z
   by_cases hb:b=a
   .exact hb
   .calc absurd ((q0i hb).trans (by rw[t];rfl)) z
theorem TJ{l:q6_}{n k:Nat}{q:t}{loose:-J}{XP:(J->Option L)->I->Prop}{YP:S->I->Prop}{d:DefRec}{K:S->My}{CX:S->lI}{sp:S->Sp}{x:J}{Ts:S->-(O×Array L)}{cs:S->Hp}
  (hn:l.most=U n) (tT:n<=sizeLine) (vE:d.params.defaults=[]) (hr:bB k callerA)
  (hY:∀(w:S)(h:I),YP w h->(K w).In h)
  (hT:∀(w:S)(h:I),YP w h->∀b ps,(Ts w).lookup b=U ps->h.get? b=U {cls:=.none,data:=.fields ps}/\isCodeTable h b/\(K w).lookup b=Z)
  (hC:∀(w:S)(h:I),YP w h->Cs l.prog w (cs w) h)
  (F:∀(w:S)(mg:J->Option L)(fa:O)(h:I),(K w).In h->h.Ns mainGlobals mg->mg d.name=U (.ref fa) →
   ∃fd:FuncData,(∀(s:B)(u:L),BindsTo s fd ⟨[u],[]⟩ [(x,u)]) ∧
    ∀base:I,(K w).In base->base.Ns mainGlobals mg->(∀b ps,(Ts w).lookup b=U ps->base.BuiltinsAt mg b)->cf l.prog w (K w) mg base (CX w) k fa fd [x] (sp w))
  (qD:∀(w:S)(H:Hp)(a:O)(ns:-Int),↑ns<=n->DE (Ts w) H->bc (cs w) H->bT (K w) H a (ns.map V.int)->sp w [.ref a] H (λv _=>v=.bl θ) λ_ _ _=>False)
  (DH:∀(w:S)(H:Hp)(s:B)(e:L)(s':B),CX w [] H s (λ_ _ _=>False) e s'->False) :
  PySem.W.WalkO q loose XP YP l.row.toRowW d [] (λf vs=>q7t f vs):=by
 calc Att.iY hn vE λw s₀ s₁ mg mb fa o pm cd doc a vs ns G Y ho hd hX oN r9 hints hlen hg=>?_;let KX:=hY w _ Y;let⟨fd,hb,hF⟩:=F w mg fa _ KX G.T.g oN;calc Tz (Ts w) (hC w _ Y) (hT w _ Y) KX G.T.g G.T.b G.T.builtins G.T.nolimit hg r9 hints (q0B hlen tT) hr G.T.bmain hF hb (λH hO uF hS=>qD w H a ns hlen hO uF hS) λH e s'=>DH w H s₁ e s'
section
variable{X:Cx}{pins:aM}{σ:St}{H:Hp}{s:B}{h':I}
theorem Inv.grow{T c f:O}{ps more:Array L}{oc of:HO}{t':Nat}(I:Inv X pins σ H s)(hT:H T=U (.tbl ps))(k:∀b u,b≠T->s.heap.get? b=U u->h'.get? b=U u)(Kn:h'.get? T=U {cls:=.none,data:=.fields (ps++more)})
  (hc:⇑s<=c) (hf:⇑s<=f) (DJ:c≠f) (TK:∀H2,bz X.prog X.w H2 h' c oc) (TL:∀H2,bz X.prog X.w H2 h' f of) :
  Inv X pins σ (upd (upd (upd H T (.tbl (ps++more))) c oc) f of) {s with heap:=h',toks:=t'}:=by
 let tl:T<⇑s:=(I.bu T _ hT).lt;let cT:c≠T:=q1P (q0o tl hc);let fT:f≠T:=q1P (q0o tl hf);let hc0:H c=Z:=I.bu.fresh hc;let TM:H f=Z:=I.bu.fresh hf
 let old:∀b,b<⇑s->b≠T->upd (upd (upd H T (.tbl (ps++more))) c oc) f of b=H b:=λb hb nT=>by
  rw[bE (q0g (q0o hb hf)),bE (q0g (q0o hb hc)),bE nT]
 let atT:upd (upd (upd H T (.tbl (ps++more))) c oc) f of T=U (.tbl (ps++more)):=by
  rw[bE (q2h fT),bE (q2h cT),cA]
 let lt:∀b u,H b=U u->b<⇑s:=λb u e=>(I.bu b u e).lt
 let fh:∀b u,H b=U u->(∀qs,u≠.tbl qs)->upd (upd (upd H T (.tbl (ps++more))) c oc) f of b=U u:=λb u e n=>by
  rw[old b (lt b u e) (λz=>by subst z;rw[hT] at e;cases e;calc n _ Y)];exact e
 refine I.un (t':=t') ⟨λb o e n _ _=>k b o (λz=>by subst z;rw[hT] at n;cases n) e,λb o e n _ _=>⟨o.slots,k b o (λz=>by subst z;rw[hT] at n;cases n) e⟩,λb o e n _=>?_,λb o e _=>?_,λb xs e=>fh b _ e (λ_ z=>by cases z),λb o u e=>fh b _ e (λ_ z=>by cases z),λb qs e=>?_,λb xs o q e _=>k b o (λz=>by subst z;rw[hT] at q;cases q) e⟩ λb u e=>?_
 .rw[old b (q0a e) (λz=>by subst z;rw[hT] at n;cases n)];exact n
 .by_cases z:b=T
  .subst z;exact⟨_,Kn⟩
  .exact⟨o,k b o z e⟩
 .by_cases z:b=T
  .subst z;rw[hT] at e;cases e;exact⟨more,atT⟩
  .exact⟨#[],by rw[old b (lt b _ e) z,e];simp⟩
 .by_cases z1:b=f
  .subst z1;rw[cA] at e;cases e;exact TL _
  .rw[bE z1] at e
   by_cases z2:b=c
   .subst z2;rw[cA] at e;cases e;exact TK _
   .rw[bE z2] at e
    by_cases z3:b=T
    .subst z3;rw[cA] at e;cases e;exact Kn
    .rw[bE z3] at e
     refine bz.hU (I.bu b u e) (λd v hd q=>?_) (λd q=>fh d _ q (λ_ z=>by cases z)) (λd xs q=>fh d _ q (λ_ z=>by cases z))
     .refine k d v (λy=>?_) q
      subst y;rcases hd with y|y
      .exact z3 y.symm
      .rw[hT] at y;cases y
noncomputable def oo(c:O)(q:J):HO:=.ext λh=>∃o vs tq,h.get? c=U o/\o.data=.fields vs/\vs[1]?=U (.str q tq)
theorem TN{P:t}{w:S}{H:Hp}{h:I}{c:O}{q:J}(e:h.CodeRec (.ref c) q):bz P w H h c (oo c q):=by
 let⟨c',o,vs,tq,z,ho,hd,hq⟩:=e;cases z
 calc⟨⟨o,vs,tq,ho,hd,hq⟩,⟨o,ho⟩,λh1 h2 ⟨o,vs,tq,e1,e2,e3⟩ k↦⟨o,vs,tq,k o e1,e2,e3⟩⟩
theorem TQ{P:t}{w:S}{H:Hp}{h:I}{c:O}{q:J}(x:bz P w H h c (oo c q)):h.CodeRec (.ref c) q:=by
 let⟨⟨o,vs,tq,ho,hd,hq⟩,_⟩:=x;calc⟨c,o,vs,tq,Y,ho,hd,hq⟩
end
end L2
namespace L2
open PySem PySem.Spec PyProof.Rows PySem.W
section
variable{X:Cx}{pins:aM}{σ:St}{H:Hp}{s:B}{params:Arguments}{body:l}{scope:a}{pos:y}{je:-(J×O)}{cc T:O}{ps:Array L}{E:bA}{Q:bA}
noncomputable def jX(f:O)(name qual:J)(params:Arguments)(body:l)(scope:a)(je:-(J×O))(pm cd:L):HO:=.ext λh=>∃wZ,h.get? f=U {cls:=.type "function",data:=.func (kla_fn name qual params body scope je pm cd wZ)}
def fj(H:Hp)(T:O)(pos:y)(qual:J):Prop:=∃ps,H T=U (.tbl ps)/\TriplesOk ps.toList/\(codeAmong pos ps.toList=Z\/∃c,codeAmong pos ps.toList=U (.ref c)/\H c=U (oo c qual))
theorem TR(I:Inv X pins σ H s)(hT:fj H T pos (X.env.qual++"<lambda>"))(DK:defaultsOf params X.env=([],[]))(qL:closureFor scope X.env=pure je)(kD:X.env.code=.ref cc)(C:CodeHd s.heap cc T)(TU:mainGlobals≠T)(hg:s.heap.Ns mainGlobals X.mg)(hb:s.heap.BuiltinsAt X.mg T)
  (h:∀f H' s' c,Inv X pins σ H' s'->fj H' T pos (X.env.qual++"<lambda>")->(∀b o,H b=U o->b≠T->H' b=U o)->H f=Z->H' f=U (jX f "<lambda>" (X.env.qual++"<lambda>") params body scope je ((X.mg "__name__").getD .none) (.ref c))->H' c=U (oo c (X.env.qual++"<lambda>"))->Q (.ref f) s') :
  M (g X.prog X.w) X.A (eval (.Lambda params body scope pos) X.env) Q E s:=by
 let⟨ps,hP,ht,hf⟩:=hT;let DL:s.heap.get? T=U {cls:=.none,data:=.fields ps}:=I.bu T _ hP;calc kla_eval DK ?_;rcases hf with Ko|⟨c,hf,zb⟩
 .refine kla_makeFunction qL I.ok.glob hg kD C DL ht Ko TU hb λc' wZ h' tk hx zc dX DM TV=>?_
  let hsz:⇑s<=h'.objs.size:=q1e (q29 zc dX);let tl:T<⇑s:=q0a DL;let TX:T≠h'.objs.size:=q0g (q0o tl hsz);let TY:T≠c':=q0g (q0o tl zc);let DJ:c'≠h'.objs.size:=q0g dX;let Kp:(ps ++ #[rawInt pos.line,rawInt pos.col,q0J c']).toList=ps.toList++[rawInt pos.line,rawInt pos.col,q0J c']:=by simp
  let atT:upd (upd (upd H T (.tbl (ps ++ #[rawInt pos.line,rawInt pos.col,.ref c']))) c' (oo c' (X.env.qual++"<lambda>"))) h'.objs.size (jX h'.objs.size "<lambda>" (X.env.qual++"<lambda>") params body scope je ((X.mg "__name__").getD .none) (.ref c')) T=U (.tbl (ps ++ #[rawInt pos.line,rawInt pos.col,.ref c'])):=by
   rw[bE TX,bE TY,cA]
  let atC:upd (upd (upd H T (.tbl (ps ++ #[rawInt pos.line,rawInt pos.col,.ref c']))) c' (oo c' (X.env.qual++"<lambda>"))) h'.objs.size (jX h'.objs.size "<lambda>" (X.env.qual++"<lambda>") params body scope je ((X.mg "__name__").getD .none) (.ref c')) c'=U (oo c' (X.env.qual++"<lambda>")):=by
   rw[bE DJ,cA]
  refine h h'.objs.size _ _ c' (I.grow (t':=tk) (oc:=oo c' (X.env.qual++"<lambda>")) (of:=jX h'.objs.size "<lambda>" (X.env.qual++"<lambda>") params body scope je ((X.mg "__name__").getD .none) (.ref c')) hP (λb u nb e=>yd _ (hx b u nb e)) (yd _ TV) zc hsz DJ (λ_=>TN (DM.push _)) λ_=>?_) ⟨_,atT,?_,.inr ⟨c',?_,atC⟩⟩ (λb o e nb=>?_) (I.bu.fresh hsz) cA atC
  .exact⟨⟨wZ,q0c _ Y⟩,⟨_,q0c _ Y⟩,λh1 h2 ⟨v,e⟩ k↦⟨v,k _ e⟩⟩
  .rw[Kp];exact TriplesOk_snoc _ _ _ _ ht
  .rw[Kp];exact codeAmong_snoc _ ht Ko
  .let bl:b<⇑s:=(I.bu b o e).lt
   rw[bE (q0g (q0o bl hsz)),bE (q0g (q0o bl zc)),bE nb];exact e
 .refine kla_makeFunctionHit qL I.ok.glob hg kD C DL ht hf hb λwZ h' tk hk hsz=>?_
  let hn:H h'.objs.size=Z:=I.bu.fresh hsz;refine h h'.objs.size _ _ c (I.laid (a:=h'.objs.size) (o:=jX h'.objs.size "<lambda>" (X.env.qual++"<lambda>") params body scope je ((X.mg "__name__").getD .none) (.ref c)) (t':=tk) (λb u e=>yd _ (hk b u e)) hsz ?_) ⟨ps,?_,ht,.inr ⟨c,hf,?_⟩⟩ (λb o e _=>?_) hn cA ?_
  .exact⟨⟨wZ,q0c _ Y⟩,⟨_,q0c _ Y⟩,λh1 h2 ⟨v,e⟩ k↦⟨v,k _ e⟩⟩
  .rw[bE (dY hP hn)];exact hP
  .rw[bE (dY zb hn)];exact zb
  .rw[bE (dY e hn)];exact e
  .rw[bE (dY zb hn)];calc zb
end
structure LD where
 A:o
 cl:-(J×O)
 f:O
 cd:L
 s:B
 H:Hp
@[reducible] noncomputable def pW (X:Cx) (qual:J) (scope:a) (Nb:-J) (d:LD):Cx where
 prog:=X.prog
 w:=X.w
 K:=X.K
 mg:=X.mg
 base:=X.base
 A:=d.A.deeper (envX qual scope ⇑d.s d.f d.cd d.cl)
 N:=Nb
 s₀:=d.s
 H₀:=d.H
 env:=envX qual scope ⇑d.s d.f d.cd d.cl
 outer:=X.stack
 stack:=envX qual scope ⇑d.s d.f d.cd d.cl::X.stack
 ex:=[]
 fn:=λ_=>ι
 calm:=true
 pn:=[]
 xe:=λ_ _=>False
noncomputable def zd(N:-J)(yg scope:a)(x:J)(Nb:-J)(cp:-(Option Nat)):Bool :=
 mz N yg scope (x::Nb) (Z::cp)&&(scope.names.all λy=>G (y.2≠.cell))&&G (scope.names.lookup x=U .local)&&cp.all (·.isSome)
section
variable{X:Cx}{pins:aM}{σ:St}{H:Hp}{s:B}{params:Arguments}{body:l}{scope:a}{cl:-(J×O)}{E:bA}{Q:VK}{name qual x:J}{f c:O}{pm:L}{A:o}{v:V}{u:L}{Nb:-J}{cp:-(Option Nat)}{t:TE}
theorem TZ(I:Inv X pins σ H s)(hf:H f=U (jX f name qual params body scope cl pm (.ref c)))(hc:H c=U (oo c qual))(hA:A.frames=U X.stack)(hh:A.handled=Z)(hd:A.depth<recursionLimit)
  (hk:scope.kind=.function) (ho:zd X.N X.env.scope scope x Nb cp=θ) (T1:scope.isCoroutine=ι) (DN:scope.isGenerator=ι)
  (sU:∀y c,cl.lookup y=U c->X.env.cells.lookup y=U c) (ze:∀y∈scope.names,y.2=.free->∃c,cl.lookup y.1=U c)
  (hb:∀(ct:L),bindArgs (kla_fn name qual params body scope cl pm (.ref c) ct) ⟨[u],[]⟩=pure [(x,u)]) (r:RelV v u)
  (J:JE (pW X qual scope (x::Nb) ⟨A,cl,f,.ref c,s,H⟩) body t) (h:t (U v::jy cp σ) H Q):M (g X.prog X.w) A (call (.ref f) [u]) (EP X pins σ Q) E s:=by
 unfold zd at ho;erw[q0L,q1V,q0y] at ho;let⟨⟨⟨ho,Kq⟩,hx⟩,cps⟩:=ho;let S:=x4r hk ho;let⟨⟨ct,T2⟩,_⟩:=I.bu f _ hf;let hX:=TQ (I.bu c _ hc);calc q4Q (kla_callFunE hd T2 Y T1 DN Y hX ?_);rw[hb ct];calc Io (wpAny_newFunctionEnv (λy hy=>Kq y hy) (λy hy=>by rw[q0K.mp hy];calc hx) (λh₁ wW vJ=>?_) hk);let w4:∀b o,s.heap.get? b=U o->h₁.get? b=U o:=λb o e=>vJ.extBut b o (q0g (q0a e)) (yd _ e);calc⟨I.nolimit.keeps w4,?_⟩;let e0:=I.rQ;show codeAny _ _ (.expr body (envX qual scope ⇑s f (.ref c) cl)) _ _;let oG:∀b:O,b∉(pW X qual scope (x::Nb) ⟨A,cl,f,.ref c,s,H⟩).ex:=λb z=>absurd (show b∈([]:-O) from z) (by simp)
 let mem:∀{y:π}{k:NameKind},scope.names.lookup y=U k->(y,k)∈scope.names:=λe=>q1r e
 let I1:Inv (pW X qual scope (x::Nb) ⟨A,cl,f,.ref c,s,H⟩) [] (U v::jy cp σ) H {s with heap:=h₁,toks:=s.toks+↑[(x,u)]}:=by
  refine⟨⟨e0.mod,hk,Y,Y,Im _,λy z d h1 h2=>I.ok.inj y z d (sU y d h1) (sU z d h2),λy hy=>?_,λy d z _=>(by cases z),λ_=>hh,q5w hA,.inr ⟨Y,Y⟩,λb z=>absurd z (oG b),e0.bs,e0.l8,λb _ _=>oG b,λb z=>absurd z (oG b),e0.eJ,e0.nM⟩,
   Y,e0.bare,Un.kept w4,⟨_,wW,λi y w h1 h2 h3=>?_⟩,λy d hy=>?_,e0.bu.fresh (Im _),λy d hy=>I.cP y d (sU y d hy),λp hp=>absurd (show p∈([]:aM) from hp) (by simp),e0.bu.kept w4,?_⟩
  .let hy:scope.names.lookup y=U .cell\/scope.names.lookup y=U .free:=hy
   rcases hy with hy|hy
   .exact absurd Y (Kq _ (mem hy))
   .exact ze _ (mem hy) Y
  .cases i with
   |zero =>
    cases(show U x=U y by simpa using h1)
    cases(show v=w by simpa using h2)
    exact⟨u,r,.inl ⟨hx,by simp⟩⟩
   |succ j =>
    let h1:Nb[j]?=U y:=by simpa using h1
    let h2:(jy cp σ)[j]?=U (U w):=by simpa using h2
    unfold jy at h2;rw[Qw] at h2;let⟨o,q1,q2⟩:=q0f.mp h2
    match o,q2 with
    |none,q2=>cases q2
    |some i',q2 =>
     let q2:(σ[i']?).join=U w:=q2;let⟨n1,n2⟩:=S.vF (j+1) i' y q1⁻¹ h1⁻¹
     let hs:σ[i']?=U (U w):=by
      cases q:σ[i']? with
      |none=>rw[q] at q2;cases q2
      |some z=>rw[q] at q2;cases(show z=U w from q2);rfl
     let kd:=S.free _ (mem n2) Y;let⟨m,hn,hl⟩:=I.loc;let⟨u',rv,lk⟩:=hl i' y w n1 hs (by rcases kd with z|z;calc .inr (.inl z);calc .inr (.inr z));calc⟨u',rv,?_⟩;rcases lk with⟨z,_⟩|⟨_,d,e1,o,e2,e3⟩
     .rcases kd with k|k<;>(rw[show X.env.kindOf y=U .local from z] at k;cases k)
     .let⟨d',e4⟩:=ze _ (mem n2) Y
      let:=sU _ _ e4;rw[e1] at this;cases this;exact .inr ⟨.inr n2,d,e4,o,w4 _ _ e2,e3⟩
  .let⟨z,o,e2,e3⟩:=I.cell y d (sU y d hy)
   exact⟨z,o,w4 _ _ e2,e3⟩
  .let:=S.len
   show↑(U v::jy cp σ)=↑(x::Nb);unfold jy;rw[Ip,BE];simpa using this
 calc kla_codeExpr (q1U (J [] _ _ H Q I1 h) (λu' s' hs=>?_) λe s' hs=>hs.elim);let⟨w,H',J',rv,q⟩:=hs;calc I.after ⟨w,H',J'.os,J'.bare,J'.base,J'.bu,rv,q⟩
end
def la(h:I)(k:LK)(v:L):Prop:=∃a o xs n,v=.ref a/\h.get? a=U o/\o.cls=.type "tuple" /\ o.data=.seq xs n/\IntsAre xs.toList k
section
variable{prog:t}{w:S}{A:o}{E:bA}{s:B}{Q:Bool->B->Prop}
theorem Kr{fin:Bool}:∀{us ws:-L}{ks ls:LK}(i:Nat),IntsAre us ks->IntsAre ws ls->fin=G (↑us<↑ws)->Q (HT.lexLt ks ls) s->KatLex prog w A θ fin Q (us.zip ws) i s
 |_,_,_,_,i,.nil,.nil,hf,h=>by
  rw[q2T];subst hf;exact h
 |_,_,_,_,i,.nil,.cons m u r,hf,h=>by
  rw[q2T];let:fin=θ:=by rw[hf];simp
  subst this;exact h
 |_,_,_,_,i,.cons n t r,.nil,hf,h=>by
  rw[q30];let:fin=ι:=by rw[hf];simp
  subst this;exact h
 |_,_,_,_,i,.cons n t r,.cons m u r',hf,h=>by
  rw[q2a];refine kat_cons (q4C (kat_go (λe=>?_) λe=>?_))
  .let e:n=m:=q1D e
   subst e;rw[HT.oJ,q0k Y] at h;exact kat_yes (Kr (i+1) r r' (by rw[hf];simp) h)
  .let e:¬ n=m:=λz=>by subst z;simp at e
   rw[HT.oJ,q0i e] at h;refine kat_no ?_
   cases q:(θ&&i==0) with
   |true=>exact oneLt_int h
   |false=>calc kat_one _ _ (q3N h)
theorem T3{k l:LK}{x y:L}(hx:la s.heap k x)(hy:la s.heap l y)(h:Q (HT.lexLt k l) s):M (g prog w) A (keyLt' (tuples' θ) x y) Q E s:=by
 let⟨a,o,xs,n,rfl,h1,_,h2,h3⟩:=hx;let⟨b,o',ys,n',rfl,g1,_,g2,g3⟩:=hy;calc kat_lt h1 h2 g1 g2 (Kr 0 h3 g3 (by rw[q0d,q0d]) h)
theorem Ks{h:I}:∀{keys:-L}{ks:-LK},(∀k∈ks,k≠[])->↑keys=↑ks->(∀(i:Nat)(k:LK)(v:L),ks[i]?=U k->keys[i]?=U v->la h k v)->∃fs,KatTups h keys fs/\fs.length=↑keys/\∀v∈fs,∃n t,v=q04 n t
 |[],[],_,_,_=>⟨[],.nil,Y,λv hv=>nomatch hv⟩
 |[],_::_,_,hl,_=>by simp at hl
 |_::_,[],_,hl,_=>by simp at hl
 |v::keys,k::ks,gC,hl,ht=>by
  let⟨fs,t,hf,hi⟩:=Ks (h:=h) (keys:=keys) (ks:=ks) (λk hk=>gC k (q0l _ hk)) hl⁻¹ λi k v e1 e2=>ht (i+1) k v e1⁻¹ e2⁻¹;let⟨a,o,xs,n,rfl,h1,hc,h2,h3⟩:=ht 0 k v Y Y;let hk:=gC k q0m;generalize hx:xs.toList=xl at h3
  cases h3 with
  |nil=>exact absurd Y hk
  |cons m t' r =>
   let h0:xs[0]?=U (.int m t'):=by rw[<-q0H,hx];rfl
   calc⟨.int m t'::fs,.cons h1 hc h2 h0 t,by rw[Ip,Ip,hf],λv hv=>?_⟩;rcases Qu.mp hv with rfl|hv
   .exact⟨m,t',Y⟩
   .calc hi v hv
theorem T4{M:Model}{keys:-L}{ks:-LK}{Q:SortKind->B->Prop}(h0:0<↑keys)(gC:∀k∈ks,k≠[])(hl:↑keys=↑ks)(ht:∀(i:Nat) (k:LK) (v:L),ks[i]?=U k->keys[i]?=U v->la s.heap k v)(h:Q (tuples' θ) s):
  ρ M A (keyKind' keys.toArray) Q E s:=by
 let⟨fs,t,hf,hi⟩:=Ks gC hl ht;refine kat_kind (T:=.type "int") t ⋯ (λv hv=>?_) (by decide) ?_
 .let⟨n,t',rfl⟩:=hi v hv
  exact .now
 .calc h
theorem getD_some{α:Type}{l:-α}{i:Nat}{d:α}(h:i<↑l):l[i]?=U (l.getD i d):=by
 rw[vD h,Qv,vD h];rfl
end
section
variable{X:Cx}{pins:aM}{σ:St}{H:Hp}{s:B}{A:o}{E:bA}{a:O}{vs:-L}{f:L}
theorem Inv.g7{h':Α}{t':Nat}{b:O}(I:Inv X pins σ H s)(fb:b_ X pins H b)(k:∀c o,c≠b->s.heap.get? c=U o->h'.get? c=U o):Inv X pins σ H {s with heap:=h',toks:=t'} :=
 I.turned k fb.1 fb.2.1 fb.2.2.2.1 fb.2.2.2.2.1 fb.2.2.2.2.2
theorem Inv.lb{b:O}{o:Q}(I:Inv X pins σ H s)(fb:b_ X pins H b)(e:s.heap.get? b=U o)(hc:∀v,o.data≠.cell v):Inv X ((b,o)::pins) σ H s :=
 I.fX λp hp=>by
  rcases Qu.mp hp with rfl|hp
  .exact⟨e,fb.1,fb.2.1,fb.2.2.1,hc⟩
  .calc I.pin p (q0p _ hp)
theorem Inv.fD{p:O×Q}(I:Inv X (p::pins) σ H s):Inv X pins σ H s:=I.fX λq hq=>I.pin q (q0p _ (q0l _ hq))
theorem b_.cons{b:O}{p:O×Q}(f:b_ X pins H b)(n:p.1≠b):b_ X (p::pins) H b :=
 ⟨f.1,f.2.1,f.2.2.1,f.2.2.2.1,f.2.2.2.2.1,λq hq=>by
  rcases q0z.mp hq with z|z
  .exact f.2.2.2.2.2 q (q1x _ z)
  .rcases Qu.mp z with rfl|z
   .exact n
   .calc f.2.2.2.2.2 q (q0p _ z)⟩
theorem DO{c:String}{xs:Array L}{n:Nat}:∀v,(seqObj c xs n).data≠.cell v:=λv z=>by cases z
end
section
variable{prog:t}{w:S}{A:o}{E:bA}{s:B}
end
section
variable{X:Cx}{pins:aM}{σ:St}{H:Hp}{s:B}{E:bA}
theorem Inv.w5{a:O}{o:HO}(I:Inv X pins σ H s)(fa:b_ X pins H a)(ha:⇑X.s₀<=a)(new:bz X.prog X.w (upd H a o) s.heap a o):Inv X pins σ (upd H a o) s:=by
 let⟨f0,f1,f2,_,f4,f5⟩:=fa;let ne:∀{b u},H b=U u->b≠a:=λe z=>by rw[z,f0] at e;cases e
 refine⟨I.ok,I.os,I.bare,⟨I.base.keep,I.base.slot,λb u e n hx=>?_,I.base.there,λb xs e=>?_,λb u v e=>?_,λb ps e=>?_,I.base.gb⟩,I.loc,I.cell,?_,λx c e=>?_,λp hp=>?_,λb u e=>?_,I.len⟩
 .rw[bE (q0g (q0o (q0a e) ha))];exact I.base.free b u e n hx
 .let:=I.base.fx b xs e
  rw[bE (ne this)];exact this
 .let:=I.base.gD b u v e
  rw[bE (ne this)];exact this
 .let⟨more,this⟩:=I.base.gE b ps e
  exact⟨more,by rw[bE (ne this)];calc this⟩
 .rw[bE (q2h f1)];exact I.free
 .rw[bE (f4 x c e)];exact I.cP x c e
 .let⟨e1,e2,e3⟩:=I.pin p hp
  exact⟨e1,by rw[bE (f5 p hp)];calc e2,e3⟩
 .by_cases z:b=a
  .subst z;rw[cA] at e;cases e;exact new
  .rw[bE z] at e
   refine(I.bu b u e).hU (λc v _ q=>q) (λc q=>?_) λc xs q=>?_
   .rw[bE (ne q)];exact q
   .rw[bE (ne q)];calc q
theorem T5{xs:-V}{vs:-L}(r:Vals xs vs){p:-Nat}(hp:∀i∈p,i<↑vs):Vals (p.map λi=>xs.getD i .non) (p.map λi=>vs.getD i q0E):=by
 induction p with
 |nil=>exact .nil
 |cons i q ih =>
  calc .cons ?_ (ih λj hj=>hp j (q0l _ hj));let hi:=hp i q0m;let⟨u,e1,e2⟩:=r.get (getD_some (l:=xs) (d:=V.non) (by rw[↑r];calc hi));let:=getD_some (l:=vs) (d:=q0E) hi;rw[this] at e1;cases e1;calc e2
theorem eE.mem{n:Nat}{p:Array Nat}(h:eE n p){i:Nat}(hi:i∈p.toList):i<n:=by
 let:=(q38.mp h.perm).mem_iff.mp hi;simpa using this
end
theorem ai.at{H:Hp}{ds:-D}{vs:-V}{i:Nat}{d:D}{v:V}(h:ai H ds vs)(e1:ds[i]?=U d)(e2:vs[i]?=U v):Is H d v:=by
 let⟨d',e3,h'⟩:=h.get e2;rw[e1] at e3;cases e3;calc h'
theorem ai.w6{H:Hp}:∀{ds:-D}{vs:-V},↑vs=↑ds->(∀(i:Nat)(d:D),ds[i]?=U d->∃v,vs[i]?=U v/\Is H d v)->ai H ds vs
 |[],[],_,_=>.nil
 |[],_::_,h,_=>by simp at h
 |_::_,[],h,_=>by simp at h
 |d::ds,v::vs,h,g=>by
  let⟨v',e,h1⟩:=g 0 d Y;cases(show U v=U v' from e)
  calc .cons h1 (ai.w6 h⁻¹ λi d e=>by simpa using g (i+1) d e⁻¹)
structure mX where
 T:O
 pos:y
 qual:J
theorem fj.same{H H':Hp}{T:O}{pos:y}{q:J}(h:fj H T pos q)(s:bc H H'):fj H' T pos q:=by
 let⟨ps,e,t,c⟩:=h;calc⟨ps,s _ _ e,t,c.imp id λ⟨c,e1,e2⟩↦⟨c,e1,s _ _ e2⟩⟩
theorem fj.keep{H H':Hp}{T T':O}{pos:y}{q:J}(h:fj H T pos q)(ne:T≠T')(hT:∃ps,H T'=U (.tbl ps))(s:∀b o,H b=U o->b≠T'->H' b=U o):fj H' T pos q:=by
 let⟨ps,e,t,c⟩:=h;calc⟨ps,s _ _ e ne,t,c.imp id λ⟨c,e1,e2⟩=>⟨c,e1,s _ _ e2 λz=>?_⟩⟩;let⟨qs,hT⟩:=hT;rw[z,hT] at e2;cases e2
theorem fj.put{H:Hp}{T a:O}{pos:y}{q:J}{o o':HO}(h:fj H T pos q)(ha:H a=U o)(hk:(∃vs,o=.lst vs)\/(∃ws,o=.dK ws)\/(∃ws,o=.dT ws)\/∃C dx ws,o=.ins C dx ws):fj (upd H a o') T pos q:=by
 let⟨ps,e,t,c⟩:=h
 let ne:∀{b u},H b=U u->(∀vs,u≠.lst vs)->(∀ws,u≠.dK ws)->(∀ws,u≠.dT ws)->(∀C dx ws,u≠.ins C dx ws)->b≠a:=λ{b u} e n1 n2 n3 n4 z=>by
  subst z;rw[ha] at e;cases e;rcases hk with⟨_,z⟩|⟨_,z⟩|⟨_,z⟩|⟨_,_,_,z⟩
  .exact n1 _ z
  .exact n2 _ z
  .exact n3 _ z
  .exact n4 _ _ _ z
 calc⟨ps,by rw[bE (ne e (λ_ z=>by cases z) (λ_ z=>by cases z) (λ_ z=>by cases z) λ_ _ _ z=>by cases z)];calc e,t,c.imp id λ⟨c,e1,e2⟩=>⟨c,e1,?_⟩⟩;rw[bE (ne e2 (λ_ z=>by cases z) (λ_ z=>by cases z) (λ_ z=>by cases z) λ_ _ _ z=>by cases z)];calc e2
structure CC where
 cs:Hp
 ct:∀{a:O}{o:HO},cs a=U o->∃vs,o=.tup vs
@[reducible] noncomputable def gr (ls:-mX) (C:CC):bf where
 ad:=ls.map (·.T)
 ok:=λH=>(∀l∈ls,fj H l.T l.pos l.qual)/\bc C.cs H
 same:=λh s=>⟨λl hl=>(h.1 l hl).same s,h.2.trans s⟩
 put:=λh ha hk=>⟨λl hl=>(h.1 l hl).put ha hk,λb o e=>by
  let:=h.2 b o e
  rw[bE λz=>by
   subst z;let⟨vs,rfl⟩:=C.ct e;rw[ha] at this;cases this
   rcases hk with⟨_,z⟩|⟨_,z⟩|⟨_,z⟩|⟨_,_,_,z⟩<;>cases z]
  calc this⟩
 tb:=λh ha=>by
  let⟨l,hl,rfl⟩:=q0q.mp ha;let⟨ps,e,_⟩:=h.1 l hl;exact⟨ps,e⟩
 cs:=C.cs
 ct:=C.ct
 co:=λh=>h.2
variable[bf]
structure DP(T:O)(pos:y)(q:J):Prop where
 mem:T∈bf.ad
 get:∀H:Hp,bf.ok H->fj H T pos q
 put:∀H H':Hp,bf.ok H->fj H' T pos q->(∀b o,H b=U o->b≠T->H' b=U o)->bf.ok H'
omit [bf] in
theorem T6 {ls:-mX} {l:mX} (hl:l∈ls) (nd:∀a∈ls,∀b∈ls,a.T=b.T->a=b) {C:CC}:@DP (gr ls C) l.T l.pos l.qual:=by
 letI:bf:=gr ls C;refine⟨q20 hl,λH h=>h.1 l hl,λH H' h t k=>⟨λl' jS=>?_,λb o e=>?_⟩⟩
 .by_cases z:l'.T=l.T
  .rw[nd _ jS _ hl z];exact t
  .let⟨ps,e,_⟩:=h.1 l hl
   exact(h.1 l' jS).keep z ⟨ps,e⟩ k
 .refine k b o (h.2 b o e) λz=>?_
  let⟨ps,e2,_⟩:=h.1 l hl;let⟨vs,rfl⟩:=C.ct e;rw[<-z,h.2 b _ e] at e2;cases e2
structure T7(X:Cx)(T:O):Prop where
 code:∃cc,X.env.code=.ref cc/\CodeHd X.base cc T
 ng:mainGlobals≠T
 blt:X.base.BuiltinsAt X.mg T
section
variable{F H H':Hp}{ad:-O}{δ:aN}{σ:St}
theorem SR.DQ(S:SR F ad δ σ H)(k:∀b o,H b=U o->b∉bf.ad->H' b=U o)(tk:bf.ok H'):SR (Nw F H H') ad δ σ H':=by
 let sm:=Nw.same (H':=H') S.sub;let nF:∀{a o},F a=U o->a∉bf.ad:=λ{a o} e t=>by rw[S.nt a t] at e;cases e
 let nO:∀{i a ov},ad[i]?=U a->δ.mu[i]?=U (U ov)->a∉bf.ad:=λ{i a ov} e1 e2 t=>by
  let⟨a',o,e3,e4,h⟩:=S.mu i ov e2;rw[e1] at e3;cases e3;let⟨ps,q⟩:=bf.tb S.tab t;rw[e4] at q;cases q;exact h.kind _ Y
 refine⟨λa o e=>?_,λa l=>?_,S.cF,S.inj,λi ov e=>?_,λi x e=>?_,S.len,tk,S.nt.up sm λa ha=>?_⟩
 .unfold Nw at e
  cases q:H a with
  |none=>rw[q] at e;exact e
  |some u=>rw[q] at e;exact k a o (S.sub a o e) (nF e)
 .let⟨i,ov,e1,e2⟩:=l
  let⟨a',o,e3,e4,_⟩:=S.mu i ov e2;rw[e1] at e3;cases e3;unfold Nw;rw[e4];exact S.off a ⟨i,ov,e1,e2⟩
 .let⟨a,o,e1,e2,h⟩:=S.mu i ov e
  exact⟨a,o,e1,k a o e2 (nO e1 e),h.same sm⟩
 .let⟨v,e1,h⟩:=S.sl i x e
  exact⟨v,e1,h.same sm⟩
 .let⟨ps,q⟩:=bf.tb S.tab ha
  unfold Nw;rw[q];calc S.nt a ha
theorem Ext.DQ(S:SR F ad δ σ H)(k:∀b o,H b=U o->b∉bf.ad->H' b=U o)(tk:bf.ok H'):Ext F ad δ.mu H (Nw F H H') ad δ.mu H' where
 same:=Nw.same S.sub
 new:=λa o e=>by
  unfold Nw at e
  cases q:H a with
  |none=>exact .inr (.inl Y)
  |some u=>rw[q] at e;exact .inl e
 keep:=λa o e _ t=>k a o e t
 pre:=λ_ _ e=>e
 cE:=λ_ l=>.inl l
 i7:=λa o e=>by
  by_cases t:a∈bf.ad
  .let⟨ps,q⟩:=bf.tb tk t
   exact⟨_,q⟩
  .calc⟨o,k a o e t⟩
theorem SR.w9{sl:-(Option DV)}{mu:-(Option OV)}{τ:St}{d:D}{v:V}(S:SR F ad ⟨sl,mu⟩ τ H)(h:Is F d v):SR F ad ⟨U (.p d)::sl,mu⟩ (U v::τ) H:=by
 refine⟨S.sub,S.off,S.cF,S.inj,S.mu,λi x e=>?_,by let:=S.len;erw[Ip];calc congrArg (· + 1) this,S.tab,S.nt⟩
 cases i with
 |zero=>cases(show U (U (DV.p d))=U (U x) from e);exact⟨v,Y,h⟩
 |succ i=>calc S.sl i x e
theorem Ext.rh{F' H':Hp}{aL:-O}{c9:-(Option OV)}{a:O}{o:HO}(S:SR F ad δ σ H)(e:Ext F ad δ.mu H F' aL c9 H')(h:H a=U o)(n1:∀vs,o≠.lst vs)(n2:∀ws,o≠.dK ws)(n3:∀ps,o≠.tbl ps)(n4:∀ws,o≠.dT ws)(n5:∀C dx ws,o≠.ins C dx ws:=by ext _ _ _ z;cases z):H' a=U o:=by
 refine e.keep a o h (λ⟨i,ov,e1,e2⟩=>?_) λt=>?_
 .let⟨a',u,e3,e4,q⟩:=S.mu i ov e2
  rw[e1] at e3;cases e3;rw[h] at e4;cases e4;rcases q.kd with⟨_,z⟩|⟨_,z⟩|⟨_,z⟩|⟨_,_,_,z⟩
  .exact n1 _ z
  .exact n2 _ z
  .exact n4 _ z
  .exact n5 _ _ _ z
 .let⟨ps,q⟩:=bf.tb S.tab t
  rw[h] at q;calc n3 _ (q0A q)
end
def T8(cp:-(Option Nat))(fb:WE)(δ:aN)(ds:-D)(key:D->LK):Prop :=
 ∀d∈ds,key d≠[]/\fb ⟨U (.p d)::d8 cp δ.sl,δ.mu⟩ λy δ'=>y=.p (.tup ((key d).map D.int))/\δ'.mu=δ.mu
section
variable{X:Cx}{params:Arguments}{body:l}{scope:a}{gQ:y}{x:J}{Nb:-J}{cp:-(Option Nat)}{fb:WE}{T:O}
structure mY(X:Cx)(params:Arguments)(body:l)(scope:a)(gQ:y)(T:O)(x:J)(Nb:-J)(cp:-(Option Nat))(fb:WE):Prop where
 env:T7 X T
 tbl:DP T gQ (X.env.qual++"<lambda>")
 T9:defaultsOf params X.env=([],[])
 kind:scope.kind=.function
 names:zd X.N X.env.scope scope x Nb cp=θ
 co:scope.isCoroutine=ι
 gen:scope.isGenerator=ι
 bind:∀(cl:-(J×O))(pm cd ct u:L),bindArgs (kla_fn "<lambda>" (X.env.qual++"<lambda>") params body scope cl pm cd ct) ⟨[u],[]⟩=pure [(x,u)]
 room:∃k,bB (k+3) X.A/\∀d:LD,bB k (d.A.deeper (envX (X.env.qual++"<lambda>") scope ⇑d.s d.f d.cd d.cl))->JE (pW X (X.env.qual++"<lambda>") scope (x::Nb) d) body (tD fb)
end
structure ir(mg:J->Option L)(base:I)(fd:FuncData)(T:O)(pos:y)(q:J):Prop where
 code:∃cc,fd.code=.ref cc/\CodeHd base cc T
 ng:mainGlobals≠T
 blt:base.BuiltinsAt mg T
 tbl:DP T pos q
theorem gx.DR{P:t}{w:ω}{K:My}{mg:J->Option L}{base:I}{x qual:J}{st:R}{f:O}{fd:FuncData}{N ps:-J}{k:Nat}{G:GD}(F:gx K x qual st f fd)(S:oF N ps (cM st))
  (eY:∀(bJ:L)(A:o)(outer:-X)(s:ο)(H:Hp)(E:XK),fd.code=bJ->bB k (A.deeper (envOfC qual (cM st) ⇑s f bJ)) →
   ∃B:WS,dM (fz eZ P w K mg base N qual (cM st) f bJ A outer s H E).lG (fZ st) (dU B)/\∀ys aB K',↑ys=↑ps->G ys aB K'->B (jT ↑aB K') ⟨ys.map U++q0h (↑N-↑ps) Z,aB.map U⟩) :
  cf P w K mg base eZ (k+1) f fd ps (lQ G ↑ps):=by
 let⟨oc,od,kV,doc,pm,an,bJ,ct,oH,rfl,lk,hX⟩:=F.ex;calc HI lk hX S (λvs H Q E h=>h.1) λA outer s H vs Q E hr h=>?_;let⟨hl,Fz,ad,ys,aB,K',S0,g,kk⟩:=h;let⟨B,jb,hb⟩:=eY bJ A outer s H E Y hr
 let hy:↑ys=↑ps:=by
  let:=S0.len;rw[BE] at this;rw[<-hl,this];show _=↑(ys.map U);rw[BE]
 refine⟨_,jb.lG,Fz,ad,⟨ys.map U++q0h (↑N-↑ps) Z,aB.map U⟩,jT ↑aB K',by rw[<-hl];calc S0.start,hb ys aB K' hy g,⟨fun δ' h F' aL σ' H' E' S'=>?_,fun δ' h=>h.elim,fun δ' h=>h.elim,λy δ' h v F' aL σ' H' E' S' V=>?_,trivial⟩⟩
 .exact yG (σ':=σ') S0 E' S' (x:=.p .non) (v:=.non) Y h kk
 .calc yG (σ':=σ') S0 E' S' V h kk
section
variable{X:Cx}{params:Arguments}{body a e:l}{scope:Δ}{gQ p1 p2 q1 q2 kM:y}{x:J}{Nb:-J}{cp:-(Option Nat)}{fb f:WE}{fa:WA}{T:O}
end
end L2
namespace L2
open PySem PySem.Spec PyProof.Rows PySem.W
theorem DT:∀{k l:LK}(n m:Int),k.length=↑l->HT.lexLt (k++[n]) (l++[m])=if k=l then G (n<m) else HT.lexLt k l
 |[],[],n,m,_=>by
  show(if n=m then HT.lexLt [] [] else G (n<m))=_;rw[q0k Y]
  by_cases h:n=m
  .rw[q0k h];subst h;simp[HT.lexLt]
  .rw[q0i h]
 |[],_::_,_,_,h=>by simp at h
 |_::_,[],_,_,h=>by simp at h
 |a::k,b::l,n,m,h=>by
  rw[q4I,q4I,HT.oJ,HT.oJ,DT n m h⁻¹]
  by_cases e:a=b
  .subst e
   rw[q0k Y,q0k Y]
   by_cases e2:k=l
   .subst e2;rw[q0k Y,q0k Y]
   .rw[q0i e2,q0i λz=>e2 (q7Y z).2]
  .rw[q0i e,q0i e,q0i λz=>e (q7Y z).1]
def mZ(h:I)(L:Nat)(k:LK)(v:ν):Prop:=∃a o xs n b kb m t,v=.ref a/\h.get? a=U o/\o.cls=.type "tuple" /\ o.data=.seq xs n/\xs.toList=[.ref b,.int m t]/\la h kb (.ref b)/\↑kb=L/\k=kb++[m]
section
variable{prog:t}{w:S}{A:o}{E:bA}{s:B}{Q:Bool->B->Prop}
theorem DU:∀{us:-L}{ns:-Int},IntsAre us ns->ItemsAre (intKind prog w) ns us
 |_,_,.nil=>.nil
 |_,_,.cons n t r=>.cons (q3u ..) (DU r)
theorem T_{L:Nat}{k l:LK}{x y:ν}(hu:A.units<cLine)(hx:mZ s.heap L k x)(hy:mZ s.heap L l y)(h:Q (HT.lexLt k l) s):M (g prog w) A (keyLt' (tuples' ι) x y) Q E s:=by
 let⟨a,o,xs,n,b,kb,m,t,rfl,h1,_,h2,h3,⟨b',ob,bs,nb,eb,g1,gc,g2,g3⟩,hL,rfl⟩:=hx;let⟨a',o',Ua,n',c,kc,m',t',rfl,oQ,_,f_,AD,⟨c',oc,cs,nc,ec,f1,fc,f2,f3⟩,Ub,rfl⟩:=hy;cases eb
 cases ec
 let hz:xs.size=2:=by rw[<-q0d,h3];rfl
 let Uc:Ua.size=2:=by rw[<-q0d,AD];rfl
 rw[DT m m' (by rw[hL,Ub])] at h;let k1:IsTupleKey (intKind prog w) s.heap kb b:=⟨ob,bs,nb,g1,gc,g2,DU g3⟩;let k2:IsTupleKey (intKind prog w) s.heap kc c:=⟨oc,cs,nc,f1,fc,f2,DU f3⟩;calc kat_lt h1 h2 oQ f_ ?_;rw[h3,AD,hz,Uc,q2a,q2a,q2T];refine kat_cons (wpAny_eqBool_tuple hu k1 k2 (kat_go (λe=>?_) λe=>?_))
 .let e:kb=kc:=by simpa using e
  rw[q0k e] at h;refine kat_yes (kat_cons (q4C (kat_go (λe2=>?_) λe2=>?_)))
  .let e2:m=m':=q1D e2
   subst e2;calc kat_yes (kat_nil ?_);simpa using h
  .exact kat_no (kat_one _ _ (q3N h))
 .let e:¬ kb=kc:=by simpa using e
  rw[q0i e] at h;calc kat_no (kat_one _ _ (HT.Bm ⟨ob,g1,gc,nb,g2⟩ ⟨oc,f1,fc,nc,f2⟩ g3 f3 hu h))
theorem Ud{M:Model}{L:Nat}{vs:-ν}{ks:-LK}{Q:SortKind->B->Prop}(h0:0<↑vs)(hl:↑vs=↑ks)(ht:∀(i:Nat) (k:LK) (v:ν),ks[i]?=U k->vs[i]?=U v->mZ s.heap L k v)(h:Q (tuples' ι) s):
  ρ M A (keyKind' vs.toArray) Q E s:=by
 let key:∀(vs:-ν)(ks:-LK),↑vs=↑ks->(∀(i:Nat)(k:LK)(v:ν),ks[i]?=U k->vs[i]?=U v->mZ s.heap L k v)->∃fs,KatTups s.heap vs fs/\fs.length=↑vs/\∀v∈fs,Looks M s.heap (typeOf v) (.type "tuple"):=by
  ext vs
  induction vs with
  |nil=>exactλks _ _=>⟨[],.nil,Y,λv hv=>nomatch hv⟩
  |cons v vs ih =>
   ext ks hl ht
   match ks,hl,ht with
   |k::ks,hl,ht =>
    let⟨fs,t,hf,hi⟩:=ih ks hl⁻¹ λi k v e1 e2=>ht (i+1) k v e1⁻¹ e2⁻¹;let⟨a,o,xs,n,b,kb,m,t',rfl,h1,hc,h2,h3,⟨b',ob,bs,nb,eb,g1,gc,g2,g3⟩,_⟩:=ht 0 k v Y Y;cases eb
    let h0:xs[0]?=U (.ref b):=by rw[<-q0H,h3];rfl
    calc⟨.ref b::fs,.cons h1 hc h2 h0 t,by rw[Ip,Ip,hf],λv hv=>?_⟩;rcases Qu.mp hv with rfl|hv
    .rw[<-gc];exact(Looks.ld g1).andThen .now
    .exact hi v hv
 let⟨fs,t,hf,hi⟩:=key vs ks hl ht;calc kat_kind (T:=.type "tuple") t ⋯ hi (by decide) h
end
section
variable{X:Cx}{pins:aM}{σ:St}{H:Hp}{s:B}{A:o}{E:bA}{a:O}{vs:-L}{ks:-LK}{κ:SortKind}
theorem Ue{n0:Nat}{R:PySem.Fin->B->Prop}(I:Inv X pins σ H s)(fa:b_ X pins H a)(ha:s.heap.get? a=U (seqObj "list" vs.toArray n0))(qM:↑vs<64)
  (kind:∀s':B,Inv X pins σ H s'->2<=↑vs->∀Q:SortKind->B->Prop,Q κ s'->M (g X.prog X.w) A (keyKind' vs.toArray) Q E s')
  (ask:∀s':B,Inv X pins σ H s'->∀(i j:Nat)(C:Bool->B->Prop),i<↑vs->j<↑vs->C (HT.lexLt (ks.getD i []) (ks.getD j [])) s'->M (g X.prog X.w) A (keyLt' κ (vs.getD i q0E) (vs.getD j q0E)) C (λ_ _=>False) s')
  (fin:∀(p:Array Nat)(s':B)(c:Nat),eE ↑vs p->Up (λi=>ks.getD i []) p ↑vs->Inv X pins σ H s'->s'.heap.get? a=U (seqObj "list" (q2y (p.toList.map λi=>vs.getD i q0E)) c)->R (.done (.ret .none)) s') :
  M (g X.prog X.w) A (Builtin.«list.sort» ⟨[.ref a],[]⟩) R E s:=by
 let sb:=q0Q s.heap a (q1c λ_=>(#[]:Array L));let⟨e1,hJ⟩:∃e1,(s.heap.update a (q1c λ_=>(#[]:Array L))).get? a=U (seqObj "list" #[] e1):=⟨_,q4_ ha λ_ => #[]⟩;let I1:Inv X pins σ H {s with heap:=s.heap.update a (q1c λ_=>(#[]:Array L))}:=I.g7 (t':=s.toks) fa λc o n e=>(sb.2 c n).trans e;rw[list_sort_plain];calc sf (listItems_at ha Y ?_);calc sf (listUpdate_at ha Y ?_ (by rw[Qt,q1W];symm) (q06 _));calc sf (seqEpoch_at hJ Y ?_);calc sf (q7z ?_ (by show ↑vs<=_;rw[q1W];symm));calc sf (q4r ?_ (q06 _));calc q0M ?_;generalize hh0:s.heap.update a (q1c λ_=>(#[]:Array L))=g0 at hJ I1 sb
 show M (g X.prog X.w) A _ R E {s with heap:=(g0.push (seqObj "tuple" vs.toArray 0)).push (seqObj "list" #[] 0)};let I2:Inv X pins σ H {s with heap:=(g0.push (seqObj "tuple" vs.toArray 0)).push (seqObj "list" #[] 0)}:=I1.kept (h':=(g0.push (seqObj "tuple" vs.toArray 0)).push (seqObj "list" #[] 0)) (t':=s.toks) λb u e=>yd _ (yd _ e);let fW:((g0.push (seqObj "tuple" vs.toArray 0)).push (seqObj "list" #[] 0)).get? a=U (seqObj "list" #[] e1):=yd _ (yd _ hJ);let kp:∀b o,b≠a->s.heap.get? b=U o->((g0.push (seqObj "tuple" vs.toArray 0)).push (seqObj "list" #[] 0)).get? b=U o:=λb o n e=>yd _ (yd _ ((sb.2 b n).trans e))
 generalize(g0.push (seqObj "tuple" vs.toArray 0)).push (seqObj "list" #[] 0)=g1 at I2 fW kp;dsimp only
 let tail:∀(st:SortSt)(p:Array Nat),(arrOf st).map (·.2)=q2y (p.toList.map λi=>vs.getD i q0E)->failedOf st=Z->eE ↑vs p->Up (λi=>ks.getD i []) p ↑vs->M (g X.prog X.w) A (do
   let touched:=(<- seqEpoch a) != e1
   Builtin.List.listUpdate (.ref a) λ_=>(arrOf st).map (·.2)
   if let U e:=failedOf st then rule "list.sort.comparison-raised";throw e
   if touched then rule "list.sort.modified";raiseError "ValueError" "list modified during sort"
   ret .none) R E {s with heap:=g1}:=by
  ext st p DW hf hp up;let hz:↑(p.toList.map λi=>vs.getD i q0E)=↑vs:=by rw[BE,q0d,hp.size]
  rw[DW];let s2:=q0Q g1 a (q1c λ_=>q2y (p.toList.map λi=>vs.getD i q0E));let⟨c2,jJ⟩:∃c2,(g1.update a (q1c λ_=>q2y (p.toList.map λi=>vs.getD i q0E))).get? a=U (seqObj "list" (q2y (p.toList.map λi=>vs.getD i q0E)) c2):=⟨_,q4_ fW λ_=>q2y (p.toList.map λi=>vs.getD i q0E)⟩;let J:Inv X pins σ H {s with heap:=g1.update a (q1c λ_=>q2y (p.toList.map λi=>vs.getD i q0E))}:=I2.g7 (h':=g1.update a (q1c λ_=>q2y (p.toList.map λi=>vs.getD i q0E))) (t':=s.toks) fa λc o n e=>(s2.2 c n).trans e;calc sf (seqEpoch_at fW Y ?_);refine sf (listUpdate_at fW Y ?_ (q06 _) (q0B (q6e (by rw[Qt,hz])) (by rw[q1W];symm)))
  rw[hf];erw[q4d,q1b,q2g];exact Io (fin p _ c2 hp up J jJ)
 by_cases h2:vs.toArray.size<2
 .rw[q0k h2,q0k h2]
  calc sf (Io ?_);rw[StateT.run_pure];calc sf (Io ?_);rw[Qt] at h2;refine tail (SortSt.mk' general' (vs.toArray.zip vs.toArray) #[] 7 Z) (q0C ↑vs).toArray ?_ Y ⟨q68 _⟩ λi j kZ hj=>?_
  .let Ug:arrOf (SortSt.mk' general' (vs.toArray.zip vs.toArray) #[] 7 Z)=(q2y (q0C ↑vs)).map (kas_item (vs.toArray.zip vs.toArray)):=by
    let e:=kas_range (vs.toArray.zip vs.toArray);rw[show(vs.toArray.zip vs.toArray).size=↑vs by simp] at e;rw[e]
   exact kat_snds Y Ug
  .let:i=j:=by symm
   subst this;exact kle_refl _
 .rw[q0i h2,q0i h2]
  rw[Qt] at h2;refine sf (kind _ I2 ⋯ _ ?_)
  refine sf (q1U (kat_run (κ:=κ) (E:=E) (Q:=λgw s'=>s'={s with heap:=g1}/\∃p:Array Nat,arrOf gw=p.map (kas_item (vs.toArray.zip vs.toArray))/\failedOf gw=Z/\eE ↑vs p/\Up (λi=>ks.getD i []) p ↑vs)
   (G:=λp s'=>s'={s with heap:=g1}/\eE ↑vs p/\Up (λi=>ks.getD i []) p ↑vs) Y ⋯ qM (λp gw s' a1 a2 a3 a4=>⟨a4.1,p,a2,a3,a4.2.1,a4.2.2⟩) ?_) ?_ λ_ _ x=>x)
  .refine Su (k:=λi=>ks.getD i []) (I:=λs'=>s'={s with heap:=g1}) (λi j C s' hi hj e hC=>?_) ⋯ Y λp s' a1 a2 a3=>⟨a3,a1,a2⟩
   subst e;exact ask _ I2 i j C hi hj (hC _ Y)
  .ext ⟨⟨⟩,gw⟩ s' ⟨rfl,p,a1,a2,a3,a4⟩
   calc tail gw p (kat_snds Y a1) a2 a3 a4
theorem Kt{l:O}{xs:-V}{Q:bA}(I:Inv X pins σ H s)
  (col:∀Q':-L->B->Prop,(∀h' tk vs,(∀b o,s.heap.get? b=U o->h'.get? b=U o)->Vals xs vs->Q' vs {s with heap:=h',toks:=tk})->M (g X.prog X.w) X.A.in1 (collect (.ref l)) Q' E s) (qM:↑xs<64)
  (kind:∀(s':B)(vs:-L),Vals xs vs->Inv X pins σ H s'->2<=↑vs->∀Q:SortKind->B->Prop,Q κ s'->M (g X.prog X.w) X.A.in1.in1 (keyKind' vs.toArray) Q E s')
  (ask:∀(s':B)(vs:-L),Vals xs vs->Inv X pins σ H s'->∀(i j:Nat)(C:Bool->B->Prop),i<↑vs->j<↑vs->C (HT.lexLt (ks.getD i []) (ks.getD j [])) s'->M (g X.prog X.w) X.A.in1.in1 (keyLt' κ (vs.getD i q0E) (vs.getD j q0E)) C (λ_ _=>False) s')
  (fin:∀(p:Array Nat)(s':B)(a:O),eE ↑xs p->Up (λi=>ks.getD i []) p ↑xs->H a=Z->Inv X pins σ (upd H a (.lst (p.toList.map λi=>xs.getD i .non))) s'->Q (.ref a) s') :
  M (g X.prog X.w) X.A (call (.builtin "sorted") [.ref l]) Q E s:=by
 calc q4c kind_sorted plain_sorted entry_sorted (args_sorted1 _) ?_;unfold Builtin.«sorted»;calc sf (m:=checkCount "sorted" 1 1 _) (Io ?_);calc sf (col _ λh' tk aA kp rv=>?_);let lv:↑aA=↑xs:=rv.length.symm;calc sf (q4r ?_ (by rw[q1W];symm));let I1:Inv X pins σ H {s with heap:=h',toks:=tk}:=I.kept kp;let fa:b_ X pins H h'.objs.size:=I1.hZ (Im _) (I1.bu.fresh (Im _));let Uh:⇑X.s₀<=h'.objs.size:=I1.sz;let I2:Inv X pins σ H {s with heap:=h'.push (seqObj "list" aA.toArray 0),toks:=tk}:=I1.kept (h':=h'.push (seqObj "list" aA.toArray 0)) (t':=tk) λb u e=>yd _ e
 let qw:(h'.push (seqObj "list" aA.toArray 0)).get? h'.objs.size=U (seqObj "list" aA.toArray 0):=q0c _ Y;refine sf (q0M (q1g slot_list_sort ⟨_,qw,Y⟩ entry_list_sort ?body (args_list_sort _)))
 case body =>
  calc Ue (κ:=κ) (ks:=ks) I2 fa qw ⋯ (λs' J h2 Q' hq=>kind s' aA rv J h2 Q' hq) (λs' J i j C hi hj hC=>ask s' aA rv J i j C hi hj hC) λp s' c hp up J e=>⟨_,Y,?_⟩;rw[lv] at hp up;calc Io ⟨_,Y,fin p s' h'.objs.size hp up fa.1 (J.w5 fa Uh ?_)⟩;let hz:↑(p.toList.map λi=>xs.getD i V.non)=↑xs:=by rw[BE,q0d,hp.size]
  calc⟨by rw[hz,q1W];symm,_,c,T5 rv λi hi=>by rw[lv];calc hp.mem hi,e⟩
end
def DX(ds:-D)(key:D->LK):Prop :=
 (∀d∈ds,key d≠[]/\d=.tup ((key d).map D.int))\/∃L:Nat,∀d∈ds,∃(k:LK)(n:Int),k.length=L/\d=.tup [.tup (k.map D.int),.int n]/\key d=k++[n]
def zf:-D->(D->Prop)->Prop
 |[.lst ds],K=>↑ds<64/\∃key:D->LK,DX ds key/\∀out:-D,out.Perm ds->(out.map key).Pairwise kle->K (.lst out)
 |[.tup ds],K=>↑ds<64/\∃key:D->LK,DX ds key/\∀out:-D,out.Perm ds->(out.map key).Pairwise kle->K (.lst out)
 |_,_=>False
theorem Ui{ds:-D}{key:D->LK}{p:Array Nat}{n:Nat}(hn:↑ds=n)(hp:eE n p)(up:Up (λi=>(ds.map key).getD i []) p n):(p.toList.map λi=>ds.getD i .non).Perm ds/\((p.toList.map λi=>ds.getD i .non).map key).Pairwise kle:=by
 subst hn
 constructor
 .let h1:=(q38.mp hp.perm).map λi=>ds.getD i D.non
  let h2:(q0C ↑ds).map (λi=>ds.getD i D.non)=ds:=by
   calc q2R λi=>?_;rw[Qw]
   by_cases hi:i<↑ds
   .rw[q2f hi,q42,vD hi,Qv,vD hi];rfl
   .rw[q18 (by rw[q07];symm),q18 ⋯];rfl
  rw[show(q0C ↑ds).toArray.toList=q0C ↑ds from Y,h2] at h1;exact h1
 .rw[q0I,q2Y]
  ext i j hi hj kZ;rw[BE,q0d,hp.size] at hi hj;let:=up i j (q1e kZ) hj;unfold KA at this;rw[q3y,q3y]
  let gp:∀{i:Nat}(h:i<↑p.toList),p.getD i 0=p.toList[i]:=λ{i} h=>by
   let h':i<p.size:=by rw[<-q0d];exact h
   simp[q5W,h']
  let gk:∀{i:Nat},i<↑ds->(ds.map key).getD i []=key (ds.getD i .non):=λ{i} h=>by
   rw[Qv,Qw,vD h,Qv,vD h];rfl
  let pi:=hp.lt hi;let pj:=hp.lt hj;dsimp only at this;rw[gk pi,gk pj,gp (by rw[q0d,hp.size];calc hi),gp (by rw[q0d,hp.size];calc hj)] at this;calc this
theorem Uj{F:Hp}{ds:-D}{xs:-V}{p:-Nat}(h:ai F ds xs)(hp:∀i∈p,i<↑ds):ai F (p.map λi=>ds.getD i .non) (p.map λi=>xs.getD i .non):=by
 calc ai.w6 (by rw[BE,BE]) λi d e=>?_;rw[Qw] at e ⊢;let⟨z,e1,rfl⟩:=q0f.mp e;rw[e1];let hz:=hp z (q0S e1);calc⟨_,Y,ai.at h (getD_some hz) (getD_some (by rw[↑h];calc hz))⟩
section
variable[bf]{X:Cx}
theorem zg{pins:aM}{σ:St}{H F:Hp}{s:B}{k:LK}{v:V}{u:L}(I:Inv X pins σ H s)(sub:bc F H)(h:Is F (.tup (k.map D.int)) v)(r:RelV v u):la s.heap k u:=by
 erw[Is] at h;let⟨a,us,rfl,e,i⟩:=h;cases r
 rw[pb i] at e;let⟨aA,rv,⟨o,o1,o2,n,o3⟩,_⟩:=I.tuple (bZ.of (sub _ _ e));calc⟨a,o,_,n,Y,o1,o2,o3,by simpa using intsAre_of rv⟩
theorem DY{pins:aM}{σ:St}{H F:Hp}{s:B}{k:LK}{m:Int}{v:V}{u:L}(I:Inv X pins σ H s)(sub:bc F H)(h:Is F (.tup [.tup (k.map D.int),.int m]) v)(r:RelV v u):mZ s.heap k.length (k++[m]) u:=by
 erw[Is,ai] at h;let⟨a,us,rfl,e,v1,r1,rfl,h1,v2,r2,rfl,h2,rfl⟩:=h;cases r
 let⟨aA,rv,⟨o,o1,o2,n,o3⟩,_⟩:=I.tuple (bZ.of (sub _ _ e));let h2:v2=.int m:=h2;subst h2;let oQ:Is F (.tup (k.map D.int)) v1:=by erw[Is];exact h1
 cases rv with
 |cons q1 rv =>
  cases rv with
  |cons q2 rv =>
   cases rv
   let t1:=zg I sub oQ q1;let⟨b,_,_,_,rfl,_⟩:=id t1;let⟨t,rfl⟩:=q2;calc⟨a,o,_,n,b,k,m,t,Y,o1,o2,o3,Y,t1,Y,Y⟩
theorem Ku{pins:aM}{σ:St}{H F:Hp}{s:B}{E:bA}{l:O}{ds:-D}{us:-V}{key:D->LK}{Q:bA}(hu:X.A.units+64<cLine)(I:Inv X pins σ H s)(sub:bc F H)(hl:H l=U (.lst us)\/H l=U (.tup us))(hi:ai F ds us)(qM:↑ds<64)(sh:DX ds key)
  (fin:∀(out:-D)(ws:-V)(a:O)(s':B),out.Perm ds->(out.map key).Pairwise kle->ai F out ws->H a=Z->Inv X pins σ (upd H a (.lst ws)) s'->Q (.ref a) s'):M (g X.prog X.w) X.A (call (.builtin "sorted") [.ref l]) Q E s:=by
 let col:∀Q':-ν->B->Prop,(∀h' tk vs,(∀b o,s.heap.get? b=U o->h'.get? b=U o)->Vals us vs->Q' vs {s with heap:=h',toks:=tk})->M (g X.prog X.w) X.A.in1 (collect (.ref l)) Q' E s:=λQ' hQ=>by
  rcases hl with hl|hl
  .let⟨aA,rv,pl,hz⟩:=I.list (bT.of hl)
   let⟨o,o1,o2,n,o3⟩:=pl.isList;exact q6w l (.inl Y) o1 o2 o3 (λh' kp=>hQ h' s.toks _ kp rv⁻¹) (by rw[Qt,<-↑rv];calc hz)
  .let⟨aA,rv,⟨o,o1,o2,n,o3⟩,hz⟩:=I.tuple (bZ.of hl)
   exact q6w l (.inr Y) o1 o2 o3 (λh' kp=>hQ h' s.toks _ kp rv⁻¹) (by rw[Qt,<-↑rv];calc hz)
 let lu:=↑hi;let Uk:X.A.in1.in1.units<cLine:=by show X.A.units+1+1<cLine;symm
 let gk:∀{i:Nat},i<↑ds->(ds.map key).getD i []=key (ds.getD i .non):=λ{i} h=>by
  rw[Qv,Qw,vD h,Qv,vD h];rfl
 let isAt:∀{i:Nat},i<↑ds->∀{vs:-ν},Vals us vs->∃v,Is F (ds.getD i .non) v/\RelV v (vs.getD i q0E):=λ{i} h {vs} rv=>by
  let⟨u,e1,e2⟩:=rv.get (getD_some (l:=us) (d:=V.non) (i:=i) ⋯);let:=getD_some (l:=vs) (d:=q0E) (i:=i) (by rw[<-↑rv];symm);rw[this] at e1;cases e1;exact⟨_,ai.at hi (getD_some h) (getD_some ⋯),e2⟩
 let mem:∀{i:Nat},i<↑ds->ds.getD i .non∈ds:=λ{i} h=>q0S (getD_some h)
 let ke:∀{i:Nat}{k:LK},(ds.map key)[i]?=U k->i<↑ds/\k=key (ds.getD i .non):=λ{i k} e=>by
  let h:i<↑ds:=by let:=(Il.mp e).1;rwa [BE] at this
  calc⟨h,?_⟩;let:=getD_some (l:=ds.map key) (d:=[]) (i:=i) (by rw[BE];calc h);rw[e,gk h] at this;exact q0A this
 let ve:∀{i:Nat}{v:ν}{vs:-ν},vs[i]?=U v->v=vs.getD i q0E:=λ{i v vs} e=>by
  rw[Qv,e];rfl
 let mP:∀(p:Array Nat)(s':B)(a:O),eE ↑us p->Up (λi=>(ds.map key).getD i []) p ↑us->H a=Z->Inv X pins σ (upd H a (.lst (p.toList.map λi=>us.getD i .non))) s'->Q (.ref a) s':=λp s' a hp up ha J=>by
  let⟨o1,o2⟩:=Ui lu.symm hp up;exact fin _ _ a s' o1 o2 (Uj hi λi dE=>by rw[<-lu];calc hp.mem dE) ha J
 rcases sh with sh|⟨L,sh⟩
 .refine Kt (κ:=tuples' θ) (ks:=ds.map key) I col ⋯ (λs' vs rv J h2 Q' hq=>?_) (λs' vs rv J i j C dE vS hC=>?_) mP
  .refine T4 (ks:=ds.map key) ⋯ (λk hk=>?_) (by rw[BE,<-↑rv];symm) (λi k v e1 e2=>?_) hq
   .let⟨d,hd,rfl⟩:=q0q.mp hk
    exact(sh d hd).1
   .let⟨h,rfl⟩:=ke e1
    let⟨w,i1,r1⟩:=isAt h rv;rw[(sh _ (mem h)).2] at i1;rw[<-ve e2] at r1;exact zg J sub i1 r1
  .rw[<-↑rv] at dE vS
   rw[gk ⋯,gk ⋯] at hC;let⟨w,i1,r1⟩:=isAt (i:=i) ⋯ rv;let⟨w',i2,r2⟩:=isAt (i:=j) ⋯ rv;rw[(sh _ (mem ⋯)).2] at i1 i2;exact T3 (zg J sub i1 r1) (zg J sub i2 r2) hC
 .refine Kt (κ:=tuples' ι) (ks:=ds.map key) I col ⋯ (λs' vs rv J h2 Q' hq=>?_) (λs' vs rv J i j C dE vS hC=>?_) mP
  .refine Ud (L:=L) (ks:=ds.map key) ⋯ (by rw[BE,<-↑rv];symm) (λi k v e1 e2=>?_) hq
   let⟨h,rfl⟩:=ke e1;let⟨w,i1,r1⟩:=isAt h rv;let⟨k,n,hk,e3,e4⟩:=sh _ (mem h);rw[e3] at i1;rw[<-ve e2] at r1;rw[e4,<-hk];exact DY J sub i1 r1
  .rw[<-↑rv] at dE vS
   rw[gk ⋯,gk ⋯] at hC;let⟨w,i1,r1⟩:=isAt (i:=i) ⋯ rv;let⟨w',i2,r2⟩:=isAt (i:=j) ⋯ rv;let⟨k,n,hk,e3,e4⟩:=sh _ (mem (i:=i) ⋯);let⟨k',n',jz,Ul,Um⟩:=sh _ (mem (i:=j) ⋯);rw[e3] at i1;rw[Ul] at i2;rw[e4,Um] at hC;let t1:=DY J sub i1 r1;let t2:=DY J sub i2 r2;rw[hk] at t1;rw[jz] at t2;calc T_ Uk t1 t2 hC
theorem Uo(hu:X.A.units+64<cLine):dQ X (.builtin "sorted") zf:=by
 ext pins s σ H xs us Q I r ⟨F,ds,K,sub,rd,q,md⟩;unfold zf at q;split at q
 .rename_i es
  let⟨qM,key,sh,hK⟩:=q;let⟨v,rfl,a,vs,rfl,h1,h2⟩:=dj rd;let⟨u,rfl,rx⟩:=vals1 r;cases rx
  exact Ku hu I sub (.inl h1) h2 qM sh λout ws b s' o1 o2 o3 hb J=>⟨.ref b,_,J,Y,md _ _ _ (hK out o1 o2) (cK hb) (mL sub hb o3)⟩
 .rename_i es
  let⟨qM,key,sh,hK⟩:=q;let⟨v,rfl,h⟩:=dj rd;let h:Is F (.tup es) v:=h;erw[Is] at h;let⟨a,vs,rfl,h1,h2⟩:=h;let⟨u,rfl,rx⟩:=vals1 r;cases rx
  exact Ku hu I sub (.inr (sub _ _ h1)) h2 qM sh λout ws b s' o1 o2 o3 hb J=>⟨.ref b,_,J,Y,md _ _ _ (hK out o1 o2) (cK hb) (mL sub hb o3)⟩
 .calc q.elim
end
end L2
namespace LJ
open PySem L2 PySem.W
theorem Uq{ls:-mX}{b:O}{ps:Array L}:(ls.map λl=>(l.T,(#[]:Array L))).lookup b=U ps->(∃l∈ls,l.T=b)/\ps = #[]:=by
 induction ls with
 |nil=>ext h;cases h
 |cons l ls ih =>
  ext h;rw[q0r,q0v] at h
  cases q:b==l.T with
  |true =>
   rw[q] at h;exact⟨⟨l,q0m,(q1D q).symm⟩,(q0A h).symm⟩
  |false =>
   rw[q] at h;let⟨⟨l',h1,h2⟩,h3⟩:=ih h;calc⟨⟨l',q0l _ h1,h2⟩,h3⟩
theorem DZ{ls:-mX}{l:mX}(h:l∈ls):(ls.map λl=>(l.T,(#[]:Array L))).lookup l.T=U #[]:=by
 induction ls with
 |nil=>cases h
 |cons l' ls ih =>
  rw[q0r,q0v]
  cases q:l.T==l'.T with
  |true=>rfl
  |false =>
   rcases Qu.mp h with rfl|h
   .simp at q
   .calc ih h
theorem Ur{l:OpenLaw}{q:ψ}{loose:-J}{XP:(J->Option L)->I->Prop}{d:DefRec}{K:Params->Frag}{as:-O}{e:∀P,as=(K P).map (·.1)}{ts:-O}{kk:Nat}(ls:-mX)(C:CC)(Us:ls.map (·.T)=ts)(hn:l.most=U 63)(vE:d.params.defaults=[])(hr:bB kk callerA)
  (uF:∀(w:S)(h:I),(K w.params).In h->Cs l.prog w C.cs h) (hX:∀(w:S)(h:I),(K w.params).In h->∀t∈ls,∃cc,CodeHd h cc t.T) (Ut:∀P,noTabs (K P)=θ)
  (F:∀(w:S)(mg:J->Option L)(fa:O)(h:I),(K w.params).In h->h.Ns mainGlobals mg->mg d.name=U (.ref fa) →
   ∃fd:FuncData,(∀(s:B)(u:L),BindsTo s fd ⟨[u],[]⟩ [("script",u)])/\∀base:I,(K w.params).In base->base.Ns mainGlobals mg->(∀t∈ls,base.BuiltinsAt mg t.T)->cf l.prog w (K w.params) mg base eZ kk fa fd ["script"] (@y9 (gr ls C) (K w.params))) :
  WalkO q loose XP (kmHook K as e ts).says l.row.toRowW d [] (λf vs=>q7t f vs) :=
 L2.TJ (n:=63) (k:=kk) (x:="script") (K:=λw=>K w.params) (CX:=λ_=>eZ) (sp:=λw=>@y9 (gr ls C) (K w.params)) (cs:=λ_=>C.cs) (Ts:=λ_=>ls.map λl=>(l.T,#[])) hn (by decide) vE hr (λw h Y=>km_in_of Y)
  (λw h Y b ps hl=>by
   let⟨⟨t,ht,rfl⟩,rfl⟩:=Uq hl;let e1:h.get? t.T=U (tabObj #[]):=km_tabs_of Y t.T (by rw[<-Us];calc q20 ht);refine⟨e1,?_,?_⟩
   .let⟨cc,o,vs,_,_,_,_,_,_,_,c1,c2,c3,c4,_⟩:=hX w h (km_in_of Y) t ht
    exact⟨cc,o,vs,c1,c2,c3,c4⟩
   .cases z:(K w.params).lookup t.T with
    |none=>rfl
    |some o =>
     let e2:=km_in_of Y t.T o z;rw[e1] at e2;cases e2;let h2:=q1V.mp (Ut w.params) (t.T,tabObj #[]) (mem_of_lookupK z)
     calc absurd (show ι=θ from h2) q0F)
  (λw h Y=>uF w h (km_in_of Y))
  (λw mg fa h KX G oN=>by
   let⟨fd,hb,hF⟩:=F w mg fa h KX G oN
   calc⟨fd,hb,λbase k1 k2 k3=>hF base k1 k2 λt ht=>k3 t.T #[] (DZ ht)⟩)
  (λw H a ns hl hO hQ hS=>by
   letI:bf:=gr ls C;calc⟨a,ns,rfl,hS,hl,⟨λt ht=>?_,hQ⟩,λ_=>rfl⟩;rcases hO t.T with⟨ps,z1,z2⟩|⟨z1,_⟩
   .rw[DZ ht] at z1;cases z1
    exact⟨#[],z2,trivial,.inl rfl⟩
   .rw[DZ ht] at z1;cases z1)
  λ_ _ _ _ _ z=>z
end LJ
namespace LJ
open PySem L2
variable[bf]
inductive D0 (ys:-DV) (aB:-OV) (K:RV->-OV->Prop):Prop
 |mk (m:Int) (ws:-(Int×Int×Int)) (_:aY m ws) (_:ys=[.p (bq m ws)]) (_:aB=[]) (_:K (.p .non) [])
def D1:WS:=(bS (gK (dT (aJ 1 Dv (aq (aa 0) ah)))) ue dZ)
theorem Uu:Sem 1 0 D0 D1:=by
 ext ys aB K'-⟨m,ws,W,rfl,rfl,k⟩;unfold D1;simp!;calc⟨m,ws,W,Y,Y,?_⟩;simp!;calc cB k
inductive D2 (ys:-DV) (aB:-OV) (K:RV->-OV->Prop):Prop
 |mk (y:Int×Int×Int) (_:ys=[.p (bR y)]) (_:aB=[]) (_:K (.p (.tup [.int y.2.2,.int y.1,.int y.2.1])) [])
def D3:WS:=(bh (bW (aq (d2 (aa 0) (dC (.int 2)) bw) (aq (d2 (aa 0) (dC (.int 0)) bw) (aq (d2 (aa 0) (dC (.int 1)) bw) ah)))))
theorem Uv:Sem 1 0 D2 D3:=by
 ext ys aB K'-⟨y,rfl,rfl,k⟩;unfold D3;simp![bR,dm,eF,at2];calc cB k
noncomputable def fm(ws:-(Int×Int×Int))(n:Int):LK:=[(ws.getD n.toNat (0,0,0)).2.2,(ws.getD n.toNat (0,0,0)).1,(ws.getD n.toNat (0,0,0)).2.1]
theorem Uw{m:Int}{ws:-(Int×Int×Int)}(W:aY m ws){a b:Int}(ha:0<=a/\a<(↑ws:Int))(hb:0<=b/\b<(↑ws:Int))(e:fm ws a=fm ws b):a=b:=by
 let⟨i,rfl⟩:∃i:Nat,a=i:=⟨a.toNat,⋯⟩;let⟨j,rfl⟩:∃j:Nat,b=j:=⟨b.toNat,⋯⟩;let hi:i<↑ws:=by symm
 let hj:j<↑ws:=by symm
 unfold fm at e;rw[q0x,q0x,Qv,vD hi,Qv,vD hj] at e;erw[Option.getD_some,List.cons.injEq,and_true] at e
 let q:(ws.map λy=>(y.1,y.2.1))[i]'(by rw[BE];calc hi)=(ws.map λy=>(y.1,y.2.1))[j]'(by rw[BE];calc hj):=by
  rw[q3y,q3y,e.2.1,e.2.2]
 let:=(q4D W.unlike).mp q;rw[this]
inductive D4 (ys:-DV) (aB:-OV) (K:RV->-OV->Prop):Prop
 |mk (m:Int) (ws:-(Int×Int×Int)) (n:Int) (_:aY m ws) (_:(0<=n/\n<(↑ws:Int))) (_:ys=[.p (bq m ws),.p (.int n)]) (_:aB=[]) (_:K (.p (.tup ((fm ws n).map D.int))) [])
def D5:WS:=(aD (i9 (d2 (d2 (aa 0) (dC (.int 1)) bw) (aa 1) bw) (i8 3 (d7 (bQ 2) (d7 (bQ 3) (d7 (bQ 4) iO))))) (bh (bW (aq (aa 4) (aq (aa 2) (aq (aa 3) ah))))))
theorem Ux:Sem 2 3 D4 D5:=by
 ext ys aB K'-⟨m,ws,n,W,⟨n0,n1⟩,rfl,rfl,k⟩;let⟨y,ey,hy,ea,_⟩:=qZ W n0 n1;unfold D5;simp![eF,bq,ea,bR];unfold fm at k;rw[ey] at k;calc cB k
noncomputable def lg(ws:-(Int×Int×Int))(n:Int):D:=.tup [.tup ((fm ws n).map D.int),.int n]
theorem Uy{a b:LK}{n m:Int}(hl:↑a=↑b)(h:kle (a++[n]) (b++[m])):kle a b:=by
 unfold kle at h ⊢;rw[DT _ _ hl.symm] at h
 by_cases e:b=a
 .rw[e];exact yT a
 .rw[q0i e] at h;calc h
end LJ
namespace L2
open PySem PySem.Spec PyProof.Rows
variable[bf]
noncomputable def dA{α:Type}(kvs:-(Key×α))(k:Key):Option α:=(kvs.find? λkv=>G (kv.1=k)).map (·.2)
noncomputable def putD{α:Type}(kvs:-(Key×α))(k:Key)(d:α):-(Key×α) :=
 if(kvs.any λkv=>G (kv.1=k))=θ then kvs.map (λkv=>if kv.1=k then(kv.1,d) else kv) else kvs++[(k,d)]
section
omit [bf]
variable{α:Type}{R:α->V->Prop}
theorem dr.val(k:Key):∀{gR:-(Key×α)}{ws:-(Key×V)},dr R gR ws->(dA gR k=Z/\d4 ws k=Z)\/∃d v,dA gR k=U d/\d4 ws k=U v/\R d v
 |[],_,h=>by let h:_=[]:=h;subst h;exact .inl ⟨Y,Y⟩
 |kd::r,_,⟨v,t,e,h1,h2⟩=>by
  subst e
  by_cases c:kd.1=k
  .refine .inr ⟨kd.2,v,?_,yj c,h1⟩
   unfold dA;rw[q4Z c⁻¹];rfl
  .rw[yk c]
   let e:dA (kd::r) k=dA r k:=by unfold dA;rw[q40 c⁻¹]
   rw[e];calc dr.val k h2
theorem dr.length{κ:Type}:∀{gR:-(κ×α)}{ws:-(κ×V)},dr R gR ws->↑ws=↑gR
 |[],_,h=>by let h:_=[]:=h;subst h;rfl
 |kd::r,_,⟨v,t,e,h1,h2⟩=>by subst e;rw[Ip,Ip,↑h2]
theorem dr.any(k:Key):∀{gR:-(Key×α)}{ws:-(Key×V)},dr R gR ws->(ws.any λkv=>G (kv.1=k))=gR.any λkv=>G (kv.1=k)
 |[],_,h=>by let h:_=[]:=h;subst h;rfl
 |kd::r,_,⟨v,t,e,h1,h2⟩=>by subst e;rw[q2C,q2C,h2.any k]
theorem dr.jM(k:Key){d:α}{v:V}(hd:R d v):∀{gR:-(Key×α)}{ws:-(Key×V)},dr R gR ws->dr R (gR.map λkv=>if kv.1=k then(kv.1,d) else kv) (ws.map λkv=>if kv.1=k then(kv.1,v) else kv)
 |[],_,h=>by let h:_=[]:=h;subst h;rfl
 |kd::r,_,⟨u,t,e,h1,h2⟩=>by
  subst e
  by_cases c:kd.1=k
  .rw[q0r,q0r,q0k c,q0k c]
   exact⟨v,_,Y,hd,h2.jM k hd⟩
  .rw[q0r,q0r,q0i c,q0i c]
   calc⟨u,_,Y,h1,h2.jM k hd⟩
theorem dr.snoc{k:Key}{d:α}{v:V}(hd:R d v):∀{gR:-(Key×α)}{ws:-(Key×V)},dr R gR ws->dr R (gR++[(k,d)]) (ws++[(k,v)])
 |[],_,h=>by let h:_=[]:=h;subst h;exact⟨v,[],Y,hd,Y⟩
 |kd::r,_,⟨u,t,e,h1,h2⟩=>by subst e;calc⟨u,_,Y,h1,h2.snoc hd⟩
theorem dr.put{gR:-(Key×α)}{ws:-(Key×V)}{k:Key}{d:α}{v:V}(h:dr R gR ws)(hd:R d v):dr R (putD gR k d) (putK ws k v):=by
 unfold putD putK;rw[h.any k];split
 .exact h.jM k hd
 .calc h.snoc hd
end
def ar(x:DV)(δ:aN)(K:Nat->(-(Key×D)->OV)->-(Key×D)->Prop):Prop:=match x with
 |.o k=>match δ.mu[k]? with
  |some (some (.dct kvs))=>K k OV.dct kvs
  |some (some (.ac a kvs))=>K k (OV.ac a) kvs
  |_=>False
 |_=>False
theorem zh{F H:Hp}{ad:-O}{δ:aN}{σ:St}{x:DV}{v:V}{K:Nat->(-(Key×D)->OV)->-(Key×D)->Prop}(S:SR F ad δ σ H)(V1:dG F ad x v)(h:ar x δ K):∃k B kvs a ws,x=.o k/\K k B kvs/\v=.ref a/\ad[k]?=U a/\H a=U (.dK ws)/\yw F kvs ws/\δ.mu[k]?=U (U (B kvs))/\∀{F' es us},yw F' es us->eN F' a (B es) (.dK us):=by
 unfold ar at h;split at h
 .rename_i k
  split at h
  .rename_i kvs e
   let⟨a,e1,rfl⟩:=V1;let⟨a',o,e2,e3,ws,rfl,h4⟩:=S.mu k _ e;rw[e1] at e2;cases e2;exact⟨k,_,kvs,a,ws,Y,h,Y,e1,e3,h4,e,λi=>⟨_,Y,i⟩⟩
  .rename_i b kvs e
   let⟨a,e1,rfl⟩:=V1;let⟨a',o,e2,e3,z,ws,rfl,h4⟩:=S.mu k _ e;rw[e1] at e2;cases e2;exact⟨k,_,kvs,a,ws,Y,h,Y,e1,e3,h4,e,λi=>⟨z,_,Y,i⟩⟩
  .exact h.elim
 .calc h.elim
def au(x:DV)(P:Int->Prop):Prop:=match x with
 |.p (.int i)=>P i
 |_=>False
theorem D6{F:Hp}{ad:-O}{x:DV}{v:V}{P:Int->Prop}(hv:dG F ad x v)(h:au x P):∃i,v=kV (.inl i)/\P i:=by
 unfold au at h;split at h
 .rename_i i;exact⟨i,hv,h⟩
 .calc h.elim
def aR:WE:=fun δ K=>K (.o ↑δ.mu) ⟨δ.sl,δ.mu++[U (.dct [])]⟩
def ay(neg:Bool)(fi fo:WE):WE:=fun δ K=>fi δ λx δ1=>fo δ1 λy δ2=>au x λi=>ar y δ2 λ_ _ kvs=>K (.p (.bl (neg != (dA kvs (.inl i)).isSome))) δ2
def aS(fv fo fi:WE):WS:=λK δ=>fv δ λz δ1=>fo δ1 λx δ2=>fi δ2 λy δ3=>lN z δ3 λd δ4=>au y λi=>ar x δ4 λk B kvs=>↑kvs<1000/\K.nx ⟨δ4.sl,δ4.mu.set k (U (B (putD kvs (.inl i) d)))⟩
section
variable{X:Cx}{o i e v:l}{fo fi fv fk fe:WE}{pos:y}
theorem Uz:JE X (.Dict [] [] pos) (tD aR):=mB.weak fun σ H Q ⟨F,ad,δ,K,S,q,k⟩ p hp=>by
 let oi:∀{mF},eN F mF (.dct []) (.dK []):=λ{mF}=>⟨[],Y,Y⟩;calc k _ _ q _ _ _ _ (Ext.own S hp) (S.own hp oi) ⟨p,?_,Y⟩;rw[<-S.cF,q0b (Im _),q03];rfl
theorem UA{neg:Bool}(td:TE)(hn:∀σ H (Q:VK),(tD fi σ H λy H1=>tD fo σ H1 λx H2=>∃a o,x=.ref a/\gJ H2 a y o/\Q (.bl (neg != o.isSome)) H2)->td σ H Q):∀σ H Q,tD (ay neg fi fo) σ H Q->td σ H Q:=fun σ H Q ⟨F,ad,δ,K,S,q,k⟩=>hn σ H Q ⟨F,ad,δ,_,S,q,λx δ1 h1 v F1 bp H1 E1 S1 V1=>⟨F1,bp,δ1,_,S1,h1,λy δ2 h2 u F2 cz H2 E2 S2 V2=>by
  let⟨i,rfl,h3⟩:=D6 (V1.ext E2) h2;let⟨k0,B,kvs,a,ws,rfl,h4,rfl,e1,e2,i1,m1,qU⟩:=zh S2 V2 h3;refine⟨a,_,Y,gJ.k e2,?_⟩
  let es:(d4 ws (q4f i:Key)).isSome=(dA kvs (.inl i)).isSome:=by
   rcases i1.val (.inl i) with⟨z1,z2⟩|⟨d,v,z1,z2,_⟩
   .rw[z1,z2];rfl
   .rw[z1,z2];rfl
  rw[es]
  calc k _ _ h4 _ _ _ _ (E1.trans E2) S2 Y⟩⟩
theorem UB{t:TE}{f:WE}(h:∀σ H Q,tD f σ H Q->t σ H Q):∀σ H Q,dH (dT f) σ H Q->tB t σ H Q:=fun σ H Q ⟨F,ad,δ,K,S,q,k⟩↦h σ H _ ⟨F,ad,δ,_,S,q,λx δ1 h1 v F1 bp H1 E1 S1 V1=>by
  let⟨b,rfl,h2⟩:=v3 V1 h1
  calc⟨b,Y,k _ _ h2 _ _ _ E1 S1⟩⟩
theorem UC(hu:X.A.units+64<cLine)(hi:JE X i (tD fi))(ho:JE X o (tD fo))(hm:behindInMarks .NotIn o=ι:=by rfl):JT X (.Compare i [.NotIn] [o] pos) (dH (dT (ay θ fi fo))) :=
 (OE (Rc ⋯ hi ho) hm).weak (UB (UA (IH (tD fi) (tD fo)) fun σ H Q h=>by erw[Bool.true_bne] at h;calc h))
theorem UD[kq]{pos':Ε}(hu:X.A.units+64<cLine)(ho:JE X o (tD fo))(hi:JE X i (tD fi))(hv:JE X v (tD fv))(hs:swapsWith v (U (.Subscript o i pos')) pos.line X.env=pure ι:=by rfl):JS X (.Assign [.Subscript o i pos'] v pos) (dU (aS fv fo fi)) :=
 (II ⋯ ho hi hv hs).weak λD σ H ⟨F,ad,δ,K,S,q,k⟩=>⟨F,ad,δ,_,S,q,λz δ1 h1 w F1 bp H1 E1 S1 V1=>⟨F1,bp,δ1,_,S1,h1,λx δ2 h2 u F2 cz H2 E2 S2 V2=>⟨F2,cz,δ2,_,S2,h2,λy δ3 h3 t F3 oV H3 E3 S3 V3=>by
  let⟨d,δ4,F4,h4,E4,S4,i4⟩:=sy S3 ((V1.ext E2).ext E3) h3;let⟨i,rfl,h5⟩:=D6 V3 h4;let⟨k0,B,kvs,a,ws,rfl,h6,rfl,e1,e2,i1,m1,qU⟩:=zh S4 ((V2.ext E3).ext E4) h5;let oi:=qU (F':=F4) (us:=putK ws (.inl i) w) (i1.put i4);refine⟨a,_,Y,kR.k e2 (qH (by rw[↑i1];calc q1e h6.1)),?_⟩
  calc k.nx _ h6.2 _ _ _ _ ((((E1.trans E2).trans E3).trans E4).trans (Ext.put S4 m1 e1)) (S4.put m1 e1 oi)⟩⟩⟩
end
end L2
namespace LJ
open PySem L2
variable[bf]
end LJ
namespace L2
open PySem PySem.Spec PyProof.Rows PySem.W
section
open PySem.SeqAt
open PySem.AutoSeq1 (wpAny_loadPart')
open PySem.MeetsSeq PySem.MeetsSeq2 PySem.MeetsSeq3
end
section
variable{prog:t}{w:S}{A:o}{E:bA}{s:B}{Q:Bool->B->Prop}
end
section
variable[bf]{X:Cx}
end
end L2
namespace LJ
open PySem L2
variable[bf]
end LJ
namespace L2
open PySem
variable[bf]
section
variable{F F' H H':Hp}{ad aL:-O}{δ δ':aN}{σ σ':St}
end
section
variable{X:Cx}{st0 lE j8 qz:R}{i n:Nat}{G:GD}{fa:WA}{t:WT}{B:TS}{E:XK}
end
end L2
namespace LJ
open PySem L2
variable[bf]
noncomputable def D7(p q:Int)(fs:-Int):-Int:=fs.map λx=>if x=p then q else x
theorem UE{p q x y:Int}:(if x=p then q else x)=(if y=p then q else y)↔x=y\/((x=p\/x=q)/\(y=p\/y=q)):=by
 by_cases h1:x=p<;>by_cases h2:y=p
 .rw[q0k h1,q0k h2];constructor<;>ext h<;>symm
 .rw[q0k h1,q0i h2];constructor<;>ext h<;>symm
 .rw[q0i h1,q0k h2];constructor<;>ext h<;>symm
 .rw[q0i h1,q0i h2];constructor<;>ext h<;>symm
theorem Kv{f:Int->Int}{fs:-Int}{i:Nat}(h:i<fs.length):(fs.map f).getD i 0=f (fs.getD i 0):=by
 rw[Qv,Qw,vD h,Qv,vD h];rfl
theorem w_{a b:Int}:dEq (.int a) (.int b)=G (a=b):=by
 cases q:dEq (.int a) (.int b)
 .exact (q0e λz=>by rw[z,gN] at q;cases q).symm
 .erw[dEq] at q
  calc(q0n (q1D q)).symm
end LJ
namespace LJ
open PySem L2
abbrev Wy:=Int×Int×Int
def zi(S:Wy->Prop)(a b:Int):Prop:=∃w,S w/\((w.1=a/\w.2.1=b)\/(w.1=b/\w.2.1=a))
inductive bG (S:Wy->Prop) (a:Int):Int->Prop
 |rf:bG S a a
 |st {b c:Int}:bG S a b->zi S b c->bG S a c
section
variable{S S':Wy->Prop}{a b c:Int}
theorem zi.symm(h:zi S a b):zi S b a:=let⟨w,h1,h2⟩:=h;⟨w,h1,h2.symm⟩
theorem bG.trans(h:bG S a b)(h':bG S b c):bG S a c:=by
 induction h' with
 |rf=>exact h
 |st _ e ih=>calc .st ih e
theorem bG.symm(h:bG S a b):bG S b a:=by
 induction h with
 |rf=>exact .rf
 |st _ e ih=>calc(bG.st .rf e.symm).trans ih
theorem bG.bind(h:bG S a b)(k:∀w,S w->bG S' w.1 w.2.1):bG S' a b:=by
 induction h with
 |rf=>exact .rf
 |st _ e ih =>
  let⟨w,h1,h2⟩:=e;rcases h2 with⟨rfl,rfl⟩|⟨rfl,rfl⟩
  .exact ih.trans (k w h1)
  .calc ih.trans (k w h1).symm
theorem bG.one{w:Wy}(h:S w):bG S w.1 w.2.1:=.st .rf ⟨w,h,.inl ⟨Y,Y⟩⟩
theorem bG.mono(h:bG S a b)(k:∀w,S w->S' w):bG S' a b:=h.bind λw hw=>.one (k w hw)
theorem bG.none(h:bG S a b)(k:∀w,¬ S w):a=b:=by
 cases h with
 |rf=>rfl
 |st _ e=>let⟨w,h1,_⟩:=e;calc absurd h1 (k w)
theorem bG.add{w:Wy}(k:∀v,S' v↔S v\/v=w):bG S' a b↔bG S a b\/(bG S a w.1/\bG S w.2.1 b)\/(bG S a w.2.1/\bG S w.1 b):=by
 constructor
 .ext h
  induction h with
  |rf=>exact .inl .rf
  |st _ e ih =>
   rename_i b c _;let⟨v,h1,h2⟩:=e;rcases(k v).mp h1 with h1|rfl
   .let e':bG S b c:=.st .rf ⟨v,h1,h2⟩
    rcases ih with i|⟨i,j⟩|⟨i,j⟩
    .exact .inl (i.trans e')
    .exact .inr (.inl ⟨i,j.trans e'⟩)
    .exact .inr (.inr ⟨i,j.trans e'⟩)
   .rcases h2 with⟨rfl,rfl⟩|⟨rfl,rfl⟩
    .rcases ih with i|⟨i,j⟩|⟨i,j⟩
     .exact .inr (.inl ⟨i,.rf⟩)
     .exact .inr (.inl ⟨i,.rf⟩)
     .exact .inl i
    .rcases ih with i|⟨i,j⟩|⟨i,j⟩
     .exact .inr (.inr ⟨i,.rf⟩)
     .exact .inl i
     .exact .inr (.inr ⟨i,.rf⟩)
 .let up:∀{x y},bG S x y->bG S' x y:=λh=>h.mono λv hv=>(k v).mpr (.inl hv)
  let o:bG S' w.1 w.2.1:=.one ((k w).mpr (.inr Y));ext(h|⟨h,h'⟩|⟨h,h'⟩)
  .exact up h
  .exact ((up h).trans o).trans (up h')
  .calc ((up h).trans o.symm).trans (up h')
end
variable[bf]
def cC(n:Nat)(fs:-Int)(S:Wy->Prop):Prop:=fs.length=n/\∀i j:Nat,i<n->j<n->(fs.getD i 0=fs.getD j 0↔bG S i j)
theorem Kw{n i:Nat}(h:i<n):(cj n).getD i 0=i:=by
 unfold cj;rw[Qv,Qw,q2f h];rfl
theorem cC.start(n:Nat):cC n (cj n) (λ_=>False):=by
 calc⟨by unfold cj;simp,λi j hi hj=>?_⟩;rw[Kw hi,Kw hj];calc⟨λe=>by rw[e];calc .rf,λh=>h.none λ_ z=>z⟩
theorem cC.join{n i j:Nat}{fs:-Int}{S S':Wy->Prop}{w:Wy}{p q:Int}(h:cC n fs S)(hi:i<n)(hj:j<n)(e1:w.1=i)(e2:w.2.1=j)(k:∀v,S' v↔S v\/v=w)(pq:(p=fs.getD i 0/\q=fs.getD j 0)\/(p=fs.getD j 0/\q=fs.getD i 0)):cC n (D7 p q fs) S':=by
 calc⟨by unfold D7;rw[BE,h.1],λx y hx hy=>?_⟩;unfold D7;rw[Kv (by rw[h.1];calc hx),Kv (by rw[h.1];calc hy),UE,bG.add k,e1,e2,<-h.2 x y hx hy,<-h.2 x i hx hi,<-h.2 x j hx hj,<-h.2 j y hj hy,<-h.2 i y hi hy];rcases pq with⟨rfl,rfl⟩|⟨rfl,rfl⟩
 .constructor
  .ext (h|⟨h1|h1,h2|h2⟩)
   .exact .inl h
   .exact .inl (h1.trans h2.symm)
   .exact .inr (.inl ⟨h1,h2.symm⟩)
   .exact .inr (.inr ⟨h1,h2.symm⟩)
   .exact .inl (h1.trans h2.symm)
  .ext (h|⟨h1,h2⟩|⟨h1,h2⟩)
   .exact .inl h
   .exact .inr ⟨.inl h1,.inr h2.symm⟩
   .exact .inr ⟨.inr h1,.inl h2.symm⟩
 .constructor
  .ext (h|⟨h1|h1,h2|h2⟩)
   .exact .inl h
   .exact .inl (h1.trans h2.symm)
   .exact .inr (.inr ⟨h1,h2.symm⟩)
   .exact .inr (.inl ⟨h1,h2.symm⟩)
   .exact .inl (h1.trans h2.symm)
  .ext (h|⟨h1,h2⟩|⟨h1,h2⟩)
   .exact .inl h
   .exact .inr ⟨.inr h1,.inl h2.symm⟩
   .calc .inr ⟨.inl h1,.inr h2.symm⟩
noncomputable def aK(ws:-Wy)(n:Int):Wy:=ws.getD n.toNat (0,0,0)
theorem sV(n:Nat):↑(cj n)=n:=by unfold cj;simp
theorem Ky{m:Int}{ws:-Wy}(W:aY m ws){n:Int}(h0:0<=n)(h1:n<(↑ws:Int)):∃i k:Nat,fg ws n=(i,k)/\(aK ws n).1=i/\(aK ws n).2.1=k/\i<m.toNat/\k<m.toNat:=by
 let⟨y,ey,hy,_,i,k,e1,e2,h1,h2,_⟩:=qZ W h0 h1;calc⟨i,k,?_,by unfold aK;rw[ey];calc e1,by unfold aK;rw[ey];calc e2,h1,h2⟩;unfold fg;rw[ey,e1,e2,q0x,q0x]
theorem Kz{m:Int}{ws:-Wy}(W:aY m ws):∀(ns fs:-Int)(S:Wy->Prop),Nums ws ns->cC m.toNat fs S->cC m.toNat (ip ws fs ns) (λv=>S v\/∃k∈ns,v=aK ws k)
 |[],fs,S,_,h=>by
  let:(λv=>S v\/∃k∈([]:-Int),v=aK ws k)=S:=funext λv=>propext (by simp);rw[this];exact h
 |n::ns,fs,S,hn,h=>by
  let b:=hn n (q0m ..);let⟨i,k,e,e1,e2,h1,h2⟩:=Ky W b.1 b.2
  let step:cC m.toNat (jW fs i k) (λv=>S v\/v=aK ws n):=by
   calc cC.join (w:=aK ws n) (p:=max (fs.getD i 0) (fs.getD k 0)) (q:=min (fs.getD i 0) (fs.getD k 0)) h h1 h2 e1 e2 (λv=>Iff.rfl) ?_;symm
  let:=Kz W ns _ _ (λx hx=>hn x (q0l _ hx)) step
  let eq:(λv=>(S v\/v=aK ws n)\/∃k∈ns,v=aK ws k)=(λv=>S v\/∃k∈n::ns,v=aK ws k):=funext λv=>propext (by
   constructor
   .ext ((h|h)|⟨k,hk,h⟩)
    .exact .inl h
    .exact .inr ⟨n,q0m,h⟩
    .exact .inr ⟨k,q0l _ hk,h⟩
   .ext (h|⟨k,hk,h⟩)
    .exact .inl (.inl h)
    .rcases Qu.mp hk with rfl|hk
     .exact .inl (.inr h)
     .calc .inr ⟨k,hk,h⟩)
  rw[eq] at this;show cC _ (ip ws (jW fs (fg ws n).1 (fg ws n).2) ns) _;rw[e];calc this
def g8(ws:-Wy)(ns:-Int):Wy->Prop:=λv=>∃k∈ns,v=aK ws k
theorem KC{m:Int}{ws:-Wy}(W:aY m ws){ns:-Int}(hn:Nums ws ns):cC m.toNat (qY m ws ns) (g8 ws ns):=by
 let:=Kz W ns _ _ hn (cC.start m.toNat);let eq:(λv=>False\/∃k∈ns,v=aK ws k)=g8 ws ns:=funext λv=>propext (by unfold g8;simp);rw[eq] at this;calc this
theorem uG:∀{a b:-Int},a.Pairwise (· < ·)->b.Pairwise (· < ·)->(∀x,x∈a↔x∈b)->a=b
 |[],[],_,_,_=>Y
 |[],y::_,_,_,h=>absurd ((h y).mpr (q0m ..)) (by simp)
 |x::_,[],_,_,h=>absurd ((h x).mp (q0m ..)) (by simp)
 |x::a,y::b,ha,hb,h=>by
  let⟨h1,h2⟩:=q1y.mp ha;let⟨h3,h4⟩:=q1y.mp hb
  let UG:x=y:=by
   rcases Qu.mp ((h x).mp (q0m ..)) with e|e
   .exact e
   .rcases Qu.mp ((h y).mpr (q0m ..)) with e'|e'
    .exact e'.symm
    .let:=h3 x e
     let:=h1 y e';symm
  subst UG;rw[uG h2 h4 λz=>?_]
  constructor
  .ext hz
   rcases Qu.mp ((h z).mp (q0l _ hz)) with e|e
   .let:=h1 z hz;symm
   .exact e
  .ext hz
   rcases Qu.mp ((h z).mpr (q0l _ hz)) with e|e
   .let:=h3 z hz;symm
   .exact e
open Classical in
noncomputable def cls (n:Nat) (S:Wy->Prop) (h:Int):List Int:=(cj n).filter λx=>decide (bG S h x)
theorem sW{n:Nat}{x:Int}:x∈cj n↔0<=x/\x<n:=by
 unfold cj
 constructor
 .ext h
  let⟨k,hk,rfl⟩:=q0q.mp h;let:=q05.mp hk;symm
 .ext h
  calc q0q.mpr ⟨x.toNat,q05.mpr ⋯,⋯⟩
theorem D8(n:Nat):(cj n).Pairwise (· < ·):=by
 unfold cj;exact q2S.mpr ((q4P (n:=n)).imp λh=>by symm)
open Classical in
theorem UH {n:Nat} {S:Wy->Prop} {h x:Int}:x∈cls n S h↔(0<=x/\x<n)/\bG S h x:=by
 unfold cls;rw[q0R,sW,q0y]
open Classical in
theorem UI (n:Nat) (S:Wy->Prop) (h:Int):(cls n S h).Pairwise (· < ·):=(D8 n).filter _
theorem g9:∀us:-Int,bV (us.map D.int)=0
 |[]=>by simp[bV]
 |u::r=>by rw[q0r];erw[bV,dep];rw[g9 r];rfl
theorem jf(l:-Int)(x:Int):((l.map D.int).any λe=>dEq e (.int x))=G (x∈l):=by
 rw[q8G]
 cases q:G (x∈l) with
 |true=>exact q6L.mpr ⟨x,q0U q,gN _⟩
 |false =>
  calc q2c.mpr λy hy=>?_;show ¬ dEq (.int y) (.int x)=θ;rw[w_];ext z;let:=q0U z;subst this;calc q3S q hy
end LJ
namespace HT
open PySem PySem.Spec PyProof.Rows
theorem UJ(A:o)(s:B)(a:Int)(t:Tok)(c:Int)(u:Tok)(prog:ψ)(w:S)(E:bA)(Q:bA)(h:Q (.bool (G (c<a))) s):
  M (g prog w) A (richCompare .Gt (.int a t) (.int c u)) Q E s :=
 (PyProof.Rows.gt_int h:M (g prog w) A (compareOp .Gt (.int a t) (.int c u)) Q E s)
section
open PySem.SeqAt
open PySem.AutoSeq1 (wpAny_loadPart')
open PySem.MeetsSeq PySem.MeetsSeq2 PySem.MeetsSeq3
theorem UK(l b:O)(items bI:Array L)(n n2:Nat)(dd lJ:Option O)(sl lK:Array (Option L))(ns ms:-Int)(hi:IntsAre items.toList ns)(hj:IntsAre bI.toList ms):
  Meets (Builtin.«tuple.__gt__» ⟨[.ref l,.ref b],[]⟩)
   (λ_ R s=>s.heap.get? l=U {cls:=.type "tuple",dict:=dd,data:=.seq items n,slots:=sl}/\s.heap.get? b=U {cls:=.type "tuple",dict:=lJ,data:=.seq bI n2,slots:=lK} ∧
    R (.ok (.ret (.bool (lexLt ms ns)))) s) :=
 .of_wp λprog w A R s h=>by
  let⟨hp,g,d,tk,os⟩:=s;let⟨hl,hb,h⟩:=h;let f2:=q4q;let z1:items.size=↑ns:=by rw[<-↑hi];simp
  let z2:bI.size=↑ms:=by rw[<-↑hj];simp
  wp_walk using q1m hl,q1m hb,q4z _ (λrest b s'=>b.1=Z/\s'=⟨hp,g,d,tk,os⟩/\∃(vs ws:-L)(dF kN:-Int),rest=vs.zip ws ∧
   IntsAre vs dF/\IntsAre ws kN/\↑dF+bI.size=↑kN+items.size/\R (.ok (.ret (.bool (lexLt kN dF)))) ⟨hp,g,d,tk,os⟩) _
  case turn =>
   ext⟨y,x⟩ rest b s' ⟨hb',rfl,vs,ws,dF,kN,hz,rT,oK,hlen,hR⟩
   cases rT with
   |nil=>rw[q2T] at hz;cases hz
   |cons a t rU =>
    cases oK with
    |nil=>rw[q30] at hz;cases hz
    |cons c u rV =>
     rw[q2a] at hz;injection hz with Bk mi;injection Bk with hy hx;subst hy hx;rw[oJ] at hR;erw[Ip] at hlen;let⟨e,he,ml⟩:=HM A.in1 ⟨hp,g,d,tk,os⟩ a t c u;refine sf (he prog w _ _ ?_)
     cases e with
     |true =>
      rw[q0k (ml.mp Y).symm] at hR
      wp_walk
      exact⟨Y,Y,_,_,_,_,mi,rU,rV,⋯,hR⟩
     |false =>
      rw[q0i (λq=>absurd (ml.mpr q.symm) q0F)] at hR;let Bl:=UJ A.in1 ⟨hp,g,d,tk,os⟩ a t c u prog w
      wp_walk using Bl
      exact⟨_,Y,by simpa using hR⟩
  case fin =>
   ext⟨b1,b2⟩ s' ⟨hb',rfl,vs,ws,dF,kN,hz,rT,oK,hlen,hR⟩;simp only at hb';subst hb'
   let hv:lexLt kN dF=G (bI.size<items.size):=by
    cases rT with
    |nil =>
     cases oK with
     |nil =>
      erw[q1n] at hlen;rw[HJ];exact(q0e ⋯).symm
     |cons c u hw =>
      erw[q1n,Ip] at hlen;rw[HL];exact(q0e ⋯).symm
    |cons a t hv =>
     cases oK with
     |nil =>
      erw[q1n,Ip] at hlen;rw[HK];exact(q0n ⋯).symm
     |cons c u hw =>
      rw[q2a] at hz;cases hz
   rw[hv] at hR
   wp_walk
   exact⟨_,Y,by simpa[q3p] using hR⟩
  case h =>
   calc⟨Y,Y,items.toList,bI.toList,ns,ms,Y,hi,hj,⋯,h⟩
end
section
variable{prog:t}{w:S}{A:o}{E:bA}{s:B}
theorem UL{l b:O}{items bI:Array L}{ns ms:-Int}{Q:bA}(hl:IsTup s.heap l items)(hb:IsTup s.heap b bI)(hi:IntsAre items.toList ns)(hj:IntsAre bI.toList ms)
  (hu:A.units<cLine) (h:Q (.bool (lexLt ms ns)) s):M (g prog w) A (compareOp .Gt (.ref l) (.ref b)) Q E s:=by
 let⟨⟨cls,dd,data,sl⟩,ho,hc,n,hd⟩:=id hl;let⟨⟨rW,lJ,data2,lK⟩,fW,jJ,n2,hd2⟩:=id hb;simp only at hc hd jJ hd2;subst hc hd jJ hd2
 exact q4V (op:=.Gt) ⟨_,ho,Y⟩ ⟨_,fW,Y⟩ PySem.F.slot_tuple_gt PySem.F.entry_tuple_gt (PySem.F.args_tuple_gt_2 _ _) (UK l b items bI n n2 dd lJ sl lK ns ms hi hj)
  ⟨ho,fW,show q2P (lexLt ms ns)≠q5x/\Q (.bool (lexLt ms ns)) s from⟨(λx=>nomatch x),h⟩⟩ hu
end
end HT
namespace L2
open PySem PySem.Spec PyProof.Rows PySem.W
noncomputable def kE:Bool->String
 |false=>"min"
 |true=>"max"
noncomputable def uH:Bool->String
 |false=>"min.loop"
 |true=>"max.loop"
noncomputable def KD:Bool->CmpOp
 |false=>.Lt
 |true=>.Gt
noncomputable def UM:String->CmpOp->Builtin:=(λ(f:String->CmpOp->Builtin) (_:f "min" .Lt=Builtin.«min.loop»)=>f) _ Y
noncomputable def UN:String->Builtin:=(λ(f:String->Builtin) (_:f "min" = Builtin.«min»)=>f) _ Y
theorem KG(mx:Bool):entryFor table (uH mx)=U (UM (kE mx) (KD mx)):=by cases mx;calc PySem.F.entry_min_loop;calc PySem.F.entry_max_loop
theorem UO(mx:Bool):entryFor table (kE mx)=U (UN (kE mx)):=by cases mx;calc PySem.F.entry_min;calc PySem.F.entry_max
theorem UP(mx:Bool):builtinKind (kE mx)=Z:=by cases mx;calc PySem.F.kind_min;calc PySem.F.kind_max
theorem UQ(mx:Bool):plainId (kE mx)=θ:=by cases mx;calc PySem.F.plain_min;calc PySem.F.plain_max
theorem uI(mx:Bool):plainId (uH mx)=θ:=by cases mx;calc PySem.F.plain_min_loop;calc PySem.F.plain_max_loop
def pX:Bool->LK->LK->Prop
 |false,a,b=>kle a b
 |true,a,b=>kle b a
noncomputable def D9:Bool->LK->LK->Bool
 |false,a,b=>HT.lexLt a b
 |true,a,b=>HT.lexLt b a
theorem KH(mx:Bool)(a:LK):pX mx a a:=by cases mx<;>calc kle_refl _
theorem UR{mx:Bool}{a b c:LK}(h:D9 mx a b=θ)(k:pX mx b c):pX mx a c:=by
 cases mx
 .exact kle_trans (sN h) k
 .calc kle_trans k (sN h)
theorem US{mx:Bool}{a b:LK}(h:¬ D9 mx a b=θ):pX mx b a:=by cases mx<;>calc Bool.eq_false_iff.mpr h
theorem UT{prog:t}{w:S}{A:o}{E:bA}{s:B}{mx:Bool}{l b:O}{items bI:Array L}{ns ms:-Int}{Q:bA}(hl:IsTup s.heap l items)(hb:IsTup s.heap b bI)(hi:IntsAre items.toList ns)(hj:IntsAre bI.toList ms)
  (hu:A.units<cLine) (h:Q (.bool (D9 mx ns ms)) s):M (g prog w) A (richCompare (KD mx) (.ref l) (.ref b)) Q E s:=by
 cases mx
 .exact HT.Bm hl hb hi hj hu h
 .calc HT.UL hl hb hi hj hu h
theorem UU(mx:Bool)(a v d:L):argsOk (kE mx) ⟨[a],[(q02 "key",v),(q02 "default",d)]⟩:=by cases mx<;>(unfold argsOk;kernel_rfl)
section
variable{X:Cx}{pins:aM}{σ:St}{H:Hp}{s:B}{E:bA}{l q I S:O}{P:-V->Hp->Prop}{xs:-V}{d:L}{R:Result->B->Prop}
def UW(mx:Bool)(kf:Nat->LK)(xs kvs:-V)(oq:Array L):Prop :=
 (kvs=[]/\oq = #[])\/∃(b:Nat)(x:V)(vb:L)(t:O),b<↑kvs/\xs[b]?=U x/\RelV x vb/\kvs[b]?=U (.ref t)/\oq = #[vb,.ref t]/\∀j,j<↑kvs->pX mx (kf b) (kf j)
theorem UX(mx:Bool)(kf:Nat->LK)(hh:X.A.handled=Z)(hu:X.A.units+1<cLine)(xa:l≠I)(xb:S≠I)(fI:∀H',H' I=Z->b_ X pins H' I)(fS:∀H',H' S=Z->b_ X pins H' S)
  (hl:∀kvs H',P kvs H'->H' l=U (.lst xs)) (hP:∀kvs H',P kvs H'->∀i,i<↑kvs->∃t,kvs[i]?=U (.ref t)/\H' t=U (.tup ((kf i).map V.int)))
  (sX:∀(dJ:aM)(x:V)(u:L)(kvs:-V)(H':Hp)(s':B),xs[↑kvs]?=U x->RelV x u->Inv X dJ σ H' s'->P kvs H'->M (g X.prog X.w) X.A.in1 (call (.ref q) [u]) (EP X dJ σ λk lL=>P (kvs++[k]) lL) (λ_ _=>False) s')
  (fin:∀kvs H' s',↑kvs=↑xs->P kvs H'->Inv X pins σ H' s'->(xs=[]->R (.ok (.ret d)) s')/\∀(b:Nat)(x:V)(u:L),xs[b]?=U x->RelV x u->(∀j,j<↑xs->pX mx (kf b) (kf j))->R (.ok (.ret u)) s') :
  ∀(r:Nat)(kvs:-V)(H':Hp)(s':B)(oq:Array L)(c:Nat)(oI:Q),↑kvs+r=↑xs->Inv X ((S,seqObj "list" oq c)::(I,oI)::pins) σ H' s'->P kvs H'->oI.cls=.type "list_iterator" -> oI.data=.fields #[.ref l,.int ↑kvs 0]->UW mx kf xs kvs oq →
   codeAny (g X.prog X.w) X.A (.builtin (uH mx) ⟨[.ref I,.ref q,.ref S],[(q02 "default",d)]⟩) R s':=by
 let jg:(toString (kE mx)++toString ".loop" : String)=uH mx:=by cases mx<;>decide
 ext r
 induction r with
 |zero =>
  ext kvs H' s' oq c oI hr J pk tP D_ hb;let pS:=J.pin (S,seqObj "list" oq c) (q0p _ (.head _));let pI:=J.pin (I,oI) (q0p _ (.tail _ (.head _)));let Jn:=J.fD.fD;let⟨aA,rv,pl,_⟩:=Jn.list (bT.of (hl kvs H' pk));let lv:↑aA=↑xs:=rv.length.symm;let UY:↑kvs=↑aA:=by symm
  calc q1A (KG mx) ?_;rw[q1Z (uI mx) _];show M _ X.A.in1 (seqItems? (.ref S) >>= _) _ _ _;calc sf (q1K pS.1 Y ?_);show M _ X.A.in1 (tryCatch (pyNext (.ref I)) _ >>= _) _ _ _;let W:=q3w (prog:=X.prog) (w:=X.w) (A:=X.A.in1) hh I l xa aA.toArray;calc sf (q39 (W.done _ _ _ ⟨⟨oI,pI.1,tP,by rw[D_,Qt,<-UY]⟩,q5Q pl⟩ λh' lD jz=>?_));let J1:Inv X pins σ H' {s' with heap:=h',toks:=lD}:=Jn.g7 (fI H' pI.2.1) λc o n e=>jz c o n⁻¹ e;let tM:=jz S _ xb⁻¹ pS.1;rcases hb with⟨xc,rfl⟩|⟨b,x,vb,t,hb,hx,rx,ht,rfl,best⟩
  .refine sf (q3v (Io ?_))
   refine(fin kvs H' _ ⋯ pk J1).1 ?_
   cases xs with
   |nil=>rfl
   |cons _ _=>rw[xc] at hr;simp at hr
  .let s1:=q0Q h' S (q1c λ_=>(#[]:Array L))
   show M _ X.A.in1 (updateSeq S (λ_ => #[]) >>= _) _ _ _;calc sf (q26 tM Y (sf (q3b (Io ?_))));exact(fin kvs H' _ ⋯ pk (J1.g7 (fS H' pS.2.1) λc o n e=>(s1.2 c n).trans e)).2 b x vb hx rx λj hj=>best j ⋯
 |succ r ih =>
  ext kvs H' s' oq c oI hr J pk tP D_ hb;let pS:=J.pin (S,seqObj "list" oq c) (q0p _ (.head _));let pI:=J.pin (I,oI) (q0p _ (.tail _ (.head _)));let Jn:=J.fD.fD;let⟨aA,rv,pl,_⟩:=Jn.list (bT.of (hl kvs H' pk));let lv:↑aA=↑xs:=rv.length.symm;let dX:↑kvs<↑aA:=by symm
  calc q1A (KG mx) ?_;rw[q1Z (uI mx) _];show M _ X.A.in1 (seqItems? (.ref S) >>= _) _ _ _;calc sf (q1K pS.1 Y ?_);show M _ X.A.in1 (tryCatch (pyNext (.ref I)) _ >>= _) _ _ _;let W:=q3w (prog:=X.prog) (w:=X.w) (A:=X.A.in1) hh I l xa aA.toArray;calc sf (q39 (W.item ↑kvs _ _ _ (by rw[Qt];calc dX) ⟨⟨oI,pI.1,tP,D_⟩,q5Q pl⟩ λv h' lD hv Ea jz=>?_));let hv:aA[↑kvs]?=U v:=by simpa using hv
  let⟨sY,Eb,xf,xg⟩:=id Ea.1;let hi:↑kvs<↑xs:=by symm
  let⟨u,e1,rx⟩:=rv.get (vD hi);rw[hv] at e1;cases e1
  let hx:=vD hi;generalize xs[↑kvs]=x at hx rx;let tM:=jz S _ xb⁻¹ pS.1;let nI:∀z,sY.data≠.cell z:=λz e=>by rw[xg] at e;cases e
  let J1:Inv X pins σ H' {s' with heap:=h',toks:=lD}:=Jn.g7 (fI H' pI.2.1) λc o n e=>jz c o n⁻¹ e;let J2:=(J1.lb (fI H' pI.2.1) Eb nI).lb ((fS H' pS.2.1).cons (p:=(I,sY)) xb.symm) tM DO;show M _ X.A.in1 (tryCatch (holding [v] (call (.ref q) [v])) _ >>= _) _ _ _;calc sf (q39 (q0M (q1U (sX _ x v kvs H' _ hx rx J2 pk) (λkv s2 he=>?_) λ_ _ hF=>hF.elim)));let⟨kx,H2,J3,rk,zj⟩:=he;let⟨t2,et,l4⟩:=hP _ H2 zj ↑kvs (by rw[Qs];calc q0T _)
  let ek:kx=.ref t2:=by
   rw[q0b (Im _),q03] at et;simpa using et
  subst ek;cases rk
  let qS:=J3.pin (S,seqObj "list" oq c) (q0p _ (.head _));let qI:=J3.pin (I,sY) (q0p _ (.tail _ (.head _)));let Jm:=J3.fD.fD;let KI:↑(kvs++[V.ref t2])+r=↑xs:=by rw[Qs,q0W];symm
  let xh:sY.data=.fields #[.ref l,.int (↑(kvs++[V.ref t2]):Nat) 0]:=by rw[xg,Qs];rfl
  let put:∀(b:Nat),b<↑kvs+1->b=↑kvs->(∀j,j<↑kvs+1->pX mx (kf b) (kf j))->codeAny (g X.prog X.w) X.A (.builtin (uH mx) ⟨[.ref I,.ref q,.ref S],[(q02 "default",d)]⟩) R {s2 with heap:=s2.heap.update S (q1c λ_ => #[v,.ref t2])}:=λb hb eb best=>by
   subst eb;let s1:=q0Q s2.heap S (q1c λ_ => #[v,q0J t2]);let⟨c2,jJ⟩:∃c2,(s2.heap.update S (q1c λ_ => #[v,q0J t2])).get? S=U (seqObj "list" #[v,.ref t2] c2):=⟨_,q4_ qS.1 λ_ => #[v,q0J t2]⟩;let J4:Inv X pins σ H2 {s2 with heap:=s2.heap.update S (q1c λ_ => #[v,q0J t2])}:=Jm.g7 (t':=s2.toks) (fS H2 qS.2.1) λc o n e=>(s1.2 c n).trans e;let J5:=(J4.lb (fI H2 qI.2.1) ((s1.2 I xb.symm).trans qI.1) nI).lb ((fS H2 qS.2.1).cons (p:=(I,sY)) xb.symm) jJ DO;refine ih _ H2 _ _ c2 sY KI J5 zj xf xh (.inr ⟨↑kvs,x,v,t2,by rw[Qs];calc q0T _,hx,rx,et,Y,λj hj=>best j (by rw[Qs] at hj;calc hj)⟩)
  rcases hb with⟨xc,rfl⟩|⟨b,y,vb,t,hb,hy,ry,ht,rfl,best⟩
  .show M _ X.A.in1 (updateSeq S (λ_ => #[v,.ref t2]) >>= _) _ _ _
   calc sf (q26 qS.1 Y ?_);rw[jg];calc Io ⟨q2j (uI mx) _,put ↑kvs (q0T _) Y λj hj=>?_⟩;rw[xc] at hj ⊢;let:j=0:=by simp at hj;symm
   subst this;exact KH _ _
  .let⟨t',KJ,UZ⟩:=hP _ H2 zj b (by rw[Qs];symm)
   rw[Z_ hb,ht] at KJ;cases KJ
   let⟨i1,r1,U0,_⟩:=Jm.tuple (bZ.of l4);let⟨i2,r2,U1,_⟩:=Jm.tuple (bZ.of UZ);show M _ X.A.in1 (tryCatch (holding [v,.ref t2] (richCompare _ (.ref t2) (.ref t) >>= _)) _ >>= _) _ _ _;calc sf (q39 (q0M (sf ?_)));calc UT (A:=X.A.in1) (mx:=mx) (ns:=kf ↑kvs) (ms:=kf b) U0 U1 (intsAre_of r1)⁻¹ (intsAre_of r2)⁻¹ hu ?_;calc sf (q0M (q16 ?_));calc sf (q3b (Io ?_));split
   .rename_i hq
    calc sf (q26 qS.1 Y (sf (q3b ?_)));rw[jg];refine Io ⟨q2j (uI mx) _,put ↑kvs (q0T _) Y λj hj=>?_⟩
    by_cases e:j=↑kvs
    .subst e;exact KH _ _
    .exact UR hq (best j ⋯)
   .rename_i hq
    calc sf (q3b ?_);rw[jg];refine Io ⟨q2j (uI mx) _,ih _ H2 _ _ c sY KI J3 zj xf xh (.inr ⟨b,y,vb,t,by rw[Qs];symm,hy,ry,by rw[Z_ hb];calc ht,Y,λj hj=>?_⟩)⟩
    by_cases e:j=↑kvs
    .subst e;exact US hq
    .calc best j (by rw[Qs,q0W] at hj;symm)
theorem U2(mx:Bool){Q:bA}(kf:Nat->LK)(J:Inv X pins σ H s)(hh:X.A.handled=Z)(hu:X.A.units+1<cLine)(p0:P [] H)
  (hl:∀kvs H',P kvs H'->H' l=U (.lst xs)) (hP:∀kvs H',P kvs H'->∀i,i<↑kvs->∃t,kvs[i]?=U (.ref t)/\H' t=U (.tup ((kf i).map V.int)))
  (sX:∀(dJ:aM)(x:V)(u:L)(kvs:-V)(H':Hp)(s':B),xs[↑kvs]?=U x->RelV x u->Inv X dJ σ H' s'->P kvs H'->M (g X.prog X.w) X.A.in1 (call (.ref q) [u]) (EP X dJ σ λk lL=>P (kvs++[k]) lL) (λ_ _=>False) s')
  (fin:∀kvs H' s',↑kvs=↑xs->P kvs H'->Inv X pins σ H' s'->(xs=[]->Q d s')/\∀(b:Nat)(x:V)(u:L),xs[b]?=U x->RelV x u->(∀j,j<↑xs->pX mx (kf b) (kf j))->Q u s') :
  M (g X.prog X.w) X.A (call (.builtin (kE mx)) [.ref l] [(q02 "key",.ref q),(q02 "default",d)]) Q E s:=by
 let jg:(toString (kE mx)++toString ".loop" : String)=uH mx:=by cases mx<;>decide
 let⟨aA,rv,pl,_⟩:=J.list (bT.of (hl _ _ p0));let yH:=PlainL.lt pl;calc kmk_tree (UP mx) (UQ mx) (UO mx) (UU _ _ _ _) ?_;calc sf (q5t (show Builtin.Builtins.bindParams (kE mx) ["key", "default"] 0 ⟨[],[(q02 "key",.ref q),(q02 "default",d)]⟩=pure [U (.ref q),U d] from Y) ?_);calc sf (Io ?_);calc sf (q15 (q5Q pl) ?_);calc sf (q4r ?_ (q06 _));rw[jg];calc Io ⟨q2j (uI mx) _,?_⟩;let J1:Inv X pins σ H {s with heap:=s.heap.push {cls:=.type "list_iterator",data:=.fields #[.ref l,.int 0 0]}}:=J.kept (h':=s.heap.push {cls:=.type "list_iterator",data:=.fields #[.ref l,.int 0 0]}) (t':=s.toks) λb u e=>yd _ e
 let gI:(s.heap.push {cls:=.type "list_iterator",data:=.fields #[.ref l,.int 0 0]}).get? ⇑s=U {cls:=.type "list_iterator",data:=.fields #[.ref l,.int 0 0]}:=q0c _ Y;let hS:(s.heap.push {cls:=.type "list_iterator",data:=.fields #[.ref l,.int 0 0]}).objs.size≠⇑s:=λz=>q1L _ (Nat.lt_of_lt_of_eq (q0a gI) z);let fI:∀H',H' ⇑s=Z->b_ X pins H' ⇑s:=λH' e=>J.hZ (Im _) e;let KN:H ⇑s=Z:=J.bu.fresh (Im _);let xa:l≠⇑s:=q0g yH;generalize ⇑s=I at gI hS fI KN xa;generalize s.heap.push {cls:=.type "list_iterator",data:=.fields #[.ref l,.int 0 0]}=g1 at J1 gI hS
 let fS:∀H',H' g1.objs.size=Z->b_ X pins H' g1.objs.size:=λH' e=>J1.hZ (Im _) e;let U3:H g1.objs.size=Z:=J1.bu.fresh (Im _);let J2:Inv X pins σ H {s with heap:=g1.push (seqObj "list" #[] 0)}:=J1.kept (h':=g1.push (seqObj "list" #[] 0)) (t':=s.toks) λb u e=>yd _ e;let J3:=(J2.lb (fI H KN) (yd _ gI) (λz e=>by cases e)).lb ((fS H U3).cons (p:=(I,_)) hS.symm) (q0c _ Y) DO;calc UX mx kf hh hu xa hS fI fS hl hP sX fin ↑xs [] H _ #[] 0 _ (by simp) J3 p0 Y Y (.inl ⟨Y,Y⟩)
end
variable[bf]
def pY(mx:Bool)(cp:-(Option Nat))(fb:WE)(δ:aN)(ds:-D)(K:D->Prop):Prop :=
 ∃key:D->LK,T8 cp fb δ ds key/\(ds=[]->K .non)/\∀d∈ds,(∀e∈ds,pX mx (key d) (key e))->K d
def pZ(mx:Bool)(cp:-(Option Nat))(fb:WE)(x:DV)(δ:aN)(K:D->Prop):Prop:=∃ds,x=.p (.lst ds)/\pY mx cp fb δ ds K
theorem U4{mx:Bool}{cp:-(Option Nat)}{fb:WE}{x:DV}{δ:aN}{K:D->Prop}(h:pZ mx cp fb x δ K):∃ds,x=.p (.lst ds)/\pY mx cp fb δ ds K:=h
def Ec(mx:Bool)(f:WE)(cp:-(Option Nat))(fb:WE):WE:=fun δ K=>f δ λx δ1=>pZ mx cp fb x δ1 λd=>K (.p d) δ1
noncomputable def zk(mx:Bool):J:=q02 (kE mx)
section
variable{X:Cx}{params:Arguments}{body:l}{scope:a}{gQ:y}{x:J}{Nb:-J}{cp:-(Option Nat)}{fb:WE}{T:O}
theorem U5{mx:Bool}{pins:aM}{σ:St}{H:Hp}{s:B}{E:bA}{l:O}{F:Hp}{ad:-O}{δ:aN}{ds:-D}{xs:-V}{kM m8 pos j p2}{Q:VK}(L:mY X params body scope gQ T x Nb cp fb)(hu:X.A.units+64<cLine)
  (I:Inv X pins σ H s) (S:SR F ad δ σ H) (hl:F l=U (.lst xs)) (hx:ai F ds xs)
  (hs:pY mx cp fb δ ds λd=>∀v F' H',Ext F ad δ.mu H F' ad δ.mu H'->SR F' ad δ σ H'->Is F' d v->Q v H') :
  M (g X.prog X.w) X.A (evalAll ((backToKw pos (keywordEach [⟨U "key",.Lambda params body scope gQ,kM⟩,⟨U "default",.Constant .none j p2,m8⟩] X.env)).map (·.2))) (λkvs s₂=>M (g X.prog X.w) X.A (call (.builtin (kE mx)) [.ref l] (((backToKw pos (keywordEach [⟨U "key",.Lambda params body scope gQ,kM⟩,⟨U "default",.Constant .none j p2,m8⟩] X.env)).filterMap (·.1)).zip kvs)) (EP X pins σ Q) E s₂) E s:=by
 let⟨key,hk,K0,K⟩:=hs;let⟨k,xi,J⟩:=L.room;let⟨cc,kD,hC⟩:=L.env.code;show M _ _ (evalAll [do let v <- eval (.Lambda params body scope gQ) X.env;standAt pos;pure v,do let v <- eval (.Constant .none j p2) X.env;standAt pos;pure v]) _ _ _;calc evalAll_cons (sf ?_);let Ed:=L.names;unfold zd at Ed;erw[q0L,q1V,q0y] at Ed;let SC:=x4r L.kind Ed.1.1.1;let⟨cl,qL,sU,ze⟩:=Iq (scope:=scope) (env:=X.env) λy hy e=>I.ok.has y.1 (SC.free y hy e);refine TR I (L.tbl.get H S.tab) L.T9 qL kD (hC.keeps I.bk) L.env.ng (I.mod.glob.keeps I.bk) (L.env.blt.keeps I.bk) λf H1 s1 c I1 t1 k1 TM hf hc=>?_
 calc sf (q23 (Io ?_));calc evalAll_cons (sf (Io ?_));calc sf (q23 (Io ?_));calc evalAll_nil ?_;show M _ _ (call (.builtin (kE mx)) [.ref l] [(q02 "key",.ref f),(q02 "default",.none)]) _ _ _;let kT:∀b o,H b=U o->b∉bf.ad->H1 b=U o:=λb o e t=>k1 b o e λz=>t (by rw[z];calc L.tbl.mem);let nK:=L.tbl.put H H1 S.tab t1 k1;let S1:=S.DQ kT nK;let E1:=Ext.DQ S kT nK;let lx:=↑hx;let r1:bB (k+2) X.A.in1:=bB.in1 (k:=k+2) xi;let gd:∀{i:Nat}{d:D},ds[i]?=U d->ds.getD i .non=d:=λ{i d} e=>by rw[Qv,e];rfl
 refine U2 mx (l:=l) (xs:=xs) (d:=.none) (λi=>key (ds.getD i .non)) (P:=λkvs H'=>∃F',Ext F ad δ.mu H F' ad δ.mu H'/\SR F' ad δ σ H'/\H' f=U (jX f "<lambda>" (X.env.qual++"<lambda>") params body scope cl ((X.mg "__name__").getD .none) (.ref c))/\H' c=U (oo c (X.env.qual++"<lambda>"))/\↑kvs<=↑ds/\∀(i:Nat)(d:D)(kv:V),ds[i]?=U d->kvs[i]?=U kv->Is F' (.tup ((key d).map D.int)) kv)
  I1 r1.hd ⋯ ⟨_,E1,S1,hf,hc,q06 _,λi d kv _ e=>by simp at e⟩ (λkvs H' ⟨F',E',S',_⟩↦S'.sub _ _ (E'.same _ _ hl)) (λkvs H' ⟨F',E',S',zm,kJ,hle,zo⟩ i hi=>?_) (λdJ v u kvs H' s' hv rv I' ⟨F',E',S',zm,kJ,hle,zo⟩=>?_) λkvs H' s' jS ⟨F',E',S',zm,kJ,hle,zo⟩ I'=>⟨λh0=>?_,λb y u hy ry best=>?_⟩
 .let hd:=vD (show i<↑ds by symm)
  let is:=zo i _ _ hd (vD hi);erw[Is] at is;let⟨t,us,e1,e2,e3⟩:=is;calc⟨t,by rw[vD hi,e1],?_⟩;rw[gd hd,<-pb e3];exact S'.sub _ _ e2
 .let hi:↑kvs<↑ds:=by rw[<-lx];exact(Il.mp hv).1
  let hd:=vD hi;let U6:Is F' ds[↑kvs] v:=ai.at (hx.same E'.same) hd hv;let⟨kne,U7⟩:=hk _ (q1Y hi);calc TZ I' zm kJ (by rw[show X.A.in1.frames=X.A.frames from Y];calc I'.ok.frames) r1.hd (bB.depth (r1.mono (by symm:k+1<=k+2))) L.kind L.names L.co L.gen sU ze (λct=>L.bind cl _ _ ct u) rv (J ⟨X.A.in1,cl,f,.ref c,s',H'⟩ ((r1.mono (by symm:k+1<=k+2)).deeper _)) ?_;calc⟨F',ad,_,_,(S'.v8 (cp:=cp)).w9 U6,U7,λy δ' ⟨ey,em⟩ w F2 cz H2 E2 S2 V2=>?_⟩;subst ey
  let ea:cz=ad:=by
   let l2:↑cz=↑ad:=by rw[S2.cF,em,S'.cF]
   refine q2R λi=>?_
   by_cases hi:i<↑ad
   .rw[vD hi];exact E2.pre i _ (vD hi)
   .rw[q18 ⋯,q18 ⋯]
  subst ea;let⟨Hh,c9⟩:=δ';let em:c9=δ.mu:=em;subst em;refine⟨F2,E'.trans E2,SR.back S' E2 S2,E2.rh S' zm (λ_ z=>by cases z) (λ_ z=>by cases z) (λ_ z=>by cases z) (λ_ z=>by cases z),E2.rh S' kJ (λ_ z=>by cases z) (λ_ z=>by cases z) (λ_ z=>by cases z) (λ_ z=>by cases z),by rw[Qs,q0W];calc hi,λi d kv e1 e2=>?_⟩
  by_cases pz:i<↑kvs
  .rw[Z_ pz] at e2
   exact Is.same E2.same (zo i d kv e1 e2)
  .let:i=↑kvs:=by
    let:=(Il.mp e2).1;rw[Qs,q0W] at this;symm
   subst this;rw[q0b (Im _),q03] at e2;cases(show U w=U kv from e2)
   rw[hd] at e1;cases e1;exact V2
 .let U8:ds=[]:=q1X.mp (by rw[<-lx,h0];rfl)
  exact⟨.non,H',I',Y,K0 U8 _ F' H' E' S' (by erw[Is])⟩
 .let hb:b<↑ds:=by rw[<-lx];exact(Il.mp hy).1
  let hd:=vD hb;calc⟨y,H',I',ry,K ds[b] (q1Y hb) (λe he=>?_) _ F' H' E' S' (ai.at (hx.same E'.same) hd hy)⟩;let⟨j,hj,rfl⟩:=q2w.mp he;let:=best j ⋯;rw[gd hd,gd (vD hj)] at this;calc this
variable{e:l}{f:WE}{p1 q1 kM m8:y}
theorem U9{j p2}(mx:Bool)(L:mY X params body scope gQ T x Nb cp fb)(hu:X.A.units+64<cLine)(U_:Gl X (zk mx))(hs:X.mg (zk mx)=Z)(Va:bootBuiltins (zk mx)=U (.builtin (kE mx)))(ha:JA X [e] (cy (aq f ah)))
  (he:starEach [e] X.env=[(ι,eval e X.env)]:=by rfl):JE X (.Call (.Name (zk mx) p1) [e] [⟨U "key",.Lambda params body scope gQ,kM⟩,⟨U "default",.Constant .none j p2,m8⟩] q1) (tD (Ec mx f cp fb)) :=
 ⟨λpins s σ H Q I ⟨F,ad,δ,K,S,q,k⟩=>by
  calc q2m (oA I U_ hs Va ?_ (hn:=by cases mx<;>decide) (hd:=by cases mx<;>decide));calc callWith_kw ?_ (he:=by rw[he];rfl) (hplain:=by rw[he];rfl);refine bL (ha q1 pins s σ H (λvs H1=>∃(l:O)(F1:Hp)(bp:-O)(δ1:aN)(ds:-D)(us:-V),vs=[.ref l]/\F1 l=U (.lst us)/\ai F1 ds us/\Ext F ad δ.mu H F1 bp δ1.mu H1/\SR F1 bp δ1 σ H1/\pY mx cp fb δ1 ds λd=>K (.p d) δ1) I ?_) λus s1 Vb=>?_
  .refine⟨F,ad,δ,λxs δ1=>match xs with
    |[x]=>pZ mx cp fb x δ1 λd=>K (.p d) δ1
    |_=>False,S,q,λxs δ1 h1 vs F1 bp H1 E1 S1 V1=>?_⟩
   cases xs with
   |nil=>exact h1.elim
   |cons x xs =>
    cases xs with
    |cons _ _=>exact h1.elim
    |nil =>
     let⟨v,r,rfl,W1,W2⟩:=V1;let W2:r=[]:=W2;subst W2;let⟨ds,rfl,h2⟩:=U4 h1;let W1:Is F1 (.lst ds) v:=W1;erw[Is] at W1;let⟨a,us,rfl,g1,g2⟩:=W1;exact⟨a,F1,bp,δ1,ds,us,Y,g1,g2,E1,S1,h2⟩
  .let⟨vs,H1,I1,r1,l,F1,bp,δ1,ds,ws,ev,hl,hi,E1,S1,Vc⟩:=Vb
   subst ev;let⟨u,rfl,rx⟩:=vals1 r1;cases rx
   calc U5 L hu I1 S1 hl hi ?_;let⟨key,hk,K0,hK⟩:=Vc
   calc⟨key,hk,λh0 v F' H' E' S' is=>k _ _ (K0 h0) _ _ _ _ (E1.trans E') S' is,λd hd hb v F' H' E' S' is=>k _ _ (hK d hd hb) _ _ _ _ (E1.trans E') S' is⟩⟩
end
end L2
namespace LJ
open PySem L2
variable[bf]
noncomputable def sZ:D->D
 |.tup [.int i,_]=>.int i
 |_=>.non
noncomputable def s_(p:Int->Bool):D->Bool
 |.tup [.int i,_]=>p i
 |_=>ι
theorem zp(p:Int->Bool):∀(ds:-D)(i:Nat),((jA i ds).filter (s_ p)).map sZ=((q4j i ↑ds).filter λk:Nat=>p k).map λk:Nat=>D.int k
 |[],_=>Y
 |d::r,i=>by
  let ih:=zp p r (i+1);show(((D.tup [.int i,d])::jA (i+1) r).filter _).map _=_;rw[Ip,q6M,q1h,q1h];show(if p i=θ then _ else _:-D).map _=_
  cases q:p i with
  |true=>erw[q2N,q0r,ih];rfl
  |false=>erw[q1b,q2g,ih]
noncomputable def fM(l:-Int)(y:Wy):Bool:=G (y.1∈l) != G (y.2.1∈l)
noncomputable def g_(ws:-Wy)(l:-Int):-Int:=(cj ↑ws).filter λn=>fM l (aK ws n)
inductive Ee (ys:-DV) (aB:-OV) (K:RV->-OV->Prop):Prop
 |mk (y:Wy) (l:-Int) (_:ys=[.p (bR y),.p (bH l)]) (_:aB=[]) (_:K (.p (.bl (fM l y))) [])
def Ef:WS:=(bh (d2 (d2 (d2 (aa 0) (dC (.int 0)) bw) (aa 1) (f6 ι)) (d2 (d2 (aa 0) (dC (.int 1)) bw) (aa 1) (f6 ι)) pd))
theorem Vd:Sem 2 0 Ee Ef:=by
 ext ys aB K'-⟨y,l,rfl,rfl,k⟩;unfold Ef;simp![bR,bH,dm,eF];let d0:=g9 l;calc⟨⋯,⋯,?_⟩;rw[jf,jf];unfold fM at k;generalize G (y.1∈l)=p at k;generalize G (y.2.1∈l)=q at k;cases p<;>cases q<;>calc cB k
inductive Eg (ys:-DV) (aB:-OV) (K:RV->-OV->Prop):Prop
 |mk (m:Int) (ws:-Wy) (l:-Int) (_:aY m ws) (_:ys=[.p (bq m ws),.p (bH l)]) (_:aB=[]) (_:K (.p (bH (g_ ws l))) [])
def Eh:WS:=(bh (d9 (i_ (aq (d2 (aa 0) (dC (.int 1)) bw) ah)) [Z,Z,U 1] (i8 2 (d7 (bQ 0) (d7 (bQ 1) iO))) (dT (aJ 2 Ee (aq (aa 1) (aq (aa 2) ah)))) (aa 0)))
theorem Ve:Sem 2 0 Eg Eh:=by
 ext ys aB K'-⟨m,ws,l,W,rfl,rfl,k⟩;let k_:=W.iT;unfold Eh;simp![bq,eF];refine k6 (s_ λi=>fM l (aK ws i)) sZ (by rw[o9,BE];symm) trivial ?_ ?_
 .ext d hd acc L' ha h1 h2
  let⟨z,hz⟩:=q0j.mp hd;let⟨e,z1,z2⟩:=o_ hz;rw[Qw] at z1;let⟨y,z3,rfl⟩:=q0f.mp z1;rw[q0G] at z2;subst z2;let ew:aK ws (z:Int)=y:=by unfold aK;rw[q0x,Qv,z3];rfl
  erw[s_,sZ] at h1 h2;rw[ew] at h1 h2;simp!;calc⟨y,l,Y,Y,?_⟩;simp!
  cases q:fM l y with
  |true=>simp!;exact⟨ha,h1 q⟩
  |false=>simp!;exact h2 q
 .let e:=zp (λi=>fM l (aK ws i)) (ws.map bR) 0
  let e2:(g_ ws l).map D.int=((q4j 0 ↑(ws.map bR)).filter λk:Nat=>fM l (aK ws k)).map λk:Nat=>D.int k:=by
   unfold g_ cj;rw[q17,q0I,BE,<-q2V];rfl
  rw[<-e2] at e;rw[e];calc cB k
inductive Ei (ys:-DV) (aB:-OV) (K:RV->-OV->Prop):Prop
 |mk (m:Int) (ws:-Wy) (ns:-Int) (_:aY m ws) (_:Nums ws ns) (_:ys=[.p (bq m ws),.p (bH ns)]) (_:aB=[]) (_:(ns=[]->K (.p .non) [])) (_:∀n∈ns,(∀e∈ns,kle (fm ws n) (fm ws e))->K (.p (.int n)) [])
def Ej:WS:=(bh (Ec ι (aa 1) [U 0] (aJ 1 D2 (aq (d2 (d2 (aa 1) (dC (.int 1)) bw) (aa 0) bw) ah))))
theorem Vf:Sem 2 0 Ei Ej:=by
 ext ys aB K'-⟨m,ws,ns,W,hn,rfl,rfl,k0,k⟩;unfold Ej;simp![Ec,pZ,bq,bH]
 refine⟨ns.map D.int,Y,λd=>match d with
  |.int n=>fm ws n
  |_=>[],λd hd=>?_,λh0=>?_,λd hd best=>?_⟩
 .let⟨n,h,rfl⟩:=q0q.mp hd
  let⟨n0,n1⟩:=hn n h;let⟨y,ey,hy,ea,_⟩:=qZ W n0 n1;calc⟨(by ext z;cases z),?_⟩;simp![eF,ea];calc⟨y,Y,Y,?_⟩;simp!;unfold fm;rw[ey];rfl
 .exact cB (k0 (List.map_eq_nil_iff.mp h0))
 .let⟨n,h,rfl⟩:=q0q.mp hd
  exact cB (k n h λe he=>best _ (q0q.mpr ⟨e,he,Y⟩))
open Classical in
noncomputable def uJ (ws:List Wy) (ns:List Int):Int:=if h:∃n,n∈ns/\∀e∈ns,kle (fm ws n) (fm ws e) then x1r h else 0
theorem KO{m:Int}{ws:-Wy}(W:aY m ws){ns:-Int}(hn:Nums ws ns){n:Int}(h:n∈ns)(b:∀e∈ns,kle (fm ws n) (fm ws e)):uJ ws ns=n:=by
 unfold uJ;let ex:∃n,n∈ns/\∀e∈ns,kle (fm ws n) (fm ws e):=⟨n,h,b⟩;rw[dif_pos ex];let⟨h1,h2⟩:=q5k ex;calc Uw W (hn _ h1) (hn _ h) (JU (h2 n h) (b _ h1))
theorem zq{ws:-Wy}{l:-Int}:Nums ws (g_ ws l):=λn h=>DC (q0R.mp h).1
theorem Vg{ws:-Wy}{l:-Int}:↑(g_ ws l)<=↑ws:=by
 unfold g_;let:=q0P (λn=>fM l (aK ws n)) (cj ↑ws);rw[sV] at this;calc this
theorem Ek(ns:-Int):∀i,i<=↑ns->(LJS.jD ns i).Nodup/\∀x,x∈LJS.jD ns i↔x∈ns.take i
 |0,_=>⟨q5s,λx=>by simp[LJS.jD]⟩
 |i+1,h=>by
  let⟨n,m⟩:=Ek ns i ⋯
  let et:ns.take (i+1)=ns.take i++[ns.getD i 0]:=by
   rw[q3n,Qv,vD (show i<↑ns by symm)];rfl
  rw[et];unfold LJS.jD LJS.once;split
  .rename_i c
   calc⟨n,λx=>?_⟩;rw[m x,q0z,q0K];calc⟨.inl,λz=>z.elim id λz=>?_⟩;subst z;exact(m _).mp c
  .rename_i c
   refine⟨q14.mpr ⟨n,by simp,λa ha b hb z=>?_⟩,λx=>?_⟩
   .subst z;rw[q0K.mp hb] at ha;exact c ha
   .rw[q0z,q0z,m x]
theorem KP{ws:-Wy}:∀{ns:-Int},ns≠[]->∃n,n∈ns/\∀e∈ns,kle (fm ws n) (fm ws e)
 |[],h=>absurd Y h
 |[a],_=>⟨a,q0m,λe he=>by rw[q0K.mp he];calc kle_refl _⟩
 |a::b::r,_=>by
  let⟨n,h1,h2⟩:=KP (ws:=ws) (ns:=b::r) (by simp)
  cases q:HT.lexLt (fm ws n) (fm ws a) with
  |true=>exact⟨n,q0l _ h1,λe he=>(Qu.mp he).elim (λz=>by rw[z];calc sN q) (h2 e)⟩
  |false=>calc⟨a,q0m,λe he=>(Qu.mp he).elim (λz=>by rw[z];calc kle_refl _) λz=>kle_trans q (h2 e z)⟩
theorem Vh{ws:-Wy}{ns:-Int}(h:ns≠[]):uJ ws ns∈ns/\∀e∈ns,kle (fm ws (uJ ws ns)) (fm ws e):=by
 let ex:=KP (ws:=ws) h;unfold uJ;rw[dif_pos ex];calc q5k ex
theorem Vi(ns:-Int)(x:Int):x∈gz ns↔x∈ns:=by
 let:=(Ek ns _ (Im _)).2 x;rw[q2I] at this;calc this
end LJ
namespace L2
open PySem PySem.Spec PyProof.Rows PySem.W
theorem KQ(kf:Nat->Int):∀k,argBest (λi j=>G (kf i<kf j)) k<=k/\∀j,j<=k->kf (argBest (λi j=>G (kf i<kf j)) k)<=kf j
 |0=>⟨Im _,λj hj=>by
  let e:j=0:=by symm
  subst e
  calc q6V _⟩
 |k+1=>by
  let⟨h1,h2⟩:=KQ kf k;show(if G (kf (k+1)<kf (argBest _ k))=θ then k+1 else argBest _ k)<=k+1/\∀j,j<=k+1->kf (if G (kf (k+1)<kf (argBest _ k))=θ then k+1 else argBest _ k)<=kf j
  by_cases c:kf (k+1)<kf (argBest (λi j=>G (kf i<kf j)) k)
  .rw[q0k (q0n c)]
   refine⟨Im _,λj hj=>?_⟩
   by_cases e:j=k+1
   .subst e;exact q6V _
   .let:=h2 j ⋯;symm
  .rw[q0i (by rw[q0e c];decide)]
   refine⟨⋯,λj hj=>?_⟩
   by_cases e:j=k+1
   .subst e;symm
   .calc h2 j ⋯
section
variable{X:Cx}
theorem Vj(hc:X.calm=θ):gZ X (.builtin "min") (λxs H Q=>∃(l:O)(ns:-Int),xs=[.ref l]/\bT X.K H l (ns.map V.int)/\ns≠[]/\∀x∈ns,(∀y∈ns,x<=y)->Q (.int x) H):=by
 ext pins s σ H xs us Q I r h;let⟨l,ns,rfl,hq,ne,q⟩:=h;let⟨u,rfl,rx⟩:=vals1 r;cases rx
 let⟨aA,r',pl,_⟩:=I.list hq;let hl:=↑r';rw[BE] at hl;let hL:=pl.isList;let ll:l<⇑s:=by let⟨o,e,_⟩:=hL;exact q0a e
 let nI:l≠⇑s:=q0g ll;let n0:0<↑ns:=List.length_pos_iff.mpr ne;let sz:aA.toArray.size=↑ns:=by rw[Qt];exact hl.symm
 let rz:∀(i:Nat)(v:L),aA.toArray[i]?=U v->∃t,v=q04 (ns.getD i 0) t:=λi v hv=>by
  rw[q2r] at hv;let hi:i<↑ns:=by rw[hl];exact(Il.mp hv).1
  let⟨u,e1,t,e2⟩:=r'.get (x:=V.int (ns.getD i 0)) (i:=i) (by rw[Qw,vD hi,Qv,vD hi];rfl);rw[hv] at e1;cases e1
  exact⟨t,e2⟩
 calc call_min_walk (q15 hL ?_);refine⟨⇑s,_,_,_,_,_,λi j=>G (ns.getD i 0<ns.getD j 0),Y,q3w (by rw[q2n];calc I.ok.hd hc) ⇑s l nI _,⟨⟨_,q0c _ Y,Y,Y⟩,hL.push _⟩,λb hb=>?_,by rw[sz];calc n0,CmpOf.ints_lt (λi=>ns.getD i 0) rz,λv h' tk hv kp=>?_⟩
 .erw[Qu,q0s,q1v] at hb
  rw[q00];rcases hb with e|e
  .rw[e];exact q0T _
  .rw[e];exact q0O ll
 .let⟨t,rfl⟩:=rz _ v hv
  rw[sz] at hv ⊢;let⟨b1,b2⟩:=KQ (λi=>ns.getD i 0) (↑ns-1);let gm:∀{i:Nat},i<↑ns->ns.getD i 0∈ns:=λ{i} h=>by rw[Qv,vD h];exact q1Y h
  refine⟨.int _,H,I.kept (t':=tk) λb o e=>kp b o (λz=>?_) (yd _ e),⟨t,Y⟩,q _ (gm ⋯) λy hy=>?_⟩
  .let:=q0a e
   rw[q0K.mp z] at this;exact q1L _ this
  .let⟨j,hj,rfl⟩:=q2w.mp hy
   let:=b2 j ⋯;rw[show ns.getD j 0=ns[j] by rw[Qv,vD hj];rfl] at this;calc this
end
def uK:-D->(D->Prop)->Prop
 |[.lst ds],K=>match intsOf ds with
  |some ns=>ns≠[]/\∀x∈ns,(∀y∈ns,x<=y)->K (.int x)
  |none=>False
 |_,_=>False
variable[bf]{X:Cx}
theorem KR(hc:X.calm=θ):dQ X (.builtin "min") uK:=by
 ext pins s σ H xs us Q I r ⟨F,ds,K,sub,rd,q,md⟩;unfold uK at q;split at q
 .rename_i es
  split at q
  .rename_i ns e
   let⟨v,rfl,a,vs,rfl,h1,h2⟩:=dj rd;rw[sH e] at h2;rw[pb h2] at h1;exact Vj hc pins s σ H _ us Q I r ⟨a,ns,Y,bT.of h1,q.1,λx hx hm=>md _ _ _ (q.2 x hx hm) (λ_ _ e=>e) Y⟩
  .exact q.elim
 .calc q.elim
end L2
namespace LJ
open PySem L2
variable[bf]
end LJ
namespace L2
open PySem PySem.Spec PyProof.Rows PySem.W
section
variable{X:Cx}{pins:aM}{σ:St}{H:Hp}{s:B}{E:bA}{l I S:O}{ts:-O}{d:L}{R:Result->B->Prop}
end
variable[bf]
section
variable{X:Cx}{e:l}{f:WE}{p1 q1 m8:y}
end
end L2
namespace LJ
open PySem L2
variable[bf]
end LJ
namespace LJ
open PySem L2
noncomputable def b1(p:Prop)[Decidable p]:Nat:=if p then 1 else 0
noncomputable def m9(ws:-Wy)(us:-Int):-Int:=us.map (λn=>(aK ws n).1)++us.map λn=>(aK ws n).2.1
section
variable{ws:-Wy}{us ns vs:-Int}{a b c x n:Int}
end
end LJ
namespace L2
open PySem PySem.Spec PyProof.Rows
variable[bf]
section
variable{X:Cx}{fa:WA}
end
end L2
namespace LJ
open PySem L2
variable[bf]
inductive zr (ys:-DV) (aB:-OV) (K:RV->-OV->Prop):Prop
 |mk (m:Int) (ws:-Wy) (us:-Int) (_:aY m ws) (_:Nums ws us) (_:↑us<=400) (_:ys=[.p (bq m ws),.p (bH us)]) (_:aB=[]) (_:K (.p (bH (m9 ws us))) [])
def El:WS:=(bh (d2 (d9 (cq (aa 1)) [Z,U 0] (bQ 0) du (d2 (d2 (d2 (aa 1) (dC (.int 1)) bw) (aa 0) bw) (dC (.int 0)) bw)) (d9 (cq (aa 1)) [Z,U 0] (bQ 0) du (d2 (d2 (d2 (aa 1) (dC (.int 1)) bw) (aa 0) bw) (dC (.int 1)) bw)) dh))
theorem KU{ws:-Wy}{n:Int}(h:0<=n/\n<(↑ws:Int)):eK (ws.map bR) n=U (bR (aK ws n)):=by
 let⟨i,rfl⟩:∃i:Nat,n=i:=⟨n.toNat,⋯⟩;let hi:i<↑ws:=by symm
 calc kh ?_;rw[Qw,vD hi];unfold aK;rw[q0x,Qv,vD hi];rfl
theorem Vk:Sem 2 0 zr El:=by
 ext ys aB K'-⟨m,ws,us,W,hu,ul,rfl,rfl,k⟩;unfold El;rw[show bH us=.lst (us.map D.int) from Y];simp!
 refine L2.kC (λd=>match d with
  |.int n=>.int (aK ws n).1
  |_=>.non) (by rw[BE];symm) trivial ?_ ?_
 .ext d hd acc L ha h
  let⟨n,hn,rfl⟩:=q0q.mp hd;simp![bq,eF,KU (hu n hn),bR,dm];exact⟨ha,h⟩
 refine L2.kC (λd=>match d with
  |.int n=>.int (aK ws n).2.1
  |_=>.non) (by rw[BE];symm) trivial ?_ ?_
 .ext d hd acc L ha h
  let⟨n,hn,rfl⟩:=q0q.mp hd;simp![bq,eF,KU (hu n hn),bR];exact⟨ha,h⟩
 simp!;refine⟨⋯,?_⟩
 let e:(us.map D.int).map (λd=>match d with
  |.int n=>D.int (aK ws n).1
  |_=>.non)++(us.map D.int).map (λd=>match d with
  |.int n=>D.int (aK ws n).2.1
  |_=>.non)=(m9 ws us).map D.int:=by
  unfold m9;rw[q0I,q0I,q0w,q0I,q0I];rfl
 rw[e];calc cB k
section
variable{m:Int}{ws:-Wy}{us:-Int}
end
end LJ
namespace LJS
open PySem PySem.SetTable PyProof.Rows
theorem KW(ns:-Int){i:Nat}:∀{n:Nat},i<=n->↑(jD ns i)<=↑(jD ns n)
 |0,h=>by
  obtain rfl:i=0:=by symm
  exact Im _
 |n+1,h=>by
  by_cases c:i=n+1
  .subst c;exact Im _
  .let:=KW ns (i:=i) (n:=n) ⋯
   show _<=↑(once (jD ns n) (ns.getD n 0));unfold once;split
   .exact this
   .rw[Qs];symm
section
variable{prog:t}{w:ω}{A:o}{R:Result->B->Prop}{I S:O}{fp wr:-O}{G:Array GenState->Array GenState->Prop}{n:Nat}{P:Nat->L->Prop}{St:Nat->B->Prop}
theorem KY(W:WalksS prog w A.in1 I fp wr G n P St)(out:S∉fp){led:Bool}(ns:-Int)(isInt:∀i v,P i v->∃t,v=.int (ns.getD i 0) t)(rq:↑(jD ns n)<60):
  ∀(left i:Nat)(s:B),i+left=n->St i s->fw s.heap S led (jD ns i)->(∀s',Moved (S::wr) G s s'->fw s'.heap S led (jD ns n)->R (.ok (.ret .none)) s') →
   codeAny (g prog w) A (.builtin "set.update.loop" ⟨[.ref S,.ref I],[]⟩) R s:=by
 let l6:S∉wr:=λz=>out (W.sub _ z);let more:∀b,b∈wr->b∈S::wr:=λb hb=>q0l _ hb;ext left
 induction left with
 |zero =>
  ext i s hi st se fin;obtain rfl:i=n:=by symm
  calc q1A q2H ?_;rw[q1Z q10 _];show M _ A.in1 (pyNext (.ref I) >>= _) _ _ s;calc sf (W.done s _ _ st λs' mv=>?_);show M _ A.in1 (ret q0E) _ _ s';exact Io (fin s' (mv.mono more) (Aw se λo e=>mv.heap S o l6 e))
 |succ left ih =>
  ext i s hi st se fin;let dX:i<n:=by symm
  calc q1A q2H ?_;rw[q1Z q10 _];show M _ A.in1 (pyNext (.ref I) >>= _) _ _ s;calc sf (W.item i s _ _ dX st λv s1 hP lE mv=>?_);let⟨t,rfl⟩:=isInt i v hP;show M _ A.in1 (holding [q04 (ns.getD i 0) t] (setAdd S (.int (ns.getD i 0) t)) >>= _) _ _ s1;calc sf (q0M ?_);unfold setAdd;calc q0M (sf ((intKind prog w).pyHash (k:=ns.getD i 0) (q3u _ _ _ _) ?_));let hlen:=KW ns (i:=i) (n:=n) ⋯;calc add_int (s:={s1 with toks:=s1.toks+1}) (Aw se λo e=>mv.heap S o l6 e) ⋯ λb h2 sb As=>?_;let nS:∀b,b∈fp->b≠S:=λb hb z=>out (by rw[<-z];calc hb);refine Io ⟨q2j q10 _,ih (i+1) _ ⋯ (W.frame _ s1 _ _ lE (q19 _ _) λb hb o e=>by rw[sb.2 b (nS b hb)];calc e) As λs3 Au Av=>?_⟩
  calc fin s3 (Moved.trans W.gtrans ((mv.mono more).then_heap (q19 _ _) λb o hb e=>?_) Au) Av;rw[sb.2 b (λz=>hb (by rw[z];calc q0m))];calc e
end
section
variable{prog:t}{w:S}{A:o}{E:bA}{s:B}
set_option maxHeartbeats 3200000 in
theorem Vl {l:O} {items:Array L} {Q:bA} (ns:-Int) (hh:A.handled=Z) (isL:s.heap.IsList l items\/s.heap.IsTuple l items) (isInt:∀(i:Nat)(v:L),items[i]?=U v->∃t,v=.int (ns.getD i 0) t) (rq:↑(jD ns items.size)<60)
  (fin:∀(h':I)(tk:Nat),fw h' ⇑s (iJ w) (jD ns items.size)->(∀b o,b<⇑s->s.heap.get? b=U o->h'.get? b=U o)->Q (.ref ⇑s) {s with heap:=h',toks:=tk}) :
  M (g prog w) A (call (.type "set") [.ref l]) Q E s:=by
 let⟨c,tl,Ax⟩:=q1j.mro;let m1:=q1j.made;let m2:=q1j.sub;let m3:=q1j.notType;let m4:=q1j.canCreate;let m5:=q6B (.ref l);calc q4Q (q43 ?_);show M _ _ (callAny (.type "set") _) _ _ _;calc Io ⟨q5U _ (by decide +kernel),q1A q59 ?_⟩;rw[q5V (q5f "set" [.ref l] []) Y]
 repeat(any_goals (first|assumption|wp_step))
 refine q2O (N6 (.ref l) (E:=E) (Q₁:=λr s1=>r=.ref ⇑s/\s1={s with heap:=s.heap.push (cL (iJ w))}) ⟨Y,Y⟩) λr s1 hr=>?_
 cases r with
 |error e=>exact hr
 |ok fl =>
  cases fl with
  |ret obj =>
   let⟨rfl,rfl⟩:=hr;generalize Vm:iJ w=led at fin ⊢;let gS:(s.heap.push (cL led)).get? ⇑s=U (cL led):=q0c _ Y;let tS:q7F {s with heap:=s.heap.push (cL led)} (.ref ⇑s) "set" := ⟨_,gS,Y⟩;let m6:=q1j.init.lookup;let m7:=q1j.init.bind (.ref ⇑s)
   repeat(any_goals (first|assumption|wp_step))
   refine q2O (q5q (R:=wants (λr s2=>r=.none/\∃h' tk,s2={s with heap:=h',toks:=tk}/\fw h' ⇑s led (jD ns items.size) ∧
     ∀b o,b<⇑s->s.heap.get? b=U o->h'.get? b=U o) E) q1j.init.plain q6C (q6D tS ?_)) λr2 s2 l7=>?_
   .let h3:A.in1.in1.in1.handled=Z:=by simp[hh]
    let ez:(s.heap.push (cL led)).objs.size=⇑s+1:=q00 ..;let ll:l<⇑s:=by rcases isL with⟨ol,gl,_⟩|⟨ol,gl,_⟩<;>exact q0a gl
    let nI:l≠(s.heap.push (cL led)).objs.size:=by rw[ez];exact q0g (q0O ll)
    let out:⇑s∉[(s.heap.push (cL led)).objs.size,l]:=by
     erw[Qu,q0s,q1v,q4R,ez];exact⟨q0g (q0T _),q1P ll⟩
    unfold Builtin.«set.__init__» noKeywords q3F;generalize xO:pyIter=PI;rcases isL with isL|isL
    .let⟨ol,gl,cl,nl,dl⟩:=isL
     let⟨c0,d0,G7,u4⟩:=ol;simp only at cl dl;subst cl;subst dl;let u5:(s.heap.push (cL led)).get? l=U {cls:=.type "list",dict:=d0,data:=.seq items nl,slots:=u4}:=yd _ gl;let x1:=q7g;let x2:=q5r;let x3:(q1T "list" == q1T "dict")=ι:=by decide
     let iU:(s.heap.push (cL led)).IsList l items:=⟨_,u5,Y,nl,Y⟩
     wp_walk
     subst xO;refine q15 iU (sf (q3W ?_))
     refine KY ((q3w h3 _ l nI items).toS) (S:=s.heap.objs.size) out (led:=led) ns (λi v hv=>isInt i v hv) rq items.size 0 _ (q0G _)
      ⟨⟨_,q0c _ Y,Y,Y⟩,iU.push _⟩ (G8 (led:=led) (yd _ gS)) ?fin
     ext s' mv se;let⟨h',g',d',lD,rB⟩:=s';obtain rfl:g'=s.gens:=mv.gens;obtain rfl:d'=s.drawn:=mv.drawn;obtain rfl:rB=s.os:=mv.os;show M _ _ _ _ _ _;calc Io ?_;show M _ _ (ret q0E) _ _ _;calc Io ⟨Y,h',lD,Y,se,λb o hb e=>?_⟩;calc mv.heap b o ?_ (yd _ (yd _ e));erw[Qu,q0s,q1v,q4R,ez];exact⟨q0g hb,q0g (q0O hb)⟩
    .let⟨ol,gl,cl,nl,dl⟩:=isL
     let⟨c0,d0,G7,u4⟩:=ol;simp only at cl dl;subst cl;subst dl;let u5:(s.heap.push (cL led)).get? l=U {cls:=.type "tuple",dict:=d0,data:=.seq items nl,slots:=u4}:=yd _ gl;let x1:=F.sub_tuple_set;let x2:=F.sub_tuple_frozenset;let x3:(q1T "tuple" == q1T "dict")=ι:=by decide
     let iU:(s.heap.push (cL led)).IsTuple l items:=⟨_,u5,Y,nl,Y⟩
     wp_walk
     subst xO;refine q2o iU (sf (q3W ?_))
     refine KY ((Walks.tuple h3 _ l nI items).toS) (S:=s.heap.objs.size) out (led:=led) ns (λi v hv=>isInt i v hv) rq items.size 0 _ (q0G _)
      ⟨⟨_,q0c _ Y,Y,Y⟩,iU.push _⟩ (G8 (led:=led) (yd _ gS)) ?fin2
     ext s' mv se;let⟨h',g',d',lD,rB⟩:=s';obtain rfl:g'=s.gens:=mv.gens;obtain rfl:d'=s.drawn:=mv.drawn;obtain rfl:rB=s.os:=mv.os;show M _ _ _ _ _ _;calc Io ?_;show M _ _ (ret q0E) _ _ _;calc Io ⟨Y,h',lD,Y,se,λb o hb e=>?_⟩;calc mv.heap b o ?_ (yd _ (yd _ e));erw[Qu,q0s,q1v,q4R,ez];exact⟨q0g hb,q0g (q0O hb)⟩
   .cases r2 with
    |error e=>exact l7
    |ok Ay =>
     cases Ay with
     |ret r =>
      let⟨rfl,h',lD,rfl,se,kp⟩:=l7
      repeat(any_goals (first|assumption|wp_step))
      exact fin _ _ se kp
     |next=>exact l7
     |brk=>exact l7
     |cont=>exact l7
  |next=>exact hr
  |brk=>exact hr
  |cont=>calc hr
end
end LJS
namespace L2
open PySem PySem.Spec PyProof.Rows
variable[bf]{X:Cx}{fa:WA}
def aO:-D->(D->Prop)->Prop
 |[.lst ds],K=>match intsOf ds with
  |some ns=>↑(gz ns)<60/\K (.lst ((sortI (gz ns)).map D.int))
  |none=>False
 |[.tup ds],K=>match intsOf ds with
  |some ns=>↑(gz ns)<60/\K (.lst ((sortI (gz ns)).map D.int))
  |none=>False
 |_,_=>False
theorem Vn(hc:X.calm=θ):gZ X (.type "set") (λxs H Q=>∃(l:O)(ns:-Int),xs=[.ref l]/\(bT X.K H l (ns.map V.int)\/bZ X.K H l (ns.map V.int))/\↑(gz ns)<60/\∀p,H p=Z->Q (.ref p) (upd H p (uz (LJS.iJ X.w) p (gz ns)))):=by
 ext pins s σ H xs us Q I r h;let⟨l,ns,rfl,hq,rq,q⟩:=h;let⟨u,rfl,rx⟩:=vals1 r;cases rx
 let⟨aA,r',pl⟩:∃aA:-L,Vals (ns.map V.int) aA/\(s.heap.IsList l aA.toArray\/s.heap.IsTuple l aA.toArray):=by
  rcases hq with hq|hq
  .let⟨aA,r',pl,_⟩:=I.list hq
   exact⟨aA,r',.inl pl.isList⟩
  .let⟨aA,r',pl,_⟩:=I.tuple hq
   exact⟨aA,r',.inr pl⟩
 let hl:=↑r';rw[BE] at hl;let e:aA.toArray.size=↑ns:=by rw[Qt];symm
 refine LJS.Vl ns (I.ok.hd hc) pl (λi v hv=>?_) (by rw[e];calc rq) λh' tk se kp=>?_
 .rw[q2r] at hv
  let hi:=(Il.mp hv).1;let⟨x,hx,rv⟩:=wo r' (j:=i) (by rw[Qt];calc hi);rw[show aA.toArray[i]'(by rw[Qt];calc hi)=v by simpa using(Il.mp hv).2] at rv;rw[Qw] at hx;let⟨n,hn,rfl⟩:=q0f.mp hx;let⟨t,rfl⟩:=rv;rw[Qv,hn];exact⟨t,Y⟩
 .let Vo:LJS.fw h' ⇑s (LJS.iJ X.w) (gz ns):=by rw[e] at se;exact se
  calc⟨.ref ⇑s,upd H ⇑s (uz (LJS.iJ X.w) ⇑s (gz ns)),I.laid (t':=tk) (λb o e=>kp b o (q0a e) e) (Im _) (SA Vo),Y,q _ (I.bu.fresh (Im _))⟩
theorem Em{a:l}{p1 p2 q1 q2:y}(hc:X.calm=θ)(wD:Gl X "sorted")(hl:X.mg "sorted" = Z)(wF:bootBuiltins "sorted" = U (.builtin "sorted"))(wG:Gl X "set")(hr:X.mg "set" = Z)(wH:bootBuiltins "set" = U (.type "set"))(ha:JA X [a] (cy fa))
  (he:starEach [a] X.env=[(ι,eval a X.env)]:=by rfl) (wI:starEach [.Call (.Name "set" p2) [a] [] q2] X.env=[(ι,eval (.Call (.Name "set" p2) [a] [] q2) X.env)]:=by rfl):JE X (.Call (.Name "sorted" p1) [.Call (.Name "set" p2) [a] [] q2] [] q1) (tD (dN fa aO)) :=
 (x_ (SD hc) wD hl wF (oR (rS (Vn hc) wG hr wH ha (he:=he)) c7) (he:=wI)).weak fun σ H Q ⟨F,ad,δ,K,S,q,k⟩=>⟨F,ad,δ,_,S,q,λxs δ1 h1 vs F1 bp H1 E1 S1 V1=>by
  let⟨ds,h2,nW⟩:=vW S1 V1 h1;unfold aO at h2;split at h2
  .split at h2
   .rename_i es ns e
    let⟨v,rfl,a,vs,rfl,g1,g2⟩:=dj nW;rw[sH e] at g2;rw[pb g2] at g1;calc⟨a,ns,Y,.inl (bT.of g1),h2.1,λp hp=>⟨p,gz ns,Y,cA,⋯,λr dF pm pw hr=>?_⟩⟩;let s1:bc H1 (upd H1 p (uz (LJS.iJ X.w) p (gz ns))):=cK hp;let S2:=S1.al s1;let E2:=Ext.al S1 s1;calc k _ _ h2.2 _ _ _ _ ((E1.trans E2).trans (Ext.al S2 (cK hr))) (S2.al (cK hr)) ?_;rw[<-yP pm pw];exact mL S2.sub hr um
   .exact h2.elim
  .split at h2
   .rename_i es ns e
    let⟨v,rfl,a,vs,rfl,g1,g2⟩:=dj nW;rw[sH e] at g2;rw[pb g2] at g1;calc⟨a,ns,Y,.inr (bZ.of (S1.sub _ _ g1)),h2.1,λp hp=>⟨p,gz ns,Y,cA,⋯,λr dF pm pw hr=>?_⟩⟩;let s1:bc H1 (upd H1 p (uz (LJS.iJ X.w) p (gz ns))):=cK hp;let S2:=S1.al s1;let E2:=Ext.al S1 s1;calc k _ _ h2.2 _ _ _ _ ((E1.trans E2).trans (Ext.al S2 (cK hr))) (S2.al (cK hr)) ?_;rw[<-yP pm pw];exact mL S2.sub hr um
   .exact h2.elim
  .calc h2.elim⟩
end L2
namespace LJ
open PySem L2
variable[bf]
abbrev Up(us:-Int):Prop:=us.Pairwise (· < ·)
noncomputable def tupI(ns:-Int):D:=.tup (ns.map D.int)
noncomputable def oD:Option Int->D
 |none=>.non
 |some n=>.int n
noncomputable def f7(ns:-Int):-Int:=sortI (gz ns)
theorem Vp(ns:-Int):(gz ns).Nodup:=(Ek ns ↑ns (Im _)).1
theorem bN{ns:-Int}{x:Int}:x∈f7 ns↔x∈ns:=(sortI_perm _).mem_iff.trans (Vi ns x)
theorem En{ns:-Int}(nd:ns.Nodup):Up (sortI ns):=((JB _).and ((sortI_perm ns).nodup_iff.mpr nd)).imp λz=>by let a:=z.1;let b:=z.2;symm
theorem rj(ns:-Int):Up (f7 ns):=En (Vp ns)
theorem KZ{ns:-Int}(nd:ns.Nodup):sortI ns=f7 ns:=uG (En nd) (rj ns) λx=>(sortI_perm _).mem_iff.trans bN.symm
theorem Up.nd{us:-Int}(h:Up us):us.Nodup:=h.imp λz=>by symm
theorem xj{us:-Int}{n:Nat}(h:Up us)(r:∀x∈us,0<=x/\x<n):↑us<=n:=by
 let e:us=(cj n).filter λx=>G (x∈us):=uG h ((D8 n).filter _) λx=>by
  rw[q0R,sW,q0y];exact⟨λhx=>⟨r x hx,hx⟩,λhx=>hx.2⟩
 rw[e];calc q0B (q0P _ _) ?_;rw[sV];calc Im _
theorem K1{ns:-Int}{n:Nat}(r:∀x∈ns,0<=x/\x<n):↑(f7 ns)<=n:=xj (rj ns) λx hx=>r x (bN.mp hx)
theorem zt{ns:-Int}{n:Nat}(r:∀x∈ns,0<=x/\x<n)(h:n<=30):↑(gz ns)<60:=by
 let:=K1 r;unfold f7 at this;rw[JH] at this;symm
abbrev gT:=Option (Option Int×Int)
structure Nt where
 p:-Int
 k:-Int
 s:-Int
 q:-gT
noncomputable def fE(p k s:-Int):D:=.tup [tupI p,tupI k,tupI s]
noncomputable def bo(m:Int)(ws:-Wy)(p:-Int)(h:Int):-Int:=cls m.toNat (g8 ws p) h
noncomputable def jh(ws:-Wy)(l:-Int):Option Int:=if g_ ws l=[] then Z else U (uJ ws (g_ ws l))
noncomputable def eQ(ws:-Wy)(p k:-Int):-Int:=(cj ↑ws).filter λn=>G (n∉p++k)
noncomputable def m_(ws:-Wy)(us l:-Int):-Int:=(m9 ws us).filter λh=>G (h∈l)
noncomputable def p9(ws:-Wy)(l:-Int):-Int:=(cj ↑ws).filter λn=>G ((aK ws n).1∈l)&&G ((aK ws n).2.1∈l)
noncomputable def jY(ws:-Wy)(l p:-Int):-Int:=(p9 ws l).filter λn=>G (n∉p)
noncomputable def tj(m:Int)(ws:-Wy)(p k:-Int)(h:Int):-Int:=f7 (k++jY ws (bo m ws p h) p)
noncomputable def xk(m:Int)(ws:-Wy)(p k:-Int)(h:Int):Int:=2*((↑(bo m ws p h):Int)-1)+2*(↑(m_ ws (eQ ws p k) (bo m ws p h)):Int)
noncomputable def Eo(m:Int)(ws:-Wy)(p:-Int)(w:Int):Int:=min (↑(bo m ws p (aK ws w).1):Int) (↑(bo m ws p (aK ws w).2.1):Int)
noncomputable def nh(m:Int)(ws:-Wy)(N:Nt)(fo:Option Int)(h:Int):Option Int×Int:=match fo with
 |none=>if h∈N.s then(Z,0) else(Z,(↑(bo m ws N.p h):Int)-1)
 |some w=>if w∈N.p then(Z,0) else(U w,1+Eo m ws N.p w)
noncomputable def fR(m:Int)(ws:-Wy)(N:Nt)(fo:Option Int)(h:Int):Nt:=match fo with
 |none=>if h∈N.s then N else⟨N.p,N.k,f7 (N.s++bo m ws N.p h),N.q⟩
 |some w=>if w∈N.p then N else⟨f7 (N.p++[w]),N.k,N.s,N.q⟩
inductive fN where
 |wake (h:Int)|fin (i:Nat)
noncomputable def gA:fN->D
 |.wake h=>.tup [.str "wake",.int h]
 |.fin i=>.tup [.str "end",.int i]
noncomputable def jZ(t:Option Int×Int):D:=.tup [oD t.1,.int t.2]
noncomputable def Nt.step(m:Int)(ws:-Wy)(N:Nt):fN->Nt
 |.wake h=>if h∈N.s then⟨N.p,N.k,N.s,N.q++[Z]⟩ else⟨N.p,tj m ws N.p N.k h,N.s,N.q++[U (jh ws (bo m ws N.p h),h)]⟩
 |.fin i=>match N.q[i]? with
  |some (some (fo,h))=>fR m ws ⟨N.p,N.k,N.s,N.q.set i Z⟩ fo h
  |_=>N
noncomputable def Nt.tell(m:Int)(ws:-Wy)(N:Nt):fN->Option Int×Int
 |.wake h=>if h∈N.s then(Z,0) else(Z,xk m ws N.p N.k h)
 |.fin i=>match N.q[i]? with
  |some (some (fo,h))=>nh m ws N fo h
  |_=>(Z,0)
def gU(m:Int)(N:Nt):fN->Prop
 |.wake h=>0<=h/\h<m
 |.fin i=>∃fo h,N.q[i]?=U (U (fo,h))
noncomputable def runN(m:Int)(ws:-Wy):Nt->-fN->Nt
 |N,[]=>N
 |N,e::r=>runN m ws (N.step m ws e) r
noncomputable def lh(m:Int)(ws:-Wy):Nt->-fN->-(Option Int×Int)
 |_,[]=>[]
 |N,e::r=>N.tell m ws e::lh m ws (N.step m ws e) r
noncomputable def lj(m:Int)(ws:-Wy):Nt->-fN->Prop
 |_,[]=>True
 |N,e::r=>gU m N e/\lj m ws (N.step m ws e) r
theorem zu{m:Int}{ws:-Wy}:∀{N:Nt}{a:-fN}{e:fN},runN m ws N (a++[e])=(runN m ws N a).step m ws e
 |N,[],e=>Y
 |N,x::a,e=>zu (N:=N.step m ws x) (a:=a)
theorem Ep{m:Int}{ws:-Wy}:∀{N:Nt}{a:-fN}{e:fN},lh m ws N (a++[e])=lh m ws N a++[(runN m ws N a).tell m ws e]
 |N,[],e=>Y
 |N,x::a,e=>by
  show _::lh m ws (N.step m ws x) (a++[e])=_;rw[Ep (N:=N.step m ws x) (a:=a)];rfl
theorem K4{m:Int}{ws:-Wy}:∀{N:Nt}{a:-fN}{e:fN},lj m ws N a->gU m (runN m ws N a) e->lj m ws N (a++[e])
 |N,[],e,_,h=>⟨h,trivial⟩
 |N,x::a,e,⟨h1,h2⟩,h=>⟨h1,K4 (N:=N.step m ws x) (a:=a) h2 h⟩
theorem Er{m:Int}{ws:-Wy}:∀{N:Nt}{a:-fN},↑(lh m ws N a)=↑a
 |N,[]=>Y
 |N,x::a=>by show↑(lh m ws _ a)+1=_;rw[Er];rfl
structure eI(m:Int)(ws:-Wy)(N:Nt):Prop where
 pu:Up N.p
 pn:Nums ws N.p
 ku:Up N.k
 kn:Nums ws N.k
 su:Up N.s
 sn:∀x∈N.s,0<=x/\x<m
 gG:∀n∈N.k,bG (g8 ws N.p) (aK ws n).1 (aK ws n).2.1
 sc:∀n,0<=n/\n<(↑ws:Int)->((aK ws n).1∈N.s↔(aK ws n).2.1∈N.s)
 q:∀(i:Nat)(fo:Option Int)(h:Int),N.q[i]?=U (U (fo,h))->(0<=h/\h<m)/\(∀w,fo=U w->0<=w/\w<(↑ws:Int))/\(fo=Z->g_ ws (bo m ws N.p h)=[])
noncomputable def bU:Nt:=⟨[],[],[],[]⟩
theorem p_(m:Int)(ws:-Wy):eI m ws bU:=⟨.nil,(λ_ h=>nomatch h),.nil,(λ_ h=>nomatch h),.nil,(λ_ h=>nomatch h),(λ_ h=>nomatch h),λ_ _=>⟨(λh=>nomatch h),(λh=>nomatch h)⟩,λi fo h e=>by simp[bU] at e⟩
section
variable{m:Int}{ws:-Wy}{N:Nt}
theorem Vq{p:-Int}{n:Int}(h:n∈p):bG (g8 ws p) (aK ws n).1 (aK ws n).2.1:=.one ⟨n,h,Y⟩
theorem lZ(W:aY m ws){p:-Int}{h x:Int}:x∈bo m ws p h↔(0<=x/\x<m)/\bG (g8 ws p) h x:=by
 let:=W.m1;unfold bo;rw[UH];calc and_congr_left' ⟨λz=>by symm,λz=>by symm⟩
theorem Es(W:aY m ws){n:Int}(hn:0<=n/\n<(↑ws:Int)):(0<=(aK ws n).1/\(aK ws n).1<m)/\(0<=(aK ws n).2.1/\(aK ws n).2.1<m):=by
 let⟨i,k,_,e1,e2,h1,h2⟩:=Ky W hn.1 hn.2;symm
theorem K5(W:aY m ws){p:-Int}{h n:Int}(hn:0<=n/\n<(↑ws:Int))(c:bG (g8 ws p) (aK ws n).1 (aK ws n).2.1):(aK ws n).1∈bo m ws p h↔(aK ws n).2.1∈bo m ws p h:=by
 let⟨r1,r2⟩:=Es W hn;rw[lZ W,lZ W];calc⟨λz=>⟨r2,z.2.trans c⟩,λz=>⟨r1,z.2.trans c.symm⟩⟩
theorem K6{l:-Int}{y:Wy}(h:y.1∈l↔y.2.1∈l):fM l y=ι:=by
 unfold fM
 by_cases c:y.1∈l
 .rw[q0n c,q0n (h.mp c)];rfl
 .rw[q0e c,q0e λz=>c (h.mpr z)];rfl
theorem K7{l:-Int}{y:Wy}(h:fM l y=ι):y.1∈l↔y.2.1∈l:=by
 unfold fM at h
 by_cases c:y.1∈l<;>by_cases d:y.2.1∈l<;>simp[c,d] at h ⊢
theorem fF{l:-Int}{n:Int}:n∈g_ ws l↔(0<=n/\n<(↑ws:Int))/\fM l (aK ws n)=θ:=by
 unfold g_;rw[q0R,sW]
theorem K8{l:-Int}(h:g_ ws l=[]){n:Int}(hn:0<=n/\n<(↑ws:Int)):(aK ws n).1∈l↔(aK ws n).2.1∈l:=by
 refine K7 ?_
 cases q:fM l (aK ws n) with
 |false=>rfl
 |true=>let:=fF.mpr ⟨hn,q⟩;rw[h] at this;calc nomatch this
theorem Vr(ws:-Wy)(l:-Int):Up (g_ ws l):=(D8 _).filter _
theorem K9{p:-Int}(hp:Nums ws p){l:-Int}(hc:∀n,0<=n/\n<(↑ws:Int)->((aK ws n).1∈l↔(aK ws n).2.1∈l)){a b:Int}(c:bG (g8 ws p) a b)(ha:a∈l):b∈l:=by
 induction c with
 |rf=>exact ha
 |st _ Vs ih =>
  let⟨w,⟨k,hk,rfl⟩,hw⟩:=Vs;let:=hc k (hp k hk);rcases hw with⟨e1,e2⟩|⟨e1,e2⟩
  .rw[<-e2];rw[<-e1] at ih;exact this.mp ih
  .rw[<-e1];rw[<-e2] at ih;calc this.mpr ih
theorem xm(m:Int)(ws:-Wy)(p:-Int)(h:Int):Up (bo m ws p h):=UI _ _ _
theorem uL(W:aY m ws){p:-Int}{h:Int}:↑(bo m ws p h)<=12:=by
 let:=W.iL;calc q0B (xj (n:=m.toNat) (xm m ws p h) λx hx=>by let:=((lZ W).mp hx).1;symm) ⋯
theorem Vt(W:aY m ws){p:-Int}{h:Int}(hh:0<=h/\h<m):h∈bo m ws p h:=(lZ W).mpr ⟨hh,.rf⟩
theorem K_{p p':-Int}(h:∀x∈p,x∈p'){a b:Int}(c:bG (g8 ws p) a b):bG (g8 ws p') a b:=c.mono λv ⟨k,hk,e⟩↦⟨k,h k hk,e⟩
theorem Vu(W:aY m ws){p p':-Int}(Vv:Nums ws p')(h:∀x∈p,x∈p'){a:Int}(ha:0<=a/\a<m)(e:g_ ws (bo m ws p a)=[]):bo m ws p' a=bo m ws p a:=by
 refine uG (xm ..) (xm ..) λx=>⟨λhx=>?_,λhx=>?_⟩
 .exact K9 Vv (λn hn=>K8 e hn) ((lZ W).mp hx).2 (Vt W ha)
 .let⟨h1,h2⟩:=(lZ W).mp hx
  calc(lZ W).mpr ⟨h1,K_ h h2⟩
theorem fq{l p:-Int}{n:Int}:n∈jY ws l p↔((0<=n/\n<(↑ws:Int))/\(aK ws n).1∈l/\(aK ws n).2.1∈l)/\n∉p:=by
 unfold jY p9;rw[q0R,q0R,sW,q0y,q0L,q0y,q0y]
theorem Vw(W:aY m ws){l:-Int}{w:Int}(h:jh ws l=U w):0<=w/\w<(↑ws:Int):=by
 unfold jh at h;split at h
 .cases h
 .rename_i ne
  cases h
  calc zq _ (Vh ne).1
theorem eI.step(W:aY m ws)(O:eI m ws N){e:fN}(he:gU m N e):eI m ws (N.step m ws e):=by
 cases e with
 |wake h =>
  unfold Nt.step;dsimp only;split
  .refine⟨O.pu,O.pn,O.ku,O.kn,O.su,O.sn,O.gG,O.sc,λi fo h' e=>?_⟩
   let e:(N.q++[Z])[i]?=U (U (fo,h')):=e
   by_cases c:i<↑N.q
   .rw[Z_ c] at e;exact O.q i fo h' e
   .rw[q0b ⋯] at e
    cases z:i-↑N.q with
    |zero=>rw[z] at e;cases e
    |succ j=>rw[z] at e;simp at e
  .refine⟨O.pu,O.pn,rj _,λn hn=>?_,O.su,O.sn,λn hn=>?_,O.sc,λi fo h' e=>?_⟩
   .rcases q0z.mp (bN.mp hn) with z|z
    .exact O.kn n z
    .exact (fq.mp z).1.1
   .rcases q0z.mp (bN.mp hn) with z|z
    .exact O.gG n z
    .let⟨⟨_,z1,z2⟩,_⟩:=fq.mp z
     exact((lZ W).mp z1).2.symm.trans ((lZ W).mp z2).2
   .let e:(N.q++[U (jh ws (bo m ws N.p h),h)])[i]?=U (U (fo,h')):=e
    by_cases c:i<↑N.q
    .rw[Z_ c] at e;exact O.q i fo h' e
    .rw[q0b ⋯] at e
     cases z:i-↑N.q with
     |zero =>
      rw[z] at e;let e:U (jh ws (bo m ws N.p h),h)=U (fo,h'):=by simpa using e
      cases e
      calc⟨he,λw hw=>Vw W hw,λz=>?_⟩;unfold jh at z;split at z
      .assumption
      .cases z
     |succ j=>rw[z] at e;simp at e
 |fin i =>
  let⟨fo,h,hq⟩:=he;let⟨hh,hw,hn⟩:=O.q i fo h hq
  let qs:∀j j2 h',(N.q.set i Z)[j]?=U (U (j2,h'))->N.q[j]?=U (U (j2,h')):=λj j2 h' e=>by
   by_cases c:i=j
   .subst c
    rw[q08 (Il.mp hq).1] at e;cases e
   .rwa [q09 c] at e
  unfold Nt.step;dsimp only;rw[hq];dsimp only;unfold fR
  cases fo with
  |none =>
   dsimp only;split
   .exact⟨O.pu,O.pn,O.ku,O.kn,O.su,O.sn,O.gG,O.sc,λj j2 h' e=>O.q j j2 h' (qs j j2 h' e)⟩
   .refine⟨O.pu,O.pn,O.ku,O.kn,rj _,λx hx=>?_,O.gG,λn hr=>?_,λj j2 h' e=>O.q j j2 h' (qs j j2 h' e)⟩
    .rcases q0z.mp (bN.mp hx) with z|z
     .exact O.sn x z
     .exact ((lZ W).mp z).1
    .rw[bN,bN,q0z,q0z]
     exact or_congr (O.sc n hr) (K8 (hn Y) hr)
  |some w =>
   dsimp only;split
   .exact⟨O.pu,O.pn,O.ku,O.kn,O.su,O.sn,O.gG,O.sc,λj j2 h' e=>O.q j j2 h' (qs j j2 h' e)⟩
   .let mo:∀x∈N.p,x∈f7 (N.p++[w]):=λx hx=>bN.mpr (q1x _ hx)
    let pn:Nums ws (f7 (N.p++[w])):=λx hx=>by
     rcases q0z.mp (bN.mp hx) with z|z
     .exact O.pn x z
     .rw[q0K.mp z];exact hw w Y
    calc⟨rj _,pn,O.ku,O.kn,O.su,O.sn,λn qp=>K_ mo (O.gG n qp),O.sc,λj j2 h' e=>?_⟩;let⟨a1,a2,a3⟩:=O.q j j2 h' (qs j j2 h' e);calc⟨a1,a2,λz=>?_⟩;show g_ ws (bo m ws (f7 (N.p++[w])) h')=[];rw[Vu W pn mo a1 (a3 z)];calc a3 z
theorem eI.run(W:aY m ws):∀{N:Nt}{es:-fN},eI m ws N->lj m ws N es->eI m ws (runN m ws N es)
 |_,[],O,_=>O
 |N,e::r,O,⟨h1,h2⟩=>eI.run W (N:=N.step m ws e) (es:=r) (eI.step W O h1) h2
theorem eI.pl(W:aY m ws)(O:eI m ws N):↑N.p<=30:=q0B (xj O.pu O.pn) W.iT
theorem eI.kl(W:aY m ws)(O:eI m ws N):↑N.k<=30:=q0B (xj O.ku O.kn) W.iT
theorem eI.sl(W:aY m ws)(O:eI m ws N):↑N.s<=12:=by
 let:=W.iL;calc q0B (xj (n:=m.toNat) O.su λx hx=>by let:=O.sn x hx;symm) ⋯
end
end LJ
namespace L2
open PySem PySem.Spec PyProof.Rows
variable[bf]
inductive RK where
 |p (d:D)|w (a:O)|n (ds:-D)|u (t:Bool) (fs:-FV)
abbrev GK:=-DV->-OV->(RK->-OV->-OV->Prop)->Prop
def xn(F' H H':Hp)(aL:-O)(c9:-(Option OV))(v:V):RK->Prop
 |.p d=>Is F' d v
 |.w a=>v=.ref a
 |.u t fs=>∃b us,v=.ref b/\F' b=U (kS t us)/\d5 F' fs us
 |.n ds=>∃b us,v=.ref b/\H b=Z/\H' b=U (.lst us)/\F' b=Z/\ai F' ds us/\¬ Lv aL c9 b
structure La(F:Hp)(ad:-O)(aB:-OV)(H:Hp)(r:RK)(ows news:-OV)(v:V)(F':Hp)(aL:-O)(H':Hp):Prop where
 ext:Ext F ad (aB.map U) H F' aL ((ows++news).map U) H'
 sr:SR F' aL ⟨[],(ows++news).map U⟩ [] H'
 len:↑ows=↑aB
 res:xn F' H H' aL ((ows++news).map U) v r
inductive lq (G:GK) (n:Nat) (vs:-V) (H:Hp) (Q:VK) (_:XK):Prop
 |mk (hl:↑vs=n) (F:Hp) (ad:-O) (ys:-DV) (aB:-OV) (K:RK->-OV->-OV->Prop) (S:SR F ad ⟨ys.map U,aB.map U⟩ (vs.map U) H) (g:G ys aB K) (k:∀r ows news,K r ows news->∀v F' aL H',La F ad aB H r ows news v F' aL H'->Q v H')
def tu(n:Nat)(K:RK->-OV->-OV->Prop)(x:DV)(δ:aN):Prop:=∃ows news gs,δ.mu=(ows++news).map U++gs/\↑ows=n/\match x with
 |.p d=>K (.p d) ows news
 |.w a=>K (.w a) ows news
 |.u t fs=>K (.u t fs) ows news
 |.o k=>↑(ows++news)<=k/\match δ.mu[k]? with
  |some (some (.lst ds))=>K (.n ds) ows news
  |_=>False
 |.t _ _=>False
noncomputable def ae(n:Nat)(K:RK->-OV->-OV->Prop):KS where
 nx:=tu n K (.p .non)
 rt:=tu n K
section
variable{F F' H H':Hp}{ad aL:-O}{σ σ':St}{δ:aN}{mu c9:-(Option OV)}
theorem uM{α:Type}{l:-α}{n k:Nat}{a:α}(e:(l.take n)[k]?=U a):k<n/\l[k]?=U a:=by
 let hk:k<n:=by
  let:=(Il.mp e).1;rw[q0D] at this;symm
 rw[q0N hk] at e;calc⟨hk,e⟩
theorem SR.cut(m:Nat)(S:SR F ad δ σ H):SR F (ad.take m) ⟨[],δ.mu.take m⟩ [] H:=by
 refine⟨S.sub,λa x=>S.off a x.take,?_,λk l a w w' e1 e2 e3 e4=>S.inj k l a w w' (uM e1).2 (uM e2).2 (uM e3).2 (uM e4).2,λk ov e=>?_,λi x e=>by simp at e,Y,S.tab,S.nt⟩
 .show ↑(ad.take _)=↑(δ.mu.take _)
  rw[q0D,q0D,S.cF]
 .let⟨e1,e2⟩:=uM e
  let⟨a,o,e3,h⟩:=S.mu k ov e2;calc⟨a,o,by rw[q0N e1];calc e3,h⟩
theorem Ext.cut{m:Nat}(e:Ext F ad mu H F' aL c9 H')(hm:↑ad<=m):Ext F ad mu H F' (aL.take m) (c9.take m) H' :=
 ⟨e.same,e.new,e.keep,λk a h=>by rw[q0N (q0o (Il.mp h).1 hm)];calc e.pre k a h,λa x=>e.cE a x.take,e.i7⟩
theorem Lb{aB:-OV}{x:DV}{v:V}{K:RK->-OV->-OV->Prop}{Q:VK}{sl:-(Option DV)}{τ:St}(S0:SR F ad ⟨sl,aB.map U⟩ τ H)(E:Ext F ad (aB.map U) H F' aL δ.mu H')(S:SR F' aL δ σ' H')(V:dG F' aL x v)
  (h:tu ↑aB K x δ) (k:∀r ows news,K r ows news->∀v F' aL H',La F ad aB H r ows news v F' aL H'->Q v H'):Q v H':=by
 let⟨ows,news,gs,em,hl,h⟩:=h;let al:↑ad=↑aB:=by let:=S0.cF;rwa [BE] at this
 let tk:δ.mu.take ↑(ows++news)=(ows++news).map U:=by rw[em,List.take_left' (by rw[BE])]
 let E2:=E.cut (m:=↑(ows++news)) (by rw[al,Qs];symm);let S2:=S.cut ↑(ows++news);rw[tk] at E2 S2
 cases x with
 |p d=>exact k _ _ _ h _ _ _ _ ⟨E2,S2,hl,V⟩
 |w a=>exact k _ _ _ h _ _ _ _ ⟨E2,S2,hl,V⟩
 |u t fs=>exact k _ _ _ h _ _ _ _ ⟨E2,S2,hl,V⟩
 |t _ _=>exact h.elim
 |o i =>
  let⟨hi,h⟩:=h;split at h
  .rename_i ds ei
   let⟨a,e1,rfl⟩:=V;let⟨a',o,e2,e3,vs,rfl,h4⟩:=S.mu i _ ei;rw[e1] at e2;cases e2;refine k _ _ _ h _ _ _ _ ⟨E2,S2,hl,a,vs,Y,?_,e3,S.off a ⟨i,_,e1,ei⟩,h4,λ⟨j,ov,z1,z2⟩=>?_⟩
   .rcases E.cE a ⟨i,_,e1,ei⟩ with⟨j,ov,z,_⟩|z
    .let hj:j<↑ows:=by rw[hl,<-al];exact(Il.mp z).1
     let mj:δ.mu[j]?=U (U ows[j]):=by
      rw[em,Z_ (by rw[BE,Qs];symm),Qw,Z_ hj,vD hj];rfl
     let:=S.inj i j a _ _ e1 (E.pre j a z) ei mj;rw[Qs] at hi;symm
    .exact z
   .have ⟨hj,z1⟩:=uM z1
    let mj:δ.mu[j]?=U (U ov):=by
     rw[em,Z_ (by rw[BE];calc hj)];exact z2
    let:=S.inj i j a _ _ e1 z1 ei mj;symm
  .calc h.elim
end
theorem gx.Et{P:t}{w:ω}{K:My}{mg:J->Option L}{base:I}{x qual:J}{st:R}{f:O}{fd:FuncData}{N ps:-J}{k:Nat}{G:GK}(F:gx K x qual st f fd)(S:oF N ps (cM st))
  (eY:∀(bJ:L)(A:o)(outer:-X)(s:ο)(H:Hp)(E:XK),bB k (A.deeper (envOfC qual (cM st) ⇑s f bJ)) →
   ∃B:WS,dM (fz eZ P w K mg base N qual (cM st) f bJ A outer s H E).lG (fZ st) (dU B)/\∀ys aB K',↑ys=↑ps->G ys aB K'->B (ae ↑aB K') ⟨ys.map U++q0h (↑N-↑ps) Z,aB.map U⟩) :
  cf P w K mg base eZ (k+1) f fd ps (lq G ↑ps) :=
 F.ye S (λvs H Q E h=>h.1) λbJ A outer s H vs Q E hr h=>by
  let⟨hl,Fz,ad,ys,aB,K',S0,g,kk⟩:=h;let⟨B,jb,hb⟩:=eY bJ A outer s H E hr
  let hy:↑ys=↑ps:=by
   let:=S0.len;rw[BE] at this;rw[<-hl,this];rw[BE]
  refine⟨_,jb,Fz,ad,⟨ys.map U++q0h (↑N-↑ps) Z,aB.map U⟩,ae ↑aB K',by rw[<-hl];calc S0.start,hb ys aB K' hy g,⟨fun δ' h F' aL σ' H' E' S'=>?_,fun δ' h=>h.elim,fun δ' h=>h.elim,λy δ' h v F' aL σ' H' E' S' V=>?_,trivial⟩⟩
  .exact Lb (σ':=σ') S0 E' S' (x:=.p .non) (v:=.non) Y h kk
  .calc Lb (σ':=σ') S0 E' S' V h kk
def zv(mu:-(Option OV)):-(Nat×OV)->Prop
 |[]=>True
 |(k,ov)::r=>mu[k]?=U (U ov)/\zv mu r
theorem Lc{mu:-(Option OV)}:∀{es:-(Nat×OV)},zv mu es->∀ko∈es,mu[ko.1]?=U (U ko.2)
 |(k,ov)::r,h,ko,hk=>by
  rcases Qu.mp hk with rfl|hk
  .exact h.1
  .calc Lc h.2 ko hk
section
variable{F F' H H':Hp}{ad aL:-O}{δ:aN}{σ σ':St}
theorem Vx{xs:-DV}{vs:-V}{r:-DV×-(Nat×OV)}{es:-(Nat×OV)}{G:GK}{n:Nat}{Q:VK}{E:XK}{K:RK->-OV->-OV->Prop}(S:SR F ad δ σ H)(V:cG F ad xs vs)(hn:↑vs=n)(hp:passes δ.mu xs 0=U r)(he:zv δ.mu es)(nd:kY (r.2++es)=θ)(g:G r.1 ((r.2++es).map (·.2)) K)
  (fin:∀res ows news v F' aL H',K res ows news->Ext F ad δ.mu H F' aL (cZ δ.mu (r.2++es) ows++news.map U) H'->SR F' aL ⟨δ.sl,cZ δ.mu (r.2++es) ows++news.map U⟩ σ H'->xn F' H H' aL (cZ δ.mu (r.2++es) ows++news.map U) v res->Q v H'):lq G n vs H Q E:=by
 let⟨Vy,zw,b0,c⟩:=ui S.mu hp V;let⟨_,c1,c2⟩:=c [] Y;let⟨Eu,Ld⟩:∃Eu:-O,Eu=es.map λko=>(ad[ko.1]?).getD 0:=⟨_,Y⟩;let⟨as,has⟩:∃as,as=Vy++Eu:=⟨_,Y⟩;let⟨bY,tw⟩:∃bY,bY=r.2++es:=⟨_,Y⟩;rw[<-tw] at nd g fin
 let b:∀(i:Nat)(ko:Nat×OV),bY[i]?=U ko->δ.mu[ko.1]?=U (U ko.2)/\∃a o,as[i]?=U a/\ad[ko.1]?=U a/\H a=U o/\eN F a ko.2 o:=λi ko e=>by
  rw[tw] at e
  by_cases hi:i<↑r.2
  .rw[Z_ hi] at e
   let⟨z1,a,o,z2,z3⟩:=b0 i ko e;exact⟨z1,a,o,by rw[has,Z_ (by rw[zw];calc hi)];calc z2,z3⟩
  .let hi:↑r.2<=i:=by symm
   rw[q0b hi] at e;let m:=Lc he ko (q0S e);let⟨a,o,z1,z2⟩:=S.mu _ _ m;calc⟨m,a,o,?_,z1,z2⟩;rw[has,q0b (by rw[zw];calc hi),zw,Ld,Qw,e];show U ((ad[ko.1]?).getD 0)=U a;rw[z1];rfl
 let al:↑as=↑bY:=by rw[has,tw,Qs,Qs,zw,Ld,BE]
 let kB:∀(i:Nat)(a:O),as[i]?=U a->Lv ad δ.mu a/\∃ko,bY[i]?=U ko/\ad[ko.1]?=U a/\δ.mu[ko.1]?=U (U ko.2):=λi a e=>by
  let hi:i<↑bY:=by rw[<-al];exact(Il.mp e).1
  let⟨m1,a',o,e1,e2,_,_⟩:=b i _ (vD hi);rw[e] at e1;cases e1;exact⟨⟨_,_,e2,m1⟩,_,vD hi,e2,m1⟩
 let Vz:∀(i:Nat)(ov:OV),((bY.map (·.2)).map U)[i]?=U (U ov)->∃ko,bY[i]?=U ko/\ko.2=ov:=λi ov e=>by
  let e:=v_ e;rw[Qw] at e;let⟨ko,e1,e2⟩:=q0f.mp e;exact⟨ko,e1,e2⟩
 refine⟨hn,F,as,r.1,bY.map (·.2),K,⟨S.sub,λa ⟨i,ov,e1,e2⟩↦S.off a (kB i a e1).1,by rw[al];rw[BE,BE],λi j a ov ow e1 e2 _ _=>?_,λi ov e=>?_,λi y e=>?_,?_,S.tab,S.nt⟩,g,λres ows news hk v F' aL H' P=>?_⟩
 .let⟨_,ko,k1,k2,k3⟩:=kB i a e1
  let⟨_,kp,p1,p2,p3⟩:=kB j a e2;let:ko.1=kp.1:=S.inj _ _ a _ _ k2 p2 k3 p3;exact Ce nd i j ko.1 ko.2 kp.2 k1 (by rw[this];calc p1)
 .let⟨ko,e1,rfl⟩:=Vz i ov e
  let⟨_,a,o,e2,_,e4,e5⟩:=b i ko e1;exact⟨a,o,e2,e4,e5⟩
 .let⟨v,e1,e2⟩:=c2 i y (v_ e)
  calc⟨v,wa e1,?_⟩;rw[q47] at e2;exact e2.pre λk a h _=>by rw[has,Z_ (Il.mp h).1];exact h
 .show ↑(vs.map U)=↑(r.1.map U)
  rw[BE,BE,c1]
 .let X:=P.ext
  let T:=P.sr;let ol:↑ows=↑bY:=by rw[P.len,BE]
  let cF:↑aL=↑bY+↑news:=by
   let:=T.cF;rw[this];show↑((ows++news).map U)=_;rw[BE,Qs,ol]
  let we:∀a,Lv as ((bY.map (·.2)).map U) a->Lv ad δ.mu a:=λa ⟨i,_,e,_⟩↦(kB i a e).1
  let inb:∀(i:Nat)(a:O),as[i]?=U a->Lv as ((bY.map (·.2)).map U) a:=λi a e=>by
   let⟨_,ko,k1,_⟩:=kB i a e;exact⟨i,ko.2,e,wa (by rw[Qw,k1];rfl)⟩
  let pre:∀(i:Nat)(a:O),as[i]?=U a->aL[i]?=U a:=X.pre;let mo:∀(i:Nat)(ow:OV),ows[i]?=U ow->((ows++news).map U)[i]?=U (U ow):=λi ow e=>wa (by rw[Z_ (Il.mp e).1];calc e);let mn:∀(j:Nat)(w:OV),news[j]?=U w->((ows++news).map U)[↑bY+j]?=U (U w):=λj w e=>wa (by rw[q0b ⋯,ol,q4K];calc e);let qa:↑(cZ δ.mu bY ows)=↑ad:=by rw[Cf,S.cF]
  let gG:∀(l:Nat)(ow:OV),(cZ δ.mu bY ows++news.map U)[l]?=U (U ow)->(∃(i:Nat)(ko:Nat×OV),l<↑ad/\bY[i]?=U ko/\ko.1=l/\ows[i]?=U ow)\/(l<↑ad/\(∀ko∈bY,ko.1≠l)/\δ.mu[l]?=U (U ow))\/(↑ad<=l/\news[l-↑ad]?=U ow):=λl ow e=>by
   by_cases hl:l<↑ad
   .rw[Z_ (by rw[qa];calc hl)] at e
    by_cases z:∃ko∈bY,ko.1=l
    .let⟨ko,hk,rfl⟩:=z
     let⟨i,hi⟩:=q0j.mp hk;let n6:i<↑ows:=by rw[ol];exact(Il.mp hi).1
     let:=Cg (mu:=δ.mu) nd hi (vD n6) (Il.mp (b i ko hi).1).1;rw[e] at this;cases this
     exact .inl ⟨i,ko,hl,hi,Y,vD n6⟩
    .let z':∀ko∈bY,ko.1≠l:=λko hk q=>z ⟨ko,hk,q⟩
     rw[wd _ _ _ _ z'] at e;exact .inr (.inl ⟨hl,z',e⟩)
   .rw[q0b (by rw[qa];symm),qa] at e
    exact .inr (.inr ⟨⋯,v_ e⟩)
  let gn:∀(l:Nat)(a:O),↑ad<=l->(ad++aL.drop ↑bY)[l]?=U a->aL[↑bY+(l-↑ad)]?=U a:=λl a hl e=>by
   rw[q0b hl,q53] at e;exact e
  let go:∀(l:Nat)(a:O),l<↑ad->(ad++aL.drop ↑bY)[l]?=U a->ad[l]?=U a:=λl a hl e=>by
   rw[Z_ hl] at e;exact e
  let oZ:∀(l:Nat)(ow:OV)(a:O),(ad++aL.drop ↑bY)[l]?=U a->(cZ δ.mu bY ows++news.map U)[l]?=U (U ow)->(Lv ad δ.mu a/\l<↑ad/\ad[l]?=U a/\∃w,δ.mu[l]?=U (U w))\/(↑ad<=l/\aL[↑bY+(l-↑ad)]?=U a/\((ows++news).map U)[↑bY+(l-↑ad)]?=U (U ow)):=λl ow a e1 e2=>by
   rcases gG l ow e2 with⟨i,ko,hl,hi,rfl,_⟩|⟨hl,_,q⟩|⟨hl,q⟩
   .exact .inl ⟨⟨_,_,go _ _ hl e1,(b i ko hi).1⟩,hl,go _ _ hl e1,_,(b i ko hi).1⟩
   .exact .inl ⟨⟨_,_,go _ _ hl e1,q⟩,hl,go _ _ hl e1,_,q⟩
   .exact .inr ⟨hl,gn l a hl e1,mn _ _ q⟩
  let alive:∀a,Lv ad δ.mu a->∃o,H a=U o/\a∉bf.ad:=λa ⟨k,ov,e1,e2⟩=>by
   let⟨a',o,e3,e4,h⟩:=S.mu k ov e2;rw[e1] at e3;cases e3;calc⟨o,e4,λt=>?_⟩;let⟨ps,q⟩:=bf.tb S.tab t;rw[e4] at q;exact h.kind ps (q0A q)
  let sF:∀a,Lv ad δ.mu a->F' a=Z:=λa l=>by
   cases q:F' a with
   |none=>rfl
   |some u =>
    rcases X.new a u q with y|y|⟨i,ov,y,_⟩
    .rw[S.off a l] at y;cases y
    .let⟨o,z,_⟩:=alive a l
     rw[y] at z;cases z
    .let⟨_,ko,k1,_⟩:=kB i a y
     let hi:i<↑ows:=by rw[ol];exact(Il.mp k1).1
     rw[T.off a ⟨i,ows[i],pre i a y,mo i _ (vD hi)⟩] at q;cases q
  let Le:∀(j:Nat)(a:O)(w:OV),aL[↑bY+j]?=U a->((ows++news).map U)[↑bY+j]?=U (U w)->¬ Lv ad δ.mu a:=λj a w e1 e2 l=>by
   rcases X.cE a ⟨_,w,e1,e2⟩ with⟨i,ov,y,_⟩|y
   .let hi:i<↑ows:=by rw[ol,<-al];exact(Il.mp y).1
    let:=T.inj _ _ a _ _ e1 (pre i a y) e2 (mo i _ (vD hi));symm
   .let⟨o,z,_⟩:=alive a l
    rw[y] at z;cases z
  let ex:Ext F ad δ.mu H F' (ad++aL.drop ↑bY) (cZ δ.mu bY ows++news.map U) H':=by
   refine⟨X.same,λa o e=>?_,λa o e n t=>X.keep a o e (λz=>n (we a z)) t,λk a e=>by rw[Z_ (Il.mp e).1];calc e,λa ⟨l,ow,e1,e2⟩=>?_,X.i7⟩
   .rcases X.new a o e with z|z|z
    .exact .inl z
    .exact .inr (.inl z)
    .exact .inr (.inr (we a z))
   .rcases oZ l ow a e1 e2 with⟨z,_⟩|⟨_,z1,z2⟩
    .exact .inl z
    .rcases X.cE a ⟨_,_,z1,z2⟩ with z|z
     .exact .inl (we a z)
     .exact .inr z
  let sr:SR F' (ad++aL.drop ↑bY) ⟨δ.sl,cZ δ.mu bY ows++news.map U⟩ σ H':=by
   refine⟨T.sub,λa ⟨l,ow,e1,e2⟩=>?_,?_,λk l a ov ow e1 e2 e3 e4=>?_,λl ow e=>?_,λi y e=>?_,S.len,T.tab,T.nt⟩
   .rcases oZ l ow a e1 e2 with⟨z,_⟩|⟨_,z1,z2⟩
    .exact sF a z
    .exact T.off a ⟨_,_,z1,z2⟩
   .show ↑(ad++aL.drop ↑bY)=↑(cZ δ.mu bY ows++news.map U)
    rw[Qs,Qs,qa,q2k,cF,BE,q4K]
   .rcases oZ k ov a e1 e3 with⟨z,_,y1,w1,y2⟩|⟨jz,z1,z2⟩
    .rcases oZ l ow a e2 e4 with⟨_,_,y3,w2,y4⟩|⟨_,z1,z2⟩
     .exact S.inj k l a _ _ y1 y3 y2 y4
     .exact (Le _ _ _ z1 z2 z).elim
    .rcases oZ l ow a e2 e4 with⟨z,_⟩|⟨jS,z3,z4⟩
     .exact (Le _ _ _ z1 z2 z).elim
     .let:=T.inj _ _ a _ _ z1 z3 z2 z4
      symm
   .rcases gG l ow e with⟨i,ko,hl,hi,rfl,ho⟩|⟨hl,z,q⟩|⟨hl,q⟩
    .let⟨_,a,o,e1,e2,_,_⟩:=b i ko hi
     let⟨a',o',e3,e4,h5⟩:=T.mu i ow (mo i ow ho);rw[pre i a e1] at e3;cases e3;exact⟨a,o',by rw[Z_ hl];calc e2,e4,h5⟩
    .let⟨a,o,e1,e2,h⟩:=S.mu l ow q
     let lv:Lv ad δ.mu a:=⟨l,ow,e1,q⟩;calc⟨a,o,by rw[Z_ hl];calc e1,X.keep a o e2 (λ⟨i,_,y,_⟩=>?_) (alive a lv).choose_spec.2,h.same X.same⟩;let⟨_,ko,k1,k2,k3⟩:=kB i a y;exact z ko (q0j.mpr ⟨i,k1⟩) (S.inj _ _ a _ _ k2 e1 k3 q)
    .let⟨a,o,e1,e2,h⟩:=T.mu _ _ (mn _ _ q)
     exact⟨a,o,by rw[q0b hl,q53];calc e1,e2,h⟩
   .let⟨v,e1,h⟩:=S.sl i y e
    exact⟨v,e1,h.ext ex⟩
  calc fin res ows news v F' _ H' hk ex sr ?_;let ic:=P.res
  cases res with
  |p d=>exact ic
  |w a=>exact ic
  |u t fs=>exact ic
  |n ds =>
   let⟨c,us,rfl,n1,n2,n3,n4,n5⟩:=ic;calc⟨c,us,Y,n1,n2,n3,n4,λ⟨l,ow,e1,e2⟩=>?_⟩;rcases oZ l ow c e1 e2 with⟨z,_⟩|⟨_,z1,z2⟩
   .let⟨o,y,_⟩:=alive c z
    rw[n1] at y;cases y
   .calc n5 ⟨_,_,z1,z2⟩
end
def aj(δ:aN)(bY:-(Nat×OV))(K:DV->aN->Prop)(r:RK)(ows news:-OV):Prop:=match r with
 |.p d=>K (.p d) ⟨δ.sl,cZ δ.mu bY ows++news.map U⟩
 |.w a=>K (.w a) ⟨δ.sl,cZ δ.mu bY ows++news.map U⟩
 |.u t fs=>K (.u t fs) ⟨δ.sl,cZ δ.mu bY ows++news.map U⟩
 |.n ds=>K (.p (.lst ds)) ⟨δ.sl,cZ δ.mu bY ows++news.map U⟩
def aI(δ:aN)(bY:-(Nat×OV))(K:DV->aN->Prop)(r:RK)(ows news:-OV):Prop:=match r with
 |.n ds=>K (.o ↑(cZ δ.mu bY ows++news.map U)) ⟨δ.sl,cZ δ.mu bY ows++news.map U++[U (.lst ds)]⟩
 |_=>False
def tE(o:Bool)(n:Nat)(G:GK)(xs:-DV)(δ:aN)(K:DV->aN->Prop):Prop:=∃es,zv δ.mu es/\match passes δ.mu xs 0 with
 |some r=>(kY (r.2++es)=θ/\↑r.1=n)/\G r.1 ((r.2++es).map (·.2)) (if o then aI δ (r.2++es) K else aj δ (r.2++es) K)
 |none=>False
section
variable{F F1 H H1:Hp}{ad bp:-O}{δ δ1:aN}{σ:St}{K:DV->aN->Prop}{Q:VK}{xs:-DV}{vs:-V}{n:Nat}{G:GK}{E:XK}{o:Bool}
theorem xo(kk:∀x δ',K x δ'->∀v F' aL H',Ext F ad δ.mu H F' aL δ'.mu H'->SR F' aL δ' σ H'->dG F' aL x v->Q v H')(h1:tE o n G xs δ1 K)(E1:Ext F ad δ.mu H F1 bp δ1.mu H1)(S1:SR F1 bp δ1 σ H1)(V1:cG F1 bp xs vs):lq G n vs H1 Q E:=by
 let⟨es,he,h1⟩:=h1;split at h1
 .rename_i r hp
  let⟨⟨nd,hn⟩,h1⟩:=h1;refine Vx S1 V1 (by rw[↑V1,<-uj hp,hn]) hp he nd h1 λres ows news v F2 cz H2 hk E2 S2 dW=>?_
  cases o with
  |false =>
   cases res with
   |p d=>exact kk _ _ hk _ _ _ _ (E1.trans E2) S2 dW
   |w a=>exact kk _ _ hk _ _ _ _ (E1.trans E2) S2 dW
   |u t fs=>exact kk _ _ hk _ _ _ _ (E1.trans E2) S2 dW
   |n ds =>
    let⟨a,us,rfl,n1,n2,n3,n4,n5⟩:=dW;calc kk _ _ hk _ _ _ _ (E1.trans (E2.adopt (o:=.lst us) n1 n3)) (S2.adopt n3 n2 n5) ?_;show Is _ (.lst ds) _;exact⟨a,us,Y,cA,n4.same (cK n3)⟩
  |true =>
   cases res with
   |p d=>exact hk.elim
   |w a=>exact hk.elim
   |u t fs=>exact hk.elim
   |n ds =>
    let⟨a,us,rfl,n1,n2,n3,n4,n5⟩:=dW;let oi:eN F2 a (.lst ds) (.lst us):=⟨us,Y,n4⟩;calc kk _ _ hk _ _ _ _ (E1.trans (E2.c_ (ov:=.lst ds) n1 S2.cF)) (S2.c_ n3 n2 n5 oi) ⟨a,?_,Y⟩;let:=S2.cF;rw[<-show ↑cz=↑(cZ δ1.mu (r.2++es) ows++news.map U) from this,q0b (Im _),q03];rfl
 .calc h1.elim
end
def aE(o:Bool)(n:Nat)(G:GK)(fa:WA):WE:=fun δ K=>fa δ λxs δ1=>tE o n G xs δ1 K
def aF(o:Bool)(C:O)(m:J)(n:Nat)(G:GK)(fo:WE)(fa:WA):WE:=fun δ K=>fo δ λx δ1=>(∃(a:O)(k:Nat)(fs:-(J×FV)),x=.w a/\δ1.mu[k]?=U (U (.ins a C fs))/\fs.lookup m=Z)/\fa δ1 λxs δ2=>tE o n G (x::xs) δ2 K
def aH(C:O)(n:Nat)(G:GK)(fa:WA):WE:=fun δ K=>fa δ λxs δ1=>∀a,tE ι n G (.w a::xs) ⟨δ1.sl,δ1.mu++[U (.ins a C [])]⟩ λx δ2=>x=.p .non/\K (.w a) δ2
theorem dr.look{α:Type}{R:α->V->Prop}{x:J}:∀{fs:-(J×α)}{ws:-(J×V)},dr R fs ws->(fs.lookup x=Z/\ws.lookup x=Z)\/∃f v,fs.lookup x=U f/\ws.lookup x=U v/\R f v
 |[],ws,h=>by let h:ws=[]:=h;subst h;exact .inl ⟨Y,Y⟩
 |(y,g)::r,ws,⟨v,t,e,h1,h2⟩=>by
  subst e;rw[q0v,q0v]
  cases q:x==y with
  |true=>exact .inr ⟨_,_,Y,Y,h1⟩
  |false=>calc dr.look h2
theorem i5.v{F:Hp}{ad:-O}{v:V}:∀{f:FV},i5 F f v->dG F ad f.v v
 |.p _,h=>h
 |.w _,h=>h
noncomputable def ni(f:J)(v:FV):-(J×FV)->-(J×FV)
 |[]=>[(f,v)]
 |(g,x)::r=>if g=f then(g,v)::r else(g,x)::ni f v r
theorem nV.put{F:Hp}{x:J}{g:FV}{v:V}(hg:i5 F g v):∀{fs:-(J×FV)}{ws:-(J×V)},nV F fs ws->nV F (ni x g fs) (c6 x v ws)
 |[],ws,h=>by let h:ws=[]:=h;subst h;exact⟨v,[],Y,hg,Y⟩
 |(y,f)::r,ws,⟨u,t,e,h1,h2⟩=>by
  subst e;unfold ni c6;split
  .exact⟨v,t,Y,hg,h2⟩
  .calc⟨u,_,Y,h1,nV.put hg h2⟩
def af(C:O)(x:J)(f:WE):WE:=fun δ K=>f δ λy δ1=>∃(a:O)(k:Nat)(fs:-(J×FV))(v:FV),(y=.w a/\δ1.mu[k]?=U (U (.ins a C fs))/\fs.lookup x=U v)/\K v.v δ1
noncomputable def Ew:OV->Option O
 |.al a _=>U a
 |.ac a _=>U a
 |.av a _=>U a
 |_=>Z
def ag(f:WE):WE:=fun δ K=>f δ λy δ1=>∃(a:O)(k:Nat)(ov:OV),(y=.w a/\δ1.mu[k]?=U (U ov)/\Ew ov=U a)/\K (.o k) δ1
def toF(x:DV)(δ:aN)(K:FV->aN->Prop):Prop:=match x with
 |.p d=>K (.p d) δ
 |.w a=>K (.w a) δ
 |.o k=>match δ.mu[k]? with
  |some (some (.lst ds))=>∀a,K (.w a) ⟨δ.sl,δ.mu.set k (U (.al a ds))⟩
  |some (some (.dct kvs))=>∀a,K (.w a) ⟨δ.sl,δ.mu.set k (U (.ac a kvs))⟩
  |_=>False
 |.u _ _=>False
 |.t _ _=>False
def aG(C:O)(x:J)(fv fo:WE):WS:=λK δ=>fv δ λz δ1=>fo δ1 λy δ2=>toF z δ2 λg δ3=>∃(a:O)(k:Nat)(fs:-(J×FV)),(y=.w a/\δ3.mu[k]?=U (U (.ins a C fs))/\fs.length<1000)/\K.nx ⟨δ3.sl,δ3.mu.set k (U (.ins a C (ni x g fs)))⟩
section
variable{F H:Hp}{ad:-O}{δ:aN}{σ:St}
theorem Lf{H:Hp}{a:O}{o:HO}(h:H a=U o):upd H a o=H:=by
 funext b
 by_cases c:b=a
 .subst c;rw[cA,h]
 .rw[bE c]
theorem zx{x:DV}{v:V}{K:FV->aN->Prop}(S:SR F ad δ σ H)(V:dG F ad x v)(h:toF x δ K):∃f δ',K f δ'/\Ext F ad δ.mu H F ad δ'.mu H/\SR F ad δ' σ H/\i5 F f v:=by
 cases x with
 |p d=>exact⟨_,_,h,.refl,S,V⟩
 |w a=>exact⟨_,_,h,.refl,S,V⟩
 |u _ _=>exact h.elim
 |t _ _=>exact h.elim
 |o k =>
  let⟨a,e1,rfl⟩:=V;unfold toF at h;dsimp only at h;split at h
  .rename_i ds e
   let⟨a',o,e2,e3,vs,rfl,h4⟩:=S.mu k _ e;rw[e1] at e2;cases e2;let oi:eN F a (.al a ds) (.lst vs):=⟨Y,vs,Y,h4⟩;let E:=Ext.put (ov:=.al a ds) (o:=.lst vs) S e e1;let T:=S.put e e1 oi;rw[Lf e3] at E T;exact⟨_,_,h a,E,T,Y⟩
  .rename_i ds e
   let⟨a',o,e2,e3,vs,rfl,h4⟩:=S.mu k _ e;rw[e1] at e2;cases e2;let oi:eN F a (.ac a ds) (.dK vs):=⟨Y,vs,Y,h4⟩;let E:=Ext.put (ov:=.ac a ds) (o:=.dK vs) S e e1;let T:=S.put e e1 oi;rw[Lf e3] at E T;exact⟨_,_,h a,E,T,Y⟩
  .calc h.elim
theorem zy{k:Nat}{a C:O}{fs:-(J×FV)}(S:SR F ad δ σ H)(h:δ.mu[k]?=U (U (.ins a C fs))):∃dx ws,ad[k]?=U a/\H a=U (.ins C dx ws)/\nV F fs ws:=by
 let⟨a',o,e1,e2,rfl,dx,ws,rfl,h4⟩:=S.mu k _ h;calc⟨dx,ws,e1,e2,h4⟩
end
section
variable{X:Cx}{a b o v:l}{f fo fv:WE}{fa:WA}{C:O}{x m:J}{pos pos' apos p:y}{G:GK}{n k:Nat}{g:O}{fd:FuncData}{ps:-J}{e:l}{es:-l}
theorem lr(c:iW X.K C)(hx:cU X.K C x)(he:JE X a (tD f))(hb:attributeBase a x X.env (eval a X.env)=eval a X.env:=by rfl):JE X (.Attribute a x pos) (tD (af C x f)) :=
 (PF he hb).weak fun σ H Q ⟨F,ad,δ,K,S,q,k⟩↦⟨F,ad,δ,_,S,q,λy δ1 h1 u F1 bp H1 E1 S1 V1=>by
  let⟨a,i,fs,w,⟨rfl,hi,hl⟩,h2⟩:=h1;let⟨dx,ws,e1,e2,e3⟩:=zy S1 hi;rcases e3.look (x:=x) with⟨z,_⟩|⟨f,w',z1,z2,z3⟩
  .rw[z] at hl;cases hl
  .rw[z1] at hl;cases hl
   calc⟨a,C,dx,ws,w',V1,e2,c,hx,z2,k _ _ h2 _ _ _ _ E1 S1 z3.v⟩⟩
theorem qb(he:JE X a (tD f)):JE X a (tD (ag f)) :=
 he.weak fun σ H Q ⟨F,ad,δ,K,S,q,k⟩↦⟨F,ad,δ,_,S,q,λy δ1 h1 u F1 bp H1 E1 S1 V1=>by
  let⟨a,i,ov,⟨rfl,hi,ht⟩,h2⟩:=h1;let⟨a',o,e1,e2,e3⟩:=S1.mu i ov hi
  let:a'=a:=by
   cases ov with
   |al b ds=>cases ht;exact e3.1.symm
   |ac b ds=>cases ht;exact e3.1.symm
   |av b ds=>cases ht;exact e3.1.symm
   |lst _=>cases ht
   |dct _=>cases ht
   |dtt _=>cases ht
   |ins _ _ _=>cases ht
  subst this
  calc k _ _ h2 _ _ _ _ E1 S1 ⟨a',e1,V1⟩⟩
theorem tF[kq](c:iW X.K C)(hx:cU X.K C x)(ho:JE X o (tD fo))(hv:JE X v (tD fv))(hs:swapsWith v (U (.Attribute o x pos')) pos.line X.env=pure ι:=by rfl):JS X (.Assign [.Attribute o x pos'] v pos) (dU (aG C x fv fo)) :=
 (PG ho hv hs).weak λD σ H ⟨F,ad,δ,K,S,q,k⟩↦⟨F,ad,δ,_,S,q,λz δ1 h1 u F1 bp H1 E1 S1 V1=>⟨F1,bp,δ1,_,S1,h1,λy δ2 h2 w F2 cz H2 E2 S2 V2=>by
  let⟨g,δ3,h3,E3,S3,ig⟩:=zx S2 (V1.ext E2) h2;let⟨a,i,fs,⟨rfl,hi,hl⟩,h4⟩:=h3;let⟨dx,ws,e1,e2,e3⟩:=zy S3 hi;let oi:eN F2 a (.ins a C (ni x g fs)) (.ins C dx (c6 x u ws)):=⟨Y,dx,_,Y,nV.put ig e3⟩
  calc⟨a,C,dx,ws,V2,e2,c,hx,by rw[↑e3];calc hl,k.nx _ h4 _ _ _ _ (((E1.trans E2).trans E3).trans (Ext.put S3 hi e1)) (S3.put hi e1 oi)⟩⟩⟩
theorem VA(o:Bool)(Fn:cf X.prog X.w X.K X.mg X.base eZ k g fd ps (lq G n))(hr:bB k X.A)(hg:Gl X x)(hm:X.mg x=U (.ref g))(hk:q0_ X.K (.ref g)=θ)(hb:Binds X.K fd ps [])
  (ha:JA X (e::es) (cy fa)) (c8:b7 x:=by decide) (he:cI X e es:=by rfl) (cX:cS X pos es:=by rfl) :
  JE X (.Call (.Name x p) (e::es) [] pos) (tD (aE o n G fa)):=(vt Fn hr hg hm hk hb .nil oP ha c8 he cX).weak fun σ H Q ⟨F,ad,δ,K,S,q,kk⟩↦⟨F,ad,δ,_,S,q,λxs δ1 h1 vs F1 bp H1 E1 S1 V1=>by
   rw[oO];calc xo kk h1 E1 S1 V1⟩
theorem VB{r:Bool}{E:XK}:∀σ H Q,tD (aF r C m n G fo fa) σ H Q->Bj C m (lq G n) [] E (tD fo) (cy fa) σ H Q:=fun σ H Q ⟨F,ad,δ,K,S,q,kk⟩=>⟨F,ad,δ,_,S,q,λy δ1 h1 u F1 bp H1 E1 S1 V1=>by
  let⟨⟨a,i,fs,rfl,hi,hl⟩,h2⟩:=h1;let⟨dx,ws,e1,e2,e3⟩:=zy S1 hi;rcases e3.look (x:=m) with⟨_,z⟩|⟨f,w',z1,z2,z3⟩
  .refine⟨a,dx,ws,V1,e2,z,F1,bp,δ1,_,S1,h2,λxs δ2 h3 vs F2 cz H2 E2 S2 V2=>?_⟩
   rw[oO];exact xo kk h3 (E1.trans E2) S2 ⟨_,_,Y,V1.ext E2,V2⟩
  .rw[z1] at hl;cases hl⟩
theorem VC {pl:Sem Bool} (r:Bool) (c:iW X.K C) (hm:Meth X.K C m g) (Fn:cf X.prog X.w X.K X.mg X.base eZ k g fd ps (lq G n)) (hr:bB k X.A) (hb:Binds X.K fd ps []) (ho:JE X o (tD fo)) (ha:JA X (e :: es) (cy fa))
  (jE:cI X e es:=by rfl) (cX:cS X pos es:=by rfl)
  (ht:eval (.Call (.Attribute o m apos) (e :: es) [] pos) X.env=(do
   let ov <- eval o X.env
   standAt apos.atName
   let (f,first) <- holding [ov] (getMethod ov m pl)
   callWith pos f first (backTo pos (starEach (e :: es) X.env)) (backToKw pos (keywordEach [] X.env))):=by rfl) :
  JE X (.Call (.Attribute o m apos) (e :: es) [] pos) (tD (aF r C m n G fo fa)):=(PN ho c hm Fn hr hb .nil oP ha jE cX ht).weak VB
theorem VD {pl:Sem Bool} (r:Bool) (c:iW X.K C) (hm:Meth X.K C m g) (Fn:cf X.prog X.w X.K X.mg X.base eZ k g fd ps (lq G n)) (hr:bB k X.A) (hb:Binds X.K fd ps []) (ho:JE X o (tD fo))
  (ht:eval (.Call (.Attribute o m apos) [] [] pos) X.env=(do
   let ov <- eval o X.env
   standAt apos.atName
   let (f,first) <- holding [ov] (getMethod ov m pl)
   callWith pos f first (backTo pos (starEach [] X.env)) (backToKw pos (keywordEach [] X.env))):=by rfl) :
  JE X (.Call (.Attribute o m apos) [] [] pos) (tD (aF r C m n G fo ah)):=(PQ ho c hm Fn hr hb .nil oP ht).weak fun σ H Q ⟨F,ad,δ,K,S,q,kk⟩↦⟨F,ad,δ,_,S,q,λy δ1 h1 u F1 bp H1 E1 S1 V1=>by
  let⟨⟨a,i,fs,rfl,hi,hl⟩,h2⟩:=h1;let⟨dx,ws,e1,e2,e3⟩:=zy S1 hi;rcases e3.look (x:=m) with⟨_,z⟩ | ⟨f,w',z1,z2,z3⟩
  .exact⟨a,dx,ws,V1,e2,z,xo (xs:=[.w a]) (vs:=[u]) kk (show tE r n G [.w a] δ1 K from h2) E1 S1 ⟨_,_,Y,V1,Y⟩⟩
  .rw[z1] at hl;cases hl⟩
theorem VE{F H F1 H1:Hp}{ad bp:-O}{δ δ1:aN}{σ:St}{K:DV->aN->Prop}{Q:VK}{E:XK}{xs:-DV}{vs:-V}(kk:∀x δ',K x δ'->∀v F' aL H',Ext F ad δ.mu H F' aL δ'.mu H'->SR F' aL δ' σ H'->dG F' aL x v->Q v H')
  (h1:∀a,tE ι n G (.w a::xs) ⟨δ1.sl,δ1.mu++[U (.ins a C [])]⟩ λx δ2=>x=.p .non/\K (.w a) δ2) (E1:Ext F ad δ.mu H F1 bp δ1.mu H1) (S1:SR F1 bp δ1 σ H1) (V1:cG F1 bp xs vs) {x dx:O} (nx:H1 x=Z) (zz:H1 dx=Z) (ne:dx≠x) :
  lq G n (.ref x::vs) (upd (upd H1 dx (.own x)) x (.ins C dx [])) (λv H2=>v=.non/\Q (.ref x) H2) E:=by
 let S2:=S1.al (cK (o:=.own x) zz);let E2:=Ext.al S1 (cK (o:=.own x) zz);let Lg:upd H1 dx (.own x) x=Z:=by rw[bE λz=>ne z.symm];exact nx
 let oi:eN (Nw F1 H1 (upd H1 dx (.own x))) x (.ins x C []) (.ins C dx []):=⟨Y,dx,[],Y,Y⟩;let S3:=S2.own Lg oi;let E3:=Ext.own (o:=.ins C dx []) (ov:=.ins x C []) S2 Lg;calc xo (K:=λy δ2=>y=.p .non/\K (.w x) δ2) (λy δ' h v F' aL H' X T V=>?_) (h1 x) ((E1.trans E2).trans E3) S3 ⟨_,_,Y,Y,(V1.ext E2).ext E3⟩;let⟨rfl,h⟩:=h;calc⟨V,kk _ _ h _ _ _ _ X T Y⟩
theorem VF(M:Mk X.K C g)(Fn:cf X.prog X.w X.K X.mg X.base eZ k g fd ps (lq G n))(hr:bB (k+1) X.A)(hg:Gl X x)(hm:X.mg x=U (.ref C))(hb:Binds X.K fd ps [])
  (ha:JA X (e::es) (cy fa)) (c8:b7 x:=by decide) (he:cI X e es:=by rfl) (cX:cS X pos es:=by rfl) :
  JE X (.Call (.Name x p) (e::es) [] pos) (tD (aH C n G fa)):=(PS M Fn hr hg hm hb .nil oP ha c8 he cX).weak fun σ H Q ⟨F,ad,δ,K,S,q,kk⟩↦⟨F,ad,δ,_,S,q,λxs δ1 h1 vs F1 bp H1 E1 S1 V1 x dx nx zz ne=>by
   rw[oO];calc VE kk h1 E1 S1 V1 nx zz ne⟩
end
end L2
namespace L2
open PySem PySem.Spec PyProof.Rows
section
variable{M:Model}{A:o}{E:bA}{s:B}{env:X}{outer:-X}{base:I}{L a C:O}{dx T:Option O}{Q:Unit->B->Prop}
end
section
variable{X:Cx}{P:t}{w:S}{K:My}{mg:J->Option L}{base:I}{N:-J}{qual:J}{scope:a}{f:O}{cd:L}{A:o}{outer:-Ζ}{s:B}{H:Hp}{E:XK}
end
section
variable{X:Cx}{pins dJ:aM}{σ:St}{H:Hp}{s:B}{E:bA}
theorem Inv.xp(I:Inv X pins σ H s):Inv {X with pn:=X.pn++pins,xe:=E} [] σ H s :=
 ⟨⟨I.ok.mod,I.ok.kind,I.ok.glob,I.ok.blt,I.ok.above,I.ok.inj,I.ok.has,I.ok.qt,I.ok.hd,I.ok.frames,I.ok.tO,I.ok.xS,I.ok.bs,I.ok.l8,I.ok.iV,I.ok.kI,I.ok.eJ,I.ok.nM⟩,I.os,I.bare,I.base,I.loc,I.cell,I.free,I.cP,λp hp=>I.pin p hp⁻¹,I.bu,I.len⟩
theorem Inv.kF(I:Inv {X with pn:=X.pn++pins,xe:=E} dJ σ H s):Inv X pins σ H s :=
 ⟨⟨I.ok.mod,I.ok.kind,I.ok.glob,I.ok.blt,I.ok.above,I.ok.inj,I.ok.has,I.ok.qt,I.ok.hd,I.ok.frames,I.ok.tO,I.ok.xS,I.ok.bs,I.ok.l8,I.ok.iV,I.ok.kI,I.ok.eJ,I.ok.nM⟩,I.os,I.bare,I.base,I.loc,I.cell,I.free,I.cP,λp hp=>I.pin p (q1x _ hp),I.bu,I.len⟩
end
section
variable{X:Cx}{body Lh:-R}{b0:R}{x n:J}{p1 p2 pos:y}{L:O}{i:Nat}{tb:XK->TS}{th:TS}
end
variable[bf]
section
variable{X:Cx}{body:-R}{h0:ExceptHandler}{hs:-ExceptHandler}{pos:y}
theorem VG{t:TS}(hb:∀pn,dM {X with pn:=pn,xe:=λ_ _=>False} body t):JS X (.Try body (h0::hs) [] [] pos) t:=by
 calc⟨?_⟩;ext pins s σ H D I h;calc wpAny_Try_except ?_;refine q1U (hb (X.pn++pins) [] s σ H D I.xp h) (λf s1 hq=>?_) (λe s1 z=>z.elim)
 cases f with
 |next =>
  let⟨σ',H',I',q⟩:=hq;exact q3G ⟨σ',H',I'.kF,q⟩
 |brk=>let⟨σ',H',I',q⟩:=hq;exact⟨σ',H',I'.kF,q⟩
 |cont=>let⟨σ',H',I',q⟩:=hq;exact⟨σ',H',I'.kF,q⟩
 |ret u=>let⟨v,σ',H',I',r,q⟩:=hq;calc⟨v,σ',H',I'.kF,r,q⟩
theorem VH[kq]{G:WS}(hb:∀pn,dM {X with pn:=pn,xe:=λ_ _=>False} body (dU G)):JS X (.Try body (h0::hs) [] [] pos) (dU G):=VG hb
end
noncomputable def lz{α:Type}(kvs:-(Key×α))(k:Key):-(Key×α):=kvs.filter λkv=>G (kv.1≠k)
omit [bf] in
theorem dr.drop {α:Type} {R:α->V->Prop} (k:Key):∀{gR:-(Key×α)}{ws:-(Key×V)},dr R gR ws->dr R (lz gR k) (qK ws k)
 |[],_,h=>by let h:_=[]:=h;subst h;rfl
 |kd::r,_,⟨v,t,e,h1,h2⟩=>by
  subst e;unfold lz qK;rw[q1h,q1h];split
  .exact⟨v,_,Y,h1,h2.drop k⟩
  .calc h2.drop k
def aU(fo fi:WE):WE:=fun δ K=>fo δ λx δ1=>ar x δ1 λ_ _ _=>fi δ1 λy δ2=>au y λi=>ar x δ2 λk B kvs=>match dA kvs (.inl i) with
 |some d=>K (.p d) ⟨δ2.sl,δ2.mu.set k (U (B (lz kvs (.inl i))))⟩
 |none=>False
def ak(x:J)(f:WE):WE:=fun δ K=>f δ λy δ1=>∃(a:O)(k:Nat)(kvs:-(Key×FV))(v:FV),(y=.w a/\δ1.mu[k]?=U (U (.av a kvs))/\dA kvs (.inr x)=U v)/\K v.v δ1
def aP(x:J)(fv fo:WE):WS:=λK δ=>fv δ λz δ1=>fo δ1 λy δ2=>toF z δ2 λg δ3=>∃(a:O)(k:Nat)(kvs:-(Key×FV)),(y=.w a/\δ3.mu[k]?=U (U (.av a kvs))/\↑kvs<1000)/\K.nx ⟨δ3.sl,δ3.mu.set k (U (.av a (putD kvs (.inr x) g)))⟩
def aQ:-(J×WE)->aN->(-(Key×FV)->aN->Prop)->Prop
 |[],δ,K=>K [] δ
 |(x,f)::r,δ,K=>f δ λy δ1=>toF y δ1 λg δ2=>aQ r δ2 λkvs δ3=>K ((.inr x,g)::kvs) δ3
def aV(es:-(J×WE)):WE:=fun δ K=>aQ es ⟨δ.sl,δ.mu++[U (.dct [])]⟩ λkvs δ1=>(δ1.mu[↑δ.mu]?=U (U (.dct []))/\↑kvs<=15)/\∀a,K (.w a) ⟨δ1.sl,δ1.mu.set ↑δ.mu (U (.av a (kvs.foldl (λacc kv=>putD acc kv.1 kv.2) [])))⟩
section
variable{F H:Hp}{ad:-O}{δ:aN}{σ:St}
theorem Li{k:Nat}{a:O}{kvs:-(Key×FV)}(S:SR F ad δ σ H)(h:δ.mu[k]?=U (U (.av a kvs))):∃ws,ad[k]?=U a/\H a=U (.dK ws)/\nV F kvs ws:=by
 let⟨a',o,e1,e2,rfl,ws,rfl,h4⟩:=S.mu k _ h;calc⟨ws,e1,e2,h4⟩
variable{X:Cx}{o i e v:l}{fo fi fv f:WE}{pos apos:y}{x:J}
theorem VI(ho:JE X o (tD fo))(hi:JE X i (tD fi))(m:M1 X o "pop" apos i pos:=by calc⟨Y,Y,Y,Y⟩):JE X (.Call (.Attribute o "pop" apos) [i] [] pos) (tD (aU fo fi)) :=
 (Rm ho hi m).weak fun σ H Q ⟨F,ad,δ,K,S,q,k⟩=>⟨F,ad,δ,_,S,q,λx δ1 h1 v F1 bp H1 E1 S1 V1=>by
  let⟨k0,B,kvs,a,ws,rfl,h2,rfl,e1,e2,i1,m1,qU⟩:=zh S1 V1 h1;calc⟨a,Y,.inl ⟨ws,.inl e2⟩,F1,bp,δ1,_,S1,h2,λy δ2 h3 u F2 cz H2 E2 S2 V2=>?_⟩;let⟨i,rfl,h4⟩:=D6 V2 h3;let⟨k1,B',VJ,b,Lj,ek,h5,eb,f1,f2,j1,n1,VL⟩:=zh S2 (V1.ext E2) h4;cases ek
  cases eb
  rcases j1.val (.inl i) with⟨z1,z2⟩|⟨d,v,z1,z2,z3⟩
  .rw[z1] at h5;exact h5.elim
  .rw[z1] at h5
   let oi:=VL (F':=F2) (us:=qK Lj (.inl i)) (j1.drop (.inl i))
   calc⟨Lj,.inl i,v,f2,Y,z2,k _ _ h5 _ _ _ _ ((E1.trans E2).trans (Ext.put S2 n1 f1)) (S2.put n1 f1 oi) z3⟩⟩
theorem iu{jj:Nat}{p2:Ε}(hu:X.A.units+64<cLine)(ho:JE X o (tD fo))(hs:sj (.Constant (.str x) jj p2):=by ext _ _;rfl):JE X (.Subscript o (.Constant (.str x) jj p2) pos) (tD (ak x fo)) :=
 (Rb ⋯ ho xT hs).weak fun σ H Q ⟨F,ad,δ,K,S,q,k⟩↦⟨F,ad,δ,_,S,q,λy δ1 h1 v F1 bp H1 E1 S1 V1=>by
  let⟨a,i,kvs,w,⟨rfl,hi,hl⟩,h2⟩:=h1;let⟨ws,e1,e2,e3⟩:=Li S1 hi;rcases e3.val (.inr x) with⟨z,_⟩|⟨f,w',z1,z2,z3⟩
  .rw[z] at hl;cases hl
  .rw[z1] at hl;cases hl
   calc⟨a,w',V1,by rw[<-z2];calc gJ.k (k:=q4g x) e2,k _ _ h2 _ _ _ _ E1 S1 z3.v⟩⟩
theorem Ex[kq]{jj:Nat}{p2 pos':Ε}(hu:X.A.units+64<cLine)(ho:JE X o (tD fo))(hv:JE X v (tD fv))(hs:swapsWith v (U (.Subscript o (.Constant (.str x) jj p2) pos')) pos.line X.env=pure ι:=by rfl):JS X (.Assign [.Subscript o (.Constant (.str x) jj p2) pos'] v pos) (dU (aP x fv fo)) :=
 (II ⋯ ho xT hv hs).weak λD σ H ⟨F,ad,δ,K,S,q,k⟩↦⟨F,ad,δ,_,S,q,λz δ1 h1 u F1 bp H1 E1 S1 V1=>⟨F1,bp,δ1,_,S1,h1,λy δ2 h2 w F2 cz H2 E2 S2 V2=>by
  let⟨g,δ3,h3,E3,S3,ig⟩:=zx S2 (V1.ext E2) h2;let⟨a,i,kvs,⟨rfl,hi,hl⟩,h4⟩:=h3;let⟨ws,e1,e2,e3⟩:=Li S3 hi;let oi:eN F2 a (.av a (putD kvs (.inr x) g)) (.dK (putK ws (.inr x) u)):=⟨Y,_,Y,dr.put e3 ig⟩
  calc⟨a,_,V2,kR.k (k:=q4g x) e2 (qH (by rw[↑e3];calc q1e hl)),k.nx _ h4 _ _ _ _ (((E1.trans E2).trans E3).trans (Ext.put S3 hi e1)) (S3.put hi e1 oi)⟩⟩⟩
structure zA(X:Cx)(pos:y)(keys:-(Option l))(values:-l)(es:-(J×WE)):Prop where
 i0:∃i0,vR X pos keys values i0/\∀σ H (Q:-(V×V)->Hp->Prop) F ad δ K,SR F ad δ σ H->aQ es δ K →
  (∀kvs δ',K kvs δ'->∀ws F' aL H',Ext F ad δ.mu H F' aL δ'.mu H'->SR F' aL δ' σ H'->nV F' kvs ws->Q (ws.map λkv=>(kV kv.1,kv.2)) H')->yo i0 σ H Q
theorem VM{pos:y}:zA X pos [] [] []:=⟨[],Rg,fun σ H Q F ad δ K S q k=>k _ _ q [] _ _ _ .refl S Y⟩
theorem zB{jj:Nat}{p2:Ε}{ks:-(Option l)}{vs:-l}{es:-(J×WE)}(hv:JE X v (tD f))(hr:zA X pos ks vs es):zA X pos (U (.Constant (.str x) jj p2)::ks) (v::vs) ((x,f)::es):=by
 let⟨i0,h1,h2⟩:=hr.i0;calc⟨_,Rh xT hv h1,fun σ H Q F ad δ K S q k=>?_⟩;calc⟨F,ad,δ,_,S,q,λy δ1 g1 u F1 bp H1 E1 S1 V1=>?_⟩;let⟨g,δ2,g2,E2,S2,ig⟩:=zx S1 V1 g1;calc h2 σ H1 _ _ _ δ2 _ S2 g2 λkvs δ3 g3 ws F3 oV H3 E3 S3 i3=>?_;exact k _ _ g3 ((.inr x,u)::ws) _ _ _ ((E1.trans E2).trans E3) S3 ⟨u,ws,Y,i5.same E3.same _ _ ig,i3⟩
omit [bf] in
theorem dr.merge {α:Type} {R:α->V->Prop}:∀{more:-(Key×α)}{rs:-(Key×V)}{kvs:-(Key×α)}{ws:-(Key×V)},dr R more rs->dr R kvs ws->dr R (more.foldl (λacc kv=>putD acc kv.1 kv.2) kvs) (sk ws rs)
 |[],_,_,_,h,q=>by let h:_=[]:=h;subst h;exact q
 |kd::r,_,kvs,ws,⟨v,t,e,h1,h2⟩,q=>by
  subst e;let:=dr.merge (more:=r) (rs:=t) (kvs:=putD kvs kd.1 kd.2) (ws:=putK ws kd.1 v) h2 (dr.put q h1);calc this
theorem VN{keys:-(Option l)}{values:-l}{es:-(J×WE)}(h:zA X pos keys values es)(iS:keys.all (·.isSome)=θ:=by rfl)(hl:↑keys=↑values:=by rfl)(h0:keys≠[]:=by simp)(BX:↑keys<=15:=by simp):JE X (.Dict keys values pos) (tD (aV es)):=by
 let⟨i0,h1,h2⟩:=h.i0;calc(Rj h1 iS hl h0 BX).weak fun σ H Q ⟨F,ad,δ,K,S,q,k⟩ p hp=>?_;let oi:eN F p (.dct []) (.dK []):=⟨[],Y,Y⟩;let lp:(ad++[p])[↑δ.mu]?=U p:=by rw[<-S.cF,q0b (Im _),q03];rfl
 calc h2 σ _ _ F (ad++[p]) _ _ (S.own hp oi) q λkvs δ1 ⟨⟨g1,g2⟩,g3⟩ ws F1 bp H1 E1 S1 i1=>?_;let a1:=E1.pre _ _ lp;let⟨p',o,e1,e2,us,rfl,e4⟩:=S1.mu _ _ g1;rw[a1] at e1;cases e1;let eu:us=[]:=e4;subst eu;let oj:eN F1 p (.av p (kvs.foldl (λacc kv=>putD acc kv.1 kv.2) [])) (.dK (sk [] ws)):=⟨Y,_,Y,i1.merge (show dr (i5 F1) [] [] from Y)⟩;calc⟨e2,ws,Y,by rw[↑i1];calc g2,?_⟩;calc k _ _ (g3 p) _ _ _ _ (((Ext.own S hp).trans E1).trans (Ext.put S1 g1 a1)) (S1.put g1 a1 oj) Y
end
end L2
namespace LJ
open PySem L2
variable[bf]
noncomputable def ot(x:Option Int×Int):D:=.tup [.int x.2,oD x.1]
noncomputable def cx:Nat->-gT->-(Key×D)
 |_,[]=>[]
 |i,none::r=>cx (i+1) r
 |i,some x::r=>(.inl (i:Int),ot x)::cx (i+1) r
theorem Ey:∀{i:Nat}{q:-gT},cx i (q++[Z])=cx i q
 |i,[]=>Y
 |i,none::r=>Ey (i:=i+1) (q:=r)
 |i,some x::r=>congrArg (_ :: ·) (Ey (i:=i+1) (q:=r))
theorem Ez{x:Option Int×Int}:∀{i:Nat}{q:-gT},cx i (q++[U x])=cx i q++[(.inl ((i+↑q:Nat):Int),ot x)]
 |i,[]=>Y
 |i,none::r=>by
  let:=Ez (x:=x) (i:=i+1) (q:=r);rw[show i+1+↑r=i+↑(Z::r:-gT) by rw[Ip];symm] at this;exact this
 |i,some y::r=>by
  let:=Ez (x:=x) (i:=i+1) (q:=r);rw[show i+1+↑r=i+↑(U y::r:-gT) by rw[Ip];symm] at this;calc congrArg (_ :: ·) this
theorem xq:∀{i:Nat}{q:-gT}{kv:Key×D},kv∈cx i q->∃j:Nat,kv.1=.inl (j:Int)/\i<=j/\j<i+↑q
 |i,[],kv,h=>nomatch h
 |i,none::r,kv,h=>by
  let⟨j,e,h1,h2⟩:=xq (i:=i+1) (q:=r) h;exact⟨j,e,⋯,by rw[Ip];symm⟩
 |i,some x::r,kv,h=>by
  rcases Qu.mp h with rfl|h
  .exact⟨i,Y,Im _,by rw[Ip];symm⟩
  .let⟨j,e,h1,h2⟩:=xq (i:=i+1) (q:=r) h
   calc⟨j,e,⋯,by rw[Ip];symm⟩
theorem VO{q:-gT}{x:Option Int×Int}:putD (cx 0 q) (.inl (↑q:Int)) (ot x)=cx 0 (q++[U x]):=by
 unfold putD;rw[q0i ?_,Ez,q0G];ext h;let⟨kv,h1,h2⟩:=q6L.mp h;let⟨j,e,_,h3⟩:=xq h1;rw[e] at h2;let:=q3B (q0U h2);symm
theorem EA:∀{i:Nat}{q:-gT},↑(cx i q)<=↑q
 |i,[]=>Im _
 |i,none::r=>q6x (EA (i:=i+1) (q:=r))
 |i,some x::r=>q4G (EA (i:=i+1) (q:=r))
theorem EB{x:Option Int×Int}:∀{i j:Nat}{q:-gT},q[j]?=U (U x)->dA (cx i q) (.inl ((i+j:Nat):Int))=U (ot x)
 |i,j,[],h=>by simp at h
 |i,0,none::r,h=>by simp at h
 |i,0,some y::r,h=>by
  cases(show U y=U x by simpa using h)
  unfold dA cx;rw[q4Z (by calc q0n Y)];rfl
 |i,j+1,none::r,h=>by
  let:=EB (x:=x) (i:=i+1) (j:=j) (q:=r) h⁻¹;rw[show i+1+j=i+(j+1) by symm] at this;exact this
 |i,j+1,some y::r,h=>by
  let:=EB (x:=x) (i:=i+1) (j:=j) (q:=r) h⁻¹;rw[show i+1+j=i+(j+1) by symm] at this;unfold dA cx;rw[q40]
  .exact this
  .ext z
   let:=q3B (q0U z);symm
theorem Lk{kvs:-(Key×D)}{k:Key}(h:∀kv∈kvs,kv.1≠k):lz kvs k=kvs:=by
 unfold lz;calc q5G.mpr λkv hk=>q0n (h kv hk)
theorem EC:∀{i j:Nat}{q:-gT},lz (cx i q) (.inl ((i+j:Nat):Int))=cx i (q.set j Z)
 |i,j,[]=>Y
 |i,0,none::r=>by
  show lz (cx (i+1) r) _=cx (i+1) r;calc Lk λkv hk e=>?_;let⟨l,e1,h1,_⟩:=xq hk;rw[e1] at e;let:=q3B e;symm
 |i,0,some y::r=>by
  show lz ((.inl (i:Int),ot y)::cx (i+1) r) _=cx (i+1) r
  let e:lz (cx (i+1) r) (.inl ((i+0:Nat):Int))=cx (i+1) r:=Lk λkv hk e=>by
   let⟨l,e1,h1,_⟩:=xq hk;rw[e1] at e;let:=q3B e;symm
  unfold lz at e ⊢;rw[q4L,e];ext z;exact q0U z Y
 |i,j+1,none::r=>by
  let:=EC (i:=i+1) (j:=j) (q:=r);rw[show i+1+j=i+(j+1) by symm] at this;exact this
 |i,j+1,some y::r=>by
  let:=EC (i:=i+1) (j:=j) (q:=r);rw[show i+1+j=i+(j+1) by symm] at this;show lz ((.inl (i:Int),ot y)::cx (i+1) r) _=(.inl (i:Int),ot y)::cx (i+1) (r.set j Z);unfold lz at this ⊢;rw[q4M,this];calc q0n λz=>?_;let:=q3B z;symm
noncomputable def nk(ws:-Wy)(g:-Int)(one:Int):-Int:=(cj ↑ws).filter λn=>(G (one=(aK ws n).1)||G (one=(aK ws n).2.1))&&G (n∉g)
noncomputable def ji(ws:-Wy)(g l:-Int):-Int:=l.flatMap (nk ws g)
theorem fG{ws:-Wy}{g l:-Int}{n:Int}:n∈ji ws g l↔((0<=n/\n<(↑ws:Int))/\n∉g)/\((aK ws n).1∈l\/(aK ws n).2.1∈l):=by
 unfold ji nk;rw[q6J]
 constructor
 .ext ⟨one,h1,h2⟩
  rw[q0R,sW,q0L,q3H,q0y,q0y,q0y] at h2;let⟨h2,h3,h4⟩:=h2;calc⟨⟨h2,h4⟩,?_⟩;rcases h3 with rfl|rfl
  .exact .inl h1
  .exact .inr h1
 .ext ⟨⟨h1,h2⟩,h3⟩
  rcases h3 with h|h
  .refine⟨_,h,?_⟩
   rw[q0R,sW,q0L,q3H,q0y,q0y,q0y];exact⟨h1,.inl Y,h2⟩
  .refine⟨_,h,?_⟩
   rw[q0R,sW,q0L,q3H,q0y,q0y,q0y];calc⟨h1,.inr Y,h2⟩
section
variable{m:Int}{ws:-Wy}{N:Nt}{h:Int}
theorem VP(W:aY m ws)(O:eI m ws N):(f7 (ji ws (N.p++N.k) (bo m ws N.p h))).filter (λn=>fM (bo m ws N.p h) (aK ws n))=g_ ws (bo m ws N.p h):=by
 calc uG ((rj _).filter _) (Vr _ _) λn=>?_;rw[q0R,bN,fG,fF]
 constructor
 .ext ⟨⟨⟨h1,_⟩,_⟩,h2⟩;exact⟨h1,h2⟩
 .ext ⟨h1,h2⟩
  let no:∀z:(aK ws n).1∈bo m ws N.p h↔(aK ws n).2.1∈bo m ws N.p h,False:=λz=>by rw[K6 z] at h2;cases h2
  refine⟨⟨⟨h1,λz=>?_⟩,?_⟩,h2⟩
  .rcases q0z.mp z with z|z
   .exact no (K5 W h1 (Vq z))
   .exact no (K5 W h1 (O.gG n z))
  .by_cases c:(aK ws n).1∈bo m ws N.p h
   .exact .inl c
   .by_cases d:(aK ws n).2.1∈bo m ws N.p h
    .exact .inr d
    .calc (no ⟨λz=>absurd z c,λz=>absurd z d⟩).elim
theorem VQ(W:aY m ws)(O:eI m ws N){os:-Int}(pm:os.Perm (g_ ws (bo m ws N.p h))):sortI (N.k++(f7 (ji ws (N.p++N.k) (bo m ws N.p h))).filter λn=>G (n∉os))=tj m ws N.p N.k h:=by
 let mf:∀n,n∈(f7 (ji ws (N.p++N.k) (bo m ws N.p h))).filter (λn=>G (n∉os))↔((0<=n/\n<(↑ws:Int))/\n∉N.p++N.k)/\((aK ws n).1∈bo m ws N.p h/\(aK ws n).2.1∈bo m ws N.p h):=λn=>by
  rw[q0R,bN,fG,q0y,pm.mem_iff,fF]
  constructor
  .ext ⟨⟨h1,h2⟩,h3⟩
   refine⟨h1,?_⟩
   let:fM (bo m ws N.p h) (aK ws n)=ι:=by
    cases q:fM (bo m ws N.p h) (aK ws n) with
    |false=>rfl
    |true=>exact absurd ⟨h1.1,q⟩ h3
   let z:=K7 this;rcases h2 with h2|h2
   .exact⟨h2,z.mp h2⟩
   .exact⟨z.mpr h2,h2⟩
  .ext ⟨h1,h2,h3⟩
   exact⟨⟨h1,.inl h2⟩,λz=>by rw[K6 ⟨λ_=>h3,λ_=>h2⟩] at z;cases z.2⟩
 let nd:(N.k++(f7 (ji ws (N.p++N.k) (bo m ws N.p h))).filter λn=>G (n∉os)).Nodup:=by
  calc q14.mpr ⟨O.ku.nd,Up.nd ((rj _).filter _),λa ha b hb e=>?_⟩;subst e;exact((mf a).mp hb).1.2 (q0p _ ha)
 unfold tj;calc uG (En nd) (rj _) λn=>?_;rw[(sortI_perm _).mem_iff,bN,q0z,q0z,mf n,fq]
 constructor
 .ext (z|⟨⟨h1,h2⟩,h3,h4⟩)
  .exact .inl z
  .exact .inr ⟨⟨h1,h3,h4⟩,λz=>h2 (q1x _ z)⟩
 .ext (z|⟨⟨h1,h3,h4⟩,h2⟩)
  .exact .inl z
  .by_cases c:n∈N.k
   .exact .inl c
   .calc .inr ⟨⟨h1,λz=>(q0z.mp z).elim h2 c⟩,h3,h4⟩
theorem VR(W:aY m ws){l os:-Int}(p:os.Perm (g_ ws l))(up:(os.map (fm ws)).Pairwise kle):os.head?=jh ws l:=by
 unfold jh
 cases os with
 |nil=>rw[List.nil_perm.mp p,q0k Y];rfl
 |cons a r =>
  let ne:g_ ws l≠[]:=λz=>by rw[z] at p;exact absurd p.length_eq (by simp)
  rw[q0i ne];rw[q0r,q1y] at up;let:=KO W zq (p.mem_iff.mp q0m) λe he=>(Qu.mp (p.mem_iff.mpr he)).elim (λz=>by rw[z];calc kle_refl _) λz=>up.1 _ (q20 z);rw[this];rfl
theorem ED{α:Type}(p q:α->Bool):∀l:-α,↑(l.filter λx=>p x||q x)+↑(l.filter λx=>p x&&q x)=↑(l.filter p)+↑(l.filter q)
 |[]=>Y
 |a::r=>by
  let ih:=ED p q r;rw[q1h,q1h,q1h,q1h];cases hp:p a<;>cases hq:q a<;>simp<;>symm
theorem EE{α:Type}(p:α->Bool)(l:-α)(h:∀x∈l,p x=ι):↑(l.filter p)=0:=by
 rw[q1X,List.filter_eq_nil_iff];calcλx hx z=>by rw[h x hx] at z;cases z
theorem EF(f:Int->Int)(us:-Int):∀{l:-Int},l.Nodup->(l.map λa=>↑(us.filter λn=>G (a=f n))).sum=↑(us.filter λn=>G (f n∈l))
 |[],_=>by
  rw[q2b,List.sum_nil];exact(EE _ _ λx _=>by simp).symm
 |a::r,nd=>by
  let⟨h1,h2⟩:=q2u.mp nd;rw[q0r,q70,EF f us h2];let:=ED (λn=>G (a=f n)) (λn=>G (f n∈r)) us
  rw[EE (λn=>G (a=f n)&&G (f n∈r)) us (λx _=>by
   by_cases c:a=f x
   .rw[q0n c,q0e (by rw[<-c];calc h1)];rfl
   .rw[q0e c];rfl)] at this
  rw[q8N] at this;rw[<-this];congr 2;funext n;rw[<-Bool.decide_or];congr 1;rw[Qu,@eq_comm _ a (f n)]
theorem VS(W:aY m ws)(p k l:-Int)(nd:l.Nodup):↑(ji ws (p++k) l)=↑(m_ ws (eQ ws p k) l):=by
 let e1:∀a,↑(nk ws (p++k) a)=↑((eQ ws p k).filter λn=>G (a=(aK ws n).1))+↑((eQ ws p k).filter λn=>G (a=(aK ws n).2.1)):=λa=>by
  let:=ED (λn=>G (a=(aK ws n).1)) (λn=>G (a=(aK ws n).2.1)) (eQ ws p k);rw[EE (λn=>G (a=(aK ws n).1)&&G (a=(aK ws n).2.1)) _ (λx hx=>?_)] at this
  .rw[<-this,q8N]
   unfold nk eQ;rw[List.filter_filter]
  .let hx:=DC (q0R.mp hx).1
   let⟨y,ey,_,_,i,j,e1,e2,_,_,lt⟩:=qZ W hx.1 hx.2;let ew:aK ws x=y:=ey;rw[ew,e1,e2]
   by_cases c:a=i
   .rw[q0n c,q0e ⋯];rfl
   .rw[q0e c];rfl
 unfold ji m_ m9;rw[List.length_flatMap,q37,Qs,q17,q17,BE,BE];let c1:=EF (λn=>(aK ws n).1) (eQ ws p k) nd;let c2:=EF (λn=>(aK ws n).2.1) (eQ ws p k) nd
 let sp:∀l:-Int,(l.map λa=>↑(nk ws (p++k) a)).sum=(l.map λa=>↑((eQ ws p k).filter λn=>G (a=(aK ws n).1))).sum+(l.map λa=>↑((eQ ws p k).filter λn=>G (a=(aK ws n).2.1))).sum:=λl=>by
  induction l with
  |nil=>rfl
  |cons a r ih =>
   erw[q0r,q70];rw[ih,e1 a];symm
 rw[sp l,c1,c2];rfl
theorem VT(W:aY m ws)(O:eI m ws N)(hs:h∉N.s):(N.s++bo m ws N.p h).Nodup:=by
 calc q14.mpr ⟨O.su.nd,(xm ..).nd,λa ha b hb e=>?_⟩;subst e;calc hs (K9 O.pn O.sc ((lZ W).mp hb).2.symm ha)
theorem VU{p:-Int}(u:Up p){w:Int}(hw:w∉p):(p++[w]).Nodup:=q14.mpr ⟨u.nd,by simp,λa ha b hb e=>by
 rw[q0K] at hb
 subst e;subst hb;calc hw ha⟩
end
end LJ
namespace L2
open PySem PySem.Spec PyProof.Rows
variable[bf]
def aW(x:DV)(δ:aN)(K:FV->aN->Prop):Prop:=match x with
 |.w a=>K (.w a) δ
 |y=>lN y δ λd δ1=>K (.p d) δ1
def aw:-DV->aN->(-FV->aN->Prop)->Prop
 |[],δ,K=>K [] δ
 |x::xs,δ,K=>aW x δ λf δ1=>aw xs δ1 λfs δ2=>K (f::fs) δ2
def aX(t:Bool)(fa:WA):WE:=fun δ K=>fa δ λxs δ1=>aw xs δ1 λfs δ2=>fs.length<=1000/\K (.u t fs) δ2
def tG(f g:WE):WE:=fun δ K=>f δ λx δ1=>g δ1 λy δ2=>∃t fs i v,(x=.u t fs/\y=.p (.int i)/\eK fs i=U v)/\K v.v δ2
abbrev EG:=-FV->aN->(aN->Prop)->Prop
def aZ:EG:=λfs δ K=>match fs with
 |[]=>K δ
 |_=>False
def a_(g:WG)(g':EG):EG:=λfs δ K=>match fs with
 |f::r=>g f.v δ fun δ1=>g' r δ1 K
 |[]=>False
def ba(n:Nat)(g:EG):WG:=λx δ K=>match x with
 |.u true fs=>fs.length=n/\g fs δ K
 |_=>False
section
variable{F H:Hp}{ad:-O}{δ:aN}{σ:St}
omit [bf] in
theorem d5.length {F:Hp}:∀{fs:-FV}{us:-V},d5 F fs us->↑us=fs.length
 |[],_,h=>by let h:_=[]:=h;rw[h];rfl
 |_::_,_,⟨v,t,e,_,h2⟩=>by rw[e,Ip,Ip,d5.length h2]
omit [bf] in
theorem d5.get {F:Hp}:∀{fs:-FV}{us:-V}{j:Nat}{f:FV},d5 F fs us->fs[j]?=U f->∃v,us[j]?=U v/\i5 F f v
 |[],_,j,f,_,e=>by simp at e
 |g::r,_,0,f,⟨v,t,e,h1,h2⟩,q=>by subst e;cases(show U g=U f by simpa using q);exact⟨v,Y,h1⟩
 |g::r,_,j+1,f,⟨v,t,e,h1,h2⟩,q=>by subst e;simpa using d5.get h2 (show r[j]?=U f by simpa using q)
theorem VW{x:DV}{v:V}{K:FV->aN->Prop}(S:SR F ad δ σ H)(V:dG F ad x v)(h:aW x δ K):∃f δ' F',K f δ'/\Ext F ad δ.mu H F' ad δ'.mu H/\SR F' ad δ' σ H/\i5 F' f v:=by
 cases x with
 |w a=>exact⟨_,_,F,h,.refl,S,V⟩
 |p d=>let⟨d,δ',F',h1,h2,h3,h4⟩:=sy S V (show lN (.p d) δ (λd δ1=>K (.p d) δ1) from h);exact⟨_,_,F',h1,h2,h3,h4⟩
 |o k=>let⟨d,δ',F',h1,h2,h3,h4⟩:=sy S V (show lN (.o k) δ (λd δ1=>K (.p d) δ1) from h);exact⟨_,_,F',h1,h2,h3,h4⟩
 |u _ _=>exact h.elim
 |t _ _=>calc h.elim
theorem Ll:∀{xs:-DV}{vs:-V}{F:Hp}{δ:aN}{K:-FV->aN->Prop},SR F ad δ σ H->cG F ad xs vs->aw xs δ K->∃fs δ' F',K fs δ'/\Ext F ad δ.mu H F' ad δ'.mu H/\SR F' ad δ' σ H/\d5 F' fs vs
 |[],_,F,δ,K,S,V,h=>⟨[],δ,F,h,.refl,S,V⟩
 |x::xs,_,F,δ,K,S,⟨v,r,e,V1,V2⟩,h=>by
  subst e;let⟨f,δ1,F1,h1,E1,S1,i1⟩:=VW S V1 h;let⟨fs,δ2,F2,h2,E2,S2,i2⟩:=Ll S1 (V2.ext E1) h1;calc⟨f::fs,δ2,F2,h2,E1.trans E2,S2,v,r,Y,i5.same E2.same _ _ i1,i2⟩
variable{X:Cx}{a b e:l}{es:-l}{f g:WE}{fa:WA}{pos:y}
theorem VX{F1 H1:Hp}{bp:-O}{δ1:aN}{t:Bool}{K:DV->aN->Prop}{Q:VK}{xs:-DV}{vs:-V}(k:∀x δ',K x δ'->∀v F' aL H',Ext F ad δ.mu H F' aL δ'.mu H'->SR F' aL δ' σ H'->dG F' aL x v->Q v H')(h1:aw xs δ1 λfs δ2=>fs.length<=1000/\K (.u t fs) δ2)(E1:Ext F ad δ.mu H F1 bp δ1.mu H1)(S1:SR F1 bp δ1 σ H1)(V1:cG F1 bp xs vs):↑vs<=sizeLine/\∀p,H1 p=Z->Q (.ref p) (upd H1 p (kS t vs)):=by
 let⟨fs,δ2,F2,⟨hl,h2⟩,E2,S2,i2⟩:=Ll S1 V1 h1;calc⟨kW (by rw[↑i2];calc hl),λp hp=>?_⟩;let sm:bc H1 (upd H1 p (kS t vs)):=cK hp;calc k _ _ h2 _ _ _ _ ((E1.trans E2).trans (Ext.al S2 sm)) (S2.al sm) ?_;rw[Nw.upd S2.sub hp];calc⟨p,vs,Y,cA,i2.same λb o e=>by rw[bE (dY (S2.sub b o e) hp)];calc e⟩
theorem VY{x1}(ha:JA X es (cy fa)):JE X (.Tuple es x1 pos) (tD (aX θ fa)):=(Bh ha).weak fun σ H Q ⟨F,ad,δ,K,S,q,k⟩ ↦
 ⟨F,ad,δ,_,S,q,λxs δ1 h1 vs F1 bp H1 E1 S1 V1=>VX (t:=true) k h1 E1 S1 V1⟩
end
end L2
namespace LJ
open PySem L2 PySem.Spec PySem.W PyProof.Rows
structure Ev where
 P:t
 w:S
 K:My
 mg:J->Option L
 base:I
section
variable[bf]
structure Fx(V:Ev)(k:Nat)(x:J)(ps:-J)(n:Nat)(G:GD):Prop where
 ex:∃f fd,Fn V.P V.w V.K V.mg V.base k x ps (lQ G n) f fd
def Dx(V:Ev)(x:J)(st:R):Prop:=∃f fd,V.mg x=U (.ref f)/\gx V.K x x st f fd
def zC(V:Ev)(x:J)(st:R)(T:O)(pos:y)(q:J):Prop:=∃f fd,(V.mg x=U (.ref f)/\gx V.K x x st f fd)/\ir V.mg V.base fd T pos q
def Ct(V:Ev)(x:J)(i:Int):Prop:=∃u,V.mg x=U u/\RelV (.int i) u
section
variable{X:Cx}{x:J}{ps:-J}{G:GD}{e:l}{es:-l}{fa:WA}{p pos:y}{j k n:Nat}
theorem cJ(F:Fx ⟨X.prog,X.w,X.K,X.mg,X.base⟩ j x ps n G)(hr:bB k X.A)(ha:JA X (e::es) (cy fa))(hj:q41 j k=θ:=by rfl)(hg:Gl X x:=by rfl)(c8:b7 x:=by decide)(he:cI X e es:=by rfl)(cX:cS X pos es:=by rfl):
  JE X (.Call (.Name x p) (e::es) [] pos) (tD (aJ n G fa)):=let⟨_,_,F⟩:=F.ex;RS F.ok (hr.mono (q1u hj)) hg F.t7 F.kp F.bd ha c8 he cX
theorem VZ(F:Fx ⟨X.prog,X.w,X.K,X.mg,X.base⟩ j x ps n G)(hr:bB k X.A)(ha:JA X (e::es) (cy fa))(hj:q41 j k=θ:=by rfl)(hg:Gl X x:=by rfl)(c8:b7 x:=by decide)(he:cI X e es:=by rfl)(cX:cS X pos es:=by rfl):
  JE X (.Call (.Name x p) (e::es) [] pos) (tD (wc n G fa)):=let⟨_,_,F⟩:=F.ex;RT F.ok (hr.mono (q1u hj)) hg F.t7 F.kp F.bd ha c8 he cX
theorem V0{i:Int}(C:Ct ⟨X.prog,X.w,X.K,X.mg,X.base⟩ x i)(hg:Gl X x:=by rfl)(hd:b7 x:=by decide):JE X (.Name x pos) (tD (dC (.int i))):=let⟨_,a,b⟩:=C;RD hg a b hd
end
theorem _root_.L2.ir.env{mg:J->Option ν}{base:I}{fd:FuncData}{T:O}{lp:y}{q:J}{bJ:ν}(L:ir mg base fd T lp q)(h:fd.code=bJ):∃cc,bJ=.ref cc/\CodeHd base cc T:=let⟨cc,e1,e2⟩:=L.code;⟨cc,h.symm.trans e1,e2⟩
noncomputable def V6:NameKind->Bool
 |.local=>θ
 |.cell=>θ
 |_=>ι
noncomputable def V7:NameKind->Bool
 |.free=>ι
 |_=>θ
noncomputable def V8:ScopeKind->Bool
 |.function=>θ
 |_=>ι
noncomputable def tH(N P:-J)(sc:a):Bool:=V8 sc.kind && !sc.isCoroutine && !sc.isGenerator&&G N.Nodup&&G (N.take ↑P=P)&&(P.all λx=>match sc.names.lookup x with
 |some k=>V6 k
 |none=>ι)&&sc.names.all λy=>V7 y.2
theorem fU{N P:-J}{sc:a}(h:tH N P sc=θ):oF N P sc:=by
 unfold tH at h;erw[q0L,q3m,q0y,q1V] at h;let⟨⟨⟨⟨⟨⟨h1,h2⟩,h3⟩,h4⟩,h5⟩,h6⟩,h7⟩:=h;refine⟨?_,h2,h3,h4,h5,λx hx=>?_,λy hy z=>?_⟩
 .cases q:sc.kind<;>rw[q] at h1<;>first|rfl|cases h1
 .let:=h6 x hx
  split at this
  .rename_i k e
   rw[e];cases k<;>first|exact .inl Y|exact .inr Y|cases this
  .cases this
 .let:=h7 y hy
  rw[z] at this;cases this
def iw(x:J)(st:R)(ps:-J):Prop:=∀(kV doc pm:L)(an:Option O)(bJ ct:L)(us:-L),↑us=↑ps->bindArgs (q1a x x (jx st) (fZ st) (cM st) .none kV doc pm an bJ ct) ⟨us,[]⟩=pure (ps.zip us)
section
theorem EH{us:-L}(h:↑us=1):∃a,us=[a]:=List.length_eq_one_iff.mp h
theorem EI{us:-L}(h:↑us=2):∃a b,us=[a,b]:=by
 cases us with
 |nil=>cases h
 |cons a r=>let⟨b,rfl⟩:=EH (q6y h);calc⟨a,b,Y⟩
theorem Lm{us:-L}(h:↑us=3):∃a b c,us=[a,b,c]:=by
 cases us with
 |nil=>cases h
 |cons a r=>let⟨b,c,rfl⟩:=EI (q6y h);calc⟨a,b,c,Y⟩
theorem V9{us:-L}(h:↑us=4):∃a b c d,us=[a,b,c,d]:=by
 cases us with
 |nil=>cases h
 |cons a r=>let⟨b,c,d,rfl⟩:=Lm (q6y h);calc⟨a,b,c,d,Y⟩
theorem qc{x:J}{st:R}{ps:-J}(h:∀(kV doc pm:L) (an:Option O) (bJ ct a:L),bindArgs (q1a x x (jx st) (fZ st) (cM st) .none kV doc pm an bJ ct) ⟨[a],[]⟩=pure (ps.zip [a]):=by intros;rfl)(hl:↑ps=1:=by rfl):iw x st ps:=λkV doc pm an bJ ct us hu=>by
 let⟨a,rfl⟩:=EH (hu.trans hl);calc h kV doc pm an bJ ct a
theorem iP{x:J}{st:R}{ps:-J}(h:∀(kV doc pm:L) (an:Option O) (bJ ct a b:L),bindArgs (q1a x x (jx st) (fZ st) (cM st) .none kV doc pm an bJ ct) ⟨[a,b],[]⟩=pure (ps.zip [a,b]):=by intros;rfl)(hl:↑ps=2:=by rfl):iw x st ps:=λkV doc pm an bJ ct us hu=>by
 let⟨a,b,rfl⟩:=EI (hu.trans hl);calc h kV doc pm an bJ ct a b
theorem jk{x:J}{st:R}{ps:-J}(h:∀(kV doc pm:L) (an:Option O) (bJ ct a b c:L),bindArgs (q1a x x (jx st) (fZ st) (cM st) .none kV doc pm an bJ ct) ⟨[a,b,c],[]⟩=pure (ps.zip [a,b,c]):=by intros;rfl)(hl:↑ps=3:=by rfl):iw x st ps:=λkV doc pm an bJ ct us hu=>by
 let⟨a,b,c,rfl⟩:=Lm (hu.trans hl);calc h kV doc pm an bJ ct a b c
theorem Ln{x:J}{st:R}{ps:-J}(h:∀(kV doc pm:L) (an:Option O) (bJ ct a b c d:L),bindArgs (q1a x x (jx st) (fZ st) (cM st) .none kV doc pm an bJ ct) ⟨[a,b,c,d],[]⟩=pure (ps.zip [a,b,c,d]):=by intros;rfl)(hl:↑ps=4:=by rfl):iw x st ps:=λkV doc pm an bJ ct us hu=>by
 let⟨a,b,c,d,rfl⟩:=V9 (hu.trans hl);calc h kV doc pm an bJ ct a b c d
variable{V:Ev}{x:J}{st:R}{N ps:-J}{k:Nat}{G:GD}
theorem eC(D:Dx V x st)(bd:iw x st ps)(h:∀{bJ:L} {A:o} {outer:-X} {s:ο} {H:Hp} {E:XK} {f:O},bB k (A.deeper (envOfC x (cM st) ⇑s f bJ))->N.Nodup->(A.deeper (envOfC x (cM st) ⇑s f bJ)).units+64<cLine →
   ∃B:WS,dM (fz eZ V.P V.w V.K V.mg V.base N x (cM st) f bJ A outer s H E).lG (fZ st) (dU B)/\∀ys aB K',↑ys=↑ps->G ys aB K'->B (jT ↑aB K') ⟨ys.map U++q0h (↑N-↑ps) Z,aB.map U⟩)(sc:tH N ps (cM st)=θ:=by decide +kernel):Fx V (k+1) x ps ↑ps G :=
 let⟨f,fd,a,F⟩:=D
 ⟨f,fd,F.RN (fU sc) λbJ A outer s H E hr=>h hr (fU sc).nd hr.units,a,F.kp,F.binds bd⟩
theorem V_{T:O}{lp:y}{q:J}(D:zC V x st T lp q)(bd:iw x st ps)(h:∀{bJ:L} {A:o} {outer:-X} {s:ο} {H:Hp} {E:XK} {f:O} {fd:FuncData},ir V.mg V.base fd T lp q->fd.code=bJ->bB k (A.deeper (envOfC x (cM st) ⇑s f bJ))->N.Nodup->(A.deeper (envOfC x (cM st) ⇑s f bJ)).units+64<cLine →
   ∃B:WS,dM (fz eZ V.P V.w V.K V.mg V.base N x (cM st) f bJ A outer s H E).lG (fZ st) (dU B)/\∀ys aB K',↑ys=↑ps->G ys aB K'->B (jT ↑aB K') ⟨ys.map U++q0h (↑N-↑ps) Z,aB.map U⟩)(sc:tH N ps (cM st)=θ:=by decide +kernel):Fx V (k+1) x ps ↑ps G :=
 let⟨f,fd,⟨a,F⟩,LD⟩:=D
 ⟨f,fd,F.DR (fU sc) λbJ A outer s H E hc hr=>h LD hc hr (fU sc).nd hr.units,a,F.kp,F.binds bd⟩
end
end
section
variable{K:My}{h:I}{mg:J->Option L}
def Dk(K:My)(x:J)(st:R):Prop:=∃f fd,q1R K mainGlobals x=U (U (.ref f))/\gx K x x st f fd
inductive iy (K:My):-(J×R)->Prop
 |nil:iy K []
 |cons {x st r}:Dk K x st->iy K r->iy K ((x,st)::r)
theorem EJ{x:J}{st:R}{r:-(J×R)}{f:O}{od an:Option O}{sl:Array (Option L)}{oc kV dc pm cd ct:L}(a:q1R K mainGlobals x=U (U (.ref f)))(l:K.lookup f=U ⟨oc,od,.func (q1a x x (jx st) (fZ st) (cM st) .none kV dc pm an cd ct),sl⟩)(q:q2U K cd x=θ)(k:q0_ K (.ref f)=θ)(h:iy K r):iy K ((x,st)::r) :=
 .cons ⟨f,_,a,yf l q k⟩ h
theorem iy.at{ds:-(J×R)}(h:iy K ds)(i:Nat){x:J}{st:R}(e:ds[i]?=U (x,st)):Dk K x st:=by
 induction h generalizing i with
 |nil=>cases e
 |cons d _ ih=>cases i with
  |zero=>cases e;exact d
  |succ i=>calc ih i e
def zD(K:My)(x:J)(st:R)(T:O):Prop:=∃f fd,(q1R K mainGlobals x=U (U (.ref f))/\gx K x x st f fd)/\∃cc,fd.code=.ref cc/\q6N K cc T=θ
inductive fH (K:My):-(J×R×O)->Prop
 |nil:fH K []
 |cons {x st T r}:zD K x st T->fH K r->fH K ((x,st,T)::r)
theorem xt{x:J}{st:R}{T:O}{r:-(J×R×O)}{f cc:O}{od an:Option O}{sl:Array (Option L)}{oc kV dc pm ct:L}(a:q1R K mainGlobals x=U (U (.ref f)))(l:K.lookup f=U ⟨oc,od,.func (q1a x x (jx st) (fZ st) (cM st) .none kV dc pm an (.ref cc) ct),sl⟩)(q:q2U K (.ref cc) x=θ)(k:q0_ K (.ref f)=θ)(c:q6N K cc T=θ)(h:fH K r):fH K ((x,st,T)::r) :=
 .cons ⟨f,_,⟨a,yf l q k⟩,cc,Y,c⟩ h
theorem fH.at{ds:-(J×R×O)}(h:fH K ds)(i:Nat){x:J}{st:R}{T:O}(e:ds[i]?=U (x,st,T)):zD K x st T:=by
 induction h generalizing i with
 |nil=>cases e
 |cons d _ ih=>cases i with
  |zero=>cases e;exact d
  |succ i=>calc ih i e
theorem fH.code{ds:-(J×R×O)}(h:fH K ds){hp:I}(X:K.In hp):∀T∈ds.map (·.2.2),∃cc,q7A hp cc T:=by
 induction h with
 |nil=>ext T hT;exact nomatch hT
 |cons d _ ih =>
  ext T hT;rcases Qu.mp hT with rfl|hT
  .let⟨_,_,_,cc,_,e⟩:=d
   exact⟨cc,q5J X e⟩
  .calc ih T hT
theorem Wa{x:J}{r:-J}(a:q1R K mainGlobals x=U Z)(h:∀y∈r,q1R K mainGlobals y=U Z):∀y∈x::r,q1R K mainGlobals y=U Z:=λy hy=>by
 rcases Qu.mp hy with rfl|hy
 .exact a
 .calc h y hy
theorem Wb{ls:-mX}(nd:(ls.map (·.T)).Nodup):∀{a b:mX},a∈ls->b∈ls->a.T=b.T->a=b:=by
 induction ls with
 |nil=>ext a b ha;exact nomatch ha
 |cons c r ih =>
  ext a b ha hb e;rw[q0r,q2u] at nd;rcases Qu.mp ha with rfl|ha'<;>rcases Qu.mp hb with rfl|hb'
  .rfl
  .exact absurd (q0q.mpr ⟨b,hb',e.symm⟩) nd.1
  .exact absurd (q0q.mpr ⟨a,ha',e⟩) nd.1
  .calc ih nd.2 ha' hb' e
theorem Dk.v{P:t}{w:S}{base:I}{x:J}{st:R}(d:Dk K x st)(X:K.In h)(G:h.Ns mainGlobals mg):Dx ⟨P,w,K,mg,base⟩ x st :=
 let⟨f,fd,a,F⟩:=d
 ⟨f,fd,q25 X G a,F⟩
theorem zD.v{P:ψ}{w:S}{base:I}{x:J}{st:R}{ls:-mX}{C:CC}{T:O}{lp:y}{q:J}(d:zD K x st T)(X:K.In h)(G:h.Ns mainGlobals mg)(KB:K.In base)(hB:∀t∈ls,base.BuiltinsAt mg t.T)(nd:(ls.map (·.T)).Nodup)(ng:∀t∈ls,mainGlobals≠t.T)(hl:⟨T,lp,q⟩∈ls):@zC (gr ls C) ⟨P,w,K,mg,base⟩ x st T lp q :=
 let⟨f,fd,⟨a,F⟩,cc,e1,e2⟩:=d
 letI:bf:=gr ls C
 ⟨f,fd,⟨q25 X G a,F⟩,⟨cc,e1,q5J KB e2⟩,ng _ hl,hB _ hl,T6 hl λa ha b hb e=>Wb nd ha hb e⟩
def Ck(K:My)(x:J)(i:Int):Prop:=∃u,q1R K mainGlobals x=U (U u)/\RelV (.int i) u
theorem Ck.v{P:t}{w:S}{base:I}{x:J}{i:Int}(d:Ck K x i)(X:K.In h)(G:h.Ns mainGlobals mg):Ct ⟨P,w,K,mg,base⟩ x i :=
 let⟨u,a,r⟩:=d
 ⟨u,q25 X G a,r⟩
noncomputable def EK:-J:=["len", "range", "list", "tuple", "set", "sorted", "min", "max", "sum", "all", "any", "enumerate", "zip", "isinstance", "int", "bool", "str", "repr"]
theorem Wc(X:K.In h)(G:h.Ns mainGlobals mg)(N:∀x∈EK,q1R K mainGlobals x=U Z):BT mg :=
 have n:∀i x,EK[i]?=U x->mg x=Z:=λi x e=>PySem.W.mg_none_of X G (N x (q0S e))
 ⟨n 0 _ Y,n 1 _ Y,n 2 _ Y,n 3 _ Y,n 4 _ Y,n 5 _ Y,n 6 _ Y,n 7 _ Y,n 8 _ Y,n 9 _ Y,n 10 _ Y,n 11 _ Y,n 12 _ Y,n 13 _ Y,n 14 _ Y,n 15 _ Y,n 16 _ Y,n 17 _ Y⟩
end
section
variable[bf]
structure Kx(K:My)(C:O)(fs:-J):Prop where
 c:iW K C
 n:∀f∈fs,cU K C f
theorem Kx.at{K:My}{C:O}{fs:-J}(h:Kx K C fs)(f:J)(e:fs.contains f=θ:=by rfl):cU K C f:=h.n f (q5c.mp e)
structure Fk(V:Ev)(C:O)(k:Nat)(m:J)(ps:-J)(n:Nat)(G:GK):Prop where
 ex:∃f fd,Meth V.K C m f/\cf V.P V.w V.K V.mg V.base eZ k f fd ps (lq G n)/\Binds V.K fd ps []
structure Fq(V:Ev)(k:Nat)(x:J)(ps:-J)(n:Nat)(G:GK):Prop where
 ex:∃f fd,Fn V.P V.w V.K V.mg V.base k x ps (lq G n) f fd
structure Fc(V:Ev)(C:O)(k:Nat)(x:J)(ps:-J)(n:Nat)(G:GK):Prop where
 ex:∃f fd,V.mg x=U (.ref C)/\Mk V.K C f/\cf V.P V.w V.K V.mg V.base eZ k f fd ps (lq G n)/\Binds V.K fd ps []
def Dm(V:Ev)(C:O)(m q:J)(st:R):Prop:=∃f fd,Meth V.K C m f/\gx V.K m q st f fd
def Dc(V:Ev)(C:O)(x q:J)(st:R):Prop:=∃f fd,(V.mg x=U (.ref C)/\Mk V.K C f)/\gx V.K "__init__" q st f fd
section
variable{X:Cx}{C:O}{x m:J}{ps:-J}{G:GK}{e o:l}{es:-l}{fa:WA}{fo:WE}{p pos apos:y}{j k n:Nat}
theorem gu(r:Bool)(F:Fq ⟨X.prog,X.w,X.K,X.mg,X.base⟩ j x ps n G)(hr:bB k X.A)(ha:JA X (e::es) (cy fa))(hj:q41 j k=θ:=by rfl)(hg:Gl X x:=by rfl)(c8:b7 x:=by decide)(he:cI X e es:=by rfl)(cX:cS X pos es:=by rfl):
  JE X (.Call (.Name x p) (e::es) [] pos) (tD (aE r n G fa)):=let⟨_,_,F⟩:=F.ex;VA r F.ok (hr.mono (q1u hj)) hg F.t7 F.kp F.bd ha c8 he cX
theorem EL(F:Fc ⟨X.prog,X.w,X.K,X.mg,X.base⟩ C j x ps n G)(hr:bB k X.A)(ha:JA X (e::es) (cy fa))(hj:q41 (j+1) k=θ:=by rfl)(hg:Gl X x:=by rfl)(c8:b7 x:=by decide)(he:cI X e es:=by rfl)(cX:cS X pos es:=by rfl):
  JE X (.Call (.Name x p) (e::es) [] pos) (tD (aH C n G fa)):=let⟨_,_,a,M,F,B⟩:=F.ex;VF M F (hr.mono (q1u hj)) hg a B ha c8 he cX
theorem xu {pl:x1s Bool} (r:Bool) (c:iW X.K C) (F:Fk ⟨X.prog,X.w,X.K,X.mg,X.base⟩ C j m ps n G) (hr:bB k X.A) (ho:JE X o (tD fo)) (ha:JA X (e :: es) (cy fa)) (hj:q41 j k=θ:=by rfl)
  (jE:cI X e es:=by rfl) (cX:cS X pos es:=by rfl)
  (ht:eval (.Call (.Attribute o m apos) (e :: es) [] pos) X.env=(do
   let ov <- eval o X.env
   standAt apos.atName
   let (f,first) <- holding [ov] (getMethod ov m pl)
   callWith pos f first (backTo pos (starEach (e :: es) X.env)) (backToKw pos (keywordEach [] X.env))):=by rfl) :
  JE X (.Call (.Attribute o m apos) (e :: es) [] pos) (tD (aF r C m n G fo fa)):=let ⟨_,_,M,F,B⟩:=F.ex; VC r c M F (hr.mono (q1u hj)) B ho ha jE cX ht
theorem Wd {pl:x1s Bool} (r:Bool) (c:iW X.K C) (F:Fk ⟨X.prog,X.w,X.K,X.mg,X.base⟩ C j m ps n G) (hr:bB k X.A) (ho:JE X o (tD fo)) (hj:q41 j k=θ:=by rfl)
  (ht:eval (.Call (.Attribute o m apos) [] [] pos) X.env=(do
   let ov <- eval o X.env
   standAt apos.atName
   let (f,first) <- holding [ov] (getMethod ov m pl)
   callWith pos f first (backTo pos (starEach [] X.env)) (backToKw pos (keywordEach [] X.env))):=by rfl) :
  JE X (.Call (.Attribute o m apos) [] [] pos) (tD (aF r C m n G fo ah)):=let ⟨_,_,M,F,B⟩:=F.ex; VD r c M F (hr.mono (q1u hj)) B ho ht
end
def qd(x q:J)(st:R)(ps:-J):Prop:=∀(kV doc pm:L)(an:Option O)(bJ ct:L)(us:-L),↑us=↑ps->bindArgs (q1a x q (jx st) (fZ st) (cM st) .none kV doc pm an bJ ct) ⟨us,[]⟩=pure (ps.zip us)
theorem We{x q:J}{st:R}{ps:-J}(h:∀(kV doc pm:L) (an:Option O) (bJ ct a:L),bindArgs (q1a x q (jx st) (fZ st) (cM st) .none kV doc pm an bJ ct) ⟨[a],[]⟩=pure (ps.zip [a]):=by intros;rfl)(hl:↑ps=1:=by rfl):qd x q st ps:=λkV doc pm an bJ ct us hu=>by
 let⟨a,rfl⟩:=EH (hu.trans hl);calc h kV doc pm an bJ ct a
theorem EM{x q:J}{st:R}{ps:-J}(h:∀(kV doc pm:L) (an:Option O) (bJ ct a b:L),bindArgs (q1a x q (jx st) (fZ st) (cM st) .none kV doc pm an bJ ct) ⟨[a,b],[]⟩=pure (ps.zip [a,b]):=by intros;rfl)(hl:↑ps=2:=by rfl):qd x q st ps:=λkV doc pm an bJ ct us hu=>by
 let⟨a,b,rfl⟩:=EI (hu.trans hl);calc h kV doc pm an bJ ct a b
section
variable{V:Ev}{C:O}{x m q:J}{st:R}{N ps:-J}{k:Nat}{G:GK}
abbrev EN(V:Ev)(N ps:-J)(q:J)(st:R)(k:Nat)(G:GK):Prop:=∀{bJ:L}{A:o}{outer:-X}{s:ο}{H:Hp}{E:XK}{f:O},bB k (A.deeper (envOfC q (cM st) ⇑s f bJ))->N.Nodup->(A.deeper (envOfC q (cM st) ⇑s f bJ)).units+64<cLine →
   ∃B:WS,dM (fz eZ V.P V.w V.K V.mg V.base N q (cM st) f bJ A outer s H E).lG (fZ st) (dU B)/\∀ys aB K',↑ys=↑ps->G ys aB K'->B (ae ↑aB K') ⟨ys.map U++q0h (↑N-↑ps) Z,aB.map U⟩
theorem EO(D:Dm V C m q st)(bd:qd m q st ps)(h:EN V N ps q st k G)(sc:tH N ps (cM st)=θ:=by decide +kernel):Fk V C (k+1) m ps ↑ps G :=
 let⟨f,fd,a,F⟩:=D
 ⟨f,fd,a,F.Et (fU sc) λbJ A outer s H E hr=>h hr (fU sc).nd hr.units,F.binds bd⟩
theorem Wf(D:Dc V C x q st)(bd:qd "__init__" q st ps)(h:EN V N ps q st k G)(sc:tH N ps (cM st)=θ:=by decide +kernel):Fc V C (k+1) x ps ↑ps G :=
 let⟨f,fd,a,F⟩:=D
 ⟨f,fd,a.1,a.2,F.Et (fU sc) λbJ A outer s H E hr=>h hr (fU sc).nd hr.units,F.binds bd⟩
theorem nq(D:Dx V x st)(bd:iw x st ps)(h:EN V N ps x st k G)(sc:tH N ps (cM st)=θ:=by decide +kernel):Fq V (k+1) x ps ↑ps G :=
 let⟨f,fd,a,F⟩:=D
 ⟨f,fd,F.Et (fU sc) λbJ A outer s H E hr=>h hr (fU sc).nd hr.units,a,F.kp,F.binds bd⟩
end
end
inductive iz (K:My) (C:O):-(J×J×R)->Prop
 |nil:iz K C []
 |cons {m q st r}:(∃f fd,Meth K C m f/\gx K m q st f fd)->iz K C r->iz K C ((m,q,st)::r)
theorem allM{K:My}{C:O}{m q:J}{st:R}{r:-(J×J×R)}{f:O}{od an:Option O}{sl:Array (Option L)}{oc kV dc pm cd ct:L}(a:q1z K (.ref C) m=U (U (.ref f)))(i:q4T K (.ref f)=θ)(l:K.lookup f=U ⟨oc,od,.func (q1a m q (jx st) (fZ st) (cM st) .none kV dc pm an cd ct),sl⟩)(c:q2U K cd q=θ)(k:q0_ K (.ref f)=θ)(h:iz K C r):iz K C ((m,q,st)::r) :=
 .cons ⟨f,_,⟨a,i,k⟩,yf l c k⟩ h
theorem iz.at{K:My}{C:O}{ds:-(J×J×R)}(h:iz K C ds)(i:Nat){m q:J}{st:R}(e:ds[i]?=U (m,q,st)):∃f fd,Meth K C m f/\gx K m q st f fd:=by
 induction h generalizing i with
 |nil=>cases e
 |cons d _ ih=>cases i with
  |zero=>cases e;exact d
  |succ i=>calc ih i e
end LJ
namespace L2
open PySem PySem.Spec PyProof.Rows
variable[bf]
theorem Wg{X:Cx}{x:J}{p pos:y}{G:GK}{k:Nat}{g:O}{fd:FuncData}{ps:-J}(o:Bool)(Fn:cf X.prog X.w X.K X.mg X.base eZ k g fd ps (lq G 0))(hr:bB k X.A)(hg:Gl X x)(hm:X.mg x=U (.ref g))(hk:q0_ X.K (.ref g)=θ)(hb:Binds X.K fd ps [])
  (c8:b7 x:=by decide) :
  JE X (.Call (.Name x p) [] [] pos) (tD (aE o 0 G ah)):=(PM Fn hr hg hm hk hb .nil oP c8).weak fun σ H Q ⟨F,ad,δ,K,S,q,kk⟩↦xo (xs:=[]) (vs:=[]) kk (show tE o 0 G [] δ K from q) .refl S Y
end L2
namespace LJ
open PySem L2 PySem.Spec PySem.W PyProof.Rows
variable[bf]
theorem Lo{X:Cx}{x:J}{ps:-J}{G:GK}{p pos:y}{j k:Nat}(r:Bool)(F:Fq ⟨X.prog,X.w,X.K,X.mg,X.base⟩ j x ps 0 G)(hr:bB k X.A)(hj:q41 j k=θ:=by rfl)(hg:Gl X x:=by rfl)(c8:b7 x:=by decide):
  JE X (.Call (.Name x p) [] [] pos) (tD (aE r 0 G ah)):=let⟨_,_,F⟩:=F.ex;Wg r F.ok (hr.mono (q1u hj)) hg F.t7 F.kp F.bd c8
theorem Wh{x:J}{st:R}{ps:-J}(h:∀(kV doc pm:L) (an:Option O) (bJ ct:L),bindArgs (q1a x x (jx st) (fZ st) (cM st) .none kV doc pm an bJ ct) ⟨[],[]⟩=pure (ps.zip []):=by intros;rfl)(hl:↑ps=0:=by rfl):iw x st ps:=λkV doc pm an bJ ct us hu=>by
 obtain rfl:=q1X.mp (hu.trans hl);calc h kV doc pm an bJ ct
end LJ
namespace LJ
open PySem L2
variable[bf]
inductive ER (ys:-DV) (aB:-OV) (K:RV->-OV->Prop):Prop
 |mk (m:Int) (ws:-Wy) (ns:-Int) (_:aY m ws) (_:Nums ws ns) (_:ys=[.p (bq m ws),.p (tupI ns)]) (_:aB=[]) (_:K (.p (bH (qY m ws ns))) [])
def ES:WS:=(aD (bj 2 (yS (aq (d2 (aa 0) (dC (.int 0)) bw) ah))) (aD (e8 (cq (aa 1)) (bQ 3) (aD (bj 4 (d2 (d2 (aa 0) (dC (.int 1)) bw) (aa 3) bw)) (bj 2 (aJ 3 Dy (aq (aa 2) (aq (d2 (aa 4) (dC (.int 0)) bw) (aq (d2 (aa 4) (dC (.int 1)) bw) ah))))))) (bh (aa 2))))
theorem Wi:Sem 2 3 ER ES:=by
 ext ys aB K'-⟨m,ws,ns,W,hn,rfl,rfl,k⟩;let m1:=W.m1;let iL:=W.iL;let il:↑(cj m.toNat)=m.toNat:=by unfold cj;simp
 let rg:dw 0 m.toNat=(cj m.toNat).map D.int:=wC m.toNat;unfold ES tupI;calc bt λN hN=>?_;simp![dm,bq];calc⟨⟨⋯,⋯⟩,?_⟩;subst hN;rw[rg];calc bt λN hN=>pB λg' b' K2 hg hb' hK=>?_;simp!;subst hg hb' hK;refine mO (λi δ=>δ=⟨[U (.p (.tup [.int m,.tup (ws.map bR)])),U (.p (.tup (ns.map D.int))),U (.p (.lst ((ip ws (cj m.toNat) (ns.take i)).map D.int))),Z,Z],[]⟩) Y ?_ ?_
 .ext j d δ L hj rfl hL
  rw[Qw] at hj;let⟨n,wV,rfl⟩:=q0f.mp hj;let⟨n0,n1⟩:=hn n (q0S wV);let⟨y,ey,hy,ea,i,k,e1,e2,h1,h2,_⟩:=qZ W n0 n1;calc⟨trivial,?_⟩;erw[bQ,q0Y,q0Z];calc bt λN2 mQ=>?_;simp![eF,ea];subst mQ;simp![dm,eF,bR];let hlen:↑(ip ws (cj m.toNat) (ns.take j))=m.toNat:=by rw[DA,il]
  refine⟨ip ws (cj m.toNat) (ns.take j),i,k,by rw[e1,e2];rfl,Y,⋯,⋯,⋯,?_⟩
  let ej:jW (ip ws (cj m.toNat) (ns.take j)) i k=ip ws (cj m.toNat) (ns.take (j+1)):=by
   let:ns.take (j+1)=ns.take j++[n]:=by rw[q3n,wV];rfl
   rw[this];unfold ip;rw[q6v];show _=jW _ (fg ws n).1 (fg ws n).2
   let:fg ws n=(i,k):=by
    unfold fg;rw[ey,e1,e2,q0x,q0x]
   rw[this]
  rw[ej];exact hL _ Y
 .ext δ rfl
  rw[BE,q1F (Im _)];calc⟨trivial,?_⟩;show N _;subst hN;simp!;calc cB k
inductive xv (ys:-DV) (aB:-OV) (K:RV->-OV->Prop):Prop
 |mk (m:Int) (ws:-Wy) (us:-Int) (h:Int) (_:aY m ws) (_:Nums ws us) (_:(0<=h/\h<m)) (_:ys=[.p (bq m ws),.p (tupI us),.p (.int h)]) (_:aB=[]) (_:K (.p (bH (bo m ws us h))) [])
def ET:WS:=(aD (bj 3 (aJ 2 ER (aq (aa 0) (aq (aa 1) ah)))) (bh (d9 (i_ (aq (aa 3) ah)) [Z,Z,U 3,U 2] (i8 2 (d7 (bQ 0) (d7 (bQ 1) iO))) (dT (d2 (aa 1) (d2 (aa 2) (aa 3) bw) oEq)) (aa 0))))
open Classical in
theorem Wj:Sem 3 1 xv ET:=by
 rintro ys aB K'-⟨m,ws,us,h,W,hu,hh,rfl,rfl,k⟩;have iL:=W.iL;obtain⟨i,rfl⟩:=q2J hh.1;have hi:i<m.toNat:=by symm
 unfold ET;refine bt λN hN=>?_;simp!;refine⟨m,ws,us,W,hu,rfl,rfl,?_⟩;have mo:=KC W hu;generalize qY m ws us=fs at mo;have a1:=sT (ns:=fs) (i:=i) (by rw[mo.1];exact hi);rw[show bH fs=.lst (fs.map D.int) from rfl];simp!;subst hN;simp!;refine L2.k6 (s_ λx=>decide (bG (g8 ws us) i x)) sZ (by rw[o9,BE,mo.1];symm) trivial ?_ ?_
 .intro d hd acc L' ha h1 h2
  obtain⟨z,hz⟩:=q0j.mp hd;obtain⟨e,z1,z2⟩:=o_ hz;rw[Qw] at z1;obtain⟨y,z3,rfl⟩:=q0f.mp z1;rw[q0G] at z2;subst z2;have zl:z<m.toNat:=by rw[<-mo.1];exact(Il.mp z3).1
  have ez:fs.getD z 0=y:=by rw[Qv,z3];rfl
  simp only[s_,sZ] at h1 h2;simp![a1];rw[w_]
  by_cases c:bG (g8 ws us) i z
  .rw[q0n (show y=fs.getD i 0 by rw[<-ez];exact((mo.2 i z hi zl).mpr c).symm)]
   simp!;exact⟨ha,h1 (q0n c)⟩
  .rw[q0e (show ¬ y=fs.getD i 0 fromλe=>c ((mo.2 i z hi zl).mp (by rw[<-e,ez])))]
   simp!;exact h2 (q0e c)
 .have e:=zp (λx=>decide (bG (g8 ws us) i x)) (fs.map D.int) 0
  have e2:(cls m.toNat (g8 ws us) i).map D.int=((q4j 0 (fs.map D.int).length).filter λk:Nat=>decide (bG (g8 ws us) i k)).map λk:Nat=>D.int k:=by
   unfold cls cj;rw[q17,q0I,BE,<-q2V,mo.1];rfl
  rw[<-e2] at e;rw[e];exact cB k
noncomputable def EU(t:Bool)(ns:-Int):D:=if t=θ then tupI ns else bH ns
inductive xw (ys:-DV) (aB:-OV) (K:RV->-OV->Prop):Prop
 |mk (t:Bool) (ns:-Int) (_:↑(gz ns)<60) (_:ys=[.p (EU t ns)]) (_:aB=[]) (_:K (.p (tupI (f7 ns))) [])
def EV:WS:=(bh (dN (aq (dN (aq (aa 0) ah) aO) ah) wA))
theorem Wk:Sem 1 0 xw EV:=by
 ext ys aB K'-⟨t,ns,h,rfl,rfl,k⟩;unfold EV;let e:↑(sortI (gz ns))<60:=by rw[JH];exact h
 cases t
 all_goals
  simp![af,ag,aG,toF,aF,aE,aH,aj,aI,FV.v,ae,oO,r_,ak,aP,aV,aQ,aR,aU,aS,ay,au,ar,aO,aX,aW,aw,ba,a_,aZ,sd,tV,EU,tupI,bH,n9];calc⟨h,?_⟩;calc cB k
inductive EW (ys:-DV) (aB:-OV) (K:RV->-OV->Prop):Prop
 |mk (m:Int) (ws:-Wy) (p k s l:-Int) (_:aY m ws) (_:↑p<=30) (_:k.length<=30) (_:↑l<=12) (_:ys=[.p (bq m ws),.p (fE p k s),.p (bH l)]) (_:aB=[]) (_:K (.p (.int (2*((↑l:Int)-1)+2*(↑(m_ ws (eQ ws p k) l):Int)))) [])
def EX:WS:=(aD (bj 3 (d2 (d2 (aa 1) (dC (.int 0)) bw) (d2 (aa 1) (dC (.int 1)) bw) dh)) (aD (bj 4 (d9 (mK (aq (dN (aq (d2 (aa 0) (dC (.int 1)) bw) ah) cw) ah)) [Z,U 3] (bQ 0) (dT (d2 (aa 0) (aa 1) (f6 θ))) (aa 0))) (aD (bj 5 (d9 (cq (aJ 2 zr (aq (aa 0) (aq (aa 4) ah)))) [Z,U 2] (bQ 0) (dT (d2 (aa 0) (aa 1) (f6 ι))) (aa 0))) (bh (d2 (d2 (dC (.int 2)) (d2 (dN (aq (aa 2) ah) cw) (dC (.int 1)) (oI λi j=>.int (i-j))) e_) (d2 (dC (.int 2)) (dN (aq (aa 5) ah) cw) e_) dh)))))
theorem Wl(ws:-Wy)(p k:-Int):Nums ws (eQ ws p k):=λn h=>DC (q0R.mp h).1
theorem Wm(ws:-Wy)(p k:-Int):↑(eQ ws p k)<=↑ws:=by
 let:=q0P (λn=>G (n∉p++k)) (cj ↑ws);rw[sV] at this;calc this
theorem Wn(ws:-Wy)(us:-Int):↑(m9 ws us)=↑us+↑us:=by unfold m9;rw[Qs,BE,BE]
noncomputable def qe(p:Int->Bool):D->Bool
 |.int n=>p n
 |_=>ι
theorem zE(p:Int->Bool)(us:-Int):((us.map D.int).filter (qe p)).map (λd=>d)=(us.filter p).map D.int:=by
 rw[List.map_id',q17];rfl
theorem Wo:Sem 3 3 EW EX:=by
 ext ys aB K'-⟨m,ws,p,k,s,l,W,hp,hk,hl,rfl,rfl,kk⟩;let k_:=W.iT;let d0:bV ((p++k).map D.int)=0:=g9 _;let d1:=g9 l;unfold EX;calc bt λN hN=>?_;simp![fE,tupI,dm,eF];calc⟨⋯,?_⟩;rw[<-q0w];subst hN;calc bt λN hN=>?_;simp![bq,eF];calc⟨⋯,?_⟩;rw[q0x,wC];refine L2.k6 (qe λn=>G (n∉p++k)) (λd=>d) (by rw[BE,sV];symm) trivial ?_ ?_
 .ext d hd acc L ha h1 h2
  let⟨n,hn,rfl⟩:=q0q.mp hd;erw[qe] at h1 h2;simp!;calc⟨⋯,?_⟩;rw[jf]
  by_cases c:n∈p++k
  .rw[q0n c];simp!;exact h2 (q0e (q4s c))
  .rw[q0e c];simp!;exact⟨ha,h1 (q0n c)⟩
 rw[zE];let un:=Wl ws p k;let ul:=Wm ws p k;rw[show(cj ↑ws).filter (λn=>G (n∉p++k))=eQ ws p k from Y];unfold m_ at kk;generalize eQ ws p k=us at un ul kk ⊢;subst hN;calc bt λN hN=>?_;simp!;calc⟨m,ws,us,W,un,⋯,Y,Y,?_⟩;rw[show bH (m9 ws us)=.lst ((m9 ws us).map D.int) from Y];simp![bH];let el:=Wn ws us;refine L2.k6 (qe λn=>G (n∈l)) (λd=>d) (by rw[BE];symm) trivial ?_ ?_
 .ext d hd acc L ha h1 h2
  let⟨n,hn,rfl⟩:=q0q.mp hd;erw[qe] at h1 h2;simp![d1];rw[jf]
  by_cases c:n∈l
  .rw[q0n c];simp!;exact⟨ha,h1 (q0n c)⟩
  .rw[q0e c];simp!;exact h2 (q0e c)
 rw[zE];subst hN;simp!;let fl:=q0P (λn=>G (n∈l)) (m9 ws us);calc⟨by unfold kK;symm,by unfold kK;symm,cB kk⟩
inductive EY (ys:-DV) (aB:-OV) (K:RV->-OV->Prop):Prop
 |mk (m:Int) (ws:-Wy) (l:-Int) (_:aY m ws) (_:ys=[.p (bq m ws),.p (bH l)]) (_:aB=[]) (_:K (.p (bH (p9 ws l))) [])
def EZ:WS:=(bh (d9 (i_ (aq (d2 (aa 0) (dC (.int 1)) bw) ah)) [Z,Z,U 1] (i8 2 (d7 (bQ 0) (d7 (bQ 1) iO))) (fQ (dT (d2 (d2 (aa 1) (dC (.int 0)) bw) (aa 2) (f6 ι))) (dT (d2 (d2 (aa 1) (dC (.int 1)) bw) (aa 2) (f6 ι)))) (aa 0)))
theorem Wq:Sem 2 0 EY EZ:=by
 ext ys aB K'-⟨m,ws,l,W,rfl,rfl,k⟩;let k_:=W.iT;let d0:=g9 l;unfold EZ;simp![bq,eF];refine L2.k6 (s_ λi=>G ((aK ws i).1∈l)&&G ((aK ws i).2.1∈l)) sZ (by rw[o9,BE];symm) trivial ?_ ?_
 .ext d hd acc L' ha h1 h2
  let⟨z,hz⟩:=q0j.mp hd;let⟨e,z1,z2⟩:=o_ hz;rw[Qw] at z1;let⟨y,z3,rfl⟩:=q0f.mp z1;rw[q0G] at z2;subst z2;let ew:aK ws (z:Int)=y:=by unfold aK;rw[q0x,Qv,z3];rfl
  erw[s_,sZ] at h1 h2;rw[ew] at h1 h2;simp![bH,bR,dm,eF];calc⟨⋯,?_⟩;rw[jf]
  by_cases c:y.1∈l
  .rw[q0n c] at h1 h2 ⊢
   simp!;calc⟨⋯,?_⟩;rw[jf]
   by_cases c2:y.2.1∈l
   .rw[q0n c2] at h1 h2 ⊢;simp!;exact⟨ha,h1 Y⟩
   .rw[q0e c2] at h1 h2 ⊢;simp!;exact h2 Y
  .rw[q0e c] at h1 h2 ⊢
   simp!;exact h2 Y
 .let e:=zp (λi=>G ((aK ws i).1∈l)&&G ((aK ws i).2.1∈l)) (ws.map bR) 0
  let e2:(p9 ws l).map D.int=((q4j 0 ↑(ws.map bR)).filter λk:Nat=>G ((aK ws (k:Int)).1∈l)&&G ((aK ws (k:Int)).2.1∈l)).map λk:Nat=>D.int k:=by
   unfold p9 cj;rw[q17,q0I,BE,<-q2V];rfl
  rw[<-e2] at e;rw[e];calc cB k
inductive E5 (ys:-DV) (aB:-OV) (K:RV->-OV->Prop):Prop
 |mk (m:Int) (ws:-Wy) (N:Nt) (h:Int) (_:aY m ws) (_:eI m ws N) (_:(0<=h/\h<m)) (_:ys=[.p (bq m ws),.p (fE N.p N.k N.s),.p (.int h)]) (_:aB=[]) (_:K (.p (.tup [oD (jh ws (bo m ws N.p h)),.int (xk m ws N.p N.k h),fE N.p (tj m ws N.p N.k h) N.s])) [])
def E6:WS:=(aD (bj 3 (aJ 3 xv (aq (aa 0) (aq (d2 (aa 1) (dC (.int 0)) bw) (aq (aa 2) ah))))) (aD (bj 4 (aJ 2 Ei (aq (aa 0) (aq (aJ 2 Eg (aq (aa 0) (aq (aa 3) ah))) ah)))) (aD (bj 5 (d9 (cq (aJ 2 EY (aq (aa 0) (aq (aa 3) ah)))) [Z,U 1] (bQ 0) (dT (d2 (aa 0) (d2 (aa 1) (dC (.int 0)) bw) (f6 θ))) (aa 0))) (aD (bj 6 (bW (aq (d2 (aa 1) (dC (.int 0)) bw) (aq (aJ 1 xw (aq (d2 (dN (aq (d2 (aa 1) (dC (.int 1)) bw) ah) wz) (aa 5) dh) ah)) (aq (d2 (aa 1) (dC (.int 2)) bw) ah))))) (bh (bW (aq (aa 4) (aq (aJ 3 EW (aq (aa 0) (aq (aa 1) (aq (aa 3) ah)))) (aq (aa 6) ah)))))))))
theorem Wr:Sem 3 4 E5 E6:=by
 ext ys aB K'-⟨m,ws,N,h,W,O,hh,rfl,rfl,k⟩;let k_:=W.iT;let pl:=O.pl W;let kl:=O.kl W;let ll:=uL W (p:=N.p) (h:=h);let d0:=g9 N.p
 let wl:↑(p9 ws (bo m ws N.p h))<=↑ws:=by
  let:=q0P (λn=>G ((aK ws n).1∈bo m ws N.p h)&&G ((aK ws n).2.1∈bo m ws N.p h)) (cj ↑ws);rw[sV] at this;exact this
 let nl:↑(jY ws (bo m ws N.p h) N.p)<=↑ws:=q0B (q0P _ _) wl
 let kr:∀x∈N.k++jY ws (bo m ws N.p h) N.p,0<=x/\x<(↑ws:Int):=λx hx=>by
  rcases q0z.mp hx with z|z
  .exact O.kn x z
  .exact (fq.mp z).1.1
 unfold E6;calc bt λM hM=>?_;simp![fE,dm];calc⟨m,ws,N.p,h,W,O.pn,hh,Y,Y,?_⟩;simp!;subst hM;calc bt λM hM=>?_;simp!;calc⟨m,ws,bo m ws N.p h,W,Y,Y,?_⟩;simp!
 let go:∀d,d=oD (jh ws (bo m ws N.p h))->M ⟨[U (.p (bq m ws)),U (.p (.tup [tupI N.p,tupI N.k,tupI N.s])),U (.p (.int h)),U (.p (bH (bo m ws N.p h))),U (.p d),Z,Z],[]⟩:=by
  ext d rfl;subst hM;calc bt λM hM=>?_;simp!;calc⟨m,ws,bo m ws N.p h,W,Y,Y,?_⟩;rw[show bH (p9 ws (bo m ws N.p h))=.lst ((p9 ws (bo m ws N.p h)).map D.int) from Y];simp!;refine L2.k6 (qe λn=>G (n∉N.p)) (λd=>d) (by rw[BE];symm) trivial ?_ ?_
  .ext d hd acc L ha h1 h2
   let⟨n,hn,rfl⟩:=q0q.mp hd;erw[qe] at h1 h2;simp![dm,tupI,d0];rw[jf]
   by_cases c:n∈N.p
   .rw[q0n c];simp!;exact h2 (q0e (q4s c))
   .rw[q0e c];simp!;exact⟨ha,h1 (q0n c)⟩
  rw[zE,show(p9 ws (bo m ws N.p h)).filter (λn=>G (n∉N.p))=jY ws (bo m ws N.p h) N.p from Y];subst hM;calc bt λM hM=>?_;simp![dm,eF,at2,tupI];calc⟨⋯,?_⟩;rw[<-q0w];calc⟨ι,N.k++jY ws (bo m ws N.p h) N.p,zt kr k_,Y,Y,?_⟩;simp!;subst hM;simp!;calc⟨m,ws,N.p,N.k,N.s,bo m ws N.p h,W,pl,kl,ll,Y,Y,?_⟩;simp!;exact cB k
 refine⟨m,ws,g_ ws (bo m ws N.p h),W,zq,Y,Y,λe=>?_,λn hn b=>?_⟩
 .refine go _ ?_
  unfold jh;rw[q0k e];rfl
 .refine go _ ?_
  unfold jh;rw[q0i (List.ne_nil_of_mem hn),KO W zq hn b];rfl
inductive E7 (ys:-DV) (aB:-OV) (K:RV->-OV->Prop):Prop
 |mk (m:Int) (ws:-Wy) (N:Nt) (w:Int) (_:aY m ws) (_:eI m ws N) (_:(0<=w/\w<(↑ws:Int))) (_:ys=[.p (bq m ws),.p (fE N.p N.k N.s),.p (.int w)]) (_:aB=[]) (_:K (.p (.tup [.int w,.int (1+Eo m ws N.p w),fE (f7 (N.p++[w])) N.k N.s])) [])
def E8:WS:=(aD (bj 3 (d9 (cq (aJ 2 zr (aq (aa 0) (aq (dS (aq (aa 2) ah)) ah)))) [Z,U 0,U 1] (bQ 0) du (dN (aq (aJ 3 xv (aq (aa 1) (aq (d2 (aa 2) (dC (.int 0)) bw) (aq (aa 0) ah)))) ah) cw))) (bh (bW (aq (aa 2) (aq (d2 (dC (.int 1)) (dN (aq (aa 3) ah) uK) dh) (aq (bW (aq (aJ 1 xw (aq (d2 (d2 (aa 1) (dC (.int 0)) bw) (bW (aq (aa 2) ah)) dh) ah)) (aq (d2 (aa 1) (dC (.int 1)) bw) (aq (d2 (aa 1) (dC (.int 2)) bw) ah)))) ah))))))
theorem Lp{a b x:Int}(h:x∈[a,b])(b1:∀y∈[a,b],x<=y):x=min a b:=by
 let h1:=b1 a (by simp);let h2:=b1 b (by simp);erw[Qu,q0s,q1v] at h;symm
theorem Ws:Sem 3 1 E7 E8:=by
 ext ys aB K'-⟨m,ws,N,w,W,O,hw,rfl,rfl,k⟩;let k_:=W.iT;let pl:=O.pl W;let⟨r1,r2⟩:=Es W hw
 let kr:∀x∈N.p++[w],0<=x/\x<(↑ws:Int):=λx hx=>by
  rcases q0z.mp hx with z|z
  .exact O.pn x z
  .rw[q0K.mp z];exact hw
 unfold E8;calc bt λM hM=>?_;simp!;calc⟨m,ws,[w],W,λn hn=>by rw[q0K.mp hn];calc hw,by show 1<=400;decide,Y,Y,?_⟩;rw[show bH (m9 ws [w])=.lst [.int (aK ws w).1,.int (aK ws w).2.1] from Y];simp!
 refine L2.kC (λd=>match d with|.int x=>.int (↑(bo m ws N.p x):Int)|_=>.non) (by show 2<=1000;decide) trivial ?_ ?_
 .ext d hd acc L ha h
  let⟨x,rx,rfl⟩:∃x:Int,(0<=x/\x<m)/\d=.int x:=by
   erw[Qu,q0s,q1v] at hd;rcases hd with rfl|rfl
   .exact⟨_,r1,Y⟩
   .exact⟨_,r2,Y⟩
  simp![fE,dm];calc⟨m,ws,N.p,x,W,O.pn,rx,Y,Y,?_⟩;simp![bH];exact⟨ha,h⟩
 simp!;subst hM;unfold bh bW;calc uB λK2 E9=>?_;simp!;subst E9;dsimp only;calc uB λK2 E9=>?_;simp![uK,intsOf];calc⟨by simp,λx hx b=>?_⟩;let ex:=Lp hx b;subst E9;simp![fE,dm,eF,at2,tupI];refine⟨⋯,θ,N.p++[w],zt kr k_,?_,Y,?_⟩
 .unfold EU tupI
  rw[q0w];rfl
 simp!;calc cB ?_;rw[ex];calc k
inductive E_ (ys:-DV) (aB:-OV) (K:RV->-OV->Prop):Prop
 |mk (m:Int) (ws:-Wy) (N:Nt) (h:Int) (_:aY m ws) (_:eI m ws N) (_:(0<=h/\h<m)) (_:ys=[.p (bq m ws),.p (fE N.p N.k N.s),.p (.int h)]) (_:aB=[]) (_:K (.p (.tup [.non,.int ((↑(bo m ws N.p h):Int)-1),fE N.p N.k (f7 (N.s++bo m ws N.p h))])) [])
def Fb:WS:=(aD (bj 3 (aJ 3 xv (aq (aa 0) (aq (d2 (aa 1) (dC (.int 0)) bw) (aq (aa 2) ah))))) (bh (bW (aq (dC .non) (aq (d2 (dN (aq (aa 3) ah) cw) (dC (.int 1)) (oI λi j=>.int (i-j))) (aq (bW (aq (d2 (aa 1) (dC (.int 0)) bw) (aq (d2 (aa 1) (dC (.int 1)) bw) (aq (aJ 1 xw (aq (d2 (dN (aq (d2 (aa 1) (dC (.int 2)) bw) ah) wz) (aa 3) dh) ah)) ah)))) ah))))))
theorem Wt:Sem 3 1 E_ Fb:=by
 ext ys aB K'-⟨m,ws,N,h,W,O,hh,rfl,rfl,k⟩;let iL:=W.iL;let sl:=O.sl W;let ll:=uL W (p:=N.p) (h:=h)
 let kr:∀x∈N.s++bo m ws N.p h,0<=x/\x<((m.toNat:Nat):Int):=λx hx=>by
  rcases q0z.mp hx with z|z
  .let:=O.sn x z;symm
  .let:=((lZ W).mp z).1;symm
 unfold Fb;calc bt λM hM=>?_;simp![fE,dm];calc⟨m,ws,N.p,h,W,O.pn,hh,Y,Y,?_⟩;rw[show bH (bo m ws N.p h)=.lst ((bo m ws N.p h).map D.int) from Y];simp!;subst hM;simp![dm,eF,at2,tupI];calc⟨⋯,?_⟩;rw[<-q0w];calc⟨ι,N.s++bo m ws N.p h,zt kr ⋯,Y,Y,?_⟩;simp!;calc cB k
inductive Fd (ys:-DV) (aB:-OV) (K:RV->-OV->Prop):Prop
 |mk (m:Int) (ws:-Wy) (N:Nt) (fo:Option Int) (h:Int) (_:aY m ws) (_:eI m ws N) (_:(0<=h/\h<m)) (_:(∀w,fo=U w->0<=w/\w<(↑ws:Int))) (_:ys=[.p (bq m ws),.p (fE N.p N.k N.s),.p (.int h),.p (oD fo)]) (_:aB=[]) (_:K (.p (.tup [oD (nh m ws N fo h).1,.int (nh m ws N fo h).2,fE (fR m ws N fo h).p (fR m ws N fo h).k (fR m ws N fo h).s])) [])
def Fe:WS:=(aD (bS (fQ (dT (d2 (aa 3) (dC .non) jc)) (dT (d2 (aa 2) (d2 (aa 1) (dC (.int 2)) bw) (f6 θ)))) (bh (aJ 3 E_ (aq (aa 0) (aq (aa 1) (aq (aa 2) ah))))) dZ) (aD (bS (fQ (dT (d2 (aa 3) (dC .non) wO)) (dT (d2 (aa 3) (d2 (aa 1) (dC (.int 0)) bw) (f6 θ)))) (bh (aJ 3 E7 (aq (aa 0) (aq (aa 1) (aq (aa 3) ah))))) dZ) (bh (bW (aq (dC .non) (aq (dC (.int 0)) (aq (aa 1) ah)))))))
theorem Wu:Sem 4 0 Fd Fe:=by
 ext ys aB K'-⟨m,ws,N,fo,h,W,O,hh,hw,rfl,rfl,k⟩;let d0:=g9 N.s;let d1:=g9 N.p;unfold Fe;unfold nh fR at k;calc bt λM hM=>?_;refine jC λA B hA hB=>?_
 cases fo with
 |none =>
  simp![oD,ie,fE,at2,tupI,d0];rw[jf];dsimp only at k
  by_cases c:h∈N.s
  .rw[q0n c]
   rw[q0k c,q0k c] at k;simp!;subst hB;show M _;subst hM;simp![ie,wu];exact cB k
  .rw[q0e c]
   rw[q0i c,q0i c] at k;simp!;subst hA;simp!;calc⟨m,ws,N,h,W,O,hh,Y,Y,?_⟩;simp!;exact cB k
 |some w =>
  simp![oD,ie];dsimp only at k;subst hB;show M _;subst hM;calc bt λM hM=>?_;calc jC λA2 B2 Wv Ww=>?_;simp![wu,fE,dm,tupI,d1];rw[jf]
  by_cases c:w∈N.p
  .rw[q0n c]
   rw[q0k c,q0k c] at k;simp!;subst Ww;show M _;subst hM;simp!;exact cB k
  .rw[q0e c]
   rw[q0i c,q0i c] at k;simp!;subst Wv;simp!;calc⟨m,ws,N,w,W,O,hw w Y,Y,Y,?_⟩;simp!;calc cB k
noncomputable def nO(C a b:O)(m:Int)(ws:-Wy)(N:Nt):OV:=.ins a C [("town",.p (bq m ws)),("latest",.p (fE N.p N.k N.s)),("begun",.p (.int (↑N.q:Int))),("going",.w b)]
noncomputable def gO(b:O)(N:Nt):OV:=.ac b (cx 0 N.q)
def Ff(C:O):GK:=λys aB K=>∃(a:O)(m:Int)(ws:-Wy),aY m ws/\ys=[.w a,.p (bq m ws)]/\aB=[.ins a C []]/\∀b,K (.p .non) [nO C a b m ws bU] [gO b bU]
def Fg(c_Night:O):WS:=(aD (ky (aJ 1 D0 (aq (aa 1) ah))) (aD (aG c_Night "town" (aa 1) (aa 0)) (aD (aG c_Night "latest" (dC (.tup [(.tup []),(.tup []),(.tup [])])) (aa 0)) (aD (aG c_Night "begun" (dC (.int 0)) (aa 0)) (aG c_Night "going" aR (aa 0))))))
theorem Wx(C:O):∀ys aB K',↑ys=2->Ff C ys aB K'->Fg C (ae ↑aB K') ⟨ys.map U++q0h 0 Z,aB.map U⟩:=by
 ext ys aB K'-⟨a,m,ws,W,rfl,rfl,k⟩;unfold Fg;calc bt λN hN=>?_;simp![af,ag,aG,toF,aF,aE,aH,aj,aI,FV.v,ae,oO,r_];calc⟨m,ws,W,Y,Y,?_⟩;simp![af,ag,aG,toF,aF,aE,aH,aj,aI,FV.v,ae,oO,r_];subst hN;calc bt λN hN=>?_;simp![af,ag,aG,toF,aF,aE,aH,aj,aI,FV.v,ae,oO,r_];calc⟨a,0,_,⟨Y,Y,by decide⟩,?_⟩;subst hN;calc bt λN hN=>?_;simp![af,ag,aG,toF,aF,aE,aH,aj,aI,FV.v,ae,oO,r_];calc⟨a,0,_,⟨Y,Y,by show 1<1000;decide⟩,?_⟩;subst hN;calc bt λN hN=>?_;simp![af,ag,aG,toF,aF,aE,aH,aj,aI,FV.v,ae,oO,r_];refine⟨a,0,_,⟨Y,Y,by show 2<1000;decide⟩,?_⟩
 subst hN;simp![af,ag,aG,toF,aF,aE,aH,aj,aI,FV.v,ae,oO,r_,ak,aP,aV,aQ,aR,aU,aS,ay,au,ar,aO,aX,aW,aw,ba,a_,aZ,sd,tV];ext b;calc⟨a,0,_,⟨Y,Y,by show 3<1000;decide⟩,?_⟩;calc⟨_,[gO b bU],[],Y,Y,k b⟩
def Fh(C:O):GK:=λys aB K=>∃(a b:O)(m:Int)(ws:-Wy)(N:Nt)(h:Int),aY m ws/\eI m ws N/\(0<=h/\h<m)/\↑N.q<900/\ys=[.w a,.p (.int h)]/\aB=[nO C a b m ws N,gO b N]/\K (.p (jZ (N.tell m ws (.wake h)))) [nO C a b m ws (N.step m ws (.wake h)),gO b (N.step m ws (.wake h))] []
def Fi(c_Night:O):WS:=(aD (bS (gK (dT (aJ 3 sS (aq (aa 1) (aq (dC (.int 0)) (aq (d2 (d2 (af c_Night "town" (aa 0)) (dC (.int 0)) bw) (dC (.int 1)) (oI λi j=>.int (i-j))) ah)))))) ue dZ) (aD (bj 2 (af c_Night "begun" (aa 0))) (aD (aG c_Night "begun" (d2 (aa 2) (dC (.int 1)) dh) (aa 0)) (aD (bS (dT (d2 (aa 1) (d2 (af c_Night "latest" (aa 0)) (dC (.int 2)) bw) (f6 ι))) (bh (bW (aq (dC .non) (aq (dC (.int 0)) ah)))) dZ) (aD (bj 3 (aJ 3 E5 (aq (af c_Night "town" (aa 0)) (aq (af c_Night "latest" (aa 0)) (aq (aa 1) ah))))) (aD (aS (bW (aq (aa 1) (aq (d2 (aa 3) (dC (.int 0)) bw) ah))) (ag (af c_Night "going" (aa 0))) (aa 2)) (aD (aG c_Night "latest" (d2 (aa 3) (dC (.int 2)) bw) (aa 0)) (bh (bW (aq (dC .non) (aq (d2 (aa 3) (dC (.int 1)) bw) ah)))))))))))
theorem Wz(C:ξ):∀ys aB K',↑ys=2->Fh C ys aB K'->Fi C (ae ↑aB K') ⟨ys.map U++q0h 2 Z,aB.map U⟩:=by
 ext ys aB K'-⟨a,b,m,ws,N,h,W,O,hh,ql,rfl,rfl,k⟩;let d0:=g9 N.s;let gl:=EA (i:=0) (q:=N.q);unfold Fi;calc bt λM hM=>?_;simp![af,ag,aG,toF,aF,aE,aH,aj,aI,FV.v,ae,oO,r_];calc⟨a,0,_,.p (bq m ws),⟨Y,Y,Y⟩,?_⟩;simp![af,ag,aG,toF,aF,aE,aH,aj,aI,FV.v,ae,oO,r_,bq,dm];calc⟨.int h,0,m-1,Y,Y,?_⟩;simp![af,ag,aG,toF,aF,aE,aH,aj,aI,FV.v,ae,oO,r_];rw[wU hh.1 ⋯];simp![af,ag,aG,toF,aF,aE,aH,aj,aI,FV.v,ae,oO,r_];subst hM;calc bt λM hM=>?_;simp![af,ag,aG,toF,aF,aE,aH,aj,aI,FV.v,ae,oO,r_];refine⟨a,0,_,.p (.int (↑N.q:Int)),⟨Y,Y,Y⟩,?_⟩
 subst hM;calc bt λM hM=>?_;simp![af,ag,aG,toF,aF,aE,aH,aj,aI,FV.v,ae,oO,r_];calc⟨a,0,_,⟨Y,Y,by show 4<1000;decide⟩,?_⟩;subst hM;calc bt λM hM=>?_;calc jC λA B hA hB=>?_;simp![af,ag,aG,toF,aF,aE,aH,aj,aI,FV.v,ae,oO,r_];calc⟨a,0,_,.p (fE N.p N.k N.s),⟨Y,Y,Y⟩,?_⟩;simp![af,ag,aG,toF,aF,aE,aH,aj,aI,FV.v,ae,oO,r_,fE,at2,tupI,d0];rw[jf];unfold Nt.tell Nt.step at k;dsimp only at k
 by_cases c:h∈N.s
 .rw[q0n c]
  rw[q0k c,q0k c] at k;simp![af,ag,aG,toF,aF,aE,aH,aj,aI,FV.v,ae,oO,r_];subst hA;simp![af,ag,aG,toF,aF,aE,aH,aj,aI,FV.v,ae,oO,r_];calc⟨[_,_],[],[],Y,Y,?_⟩;unfold nO gO at k;dsimp only at k;rw[Ey,Qs] at k;exact k
 .rw[q0e c]
  rw[q0i c,q0i c] at k;simp![af,ag,aG,toF,aF,aE,aH,aj,aI,FV.v,ae,oO,r_];subst hB;show M _;subst hM;calc bt λM hM=>?_;simp![af,ag,aG,toF,aF,aE,aH,aj,aI,FV.v,ae,oO,r_];calc⟨a,0,_,.p (bq m ws),⟨Y,Y,Y⟩,a,0,_,.p (fE N.p N.k N.s),⟨Y,Y,Y⟩,?_⟩;simp![af,ag,aG,toF,aF,aE,aH,aj,aI,FV.v,ae,oO,r_];calc⟨m,ws,N,h,W,O,hh,Y,Y,?_⟩;simp![af,ag,aG,toF,aF,aE,aH,aj,aI,FV.v,ae,oO,r_];subst hM;calc bt λM hM=>?_;simp![af,ag,aG,toF,aF,aE,aH,aj,aI,FV.v,ae,oO,r_,ak,aP,aV,aQ,aR,aU,aS,ay,au,ar,aO,aX,aW,aw,ba,a_,aZ,sd,tV,dm];refine⟨a,0,_,.w b,⟨Y,Y,Y⟩,b,1,gO b N,⟨Y,Y,Y⟩,?_⟩
  simp![af,ag,aG,toF,aF,aE,aH,aj,aI,FV.v,ae,oO,r_,ak,aP,aV,aQ,aR,aU,aS,ay,au,ar,aO,aX,aW,aw,ba,a_,aZ,sd,tV,gO];calc⟨⋯,?_⟩;rw[show D.tup [.int h,oD (jh ws (bo m ws N.p h))]=ot (jh ws (bo m ws N.p h),h) from Y,VO];subst hM;calc bt λM hM=>?_;simp![af,ag,aG,toF,aF,aE,aH,aj,aI,FV.v,ae,oO,r_,at2];calc⟨a,0,_,⟨Y,Y,by show 4<1000;decide⟩,?_⟩;subst hM;simp![af,ag,aG,toF,aF,aE,aH,aj,aI,FV.v,ae,oO,r_,eF];calc⟨[_,_],[],[],Y,Y,?_⟩;unfold nO gO at k;dsimp only at k;rw[Qs] at k;calc k
def Fj(C:O):GK:=λys aB K=>∃(a b:O)(m:Int)(ws:-Wy)(N:Nt)(i:Nat),aY m ws/\eI m ws N/\gU m N (.fin i)/\ys=[.w a,.p (.int (i:Int))]/\aB=[nO C a b m ws N,gO b N]/\K (.p (jZ (N.tell m ws (.fin i)))) [nO C a b m ws (N.step m ws (.fin i)),gO b (N.step m ws (.fin i))] []
def Fl(c_Night:O):WS:=(aD (bS (nY (gK (dT (aJ 1 y6 (aq (aa 1) ah)))) (dT (ay θ (aa 1) (ag (af c_Night "going" (aa 0)))))) ue dZ) (aD (bj 2 (aU (ag (af c_Night "going" (aa 0))) (aa 1))) (aD (bj 3 (aJ 4 Fd (aq (af c_Night "town" (aa 0)) (aq (af c_Night "latest" (aa 0)) (aq (d2 (aa 2) (dC (.int 0)) bw) (aq (d2 (aa 2) (dC (.int 1)) bw) ah)))))) (aD (aG c_Night "latest" (d2 (aa 3) (dC (.int 2)) bw) (aa 0)) (bh (bW (aq (d2 (aa 3) (dC (.int 0)) bw) (aq (d2 (aa 3) (dC (.int 1)) bw) ah))))))))
theorem Fm{m:Int}{ws:-Wy}{N:Nt}{q:-gT}(fo:Option Int)(h:Int):fR m ws ⟨N.p,N.k,N.s,q⟩ fo h=⟨(fR m ws N fo h).p,(fR m ws N fo h).k,(fR m ws N fo h).s,q⟩:=by
 cases fo<;>unfold fR<;>dsimp only<;>split<;>rfl
theorem WB(C:ξ):∀ys aB K',↑ys=2->Fj C ys aB K'->Fl C (ae ↑aB K') ⟨ys.map U++q0h 2 Z,aB.map U⟩:=by
 ext ys aB K'-⟨a,b,m,ws,N,i,W,O,⟨fo,h,hq⟩,rfl,rfl,k⟩;let⟨hh,hw,hn⟩:=O.q i fo h hq;let ev:dA (cx 0 N.q) (.inl (i:Int))=U (ot (fo,h)):=by let:=EB (i:=0) hq;rwa [q0G] at this
 let ed:lz (cx 0 N.q) (.inl (i:Int))=cx 0 (N.q.set i Z):=by let:=EC (i:=0) (j:=i) (q:=N.q);rwa [q0G] at this
 unfold Nt.tell Nt.step at k;dsimp only at k;rw[hq] at k;dsimp only at k;rw[Fm] at k;unfold Fl;calc bt λM hM=>?_;calc jC λA B hA hB=>?_;simp![af,ag,aG,toF,aF,aE,aH,aj,aI,FV.v,ae,oO,r_,ak,aP,aV,aQ,aR,aU,aS,ay,au,ar,aO,aX,aW,aw,ba,a_,aZ,sd,tV];calc⟨.int i,Y,Y,?_⟩;simp![af,ag,aG,toF,aF,aE,aH,aj,aI,FV.v,ae,oO,r_,ak,aP,aV,aQ,aR,aU,aS,ay,au,ar,aO,aX,aW,aw,ba,a_,aZ,sd,tV,Dd];calc⟨a,0,_,.w b,⟨Y,Y,Y⟩,b,1,gO b N,⟨Y,Y,Y⟩,?_⟩;simp![af,ag,aG,toF,aF,aE,aH,aj,aI,FV.v,ae,oO,r_,ak,aP,aV,aQ,aR,aU,aS,ay,au,ar,aO,aX,aW,aw,ba,a_,aZ,sd,tV,gO,ev,q33,q4d];subst hB;show M _
 subst hM;calc bt λM hM=>?_;simp![af,ag,aG,toF,aF,aE,aH,aj,aI,FV.v,ae,oO,r_,ak,aP,aV,aQ,aR,aU,aS,ay,au,ar,aO,aX,aW,aw,ba,a_,aZ,sd,tV];calc⟨a,0,_,.w b,⟨Y,Y,Y⟩,b,1,gO b N,⟨Y,Y,Y⟩,?_⟩;simp![af,ag,aG,toF,aF,aE,aH,aj,aI,FV.v,ae,oO,r_,ak,aP,aV,aQ,aR,aU,aS,ay,au,ar,aO,aX,aW,aw,ba,a_,aZ,sd,tV,gO,ev,ed];subst hM;calc bt λM hM=>?_;simp![af,ag,aG,toF,aF,aE,aH,aj,aI,FV.v,ae,oO,r_];calc⟨a,0,_,.p (bq m ws),⟨Y,Y,Y⟩,a,0,_,.p (fE N.p N.k N.s),⟨Y,Y,Y⟩,?_⟩;simp![af,ag,aG,toF,aF,aE,aH,aj,aI,FV.v,ae,oO,r_,ot,dm,eF];refine⟨m,ws,N,fo,h,W,O,hh,hw,Y,Y,?_⟩
 simp![af,ag,aG,toF,aF,aE,aH,aj,aI,FV.v,ae,oO,r_];subst hM;calc bt λM hM=>?_;simp![af,ag,aG,toF,aF,aE,aH,aj,aI,FV.v,ae,oO,r_,at2];calc⟨a,0,_,⟨Y,Y,by show 4<1000;decide⟩,?_⟩;subst hM;simp![af,ag,aG,toF,aF,aE,aH,aj,aI,FV.v,ae,oO,r_,dm,eF];calc⟨[_,_],[],[],Y,Y,?_⟩;unfold nO gO at k;dsimp only at k;rw[q1C] at k;calc k
section
variable{m:Int}{ws:-Wy}
theorem Fp:∀{N:Nt}{es:-fN}{i:Nat}{e:fN},lj m ws N es->es[i]?=U e->gU m (runN m ws N (es.take i)) e/\lj m ws N (es.take i)
 |_,[],_,_,_,h=>by simp at h
 |N,x::r,0,e,h,q=>by cases(show U x=U e by simpa using q);exact⟨h.1,trivial⟩
 |N,x::r,i+1,e,h,q=>by
  let:=Fp (N:=N.step m ws x) (es:=r) (i:=i) (e:=e) h.2 q⁻¹;calc⟨this.1,h.1,this.2⟩
theorem WC(N:Nt)(e:fN):(N.step m ws e).q.length<=↑N.q+1:=by
 cases e with
 |wake h =>
  unfold Nt.step;dsimp only;split
  .show ↑(N.q++[Z])<=_;rw[Qs];exact Im _
  .show ↑(N.q++[U _])<=_;rw[Qs];exact Im _
 |fin i =>
  unfold Nt.step;dsimp only;split
  .rename_i fo h _
   rw[Fm (N:=N) fo h];show↑(N.q.set i Z)<=_;rw[q1C];symm
  .omega
theorem zF:∀{N:Nt}{es:-fN},(runN m ws N es).q.length<=↑N.q+↑es
 |_,[]=>Im _
 |N,x::r=>by
  let:=zF (N:=N.step m ws x) (es:=r);let:=WC (m:=m) (ws:=ws) N x;show(runN m ws (N.step m ws x) r).q.length<=_;rw[Ip];symm
theorem Fs{α:Type}{l:-α}{i:Nat}{a:α}(h:l[i]?=U a):l.take (i+1)=l.take i++[a]:=by
 rw[List.take_add_one,h];rfl
end
def Ft(C:O):GK:=λys aB K=>∃(a b:O)(m:Int)(ws:-Wy)(N:Nt)(e:fN),aY m ws/\eI m ws N/\gU m N e/\↑N.q<900/\ys=[.w a,.p (gA e)]/\aB=[nO C a b m ws N,gO b N]/\K (.p (jZ (N.tell m ws e))) [nO C a b m ws (N.step m ws e),gO b (N.step m ws e)] []
def Fu(c_Night:O):WS:=(aD (bS (fQ (dT (aJ 2 uD (aq (aa 1) (aq (dC (.int 2)) ah)))) (dT (d2 (d2 (aa 1) (dC (.int 0)) bw) (dC (.str "wake")) oEq))) (bh (aF ι c_Night "wake" 2 (Fh c_Night) (aa 0) (aq (d2 (aa 1) (dC (.int 1)) bw) ah))) dZ) (aD (bS (fQ (dT (aJ 2 uD (aq (aa 1) (aq (dC (.int 2)) ah)))) (dT (d2 (d2 (aa 1) (dC (.int 0)) bw) (dC (.str "end")) oEq))) (bh (aF ι c_Night "end" 2 (Fj c_Night) (aa 0) (aq (d2 (aa 1) (dC (.int 1)) bw) ah))) dZ) ue))
theorem WD(C:ξ):∀ys aB K',↑ys=2->Ft C ys aB K'->Fu C (ae ↑aB K') ⟨ys.map U++q0h 0 Z,aB.map U⟩:=by
 ext ys aB K'-⟨a,b,m,ws,N,e,W,O,he,ql,rfl,rfl,k⟩;let ww:dEq (.str "wake") (.str "wake")=θ:=Y;let ew:dEq (.str "end") (.str "wake")=ι:=Y;let ee:dEq (.str "end") (.str "end")=θ:=Y;unfold Fu;refine bt λM hM=>jC λA B hA hB=>?_
 cases e with
 |wake h =>
  simp![af,ag,aG,toF,aF,aE,aH,aj,aI,FV.v,ae,oO,r_,gA];calc⟨.tup [.str "wake",.int h],2,Y,Y,?_⟩;simp![af,ag,aG,toF,aF,aE,aH,aj,aI,FV.v,ae,oO,r_,sR,dm,ww,q5a,q3_];subst hA;simp![af,ag,aG,toF,aF,aE,aH,aj,aI,FV.v,ae,oO,r_];calc⟨⟨a,0,_,Y,Y,Y⟩,?_⟩;simp![af,ag,aG,toF,aF,aE,aH,aj,aI,FV.v,ae,oO,r_,eF];calc⟨[(0,nO C a b m ws N),(1,gO b N)],⟨Y,Y,trivial⟩,?_⟩;simp![af,ag,aG,toF,aF,aE,aH,aj,aI,FV.v,ae,oO,r_];calc⟨a,b,m,ws,N,h,W,O,he,ql,Y,Y,?_⟩;simp![af,ag,aG,toF,aF,aE,aH,aj,aI,FV.v,ae,oO,r_];exact⟨[_,_],[],[],Y,Y,k⟩
 |fin i =>
  simp![af,ag,aG,toF,aF,aE,aH,aj,aI,FV.v,ae,oO,r_,gA];calc⟨.tup [.str "end",.int i],2,Y,Y,?_⟩;simp![af,ag,aG,toF,aF,aE,aH,aj,aI,FV.v,ae,oO,r_,sR,dm,ew,q5a,q3_];subst hB;simp![af,ag,aG,toF,aF,aE,aH,aj,aI,FV.v,ae,oO,r_];subst hM;calc bt λM hM=>jC λA B hA hB=>?_;simp![af,ag,aG,toF,aF,aE,aH,aj,aI,FV.v,ae,oO,r_];calc⟨.tup [.str "end",.int i],2,Y,Y,?_⟩;simp![af,ag,aG,toF,aF,aE,aH,aj,aI,FV.v,ae,oO,r_,sR,dm,ee,q5a,q3_];subst hA;simp![af,ag,aG,toF,aF,aE,aH,aj,aI,FV.v,ae,oO,r_];calc⟨⟨a,0,_,Y,Y,Y⟩,?_⟩;simp![af,ag,aG,toF,aF,aE,aH,aj,aI,FV.v,ae,oO,r_,eF]
  calc⟨[(0,nO C a b m ws N),(1,gO b N)],⟨Y,Y,trivial⟩,?_⟩;simp![af,ag,aG,toF,aF,aE,aH,aj,aI,FV.v,ae,oO,r_];calc⟨a,b,m,ws,N,i,W,O,he,Y,Y,?_⟩;simp![af,ag,aG,toF,aF,aE,aH,aj,aI,FV.v,ae,oO,r_];calc⟨[_,_],[],[],Y,Y,k⟩
def Fv(C:O):GK:=λys aB K=>∃(a b:O)(m:Int)(ws:-Wy)(es:-fN),aY m ws/\lj m ws bU es/\↑es<900/\ys=[.w a,.p (.lst (es.map gA))]/\aB=[nO C a b m ws bU,gO b bU]/\K (.n ((lh m ws bU es).map jZ)) [nO C a b m ws (runN m ws bU es),gO b (runN m ws bU es)] []
def Fw(c_Night:O):WS:=(aD (bj 2 (oS ah)) (aD (e8 (i_ (aq (aa 1) ah)) (i8 2 (d7 (bQ 3) (d7 (bQ 4) iO))) (ky (ij (aa 2) (aq (aE ι 2 (Ft c_Night) (aq (aa 0) (aq (aa 4) ah))) ah)))) (bh (aa 2))))
theorem WH(C:O):∀ys aB K',↑ys=2->Fv C ys aB K'->Fw C (ae ↑aB K') ⟨ys.map U++q0h 3 Z,aB.map U⟩:=by
 ext ys aB K'-⟨a,b,m,ws,es,W,ok,Lq,rfl,rfl,k⟩;unfold Fw;calc bt λM hM=>?_;simp![af,ag,aG,toF,aF,aE,aH,aj,aI,FV.v,ae,oO,r_];subst hM;calc bt λM hM=>pB λg' b' K2 hg hb' hK=>?_;simp![af,ag,aG,toF,aF,aE,aH,aj,aI,FV.v,ae,oO,r_];subst hg hb' hK;refine mO (λi δ=>δ=⟨[U (.w a),U (.p (.lst (es.map gA))),U (.o 2),Z,Z],[U (nO C a b m ws (runN m ws bU (es.take i))),U (gO b (runN m ws bU (es.take i))),U (.lst ((lh m ws bU (es.take i)).map jZ))]⟩) Y ?_ ?_
 .ext i d δ L hi rfl hL
  let⟨e',h1,h2⟩:=o_ hi;rw[q0G] at h2;subst h2;rw[Qw] at h1;let⟨e,he,rfl⟩:=q0f.mp h1;let il:i<↑es:=(Il.mp he).1;let⟨o1,o2⟩:=Fp ok he;let ql:=zF (m:=m) (ws:=ws) (N:=bU) (es:=es.take i);let tl:=Er (m:=m) (ws:=ws) (N:=bU) (a:=es.take i);rw[q0D,q5b (q1e il)] at ql tl;let ql:(runN m ws bU (es.take i)).q.length<=i:=by let:=ql;erw[bU,q1n,q0G] at this;exact this
  let ON:=eI.run W (p_ m ws) o2;let hN:∀δ',δ'=_->L δ':=hL;rw[Fs he,zu,Ep] at hN;generalize runN m ws bU (es.take i)=N at ON o1 ql hN ⊢;calc⟨trivial,?_⟩;erw[i8,d7,iO,bQ,Ip,q1n,q0Y,q0Z,q0G,q7V,true_and];simp![af,ag,aG,toF,aF,aE,aH,aj,aI,FV.v,ae,oO,r_,gj];calc⟨[(0,nO C a b m ws N),(1,gO b N)],⟨Y,Y,trivial⟩,?_⟩;simp![af,ag,aG,toF,aF,aE,aH,aj,aI,FV.v,ae,oO,r_];calc⟨a,b,m,ws,N,e,W,ON,o1,⋯,Y,Y,?_⟩;simp![af,ag,aG,toF,aF,aE,aH,aj,aI,FV.v,ae,oO,r_,cZ];calc⟨by rw[tl];symm,?_⟩;calc hN _ ?_;rw[q0w];rfl
 .ext δ rfl
  calc⟨trivial,?_⟩;show M _;subst hM;simp![af,ag,aG,toF,aF,aE,aH,aj,aI,FV.v,ae,oO,r_];calc⟨[_,_],[],[U (.lst _)],Y,Y,Im _,?_⟩;rw[o9,BE,q2I];calc k
end LJ
namespace PySem
open Sem (wp)
structure ZG(z TI TO i j:O)(fp gp:-O):Prop where
 a1:TI≠z
 a2:TO≠z
 a3:i≠z
 a4:j≠z
 a5:TI≠TO
 a6:TI≠i
 a7:TI≠j
 a8:TO≠i
 a9:TO≠j
 b1:i≠j
 f1:z∉fp
 f2:TO∉fp
 f3:j∉fp
 g1:z∉gp
 g2:TO∉gp
 g3:i∉gp
theorem bk{a:O}{h h':I}(hs:q2L a h h'){b:O}{o:Q}(n:b≠a)(e:h.get? b=U o):h'.get? b=U o:=(hs.2 b n).trans e
section
variable{prog:t}{w:S}{A:o}{E:bA}{s:B}{z TI TO i j:O}{fp gp:-O}{n m k:Nat}{P P':Nat->L->Prop}{St lA:Nat->I->Prop}{a b:L}
theorem WJ{Q:bA}(D:Draws prog w A i fp n P St)(D':Draws prog w A j gp m P' lA)(Z:ZG z TI TO i j fp gp)
  (hz:IsZip s.heap z TI TO .none) (hI:IsPair s.heap TI (.ref i) (.ref j)) (hO:IsPair s.heap TO a b) (st:St k s.heap) (gw:lA k s.heap) (hk:k<n) (jz:k<m)
  (hQ:∀x y h' tk,P k x->P' k y->IsZip h' z TI TO (rawInt ⇑s)->IsPair h' TO x y->St (k+1) h'->lA (k+1) h'->IsPair h' ⇑s x y →
   (∀c o,c≠z->c≠TO->c≠i->c≠j->s.heap.get? c=U o->h'.get? c=U o)->Q (.ref ⇑s) {s with heap:=h',toks:=tk}) :
  M (g prog w) A (Builtin.«zip.__next__» ⟨[.ref z],[]⟩) (λfin s'=>∃v,fin=.done (.ret v)/\Q v s') E s:=by
 show M _ _ (field (.ref z) 2 >>= _) _ _ _;calc sf (q1J hz Y (x:=.bool ι) Y ?_);show M _ _ (field (.ref z) 3 >>= _) _ _ _;calc sf (q1J hz Y (x:=.ref TI) Y (sf (q1K hI Y ?_)));show M _ _ (q1N (.ref z) >>= _) _ _ _;calc sf ?_;unfold q1N;calc sf (q1J hz Y (x:=.none) Y (Io ?_));erw[q2N];calc sf (q3v (sf (q1J hz Y (x:=.ref TO) Y (sf (q2q hz (by simp) λk1 z1 s1=>?_)))));let z1:IsZip k1 z TI TO .ellipsis:=z1;calc sf ?_;erw[q6O,q7a,q48,q5z];calc sf (sf (q4t ?_));show M _ _ (q1G (.ref i) >>= _) _ _ _;refine sf (D.item k {s with heap:=k1} _ _ hk (D.frame k _ _ st λc hc o e=>bk s1 (λy=>Z.f1 (y▸hc)) e) λx k2 t2 px j8 s2=>Io ?_)
 let o2:IsPair k2 TO a b:=bk s2 Z.a8 (bk s1 Z.a2 hO);calc sf (q1K o2 Y (sf (q3D o2 λk3 o3 s3=>?_)));let o3:IsPair k3 TO x b:=o3;calc sf (q3b (Io (sf (sf (q4t ?_)))));show M _ _ (q1G (.ref j) >>= _) _ _ _;let tI:lA k k3:=D'.frame k _ _ gw λc hc o e=>bk s3 (λy=>Z.g2 (y▸hc)) (bk s2 (λy=>Z.g3 (y▸hc)) (bk s1 (λy=>Z.g1 (y▸hc)) e));let qz:St (k+1) k3:=D.frame _ _ _ j8 λc hc o e=>bk s3 (λy=>Z.f2 (y▸hc)) e;calc sf (D'.item k {s with heap:=k3,toks:=t2} _ _ jz tI λy k4 t4 py WK s4=>Io ?_);let o4:IsPair k4 TO x b:=bk s4 Z.a9 o3;refine sf (q1K o4 Y (sf (q3D o4 λk5 o5 s5=>?_)))
 let o5:IsPair k5 TO x y:=o5;calc sf (q3b (Io (Io (sf (q1K o5 Y (sf (q7z ?_)))))));let sz:k5.objs.size=⇑s:=by rw[s5.1,s4.1,s3.1,s2.1,s1.1]
 let z5:IsZip k5 z TI TO .ellipsis:=bk s5 Z.a2.symm (bk s4 Z.a4.symm (bk s3 Z.a2.symm (bk s2 Z.a3.symm z1)));let kp:∀c o,c≠z->c≠TO->c≠i->c≠j->s.heap.get? c=U o->k5.get? c=U o:=λc o c1 c2 c3 c4 e=>bk s5 c2 (bk s4 c4 (bk s3 c2 (bk s2 c3 (bk s1 c1 e))));let t5:St (k+1) k5:=D.frame _ _ _ qz λc hc o e=>bk s5 (λy=>Z.f2 (y▸hc)) (bk s4 (λy=>Z.f3 (y▸hc)) e);let WL:lA (k+1) k5:=D'.frame _ _ _ WK λc hc o e=>bk s5 (λy=>Z.g2 (y▸hc)) e;let zl:z<k5.objs.size:=q0a z5;show M _ _ (q21 (.ref z) (.ref k5.objs.size) >>= _) _ _ _;calc sf ?_;unfold q21;refine sf (q2q (show IsZip (k5.push {cls:=.type "tuple",data:=.seq #[x,y]}) z TI TO .ellipsis from yd _ z5) (by simp) λk7 z7 s7=>?_)
 let z7:IsZip k7 z TI TO (rawInt k5.objs.size):=z7;calc q2q z7 (by simp) λk8 z8 s8=>?_;let z8:IsZip k8 z TI TO (rawInt k5.objs.size):=z8;let up:∀c o,c≠z->k5.get? c=U o->k8.get? c=U o:=λc o c1 e=>bk s8 c1 (bk s7 c1 (yd _ e));let p8:IsPair k8 k5.objs.size x y:=bk s8 (q1P zl) (bk s7 (q1P zl) (q0c _ Y));rw[sz] at z8 p8;calc Io ⟨_,Y,?_⟩;show Q (.ref k5.objs.size) _;rw[sz];calc hQ x y k8 t4 px py z8 (up _ _ Z.a2 o5) (D.frame _ _ _ t5 λc hc o e=>up c o (λy=>Z.f1 (y▸hc)) e) (D'.frame _ _ _ WL λc hc o e=>up c o (λy=>Z.g1 (y▸hc)) e) p8 λc o c1 c2 c3 c4 e=>up c o c1 (kp c o c1 c2 c3 c4 e)
theorem WM{Q:Fin->B->Prop}(D:Draws prog w A i fp n P St)(D':Draws prog w A j gp m P' lA)(Z:ZG z TI TO i j fp gp)
  (hz:IsZip s.heap z TI TO .none) (hI:IsPair s.heap TI (.ref i) (.ref j)) (hO:IsPair s.heap TO a b) (st:St k s.heap) (gw:lA k s.heap) (hk:k=n\/(k<n/\k=m))
  (hE:∀h' e tk,(∀c o,c≠z->c≠TO->c≠i->c≠j->s.heap.get? c=U o->h'.get? c=U o)->(∃o,h'.get? e=U o/\o.cls=.type "StopIteration")->E (.ref e) {s with heap:=h',toks:=tk}) :
  M (g prog w) A (Builtin.«zip.__next__» ⟨[.ref z],[]⟩) Q E s:=by
 show M _ _ (field (.ref z) 2 >>= _) _ _ _;calc sf (q1J hz Y (x:=.bool ι) Y ?_);show M _ _ (field (.ref z) 3 >>= _) _ _ _;calc sf (q1J hz Y (x:=.ref TI) Y (sf (q1K hI Y ?_)));show M _ _ (q1N (.ref z) >>= _) _ _ _;calc sf ?_;unfold q1N;calc sf (q1J hz Y (x:=.none) Y (Io ?_));erw[q2N];calc sf (q3v (sf (q1J hz Y (x:=.ref TO) Y (sf (q2q hz (by simp) λk1 z1 s1=>?_)))));let z1:IsZip k1 z TI TO .ellipsis:=z1;calc sf ?_;erw[q6O,q7a,q48,q5z];calc sf (sf (q4t ?_));show M _ _ (q1G (.ref i) >>= _) _ _ _;let lE:St k k1:=D.frame k _ _ st λc hc o e=>bk s1 (λy=>Z.f1 (y▸hc)) e
 rcases hk with rfl|⟨hk,rfl⟩
 .refine sf (D.done {s with heap:=k1} _ _ lE λk2 e s2 he=>?_)
  let⟨oe,ho,hc⟩:=he;let z2:IsZip k2 z TI TO .ellipsis:=s2 _ _ Z.a3.symm z1;let ez:e≠z:=λx=>by subst x;rw[z2] at ho;cases ho;simp at hc
  exact q2q z2 (by simp) λk3 _ s3=>hE k3 e _ (λc o c1 _ c3 _ x=>bk s3 c1 (s2 _ _ c3 (bk s1 c1 x))) ⟨oe,bk s3 ez ho,hc⟩
 .refine sf (D.item k {s with heap:=k1} _ _ hk lE λx k2 t2 px j8 s2=>Io ?_)
  let o2:IsPair k2 TO a b:=bk s2 Z.a8 (bk s1 Z.a2 hO);calc sf (q1K o2 Y (sf (q3D o2 λk3 o3 s3=>?_)));calc sf (q3b (Io (sf (sf (q4t ?_)))));show M _ _ (q1G (.ref j) >>= _) _ _ _;let tI:lA k k3:=D'.frame k _ _ gw λc hc o e=>bk s3 (λy=>Z.g2 (y▸hc)) (bk s2 (λy=>Z.g3 (y▸hc)) (bk s1 (λy=>Z.g1 (y▸hc)) e));calc sf (D'.done {s with heap:=k3,toks:=t2} _ _ tI λk4 e s4 he=>?_);let⟨oe,ho,hc⟩:=he;let z4:IsZip k4 z TI TO .ellipsis:=s4 _ _ Z.a4.symm (bk s3 Z.a2.symm (bk s2 Z.a3.symm z1));let ez:e≠z:=λx=>by subst x;rw[z4] at ho;cases ho;simp at hc
  calc q2q z4 (by simp) λk5 _ s5=>hE k5 e _ (λc o c1 c2 c3 c4 x=>bk s5 c1 (s4 _ _ c4 (bk s3 c2 (bk s2 c3 (bk s1 c1 x))))) ⟨oe,bk s5 ez ho,hc⟩
theorem WN{Q:Option L->B->Prop}(D:Draws prog w A.in1 i fp n P St)(D':Draws prog w A.in1 j gp m P' lA)(Z:ZG z TI TO i j fp gp)
  (hz:IsZip s.heap z TI TO .none) (hI:IsPair s.heap TI (.ref i) (.ref j)) (hO:IsPair s.heap TO a b) (st:St k s.heap) (gw:lA k s.heap) (hk:k<n) (jz:k<m)
  (hQ:∀x y h' tk,P k x->P' k y->IsZip h' z TI TO (rawInt ⇑s)->IsPair h' TO x y->St (k+1) h'->lA (k+1) h'->IsPair h' ⇑s x y →
   (∀c o,c≠z->c≠TO->c≠i->c≠j->s.heap.get? c=U o->h'.get? c=U o)->Q (U (.ref ⇑s)) {s with heap:=h',toks:=tk}):M (g prog w) A (pyNext (.ref z)) Q E s:=by
 let hT:s.TypeIs (.ref z) "zip" := ⟨_,hz,Y⟩;unfold pyNext;calc sf (q4n (q1f (name:=q02 "__next__") hT q3J (q1g q3J hT q6P (WJ D D' Z hz hI hO st gw hk jz λx y h' tk a1 a2 a3 a4 a5 a6 a7 a8=>Io (hQ x y h' tk a1 a2 a3 a4 a5 a6 a7 a8)) (q6z _))))
theorem WQ{Q:Option L->B->Prop}(D:Draws prog w A.in1 i fp n P St)(D':Draws prog w A.in1 j gp m P' lA)(Z:ZG z TI TO i j fp gp)
  (hz:IsZip s.heap z TI TO .none) (hI:IsPair s.heap TI (.ref i) (.ref j)) (hO:IsPair s.heap TO a b) (st:St k s.heap) (gw:lA k s.heap) (hk:k=n\/(k<n/\k=m))
  (hQ:∀h' tk,(∀c o,c≠z->c≠TO->c≠i->c≠j->s.heap.get? c=U o->h'.get? c=U o)->Q η {s with heap:=h',toks:=tk}):M (g prog w) A (pyNext (.ref z)) Q E s:=by
 let hT:s.TypeIs (.ref z) "zip" := ⟨_,hz,Y⟩;unfold pyNext;calc sf (q4n (q1f (name:=q02 "__next__") hT q3J (q1g q3J hT q6P (WM D D' Z hz hI hO st gw hk λh' e tk kp he=>?_) (q6z _))));let⟨o,ho,hc⟩:=he;calc sf (q4A (T:="StopIteration") (b:=true) ⟨o,ho,hc⟩ q7k (Io (hQ _ _ kp)))
end
def eR(h:I)(t:Bool)(l:O)(xs:Array L):Prop:=match t with
 |true=>h.IsTuple l xs
 |false=>h.IsList l xs
noncomputable abbrev j3(t:Bool)(l:O)(k:Nat):Q:={cls:=.type (match t with|true=>"tuple_iterator" | false=>"list_iterator"),data:=.fields #[.ref l,.int k 0]}
def fV(h:I)(t:Bool)(it l:O)(k:Nat):Prop:=match t with
 |true=>h.IsTupleIter it l k
 |false=>h.IsListIter it l k
theorem eR.lt{h:I}{t:Bool}{l:O}{xs:Array L}(x:eR h t l xs):l<h.objs.size:=by
 cases t<;>(let⟨o,e,_⟩:=x;calc q0a e)
theorem eR.at{h h':I}{t:Bool}{l:O}{xs:Array L}(x:eR h t l xs)(k:∀o,h.get? l=U o->h'.get? l=U o):eR h' t l xs:=by
 cases t with
 |true=>exact Heap.IsTuple.at x k
 |false=>calc Heap.IsList.at x k
theorem fV.at{h h':I}{t:Bool}{i l:O}{n:Nat}(x:fV h t i l n)(k:∀o,h.get? i=U o->h'.get? i=U o):fV h' t i l n:=by
 cases t with
 |true=>exact Heap.IsTupleIter.at x k
 |false=>calc Heap.IsListIter.at x k
theorem fV.obj{h:I}{t:Bool}{i l:O}{n:Nat}(x:fV h t i l n):∃o,h.get? i=U o/\∀v,o.data≠.cell v:=by
 cases t<;>(let⟨o,e,_,d⟩:=x;calc⟨o,e,λv z=>by rw[d] at z;cases z⟩)
theorem fV.new{h:I}{t:Bool}{i l:O}(e:h.get? i=U (j3 t l 0)):fV h t i l 0:=by
 cases t<;>calc⟨_,e,Y,Y⟩
section
variable{prog:t}{w:S}{A:o}{E:bA}{s:B}
theorem zG(hh:A.handled=Z)(t:Bool)(it l:O)(gC:l≠it)(items:Array L):Draws prog w A it [it,l] items.size (λi v=>items[i]?=U v) (λi h=>fV h t it l i/\eR h t l items):=by
 cases t
 .exact Draws.list hh it l gC items
 .calc Cq hh it l gC items
theorem Lr{t:Bool}{l:O}{xs:Array L}{Q:bA}(hl:eR s.heap t l xs)(h:Q (.ref ⇑s) {s with heap:=s.heap.push (j3 t l 0)}):M (g prog w) A (pyIter (.ref l)) Q E s:=by
 cases t
 .exact q15 hl h
 .calc q2o hl h
end
noncomputable abbrev zH(h:I)(t:Bool)(l:O):I:=h.push (j3 t l 0)
noncomputable abbrev zI(h:I)(t u:Bool)(l m:O):I:=(zH h t l).push (j3 u m 0)
noncomputable abbrev zJ(h:I)(t u:Bool)(l m:O):I:=(zI h t u l m).push {cls:=.type "tuple",data:=.seq #[.ref h.objs.size,.ref (zH h t l).objs.size]}
noncomputable abbrev zK(h:I)(t u:Bool)(l m:O):I:=(zJ h t u l m).push {cls:=.type "tuple",data:=.seq #[.none,.none]}
noncomputable abbrev uN(h:I)(t u:Bool)(l m:O):I:=(zK h t u l m).push {cls:=.type "zip",data:=.fields #[.none,.bool ι,.bool ι,.ref (zI h t u l m).objs.size,.ref (zJ h t u l m).objs.size]}
theorem WR(t u:Bool)(l m:O)(xs ys:Array L):
  Meets (Builtin.«zip.__new__» ⟨[.type "zip",.ref l,.ref m],[]⟩) (λ_ R s=>eR s.heap t l xs/\eR s.heap u m ys/\R (.ok (.ret (.ref (zK s.heap t u l m).objs.size))) {s with heap:=uN s.heap t u l m}) :=
 .of_wp λprog w A R s h=>by
  let⟨hp,g,d,tk,os⟩:=s;let⟨h1,h2,h⟩:=h;let Cm:=sub_zip;let e1:eR (q6U ⟨hp,g,d,tk,os⟩) t l xs:=h1;let e2:eR (q6U ⟨hp.push (j3 t l 0),g,d,tk,os⟩) u m ys:=eR.at h2 λo e=>yd _ e
  wp_walk using Lr e1,Lr e2
  calc⟨_,Y,h⟩
section
variable{prog:t}{w:S}{A:o}{E:bA}{s:B}
theorem WU{t u:Bool}{l m:O}{xs ys:Array L}{Q:bA}(h1:eR s.heap t l xs)(h2:eR s.heap u m ys)
  (h:∀h',IsZip h' (⇑s+4) (⇑s+2) (⇑s+3) .none->IsPair h' (⇑s+2) (.ref ⇑s) (.ref (⇑s+1)) →
   IsPair h' (⇑s+3) .none .none->fV h' t ⇑s l 0->fV h' u (⇑s+1) m 0->(∀c o,s.heap.get? c=U o->h'.get? c=U o)->Q (.ref (⇑s+4)) {s with heap:=h'}) :
  M (g prog w) A (call (.type "zip") [.ref l,.ref m]) Q E s:=by
 calc callType_new F.called_zip (by decide) (F.typeCall_zip_2 _ _) (F.newCall_zip_2 _ _) (λobj=>F.args_object_init_3 obj _ _) F.entry_zip_new (WR t u l m xs ys) ⟨h1,h2,?_⟩;let z1:(zH s.heap t l).objs.size=⇑s+1:=q00 ..;let z2:(zI s.heap t u l m).objs.size=⇑s+2:=by rw[q00,z1]
 let z3:(zJ s.heap t u l m).objs.size=⇑s+3:=by rw[q00,z2]
 let z4:(zK s.heap t u l m).objs.size=⇑s+4:=by rw[q00,z3]
 let q5:(uN s.heap t u l m).get? (zK s.heap t u l m).objs.size=U _:=q0c _ Y;let q4:(uN s.heap t u l m).get? (zJ s.heap t u l m).objs.size=U _:=yd _ (q0c _ Y);let q3:(uN s.heap t u l m).get? (zI s.heap t u l m).objs.size=U _:=yd _ (yd _ (q0c _ Y));let q2:(uN s.heap t u l m).get? (zH s.heap t l).objs.size=U (j3 u m 0):=yd _ (yd _ (yd _ (q0c _ Y)));let q1:(uN s.heap t u l m).get? ⇑s=U (j3 t l 0):=yd _ (yd _ (yd _ (yd _ (q0c _ Y))));show _/\_;rw[z2,z3,z4] at q5;rw[z1,z2] at q3;rw[z3] at q4;rw[z1] at q2;rw[z4];calc⟨⟨_,q5,Y⟩,h _ q5 q3 q4 (.new q1) (.new q2) λc o x=>yd _ (yd _ (yd _ (yd _ (yd _ x))))⟩
end
end PySem
namespace L2
open PySem PySem.Spec PyProof.Rows
def lB(K:My)(H:Hp)(t:Bool)(a:O)(xs:-V):Prop:=match t with
 |true=>bZ K H a xs
 |false=>bT K H a xs
section
variable{X:Cx}{pins:aM}{σ:St}{H:Hp}{s:B}
theorem Inv.sq{t:Bool}{a:O}{xs:-V}(I:Inv X pins σ H s)(h:lB X.K H t a xs):∃aA:-L,Vals xs aA/\eR s.heap t a aA.toArray:=by
 cases t
 .let⟨aA,r,p,_⟩:=I.list h;exact⟨aA,r,p.isList⟩
 .let⟨aA,r,⟨o,o1,o2,n,o3⟩,_⟩:=I.tuple h;calc⟨aA,r,o,o1,o2,n,o3⟩
theorem Inv.nr{t:Bool}{a:O}{xs ys:-V}(I:Inv X pins σ H s)(h:lB X.K H t a xs)(h':lB X.K H t a ys):xs=ys:=by
 cases t
 .exact I.gf h h'
 .calc I.fy h h'
end
noncomputable def xx(K:My)(t u:Bool)(a b:O):It :=
 ⟨λi H=>∃xs ys x y,lB K H t a xs/\lB K H u b ys/\xs[i]?=U x/\ys[i]?=U y,
  λi H v H'=>∃T x y,v=.ref T/\H T=Z/\H'=upd H T (.tup [x,y])/\(∀xs,lB K H t a xs->xs[i]?=U x)/\∀ys,lB K H u b ys->ys[i]?=U y,
  λi H=>∃xs ys,lB K H t a xs/\lB K H u b ys/\((↑xs=i)\/(i<↑xs/\↑ys=i))⟩
structure Fy(t u:Bool)(z TI TO i1 i2 l1 l2:O)(i:Nat)(h:I):Prop where
 hz:IsZip h z TI TO .none
 l3:IsPair h TI (.ref i1) (.ref i2)
 nu:∃x y,IsPair h TO x y
 h1:fV h t i1 l1 i
 h2:fV h u i2 l2 i
theorem WV{P:ψ}{w:S}{K:My}{elts:-l}{x1}{tp:Ε}{t u:Bool}{z TI TO i1 i2 l1 l2:O}(D:ZG z TI TO i1 i2 [i1,l1] [i2,l2])(n1:l1≠i1)(n2:l2≠i2):
  Turn P w K (.Tuple elts x1 tp) (xx K t u l1 l2) [z,TI,TO,i1,i2] z (Fy t u z TI TO i1 i2 l1 l2) where
 mem:=by simp
 obj:=λi h st b hb=>by
  let⟨hz,l3,⟨x,y,nu⟩,g1,g2⟩:=st;erw[Qu,q0s,q1v] at hb;rcases hb with rfl|rfl|rfl|rfl|rfl
  .exact⟨_,hz,λv z=>by cases z⟩
  .exact⟨_,l3,λv z=>by cases z⟩
  .exact⟨_,nu,λv z=>by cases z⟩
  .exact g1.obj
  .exact g2.obj
 keep:=λi h h' st k=>by
  let⟨hz,l3,⟨x,y,nu⟩,g1,g2⟩:=st;exact⟨k z (by simp) _ hz,k TI (by simp) _ l3,⟨x,y,k TO (by simp) _ nu⟩,g1.at λo q=>k i1 (by simp) o q,g2.at λo q=>k i2 (by simp) o q⟩
 item:=by
  ext X hP hw hK hc i pins s σ H E I hf st hg;subst hP hw hK;let⟨hz,l3,⟨a,b,nu⟩,g1,g2⟩:=id st;let⟨xs,ys,x,y,uO,uP,hx,hy⟩:=hg;let⟨aA,rv,p⟩:=I.sq uO;let⟨bO,xy,p2⟩:=I.sq uP;let hh:X.A.in1.handled=Z:=by rw[q2n];exact I.ok.hd hc
  let lx:=(Il.mp hx).1;let ly:=(Il.mp hy).1;calc WN (zG hh t i1 l1 n1 aA.toArray) (zG hh u i2 l2 n2 bO.toArray) D hz l3 nu ⟨g1,p⟩ ⟨g2,p2⟩ (by rw[Qt,<-↑rv];calc lx) (by rw[Qt,<-↑xy];calc ly) λcu cv k1 tk pu pv z1 t1 a1 a2 WW zL=>⟨_,Y,?_⟩;let⟨u',hu,ru⟩:=rv.get hx;let⟨v',hv,WX⟩:=xy.get hy;let pu:aA[i]?=U cu:=by simpa using pu
  let pv:bO[i]?=U cv:=by simpa using pv
  rw[hu] at pu;rw[hv] at pv;obtain rfl:=q0A pu;obtain rfl:=q0A pv;calc wpAny_letOwnedTupleGo_zip z1 λk2 z2 eV=>?_;let WY:⇑s≠z:=q1P (q0a hz);let WZ:IsPair k2 ⇑s u' v':=(eV.2 _ WY).trans WW
  let W0:∀b o,b∉[z,TI,TO,i1,i2]->s.heap.get? b=U o->k2.get? b=U o:=λb o hb q=>by
   erw[Qu,q0s,q1v,q4R] at hb;exact(eV.2 _ hb.1).trans (zL b o hb.1 hb.2.2.1 hb.2.2.2.1 hb.2.2.2.2 q)
  let hn:H ⇑s=Z:=I.bu.fresh (Im _);refine⟨.ref ⇑s,upd H ⇑s (.tup [x,y]),I.gh (ch:=[z,TI,TO,i1,i2]) (t':=tk) hf W0 (Im _) ?_,Y,⟨_,x,y,Y,hn,Y,λzs hy=>by rw[I.nr hy uO];calc hx,λzs uC=>by rw[I.nr uC uP];calc hy⟩,⟨z2,?_,⟨u',v',(eV.2 _ D.a2).trans t1⟩,a1.1.at λo q=>(eV.2 _ D.a3).trans q,a2.1.at λo q=>(eV.2 _ D.a4).trans q⟩,λb hb=>?_⟩
  .exact⟨by show 2<=sizeLine;decide,[u',v'],.cons ru (.cons WX .nil),_,WZ,Y,_,Y⟩
  .exact (eV.2 _ D.a1).trans (zL TI _ D.a1 D.a5 D.a6 D.a7 l3)
  .let:b<⇑s:=by
    let⟨o1,q1,_⟩:=g1.obj;let⟨o2,q2,_⟩:=g2.obj;erw[Qu,q0s,q1v] at hb;rcases hb with rfl|rfl|rfl|rfl|rfl
    .exact q0a hz
    .exact q0a l3
    .exact q0a nu
    .exact q0a q1
    .exact q0a q2
   rw[bE (q0g this)];exact(hf b hb).1
 done:=by
  ext X hP hw hK hc i pins s σ H E I hf st hg;subst hP hw hK;let⟨hz,l3,⟨a,b,nu⟩,g1,g2⟩:=id st;let⟨xs,ys,uO,uP,hx⟩:=hg;let⟨aA,rv,p⟩:=I.sq uO;let⟨bO,xy,p2⟩:=I.sq uP;let hh:X.A.in1.handled=Z:=by rw[q2n];exact I.ok.hd hc
  let hl:=↑rv;let tU:=↑xy;refine WQ (zG hh t i1 l1 n1 aA.toArray) (zG hh u i2 l2 n2 bO.toArray) D hz l3 nu ⟨g1,p⟩ ⟨g2,p2⟩ ?_ λk1 tk zL=>⟨Y,I.kQ (t':=tk) (ch:=[z,TI,TO,i1,i2]) hf λb o hb q=>?_⟩
  .rw[Qt,Qt];symm
  .erw[Qu,q0s,q1v,q4R] at hb
   exact zL b o hb.1 hb.2.2.1 hb.2.2.2.1 hb.2.2.2.2 q
 self:=λA i s Q E st h=>q6Q st.hz h
theorem W5(n l1 l2:Nat)(q1:l1<n)(q2:l2<n):ZG (n+4) (n+2) (n+3) n (n+1) [n,l1] [n+1,l2]:=by
 constructor<;>first|(show @Ne Nat _ _;symm)|(ext h;erw[Qu,q0s,q1v] at h;rcases h with h|h<;>(let h:(_:Nat)=_:=h;symm))
section
variable{X:Cx}{elts:-l}{x1:Nat}{tp:y}
def W6(K:My)(ta:TA):TI:=fun σ H R=>ta σ H λvs H1=>∃a b t u,vs=[.ref a,.ref b]/\(∃xs,lB K H1 t a xs)/\(∃ys,lB K H1 u b ys)/\R (xx K t u a b) H1
theorem W7{a b:l}{ta:TA}{p pos:y}(hg:Gl X "zip")(hm:X.mg "zip" = Z)(ha:JA X [a,b] ta)(hs:starEach [a,b] X.env=[(ι,eval a X.env),(ι,eval b X.env)]:=by rfl)(eV:starEach [b] X.env=[(ι,eval b X.env)]:=by rfl):
  JI X (.Tuple elts x1 tp) (.Call (.Name "zip" p) [a,b] [] pos) (W6 X.K ta):=by
 calc⟨λpins s σ H R I h=>?_⟩;calc Call_ (oA I hg hm QR (q1w (bL (ha pos pins s σ H _ I h) λus s1 ⟨vs,H1,I1,r1,q1⟩=>?_) (by rw[hs,eV]) (by rw[eV];rfl)));let⟨l1,l2,t,u,e,⟨xs,uO⟩,⟨ys,uP⟩,q⟩:=q1;subst e
 cases r1 with
 |cons r rr =>
  cases rr with
  |cons r' W8 =>
   cases W8
   cases r
   cases r'
   let⟨aA,rv,p⟩:=I1.sq uO;let⟨bO,xy,p2⟩:=I1.sq uP;let b1:l1<⇑s1:=p.lt;let b2:l2<⇑s1:=p2.lt;calc WU p p2 λh' hz l3 nu vL pz hk=>?_;let I2:Inv X pins σ H1 {s1 with heap:=h'}:=I1.kept (t':=s1.toks) hk;let D:=W5 ⇑s1 l1 l2 b1 b2;calc q6Q hz ?_;refine⟨_,_,_,_,H1,Y,I2,WV D (q0g b1) (q0g (q0O b2)),⟨hz,l3,⟨_,_,nu⟩,vL,pz⟩,λb hb=>?_,q⟩
   let hb':⇑s1<=b:=by
    erw[Qu,q0s,q1v] at hb;rcases hb with rfl|rfl|rfl|rfl|rfl
    .exact q19 _ _
    .exact q19 _ _
    .exact q19 _ _
    .exact Im _
    .exact q19 _ _
   calc I1.hZ hb' (I1.bu.fresh hb')
end
section
variable[bf]{X:Cx}{a b:l}{fa:WA}
def zM(fa:WA):WI:=fun δ K=>fa δ λxs δ1=>match xs with
 |[x,y]=>qR x δ1 λi=>qR y δ1 λj=>K ⟨df i.items j.items,fun δ'=>i.b9 δ'/\j.b9 δ'⟩ δ1
 |_=>False
theorem Ls{F H:Hp}{ad:-O}{δ:aN}{σ:St}{x:DV}{v:V}{K0:My}{K:oU->Prop}(S:SR F ad δ σ H)(hv:dG F ad x v)(h:qR x δ K):∃a it t,v=.ref a/\K it/\(∃xs,lB K0 H t a xs) ∧
  ∀(F':Hp)(aL:-O)(δ':aN)(σ':St)(H':Hp),bc F F'->(∀(k:Nat)(a:O),ad[k]?=U a->aL[k]?=U a)->SR F' aL δ' σ' H'->it.b9 δ'->∃ws,lB K0 H' t a ws/\ai F' it.items ws:=by
 let⟨a,it,e,hk,r⟩:=Cy S hv h;rcases r with⟨⟨vs,e1⟩,r⟩|⟨⟨vs,e1⟩,r⟩
 .exact⟨a,it,ι,e,hk,⟨vs,bT.of e1⟩,λF' aL δ' σ' H' s pre S' ck=>let⟨ws,q1,q2⟩:=r F' aL δ' σ' H' s pre S' ck;⟨ws,bT.of q1,q2⟩⟩
 .calc⟨a,it,θ,e,hk,⟨vs,bZ.of e1⟩,λF' aL δ' σ' H' s pre S' ck=>let⟨ws,q1,q2⟩:=r F' aL δ' σ' H' s pre S' ck;⟨ws,bZ.of q1,q2⟩⟩
theorem W9{elts:-l}{x1:Nat}{tp p pos:Ε}(hg:Gl X "zip")(hm:X.mg "zip" = Z)(ha:JA X [a,b] (cy fa))(hs:starEach [a,b] X.env=[(ι,eval a X.env),(ι,eval b X.env)]:=by rfl)(eV:starEach [b] X.env=[(ι,eval b X.env)]:=by rfl):
  JI X (.Tuple elts x1 tp) (.Call (.Name "zip" p) [a,b] [] pos) (kz (zM fa)):=(W7 hg hm ha hs eV).weak fun σ H R ⟨F,ad,δ,K,S,q,k⟩=>⟨F,ad,δ,_,S,q,λxs δ1 h1 vs F1 bp H1 E1 S1 V1=>by
 match xs,h1,V1 with
 |[x,y],g1,⟨v,r,e,W1,w,r2,e2,W2,W3⟩ =>
  subst e;subst e2;let W4:r2=[]:=W3;subst W4;let⟨a,it,t,rfl,xc,tL,r⟩:=Ls (K0:=X.K) S1 W1 g1;let⟨b,jt,u,rfl,hk,eV,r'⟩:=Ls (K0:=X.K) S1 W2 xc;calc⟨a,b,t,u,Y,tL,eV,k _ _ hk _ _ _ _ E1 S1 λF' aL δ' σ' H' s pre S' ck=>?_⟩;let⟨ws,e1,e2⟩:=r F' aL δ' σ' H' s pre S' ck.1;let⟨zs,e3,e4⟩:=r' F' aL δ' σ' H' s pre S' ck.2;refine⟨⟨ws,zs,e1,e3,?_⟩,λi d ed=>?_⟩
  .rw[↑e2,↑e4,yI];symm
  .let⟨d1,d2,W_,Xa,rfl⟩:=Jl ed
   let⟨w1,f1,g1⟩:=qT e2 W_;let⟨w2,f2,g2⟩:=qT e4 Xa;calc⟨⟨ws,zs,w1,w2,e1,e3,f1,f2⟩,λy lL ⟨T,v1,v2,ey,hT,eh,Xb,Xc⟩=>?_⟩;subst eh ey;let q1:=Xb ws e1;let q2:=Xc zs e3;rw[f1] at q1;cases q1;rw[f2] at q2;cases q2;exact⟨cK hT,Cz S'.sub hT g1 g2⟩
 |[],h1,_=>exact h1.elim
 |[_],h1,_=>exact h1.elim
 |_::_::_::_,h1,_=>calc h1.elim⟩
end
end L2
namespace LJ
open PySem L2
variable[bf]
theorem Xd{ds:-D}{t:Nat}(h:t<=↑ds):cutD ds Z (U (t:Int))=ds.take t:=by
 unfold cutD;rw[HT.HN,HT.ya ↑ds ↑ds t,q5b h,q3T,q56]
inductive FA (ys:-DV) (aB:-OV) (K:RV->-OV->Prop):Prop
 |mk (m:Int) (ws:-Wy) (l:-Int) (n:Int) (_:aY m ws) (_:(0<=n/\n<(↑ws:Int))) (_:ys=[.p (bq m ws),.p (bH l),.p (.int n)]) (_:aB=[]) (_:K (.p (.bl (fM l (aK ws n)))) [])
def FC:WS:=(aD (i9 (gq (d2 (d2 (aa 0) (dC (.int 1)) bw) (aa 2) bw) gi (mM (dC (.int 2)))) (i8 2 (d7 (bQ 3) (d7 (bQ 4) iO)))) (bh (d2 (d2 (aa 3) (aa 1) (f6 ι)) (d2 (aa 4) (aa 1) (f6 ι)) pd)))
theorem Xe:Sem 3 2 FA FC:=by
 ext ys aB K'-⟨m,ws,l,n,W,⟨n0,n1⟩,rfl,rfl,k⟩;let⟨y,ey,hy,ea,_⟩:=qZ W n0 n1;let ew:aK ws n=y:=ey;rw[ew] at k;unfold FC;calc bt λN hN=>?_;let c2:cutD [D.int y.1,D.int y.2.1,D.int y.2.2] Z (U 2)=[D.int y.1,D.int y.2.1]:=Y;simp![bq,eF,ea,bR,c2];subst hN;simp![bH];let d0:=g9 l;calc⟨⋯,⋯,?_⟩;rw[jf,jf];unfold fM at k;generalize G (y.1∈l)=p at k;generalize G (y.2.1∈l)=q at k;cases p<;>cases q<;>calc cB k
noncomputable def xA:D->D
 |.tup [_,n]=>n
 |_=>.non
inductive xB (ys:-DV) (aB:-OV) (K:RV->-OV->Prop):Prop
 |mk (m:Int) (ws:-Wy) (us:-Int) (h:Int) (_:aY m ws) (_:Nums ws us) (_:(0<=h/\h<m)) (_:ys=[.p (bq m ws),.p (bH us),.p (.int h)]) (_:aB=[]) (_:K (.p (bH (bo m ws us h))) [])
def FD:WS:=(aD (bj 3 (aJ 2 DB (aq (aa 0) (aq (aa 1) ah)))) (bh (d9 (mK (aq (d2 (aa 0) (dC (.int 0)) bw) ah)) [Z,U 3,U 2] (bQ 0) (dT (d2 (d2 (aa 1) (aa 0) bw) (d2 (aa 1) (aa 2) bw) oEq)) (aa 0))))
open Classical in
theorem Xf:Sem 3 1 xB FD:=by
 rintro ys aB K'-⟨m,ws,us,h,W,hu,hh,rfl,rfl,k⟩;obtain⟨i,rfl⟩:=q2J hh.1;have hi:i<m.toNat:=by symm
 have iL:=W.iL;have mo:=KC W hu;have a1:=sT (ns:=qY m ws us) (i:=i) (by rw[mo.1];exact hi);unfold bo at k;unfold FD;refine bt λN hN=>?_;simp!;refine⟨m,ws,us,W,hu,.inl ⟨rfl,rfl,?_⟩⟩;generalize qY m ws us=fs at mo a1;rw[show bH fs=.lst (fs.map D.int) from rfl];simp!;subst hN;simp![bq,dm];refine⟨⋯,?_⟩
 refine L2.k6 (λd=>match d with
  |.int x=>decide (bG (g8 ws us) i x)
  |_=>false) id (by rw[n8];symm) trivial ?_ ?_
 .intro d hd acc L' ha h1 h2
  obtain⟨z,hz⟩:=q0j.mp hd;obtain⟨zl,rfl⟩:=o8 hz;rw[q6s] at h1 h2 ⊢;have a2:=sT (ns:=fs) (i:=z) (by rw[mo.1];exact zl);dsimp only at h1 h2;simp![a1,a2];rw[w_]
  by_cases q:bG (g8 ws us) i z
  .rw[q0n ((mo.2 z i zl hi).mpr q.symm)]
   simp!;exact⟨ha,h1 (q0n q)⟩
  .rw[q0e λy=>q ((mo.2 z i zl hi).mp y).symm]
   simp!;exact h2 (q0e q)
 have e:((dw 0 m.toNat).filter λd=>match d with
  |.int x=>decide (bG (g8 ws us) i x)
  |_=>false).map id=(cls m.toNat (g8 ws us) i).map D.int:=by
  unfold cls;rw[q5A,wC,q17];rfl
 rw[e];exact cB k
inductive FE (ys:-DV) (aB:-OV) (K:RV->-OV->Prop):Prop
 |mk (m:Int) (ws:-Wy) (l us:-Int) (_:aY m ws) (_:Nums ws us) (_:↑us<=30) (_:ys=[.p (bq m ws),.p (bH l),.p (bH us)]) (_:aB=[]) (_:∀os:-Int,os.Perm (us.filter λn=>fM l (aK ws n))->(os.map (fm ws)).Pairwise kle->K (.p (bH os)) [])
def FF:WS:=(aD (bj 3 (d9 (cq (aa 2)) [Z,U 0,U 1] (bQ 0) (dT (aJ 3 FA (aq (aa 1) (aq (aa 2) (aq (aa 0) ah))))) (bW (aq (aJ 2 D4 (aq (aa 1) (aq (aa 0) ah))) (aq (aa 0) ah))))) (bh (d9 (cq (dN (aq (aa 3) ah) zf)) [Z,Z] (i8 2 (d7 (bQ 0) (d7 (bQ 1) iO))) du (aa 1))))
theorem Xg:Sem 3 1 FE FF:=by
 ext ys aB K'-⟨m,ws,l,us,W,hu,Xh,rfl,rfl,k⟩;let ol:↑(us.filter λn=>fM l (aK ws n))<=30:=q0B (q0P _ _) Xh;unfold FF;calc bt λN hN=>?_;rw[show bH us=.lst (us.map D.int) from Y];simp!
 refine k6 (λd=>match d with
  |.int n=>fM l (aK ws n)
  |_=>ι) (λd=>match d with
  |.int n=>lg ws n
  |_=>.non) (by rw[BE];symm) trivial ?_ ?_
 .ext d hd acc L ha h1 h2
  let⟨n,hn,rfl⟩:=q0q.mp hd;let nn:=hu n hn;dsimp only at h1 h2;simp!;calc⟨m,ws,l,n,W,nn,Y,Y,?_⟩;simp!
  cases q:fM l (aK ws n) with
  |false=>simp!;exact h2 q
  |true =>
   simp!;calc⟨m,ws,n,W,nn,Y,Y,?_⟩;simp!;exact⟨ha,h1 q⟩
 let e:((us.map D.int).filter λd=>match d with
  |.int n=>fM l (aK ws n)
  |_=>ι).map (λd=>match d with
  |.int n=>lg ws n
  |_=>.non)=(us.filter λn=>fM l (aK ws n)).map (lg ws):=by
  rw[q17,q0I];rfl
 rw[e];generalize us.filter (λn=>fM l (aK ws n))=ls at ol k;subst hN;simp![zf]
 refine⟨⋯,λd=>match d with
  |.tup [.tup ks,.int n]=>(match intsOf ks with
   |some l=>l++[n]
   |none=>[])
  |_=>[],.inr ⟨3,λd hd=>?_⟩,λout pm pw=>?_⟩
 .let⟨n,_,rfl⟩:=q0q.mp hd
  refine⟨fm ws n,n,Y,Y,?_⟩
  show(match intsOf ((fm ws n).map D.int) with
   |some l=>l++[n]
   |none=>[])=_
  rw[n9]
 .let⟨ns,rfl,pn⟩:∃ns:-Int,out=ns.map (lg ws)/\ns.Perm ls:=by
   refine⟨out.map λd=>match d with
    |.tup [_,.int n]=>n
    |_=>0,?_,?_⟩
   .rw[q0I]
    calc(q5A out).symm.trans (q2E λd hd=>?_);let⟨n,_,rfl⟩:=q0q.mp (pm.mem_iff.mp hd);rfl
   .let:=pm.map λd=>match d with
     |.tup [_,.int n]=>n
     |_=>0
    rw[q0I] at this;exact this.trans (List.Perm.of_eq ((q2E λn _=>Y).trans (q5A _)))
  let nl:↑ns<=30:=by rw[pn.length_eq];exact ol
  let up:(ns.map (fm ws)).Pairwise kle:=by
   rw[q0I] at pw;rw[q2S] at pw ⊢;refine pw.imp λ{a b} h=>?_
   let h:kle ((match intsOf ((fm ws a).map D.int) with
    |some l=>l++[a]
    |none=>[])) ((match intsOf ((fm ws b).map D.int) with
    |some l=>l++[b]
    |none=>[])):=h
   rw[n9,n9] at h;exact Uy Y h
  refine L2.kC xA (by rw[BE];symm) trivial ?_ ?_
  .ext d hd acc L ha h
   let⟨n,_,rfl⟩:=q0q.mp hd;simp![lg];exact⟨ha,h⟩
  .let e:(ns.map (lg ws)).map xA=ns.map D.int:=by rw[q0I];rfl
   rw[e];calc cB (k ns pn up)
noncomputable def eS:gT->D
 |none=>.non
 |some x=>.tup [oD x.1,.int x.2]
noncomputable def lO(a b:O)(N:Nt):OV:=.av a [(.inr "put",.p (bH N.p)),(.inr "known",.p (bH N.k)),(.inr "sure",.p (bH N.s)),(.inr "searches",.w b)]
noncomputable def sO(b:O)(N:Nt):OV:=.al b (N.q.map eS)
def zN(C:O):GK:=λys aB K=>ys=[]/\aB=[]/\∀a b,K (.w a) [] [lO a b bU,sO b bU]
def FG(c_Night:O):WS:=(bh (aV [("put",(dS ah)),("known",(dS ah)),("sure",(dS ah)),("searches",(oS ah))]))
theorem Xi(C:O):∀ys aB K',↑ys=0->zN C ys aB K'->FG C (ae ↑aB K') ⟨ys.map U++q0h 0 Z,aB.map U⟩:=by
 ext ys aB K'-⟨rfl,rfl,k⟩;unfold FG;simp![af,ag,aG,toF,aF,aE,aH,aj,aI,FV.v,ae,oO,r_,ak,aP,aV,aQ,aR,aU,aS,ay,au,ar,aO,aX,aW,aw,ba,a_,aZ,sd,tV];ext b a;calc⟨[],[lO a b bU,sO b bU],[],Y,Y,k a b⟩
noncomputable def jl:Nat->-gT->-Int
 |_,[]=>[]
 |i,none::r=>jl (i+1) r
 |i,some _::r=>(i:Int)::jl (i+1) r
theorem FH:∀{i:Nat}{q:-gT}{x:Int},x∈jl i q->∃j fo h,x=((i+j:Nat):Int)/\q[j]?=U (U (fo,h))
 |i,[],x,h=>nomatch h
 |i,none::r,x,h=>by
  let⟨j,fo,h',e,g⟩:=FH (i:=i+1) (q:=r) h;exact⟨j+1,fo,h',by rw[e];congr 1;symm,by simpa using g⟩
 |i,some y::r,x,h=>by
  rcases Qu.mp h with rfl|h
  .exact⟨0,y.1,y.2,Y,Y⟩
  .let⟨j,fo,h',e,g⟩:=FH (i:=i+1) (q:=r) h
   calc⟨j+1,fo,h',by rw[e];congr 1;symm,by simpa using g⟩
theorem FI:∀{i:Nat}{q:-gT},↑(jl i q)<=↑q
 |i,[]=>Im _
 |i,none::r=>q6x (FI (i:=i+1) (q:=r))
 |i,some x::r=>q4G (FI (i:=i+1) (q:=r))
noncomputable def nv:D->Bool
 |.tup [_,.non]=>ι
 |_=>θ
noncomputable def iA:D->D
 |.tup [x,_]=>x
 |_=>.non
theorem FJ:∀{i:Nat}{q:-gT},(((jA i (q.map eS)).filter nv).map iA)=(jl i q).map D.int
 |i,[]=>Y
 |i,none::r=>by
  show((D.tup [.int i,.non]::jA (i+1) (r.map eS)).filter nv).map iA=_;rw[q4L (by simp[nv])];exact FJ (i:=i+1) (q:=r)
 |i,some y::r=>by
  show((D.tup [.int i,.tup [oD y.1,.int y.2]]::jA (i+1) (r.map eS)).filter nv).map iA=_;rw[q4M (by rfl),q0r,FJ (i:=i+1) (q:=r)];rfl
def FK(C:O):GK:=λys aB K=>∃(a b:O)(N:Nt),↑N.q<900/\ys=[.w a]/\aB=[lO a b N,sO b N]/\K (.p (bH (jl 0 N.q))) [lO a b N,sO b N] []
def FL(c_Night:O):WS:=(bh (d9 (i_ (aq (ag (ak "searches" (aa 0))) ah)) [Z,Z] (i8 2 (d7 (bQ 0) (d7 (bQ 1) iO))) (dT (d2 (aa 1) (dC .non) wO)) (aa 0)))
theorem Xj(C:O):∀ys aB K',↑ys=1->FK C ys aB K'->FL C (ae ↑aB K') ⟨ys.map U++q0h 0 Z,aB.map U⟩:=by
 ext ys aB K'-⟨a,b,N,ql,rfl,rfl,k⟩;unfold FL;simp![af,ag,aG,toF,aF,aE,aH,aj,aI,FV.v,ae,oO,r_,ak,aP,aV,aQ,aR,aU,aS,ay,au,ar,aO,aX,aW,aw,ba,a_,aZ,sd,tV];calc⟨a,0,_,.w b,⟨Y,Y,Y⟩,b,1,sO b N,⟨Y,Y,Y⟩,?_⟩;simp![af,ag,aG,toF,aF,aE,aH,aj,aI,FV.v,ae,oO,r_,ak,aP,aV,aQ,aR,aU,aS,ay,au,ar,aO,aX,aW,aw,ba,a_,aZ,sd,tV,sO];refine L2.k6 nv iA ?_ ?_ ?_ ?_
 .rw[o9,BE];symm
 .trivial
 .ext d hd acc L ha h1 h2
  let⟨i,hi⟩:=q0j.mp hd;let⟨e,g1,rfl⟩:=o_ hi;rw[Qw] at g1;let⟨s,hs,rfl⟩:=q0f.mp g1;rw[q0G] at h1 h2 ⊢;simp![af,ag,aG,toF,aF,aE,aH,aj,aI,FV.v,ae,oO,r_,ak,aP,aV,aQ,aR,aU,aS,ay,au,ar,aO,aX,aW,aw,ba,a_,aZ,sd,tV]
  cases s with
  |none=>simp![af,ag,aG,toF,aF,aE,aH,aj,aI,FV.v,ae,oO,r_,ak,aP,aV,aQ,aR,aU,aS,ay,au,ar,aO,aX,aW,aw,ba,a_,aZ,sd,tV,eS];exact h2 Y
  |some y=>simp![af,ag,aG,toF,aF,aE,aH,aj,aI,FV.v,ae,oO,r_,ak,aP,aV,aQ,aR,aU,aS,ay,au,ar,aO,aX,aW,aw,ba,a_,aZ,sd,tV,eS];exact⟨ha,h1 Y⟩
 .rw[FJ]
  calc⟨[_,_],[],[],Y,Y,k⟩
theorem FN{a b:O}{N:Nt}:∃kvs,lO a b N=.av a kvs/\dA kvs (.inr "put")=U (.p (bH N.p))/\dA kvs (.inr "known")=U (.p (bH N.k))/\dA kvs (.inr "sure")=U (.p (bH N.s))/\dA kvs (.inr "searches")=U (.w b)/\↑kvs=4
 /\ (∀d,putD kvs (.inr "put") d=[(.inr "put",d),(.inr "known",.p (bH N.k)),(.inr "sure",.p (bH N.s)),(.inr "searches",.w b)])
 /\ (∀d,putD kvs (.inr "known") d=[(.inr "put",.p (bH N.p)),(.inr "known",d),(.inr "sure",.p (bH N.s)),(.inr "searches",.w b)])
 /\ (∀d,putD kvs (.inr "sure") d=[(.inr "put",.p (bH N.p)),(.inr "known",.p (bH N.k)),(.inr "sure",d),(.inr "searches",.w b)]) :=
 ⟨_,Y,Y,Y,Y,Y,Y,λ_=>Y,λ_=>Y,λ_=>Y⟩
theorem Xk(l:-Int):((l.map D.int).any λe=>dEq e .non)=ι:=by
 rw[q8G];calc q2c.mpr λx _=>by simp[dEq]
noncomputable def xC(one:Int)(g:-Int):D->Bool
 |.tup [.int n,.tup [.int i,.int j,_]]=>(G (one=i)||G (one=j))&&G (n∉g)
 |_=>ι
theorem Xl(ws:-Wy)(one:Int)(g:-Int):((jA 0 (ws.map bR)).filter (xC one g)).map iA=(nk ws g one).map D.int:=by
 let gen:∀(pre:-Wy)(ys:-Wy),ws=pre++ys->((jA pre.length (ys.map bR)).filter (xC one g)).map iA=(((q4j pre.length ↑ys).map λ(i:Nat)=>(i:Int)).filter λn=>(G (one=(aK ws n).1)||G (one=(aK ws n).2.1))&&G (n∉g)).map D.int:=by
  ext pre ys
  induction ys generalizing pre with
  |nil=>ext _;rfl
  |cons y r ih =>
   ext e;let h:=ih (pre++[y]) (by rw[q2v];calc e);rw[Qs,q0W] at h
   let ey:aK ws (pre.length:Int)=y:=by
    unfold aK;rw[q0x,e,Qv,q0b (Im _),q03];rfl
   show((D.tup [.int (pre.length:Nat),bR y]::jA (pre.length+1) (r.map bR)).filter (xC one g)).map iA=_;rw[Ip,q6M,q0r,q1h,q1h,ey];show(if((G (one=y.1)||G (one=y.2.1))&&G ((pre.length:Int)∉g))=θ then _ else _:-D).map iA=_;split
   .rw[q0r,q0r,h];rfl
   .exact h
 let:=gen [] ws Y;rw[q1n] at this;rw[this];unfold nk cj;rw[q2V]
theorem Lu(ws:-Wy)(g l:-Int):↑(ji ws g l)<=↑l*↑ws:=by
 unfold ji
 induction l with
 |nil=>simp
 |cons x r ih =>
  rw[q6A,Qs,Ip,q8o]
  let:↑(nk ws g x)<=↑ws:=by
   unfold nk;calc q0B (q0P _ _) ?_;rw[sV];exact Im _
  symm
def FO(C:O):GK:=λys aB K=>∃(a b:O)(m:Int)(ws:-Wy)(N:Nt)(h:Int),aY m ws/\eI m ws N/\(0<=h/\h<m)/\↑N.q<900/\ys=[.p (bq m ws),.w a,.p (.int h)]/\aB=[lO a b N,sO b N]/\K (.p (jZ (N.tell m ws (.wake h)))) [lO a b (N.step m ws (.wake h)),sO b (N.step m ws (.wake h))] []
def FP(c_Night:O):WS:=(aD (bS (dT (d2 (aa 2) (ak "sure" (aa 1)) (f6 ι))) (aD (ky (ij (ag (ak "searches" (aa 1))) (aq (dC .non) ah))) (bh (bW (aq (dC .non) (aq (dC (.int 0)) ah))))) dZ) (aD (bj 3 (aJ 3 xB (aq (aa 0) (aq (ak "put" (aa 1)) (aq (aa 2) ah))))) (aD (bj 4 (d2 (ak "put" (aa 1)) (ak "known" (aa 1)) dh)) (aD (bj 5 (oS ah)) (aD (e8 (cq (aa 3)) (bQ 6) (ky (ph (aa 5) (aq (d9 (i_ (aq (d2 (aa 0) (dC (.int 1)) bw) ah)) [Z,Z,U 6,U 4] (i8 2 (d7 (bQ 0) (d7 (bQ 1) iO))) (fQ (dT (d2 (aa 2) (gq (aa 1) gi (mM (dC (.int 2)))) (f6 ι))) (dT (d2 (aa 0) (aa 3) (f6 θ)))) (aa 0)) ah)))) (aD (bj 7 (aJ 3 FE (aq (aa 0) (aq (aa 3) (aq (dN (aq (aa 5) ah) aO) ah))))) (aD (aP "known" (dN (aq (d2 (ak "known" (aa 1)) (d9 (cq (dN (aq (aa 5) ah) aO)) [Z,U 7] (bQ 0) (dT (d2 (aa 0) (aa 1) (f6 θ))) (aa 0)) dh) ah) mN) (aa 1)) (aD (ky (ij (ag (ak "searches" (aa 1))) (aq (bW (aq (uc (dT (d2 (aa 7) (dS ah) pd)) (d2 (aa 7) (dC (.int 0)) bw) (dC .non)) (aq (aa 2) ah))) ah))) (bh (bW (aq (dC .non) (aq (d2 (d2 (dC (.int 2)) (d2 (dN (aq (aa 3) ah) cw) (dC (.int 1)) (oI λi j=>.int (i-j))) e_) (d2 (dC (.int 2)) (dN (aq (aa 5) ah) cw) e_) dh) ah))))))))))))
theorem Xm(C:ξ):∀ys aB K',↑ys=3->FO C ys aB K'->FP C (ae ↑aB K') ⟨ys.map U++q0h 5 Z,aB.map U⟩:=by
 ext ys aB K'-⟨a,b,m,ws,N,h,W,O,hh,ql,rfl,rfl,k⟩;let k_:=W.iT;let d0:=g9 N.s;let pl:=O.pl W;let kl:=O.kl W;let ll:=uL W (p:=N.p) (h:=h);unfold FP;calc bt λM hM=>?_;calc jC λA B hA hB=>?_;simp![af,ag,aG,toF,aF,aE,aH,aj,aI,FV.v,ae,oO,r_,ak,aP,aV,aQ,aR,aU,aS,ay,au,ar,aO,aX,aW,aw,ba,a_,aZ,sd,tV];calc⟨a,0,_,.p (bH N.s),⟨Y,Y,Y⟩,?_⟩;simp![af,ag,aG,toF,aF,aE,aH,aj,aI,FV.v,ae,oO,r_,ak,aP,aV,aQ,aR,aU,aS,ay,au,ar,aO,aX,aW,aw,ba,a_,aZ,sd,tV,bH];calc⟨⋯,?_⟩;rw[jf];unfold Nt.tell Nt.step at k;dsimp only at k
 by_cases c:h∈N.s
 .rw[q0n c]
  rw[q0k c,q0k c] at k;simp![af,ag,aG,toF,aF,aE,aH,aj,aI,FV.v,ae,oO,r_,ak,aP,aV,aQ,aR,aU,aS,ay,au,ar,aO,aX,aW,aw,ba,a_,aZ,sd,tV];subst hA;calc bt λM2 qf=>?_;simp![af,ag,aG,toF,aF,aE,aH,aj,aI,FV.v,ae,oO,r_,ak,aP,aV,aQ,aR,aU,aS,ay,au,ar,aO,aX,aW,aw,ba,a_,aZ,sd,tV];calc⟨a,0,_,.w b,⟨Y,Y,Y⟩,b,1,sO b N,⟨Y,Y,Y⟩,?_⟩;simp![af,ag,aG,toF,aF,aE,aH,aj,aI,FV.v,ae,oO,r_,ak,aP,aV,aQ,aR,aU,aS,ay,au,ar,aO,aX,aW,aw,ba,a_,aZ,sd,tV,sO];calc⟨⋯,?_⟩;subst qf;simp![af,ag,aG,toF,aF,aE,aH,aj,aI,FV.v,ae,oO,r_,ak,aP,aV,aQ,aR,aU,aS,ay,au,ar,aO,aX,aW,aw,ba,a_,aZ,sd,tV];refine⟨[_,_],[],[],Y,Y,?_⟩
  unfold lO sO at k;dsimp only at k;rw[q0w] at k;exact k
 .rw[q0e c]
  rw[q0i c,q0i c] at k;simp![af,ag,aG,toF,aF,aE,aH,aj,aI,FV.v,ae,oO,r_,ak,aP,aV,aQ,aR,aU,aS,ay,au,ar,aO,aX,aW,aw,ba,a_,aZ,sd,tV];subst hB;show M _;subst hM;calc bt λM hM=>?_;simp![af,ag,aG,toF,aF,aE,aH,aj,aI,FV.v,ae,oO,r_,ak,aP,aV,aQ,aR,aU,aS,ay,au,ar,aO,aX,aW,aw,ba,a_,aZ,sd,tV];calc⟨a,0,_,.p (bH N.p),⟨Y,Y,Y⟩,?_⟩;simp![af,ag,aG,toF,aF,aE,aH,aj,aI,FV.v,ae,oO,r_,ak,aP,aV,aQ,aR,aU,aS,ay,au,ar,aO,aX,aW,aw,ba,a_,aZ,sd,tV];calc⟨m,ws,N.p,h,W,O.pn,hh,Y,Y,?_⟩;simp![af,ag,aG,toF,aF,aE,aH,aj,aI,FV.v,ae,oO,r_,ak,aP,aV,aQ,aR,aU,aS,ay,au,ar,aO,aX,aW,aw,ba,a_,aZ,sd,tV]
  subst hM;let⟨l,hl⟩:∃l,l=bo m ws N.p h:=⟨_,Y⟩;rw[<-hl] at ll;rw[<-hl];calc bt λM hM=>?_;simp![af,ag,aG,toF,aF,aE,aH,aj,aI,FV.v,ae,oO,r_,ak,aP,aV,aQ,aR,aU,aS,ay,au,ar,aO,aX,aW,aw,ba,a_,aZ,sd,tV];calc⟨a,0,_,.p (bH N.p),⟨Y,Y,Y⟩,a,0,_,.p (bH N.k),⟨Y,Y,Y⟩,?_⟩;simp![af,ag,aG,toF,aF,aE,aH,aj,aI,FV.v,ae,oO,r_,ak,aP,aV,aQ,aR,aU,aS,ay,au,ar,aO,aX,aW,aw,ba,a_,aZ,sd,tV,bH,BE];calc⟨⋯,?_⟩;rw[<-q0w];subst hM;calc bt λM hM=>?_;simp![af,ag,aG,toF,aF,aE,aH,aj,aI,FV.v,ae,oO,r_,ak,aP,aV,aQ,aR,aU,aS,ay,au,ar,aO,aX,aW,aw,ba,a_,aZ,sd,tV];subst hM;let⟨g,hg⟩:∃g,g=N.p++N.k:=⟨_,Y⟩
  rw[<-hg];let dg:=g9 g;let al:=Lu ws g l;let al2:↑l*↑ws<=12*30:=q7B ll k_;calc bt λM hM=>pB λg' b' K2 Xn hb' hK=>?_;simp![af,ag,aG,toF,aF,aE,aH,aj,aI,FV.v,ae,oO,r_,ak,aP,aV,aQ,aR,aU,aS,ay,au,ar,aO,aX,aW,aw,ba,a_,aZ,sd,tV];subst Xn hb' hK;refine mO (λi δ=>δ=⟨[U (.p (bq m ws)),U (.w a),U (.p (.int h)),U (.p (.lst (l.map D.int))),U (.p (.lst (g.map D.int))),U (.o 2),Z,Z],[U (lO a b N),U (sO b N),U (.lst ((ji ws g (l.take i)).map D.int))]⟩) Y ?_ ?_
  .ext i d δ L hi rfl hL
   rw[Qw] at hi;let⟨one,ho,rfl⟩:=q0f.mp hi;calc⟨trivial,?_⟩;let al3:=Lu ws g (l.take i);let il:i<↑l:=(Il.mp ho).1;let al4:↑(l.take i)*↑ws<=12*30:=q7B (by rw[q0D];symm) k_
   let al5:↑(nk ws g one)<=↑ws:=by
    unfold nk;calc q0B (q0P _ _) ?_;rw[sV];exact Im _
   erw[bQ,q0Y,q0Z];simp![af,ag,aG,toF,aF,aE,aH,aj,aI,FV.v,ae,oO,r_,ak,aP,aV,aQ,aR,aU,aS,ay,au,ar,aO,aX,aW,aw,ba,a_,aZ,sd,tV,bq,eF];refine L2.k6 (xC one g) iA (by rw[o9,BE];symm) trivial ?_ ?_
   .ext d hd acc L' ha h1 h2
    let⟨j,hj⟩:=q0j.mp hd;let⟨e,g1,rfl⟩:=o_ hj;rw[Qw] at g1;let⟨y,hy,rfl⟩:=q0f.mp g1;let c2:cutD [D.int y.1,D.int y.2.1,D.int y.2.2] Z (U 2)=[D.int y.1,D.int y.2.1]:=Y;erw[xC,bR,q0G] at h1 h2;simp![af,ag,aG,toF,aF,aE,aH,aj,aI,FV.v,ae,oO,r_,ak,aP,aV,aQ,aR,aU,aS,ay,au,ar,aO,aX,aW,aw,ba,a_,aZ,sd,tV,bR,c2]
    let e1:(dEq (.int y.1) (.int one)||dEq (.int y.2.1) (.int one))=(G (one=y.1)||G (one=y.2.1)):=by
     rw[w_,w_,decide_eq_decide.mpr (@eq_comm _ y.1 one),decide_eq_decide.mpr (@eq_comm _ y.2.1 one)]
    rw[e1]
    cases q:(G (one=y.1)||G (one=y.2.1)) with
    |false =>
     rw[q] at h2;simp![af,ag,aG,toF,aF,aE,aH,aj,aI,FV.v,ae,oO,r_,ak,aP,aV,aQ,aR,aU,aS,ay,au,ar,aO,aX,aW,aw,ba,a_,aZ,sd,tV];exact h2 Y
    |true =>
     rw[q] at h1 h2;simp![af,ag,aG,toF,aF,aE,aH,aj,aI,FV.v,ae,oO,r_,ak,aP,aV,aQ,aR,aU,aS,ay,au,ar,aO,aX,aW,aw,ba,a_,aZ,sd,tV];calc⟨⋯,?_⟩;rw[jf]
     by_cases cg:(j:Int)∈g
     .rw[q0n cg]
      simp![af,ag,aG,toF,aF,aE,aH,aj,aI,FV.v,ae,oO,r_,ak,aP,aV,aQ,aR,aU,aS,ay,au,ar,aO,aX,aW,aw,ba,a_,aZ,sd,tV];exact h2 (by rw[q5P];calc q0e (q4s cg))
     .rw[q0e cg]
      simp![af,ag,aG,toF,aF,aE,aH,aj,aI,FV.v,ae,oO,r_,ak,aP,aV,aQ,aR,aU,aS,ay,au,ar,aO,aX,aW,aw,ba,a_,aZ,sd,tV];exact⟨ha,h1 (by rw[q5P];calc q0n cg)⟩
   .rw[Xl]
    simp![af,ag,aG,toF,aF,aE,aH,aj,aI,FV.v,ae,oO,r_,ak,aP,aV,aQ,aR,aU,aS,ay,au,ar,aO,aX,aW,aw,ba,a_,aZ,sd,tV];calc⟨⋯,?_⟩;calc hL _ ?_;rw[Fs ho];unfold ji;rw[List.flatMap_append,q0w,q6A,List.flatMap_nil,oO];rfl
  .ext δ rfl
   calc⟨trivial,?_⟩;show M _;rw[BE,q2I];let am:∀x∈ji ws g l,0<=x/\x<(↑ws:Int):=λx hx=>(fG.mp hx).1.1;let Lw:=zt am k_;let rl:↑(f7 (ji ws g l))<=↑ws:=K1 am;let rn:Nums ws (f7 (ji ws g l)):=λx hx=>am x (bN.mp hx);let ec:=VS W N.p N.k l (by rw[hl];calc(xm ..).nd);let eo:=VP (h:=h) W O;let ek:=@VQ _ _ _ _ h W O;let ef:=@VR _ m ws W l;rw[<-hl] at eo ek;rw[<-hg] at eo ek ec;let hw:K' (.p (jZ (Z,xk m ws N.p N.k h))) [lO a b ⟨N.p,tj m ws N.p N.k h,N.s,N.q++[U (jh ws l,h)]⟩,sO b ⟨N.p,tj m ws N.p N.k h,N.s,N.q++[U (jh ws l,h)]⟩] []:=by rw[hl];exact k
   let hc:xk m ws N.p N.k h=2*((↑l:Int)-1)+2*(↑(ji ws g l):Int):=by
    unfold xk;rw[ec,<-hl]
   rw[hc] at hw;generalize ji ws g l=as at *;subst hM;calc bt λM hM=>?_;simp![af,ag,aG,toF,aF,aE,aH,aj,aI,FV.v,ae,oO,r_,ak,aP,aV,aQ,aR,aU,aS,ay,au,ar,aO,aX,aW,aw,ba,a_,aZ,sd,tV];rw[n9];dsimp only;calc⟨Lw,?_⟩;calc⟨m,ws,l,f7 as,W,rn,⋯,Y,Y,λos pm up=>?_⟩;rw[eo] at pm;let ol:=(Vg (ws:=ws) (l:=l));let pml:=pm.length_eq;let dos:=g9 os;simp![af,ag,aG,toF,aF,aE,aH,aj,aI,FV.v,ae,oO,r_,ak,aP,aV,aQ,aR,aU,aS,ay,au,ar,aO,aX,aW,aw,ba,a_,aZ,sd,tV];subst hM;calc bt λM hM=>?_;simp![af,ag,aG,toF,aF,aE,aH,aj,aI,FV.v,ae,oO,r_,ak,aP,aV,aQ,aR,aU,aS,ay,au,ar,aO,aX,aW,aw,ba,a_,aZ,sd,tV]
   calc⟨a,0,_,.p (bH N.k),⟨Y,Y,Y⟩,?_⟩;simp![af,ag,aG,toF,aF,aE,aH,aj,aI,FV.v,ae,oO,r_,ak,aP,aV,aQ,aR,aU,aS,ay,au,ar,aO,aX,aW,aw,ba,a_,aZ,sd,tV];rw[n9];dsimp only;calc⟨Lw,?_⟩;refine L2.k6 (qe λn=>G (n∉os)) (λd=>d) (by rw[BE];calc q0B rl ⋯) trivial ?_ ?_
   .ext d hd acc L ha h1 h2
    let⟨n,hn,rfl⟩:=q0q.mp hd;erw[qe] at h1 h2;simp![af,ag,aG,toF,aF,aE,aH,aj,aI,FV.v,ae,oO,r_,ak,aP,aV,aQ,aR,aU,aS,ay,au,ar,aO,aX,aW,aw,ba,a_,aZ,sd,tV,bH];calc⟨⋯,?_⟩;rw[jf]
    by_cases c:n∈os
    .rw[q0n c];simp![af,ag,aG,toF,aF,aE,aH,aj,aI,FV.v,ae,oO,r_,ak,aP,aV,aQ,aR,aU,aS,ay,au,ar,aO,aX,aW,aw,ba,a_,aZ,sd,tV];exact h2 (q0e (q4s c))
    .rw[q0e c];simp![af,ag,aG,toF,aF,aE,aH,aj,aI,FV.v,ae,oO,r_,ak,aP,aV,aQ,aR,aU,aS,ay,au,ar,aO,aX,aW,aw,ba,a_,aZ,sd,tV];exact⟨ha,h1 (q0n c)⟩
   rw[zE];let fl:=q0P (λn=>G (n∉os)) (f7 as);let t6:=ek pm
   change sortI (N.k++(sortI (gz as)).filter _)=_ at t6
   change ↑((sortI (gz as)).filter _)<=↑(sortI (gz as)) at fl
   change ↑(sortI (gz as))<=_ at rl
   simp![af,ag,aG,toF,aF,aE,aH,aj,aI,FV.v,ae,oO,r_,ak,aP,aV,aQ,aR,aU,aS,ay,au,ar,aO,aX,aW,aw,ba,a_,aZ,sd,tV,bH];calc⟨⋯,?_⟩;rw[<-q0w];unfold mN;dsimp only;rw[n9];dsimp only;calc⟨by rw[Qs];symm,?_⟩;rw[t6];let⟨kvs,e1,e2,e3,e4,e5,e6,p1,p2,p3⟩:=FN (a:=a) (b:=b) (N:=N);calc⟨a,0,kvs,⟨Y,by rw[e1];rfl,⋯⟩,?_⟩;rw[p2];subst hM;calc bt λM hM=>?_;let ef:=ef pm up
   let go:∀fd,fd=oD (jh ws l)->M ⟨[U (.p (.tup [.int m,.tup (ws.map bR)])),U (.w a),U (.p (.int h)),U (.p (.lst (l.map D.int))),U (.p (.lst (g.map D.int))),U (.o 2),Z,U (.p (.lst (os.map D.int)))],[U (.av a [(.inr "put",.p (bH N.p)),(.inr "known",.p (bH (tj m ws N.p N.k h))),(.inr "sure",.p (bH N.s)),(.inr "searches",.w b)]),U (.al b (N.q.map eS++[.tup [fd,.int h]])),U (.lst (as.map D.int))]⟩:=by
    ext fd rfl;subst hM;simp![af,ag,aG,toF,aF,aE,aH,aj,aI,FV.v,ae,oO,r_,ak,aP,aV,aQ,aR,aU,aS,ay,au,ar,aO,aX,aW,aw,ba,a_,aZ,sd,tV];calc⟨.inl ⟨by decide,by decide⟩,.inl ⟨by decide,by decide⟩,?_⟩;calc⟨[_,_],[],[U _],Y,Y,?_⟩;unfold lO sO at hw;dsimp only at hw;rw[q0w] at hw;exact hw
   cases os with
   |nil =>
    simp![af,ag,aG,toF,aF,aE,aH,aj,aI,FV.v,ae,oO,r_,ak,aP,aV,aQ,aR,aU,aS,ay,au,ar,aO,aX,aW,aw,ba,a_,aZ,sd,tV,bq];calc⟨a,0,_,.w b,⟨Y,Y,Y⟩,b,1,sO b N,⟨Y,Y,Y⟩,?_⟩;simp![af,ag,aG,toF,aF,aE,aH,aj,aI,FV.v,ae,oO,r_,ak,aP,aV,aQ,aR,aU,aS,ay,au,ar,aO,aX,aW,aw,ba,a_,aZ,sd,tV,sO,dEq,dy];calc⟨⋯,?_⟩;exact go _ (by rw[<-ef];rfl)
   |cons x r =>
    let zO:dEq (.lst ((x::r).map D.int)) (.lst [])=ι:=by simp[dEq,dy]
    let a0:eK ((x::r).map D.int) 0=U (.int x):=dm;let Lx:=g9 (x::r);generalize(x::r).map D.int=xr at zO a0 Lx go ⊢;simp![af,ag,aG,toF,aF,aE,aH,aj,aI,FV.v,ae,oO,r_,ak,aP,aV,aQ,aR,aU,aS,ay,au,ar,aO,aX,aW,aw,ba,a_,aZ,sd,tV,bq];calc⟨a,0,_,.w b,⟨Y,Y,Y⟩,b,1,sO b N,⟨Y,Y,Y⟩,?_⟩;simp![af,ag,aG,toF,aF,aE,aH,aj,aI,FV.v,ae,oO,r_,ak,aP,aV,aQ,aR,aU,aS,ay,au,ar,aO,aX,aW,aw,ba,a_,aZ,sd,tV,sO,zO,a0];calc⟨⋯,?_⟩;calc⟨⋯,?_⟩;calc go _ (by rw[<-ef];rfl)
def FQ(C:O):GK:=λys aB K=>∃(a b:O)(m:Int)(ws:-Wy)(N:Nt)(i:Nat),aY m ws/\eI m ws N/\gU m N (.fin i)/\ys=[.p (bq m ws),.w a,.p (.int (i:Int))]/\aB=[lO a b N,sO b N]/\K (.p (jZ (N.tell m ws (.fin i)))) [lO a b (N.step m ws (.fin i)),sO b (N.step m ws (.fin i))] []
def FR(c_Night:O):WS:=(aD (i9 (d2 (ag (ak "searches" (aa 1))) (aa 2) bw) (i8 2 (d7 (bQ 3) (d7 (bQ 4) iO)))) (aD (qV (dC .non) (ag (ak "searches" (aa 1))) (aa 2)) (aD (bS (nY (fQ (dT (d2 (aa 3) (dC .non) jc)) (dT (d2 (aa 4) (ak "sure" (aa 1)) (f6 ι)))) (dT (d2 (aa 3) (ak "put" (aa 1)) (f6 ι)))) (bh (bW (aq (dC .non) (aq (dC (.int 0)) ah)))) dZ) (aD (bS (dT (d2 (aa 3) (dC .non) jc)) (aD (bj 5 (aJ 3 xB (aq (aa 0) (aq (ak "put" (aa 1)) (aq (aa 4) ah))))) (aD (aP "sure" (dN (aq (d2 (ak "sure" (aa 1)) (aa 5) dh) ah) mN) (aa 1)) (bh (bW (aq (dC .non) (aq (d2 (dN (aq (aa 5) ah) cw) (dC (.int 1)) (oI λi j=>.int (i-j))) ah)))))) dZ) (aD (bj 6 (d9 (cq (gq (d2 (d2 (aa 0) (dC (.int 1)) bw) (aa 3) bw) gi (mM (dC (.int 2))))) [Z,U 0,U 1] (bQ 0) du (dN (aq (aJ 3 xB (aq (aa 1) (aq (ak "put" (aa 2)) (aq (aa 0) ah)))) ah) cw))) (aD (aP "put" (dN (aq (d2 (ak "put" (aa 1)) (dS (aq (aa 3) ah)) dh) ah) mN) (aa 1)) (bh (bW (aq (aa 3) (aq (d2 (dC (.int 1)) (dN (aq (aa 6) ah) uK) dh) ah))))))))))
theorem Xo{q:-gT}{i:Nat}{s:gT}(h:q[i]?=U s):eK (q.map eS) (i:Int)=U (eS s):=kh (by rw[Qw,h];rfl)
theorem Xp{q:-gT}{i:Nat}{s:gT}(h:q[i]?=U s):iX ↑q (i:Int)=U i:=by
 let:=(Il.mp h).1;unfold iX;rw[q0k ⋯,q0k ⋯,q0x]
theorem Xq(C:ξ):∀ys aB K',↑ys=3->FQ C ys aB K'->FR C (ae ↑aB K') ⟨ys.map U++q0h 4 Z,aB.map U⟩:=by
 ext ys aB K'-⟨a,b,m,ws,N,i,W,O,⟨fo,h,hq⟩,rfl,rfl,k⟩;let⟨hh,hw,hn⟩:=O.q i fo h hq;let ds:=g9 N.s;let dp:=g9 N.p;let k_:=W.iT;let pl:=O.pl W;let sl:=O.sl W;let ll:=uL W (p:=N.p) (h:=h);unfold Nt.tell Nt.step at k;dsimp only at k;rw[hq] at k;dsimp only at k;rw[Fm] at k;unfold FR;calc bt λM hM=>?_;simp![af,ag,aG,toF,aF,aE,aH,aj,aI,FV.v,ae,oO,r_,ak,aP,aV,aQ,aR,aU,aS,ay,au,ar,aO,aX,aW,aw,ba,a_,aZ,sd,tV];calc⟨a,0,_,.w b,⟨Y,Y,Y⟩,b,1,sO b N,⟨Y,Y,Y⟩,?_⟩;simp![af,ag,aG,toF,aF,aE,aH,aj,aI,FV.v,ae,oO,r_,ak,aP,aV,aQ,aR,aU,aS,ay,au,ar,aO,aX,aW,aw,ba,a_,aZ,sd,tV,sO,Xo hq,eS]
 subst hM;calc bt λM hM=>?_;simp![af,ag,aG,toF,aF,aE,aH,aj,aI,FV.v,ae,oO,r_,ak,aP,aV,aQ,aR,aU,aS,ay,au,ar,aO,aX,aW,aw,ba,a_,aZ,sd,tV];calc⟨a,0,_,.w b,⟨Y,Y,Y⟩,b,1,.al b (N.q.map eS),⟨Y,Y,Y⟩,?_⟩;simp![af,ag,aG,toF,aF,aE,aH,aj,aI,FV.v,ae,oO,r_,ak,aP,aV,aQ,aR,aU,aS,ay,au,ar,aO,aX,aW,aw,ba,a_,aZ,sd,tV,Xp hq]
 let es:(N.q.map eS).set i .non=(N.q.set i Z).map eS:=by
  show(N.q.map eS).set i (eS Z)=_;exact q8O.symm
 rw[es];unfold nh fR at k;subst hM;refine bt λM hM=>jC λA B hA hB=>?_
 cases fo with
 |none =>
  dsimp only at k;simp![af,ag,aG,toF,aF,aE,aH,aj,aI,FV.v,ae,oO,r_,ak,aP,aV,aQ,aR,aU,aS,ay,au,ar,aO,aX,aW,aw,ba,a_,aZ,sd,tV,oD];calc⟨a,0,_,.p (bH N.s),⟨Y,Y,Y⟩,?_⟩;simp![af,ag,aG,toF,aF,aE,aH,aj,aI,FV.v,ae,oO,r_,ak,aP,aV,aQ,aR,aU,aS,ay,au,ar,aO,aX,aW,aw,ba,a_,aZ,sd,tV,bH];calc⟨⋯,?_⟩;rw[jf]
  by_cases c:h∈N.s
  .rw[q0n c]
   rw[q0k c,q0k c] at k;simp![af,ag,aG,toF,aF,aE,aH,aj,aI,FV.v,ae,oO,r_,ak,aP,aV,aQ,aR,aU,aS,ay,au,ar,aO,aX,aW,aw,ba,a_,aZ,sd,tV];subst hA;simp![af,ag,aG,toF,aF,aE,aH,aj,aI,FV.v,ae,oO,r_,ak,aP,aV,aQ,aR,aU,aS,ay,au,ar,aO,aX,aW,aw,ba,a_,aZ,sd,tV];exact⟨[_,_],[],[],Y,Y,k⟩
  .rw[q0e c]
   rw[q0i c,q0i c] at k;simp![af,ag,aG,toF,aF,aE,aH,aj,aI,FV.v,ae,oO,r_,ak,aP,aV,aQ,aR,aU,aS,ay,au,ar,aO,aX,aW,aw,ba,a_,aZ,sd,tV];calc⟨a,0,_,.p (bH N.p),⟨Y,Y,Y⟩,?_⟩;simp![af,ag,aG,toF,aF,aE,aH,aj,aI,FV.v,ae,oO,r_,ak,aP,aV,aQ,aR,aU,aS,ay,au,ar,aO,aX,aW,aw,ba,a_,aZ,sd,tV,bH];calc⟨⋯,?_⟩;rw[Xk];simp![af,ag,aG,toF,aF,aE,aH,aj,aI,FV.v,ae,oO,r_,ak,aP,aV,aQ,aR,aU,aS,ay,au,ar,aO,aX,aW,aw,ba,a_,aZ,sd,tV];subst hB;show M _;subst hM;calc bt λM hM=>jC λA B hA hB=>?_;simp![af,ag,aG,toF,aF,aE,aH,aj,aI,FV.v,ae,oO,r_,ak,aP,aV,aQ,aR,aU,aS,ay,au,ar,aO,aX,aW,aw,ba,a_,aZ,sd,tV]
   subst hA;calc bt λM2 qf=>?_;simp![af,ag,aG,toF,aF,aE,aH,aj,aI,FV.v,ae,oO,r_,ak,aP,aV,aQ,aR,aU,aS,ay,au,ar,aO,aX,aW,aw,ba,a_,aZ,sd,tV];calc⟨a,0,_,.p (bH N.p),⟨Y,Y,Y⟩,?_⟩;simp![af,ag,aG,toF,aF,aE,aH,aj,aI,FV.v,ae,oO,r_,ak,aP,aV,aQ,aR,aU,aS,ay,au,ar,aO,aX,aW,aw,ba,a_,aZ,sd,tV];calc⟨m,ws,N.p,h,W,O.pn,hh,Y,Y,?_⟩;simp![af,ag,aG,toF,aF,aE,aH,aj,aI,FV.v,ae,oO,r_,ak,aP,aV,aQ,aR,aU,aS,ay,au,ar,aO,aX,aW,aw,ba,a_,aZ,sd,tV];subst qf;let⟨kvs,e1,e2,e3,e4,e5,e6,p1,p2,p3⟩:=FN (a:=a) (b:=b) (N:=N);let er:sortI (N.s++bo m ws N.p h)=f7 (N.s++bo m ws N.p h):=KZ (VT W O c)
   calc bt λM2 qf=>?_;simp![af,ag,aG,toF,aF,aE,aH,aj,aI,FV.v,ae,oO,r_,ak,aP,aV,aQ,aR,aU,aS,ay,au,ar,aO,aX,aW,aw,ba,a_,aZ,sd,tV];calc⟨a,0,_,.p (bH N.s),⟨Y,Y,Y⟩,?_⟩;simp![af,ag,aG,toF,aF,aE,aH,aj,aI,FV.v,ae,oO,r_,ak,aP,aV,aQ,aR,aU,aS,ay,au,ar,aO,aX,aW,aw,ba,a_,aZ,sd,tV,bH];calc⟨⋯,?_⟩;rw[<-q0w];unfold mN;dsimp only;rw[n9];dsimp only;calc⟨by rw[Qs];symm,?_⟩;rw[er];calc⟨a,0,kvs,⟨Y,by rw[e1];rfl,⋯⟩,?_⟩;rw[p3];subst qf;simp![af,ag,aG,toF,aF,aE,aH,aj,aI,FV.v,ae,oO,r_,ak,aP,aV,aQ,aR,aU,aS,ay,au,ar,aO,aX,aW,aw,ba,a_,aZ,sd,tV,BE];exact⟨[_,_],[],[],Y,Y,k⟩
 |some w =>
  let hw:=hw w Y;dsimp only at k;simp![af,ag,aG,toF,aF,aE,aH,aj,aI,FV.v,ae,oO,r_,ak,aP,aV,aQ,aR,aU,aS,ay,au,ar,aO,aX,aW,aw,ba,a_,aZ,sd,tV,oD];calc⟨a,0,_,.p (bH N.p),⟨Y,Y,Y⟩,?_⟩;simp![af,ag,aG,toF,aF,aE,aH,aj,aI,FV.v,ae,oO,r_,ak,aP,aV,aQ,aR,aU,aS,ay,au,ar,aO,aX,aW,aw,ba,a_,aZ,sd,tV,bH];calc⟨⋯,?_⟩;rw[jf]
  by_cases c:w∈N.p
  .rw[q0n c]
   rw[q0k c,q0k c] at k;simp![af,ag,aG,toF,aF,aE,aH,aj,aI,FV.v,ae,oO,r_,ak,aP,aV,aQ,aR,aU,aS,ay,au,ar,aO,aX,aW,aw,ba,a_,aZ,sd,tV];subst hA;simp![af,ag,aG,toF,aF,aE,aH,aj,aI,FV.v,ae,oO,r_,ak,aP,aV,aQ,aR,aU,aS,ay,au,ar,aO,aX,aW,aw,ba,a_,aZ,sd,tV];exact⟨[_,_],[],[],Y,Y,k⟩
  .rw[q0e c]
   rw[q0i c,q0i c] at k;simp![af,ag,aG,toF,aF,aE,aH,aj,aI,FV.v,ae,oO,r_,ak,aP,aV,aQ,aR,aU,aS,ay,au,ar,aO,aX,aW,aw,ba,a_,aZ,sd,tV];subst hB;show M _;subst hM;calc bt λM hM=>jC λA B hA hB=>?_;simp![af,ag,aG,toF,aF,aE,aH,aj,aI,FV.v,ae,oO,r_,ak,aP,aV,aQ,aR,aU,aS,ay,au,ar,aO,aX,aW,aw,ba,a_,aZ,sd,tV];subst hB;show M _;subst hM;let⟨r1,r2⟩:=Es W hw;let⟨y,ey,hy,ea,_⟩:=qZ W hw.1 hw.2;let ew:aK ws w=y:=ey;let c2:cutD [D.int y.1,D.int y.2.1,D.int y.2.2] Z (U 2)=[D.int y.1,D.int y.2.1]:=Y;let l1:=uL W (p:=N.p) (h:=y.1);let l2:=uL W (p:=N.p) (h:=y.2.1);rw[ew] at r1 r2
   calc bt λM hM=>?_;simp![af,ag,aG,toF,aF,aE,aH,aj,aI,FV.v,ae,oO,r_,ak,aP,aV,aQ,aR,aU,aS,ay,au,ar,aO,aX,aW,aw,ba,a_,aZ,sd,tV,bq,eF,ea,bR,c2]
   refine L2.kC (λd=>match d with|.int x=>.int (↑(bo m ws N.p x):Int)|_=>.non) (by show 2<=1000;decide) trivial ?_ ?_
   .ext d hd acc L ha hL
    let⟨x,rx,rfl⟩:∃x:Int,(0<=x/\x<m)/\d=.int x:=by
     erw[Qu,q0s,q1v] at hd;rcases hd with rfl|rfl
     .exact⟨_,r1,Y⟩
     .exact⟨_,r2,Y⟩
    simp![af,ag,aG,toF,aF,aE,aH,aj,aI,FV.v,ae,oO,r_,ak,aP,aV,aQ,aR,aU,aS,ay,au,ar,aO,aX,aW,aw,ba,a_,aZ,sd,tV];calc⟨a,0,_,.p (bH N.p),⟨Y,Y,Y⟩,?_⟩;simp![af,ag,aG,toF,aF,aE,aH,aj,aI,FV.v,ae,oO,r_,ak,aP,aV,aQ,aR,aU,aS,ay,au,ar,aO,aX,aW,aw,ba,a_,aZ,sd,tV];calc⟨m,ws,N.p,x,W,O.pn,rx,Y,Y,?_⟩;simp![af,ag,aG,toF,aF,aE,aH,aj,aI,FV.v,ae,oO,r_,ak,aP,aV,aQ,aR,aU,aS,ay,au,ar,aO,aX,aW,aw,ba,a_,aZ,sd,tV,bH];exact⟨ha,hL⟩
   simp![af,ag,aG,toF,aF,aE,aH,aj,aI,FV.v,ae,oO,r_,ak,aP,aV,aQ,aR,aU,aS,ay,au,ar,aO,aX,aW,aw,ba,a_,aZ,sd,tV];subst hM;let⟨kvs,e1,e2,e3,e4,e5,e6,p1,p2,p3⟩:=FN (a:=a) (b:=b) (N:=N);let er:sortI (N.p++[w])=f7 (N.p++[w]):=KZ (VU O.pu c);calc bt λM hM=>?_;simp![af,ag,aG,toF,aF,aE,aH,aj,aI,FV.v,ae,oO,r_,ak,aP,aV,aQ,aR,aU,aS,ay,au,ar,aO,aX,aW,aw,ba,a_,aZ,sd,tV];calc⟨a,0,_,.p (bH N.p),⟨Y,Y,Y⟩,?_⟩;simp![af,ag,aG,toF,aF,aE,aH,aj,aI,FV.v,ae,oO,r_,ak,aP,aV,aQ,aR,aU,aS,ay,au,ar,aO,aX,aW,aw,ba,a_,aZ,sd,tV,bH];calc⟨⋯,?_⟩;unfold mN;dsimp only;rw[show N.p.map D.int++[D.int w]=(N.p++[w]).map D.int by rw[q0w];rfl,n9]
   dsimp only;calc⟨by rw[Qs];simp;symm,?_⟩;rw[er];calc⟨a,0,kvs,⟨Y,by rw[e1];rfl,⋯⟩,?_⟩;rw[p1];subst hM;simp![af,ag,aG,toF,aF,aE,aH,aj,aI,FV.v,ae,oO,r_,ak,aP,aV,aQ,aR,aU,aS,ay,au,ar,aO,aX,aW,aw,ba,a_,aZ,sd,tV,uK,intsOf];calc⟨by simp,λx hx bx=>?_⟩;let ex:=Lp hx bx;calc⟨[_,_],[],[],Y,Y,?_⟩;unfold Eo at k;rw[ew,<-ex] at k;calc k
theorem FT{a b c k:Int}(h:0<=k/\k<3):∃p,eK [D.int a,D.int b,D.int c] k=U (.int p)/\(p=a\/p=b\/p=c):=by
 let⟨t,rfl⟩:=q2J h.1;let ht:t<3:=by symm
 match t,ht with
 |0,_=>exact⟨a,kh Y,.inl Y⟩
 |1,_=>exact⟨b,kh Y,.inr (.inl Y)⟩
 |2,_=>calc⟨c,kh Y,.inr (.inr Y)⟩
theorem Xr{us:-Int}{k:Int}(h0:0<=k)(h1:k<↑us):∃x,x∈us/\eK (us.map D.int) k=U (.int x):=by
 let⟨t,rfl⟩:=q2J h0;let ht:t<↑us:=by symm
 calc⟨us[t],q1Y ht,kh (by rw[Qw,vD ht];rfl)⟩
def FU(C:O):GK:=λys aB K=>∃(n:Int)(a b:O)(m:Int)(ws:-Wy)(N:Nt)(kG:Int)(o:OV),aY m ws/\↑N.q<900/\ys=[.o 0,.p (bq m ws),.w a,.p (.int kG)]/\aB=[o,lO a b N,sO b N]/\bM n o/\n+10<2 ^ 30/\∀e o',gU m N e->bM (n+4) o'->K (.p (gA e)) [o',lO a b N,sO b N] []
def FW(c_Night:O):WS:=(aD (bj 4 (aJ 2 gP (aq (aa 0) (aq (dC (.int 6)) ah)))) (aD (bj 5 (aJ 2 gP (aq (aa 0) (aq (d2 (aa 1) (dC (.int 0)) bw) ah)))) (aD (bj 6 (aE ι 1 (FK c_Night) (aq (aa 2) ah))) (aD (bS (nY (dT (d2 (aa 6) (dS ah) oEq)) (dT (d2 (aa 4) (aa 3) oLt))) (bh (bW (aq (dC (.str "wake")) (aq (aa 5) ah)))) dZ) (bh (bW (aq (dC (.str "end")) (aq (d2 (aa 6) (d2 (dS (aq (dC (.int 0)) (aq (d2 (dN (aq (aa 6) ah) cw) (dC (.int 1)) (oI λi j=>.int (i-j))) (aq (aJ 2 gP (aq (aa 0) (aq (dN (aq (aa 6) ah) cw) ah))) ah)))) (aJ 2 gP (aq (aa 0) (aq (dC (.int 3)) ah))) bw) bw) ah))))))))
theorem Xs(C:O):∀ys aB K',↑ys=4->FU C ys aB K'->FW C (ae ↑aB K') ⟨ys.map U++q0h 3 Z,aB.map U⟩:=by
 ext ys aB K'-⟨n,a,b,m,ws,N,kG,o,W,ql,rfl,rfl,P,hn,k⟩;let m1:=W.m1;let iL:=W.iL;unfold FW;calc bt λM hM=>?_;simp![af,ag,aG,toF,aF,aE,aH,aj,aI,FV.v,ae,oO,r_,ak,aP,aV,aQ,aR,aU,aS,ay,au,ar,aO,aX,aW,aw,ba,a_,aZ,sd,tV];calc⟨n,6,o,Y,Y,P,⋯,⋯,by decide,λkind o1 k0 k1 P1=>?_⟩;simp![af,ag,aG,toF,aF,aE,aH,aj,aI,FV.v,ae,oO,r_,ak,aP,aV,aQ,aR,aU,aS,ay,au,ar,aO,aX,aW,aw,ba,a_,aZ,sd,tV];subst hM;calc bt λM hM=>?_;simp![af,ag,aG,toF,aF,aE,aH,aj,aI,FV.v,ae,oO,r_,ak,aP,aV,aQ,aR,aU,aS,ay,au,ar,aO,aX,aW,aw,ba,a_,aZ,sd,tV,bq,dm];refine⟨n+1,m,o1,Y,Y,P1,⋯,⋯,⋯,λrm o2 h0 h1 P2=>?_⟩
 simp![af,ag,aG,toF,aF,aE,aH,aj,aI,FV.v,ae,oO,r_,ak,aP,aV,aQ,aR,aU,aS,ay,au,ar,aO,aX,aW,aw,ba,a_,aZ,sd,tV];subst hM;calc bt λM hM=>?_;simp![af,ag,aG,toF,aF,aE,aH,aj,aI,FV.v,ae,oO,r_,ak,aP,aV,aQ,aR,aU,aS,ay,au,ar,aO,aX,aW,aw,ba,a_,aZ,sd,tV];calc⟨[(1,lO a b N),(2,sO b N)],⟨Y,Y,trivial⟩,?_⟩;simp![af,ag,aG,toF,aF,aE,aH,aj,aI,FV.v,ae,oO,r_,ak,aP,aV,aQ,aR,aU,aS,ay,au,ar,aO,aX,aW,aw,ba,a_,aZ,sd,tV];calc⟨a,b,N,ql,Y,Y,?_⟩;simp![af,ag,aG,toF,aF,aE,aH,aj,aI,FV.v,ae,oO,r_,ak,aP,aV,aQ,aR,aU,aS,ay,au,ar,aO,aX,aW,aw,ba,a_,aZ,sd,tV];subst hM;refine bt λM hM=>jC λA B hA hB=>?_
 let wake:A ⟨[U (.o 0),U (.p (.tup [.int m,.tup (ws.map bR)])),U (.w a),U (.p (.int kG)),U (.p (.int kind)),U (.p (.int rm)),U (.p (bH (jl 0 N.q)))],[U o2,U (lO a b N),U (sO b N)]⟩:=by
  subst hA;simp![af,ag,aG,toF,aF,aE,aH,aj,aI,FV.v,ae,oO,r_,ak,aP,aV,aQ,aR,aU,aS,ay,au,ar,aO,aX,aW,aw,ba,a_,aZ,sd,tV];exact⟨[_,_,_],[],[],Y,Y,k (.wake rm) o2 ⟨h0,h1⟩ (P2.mono ⋯)⟩
 cases qu:jl 0 N.q with
 |nil =>
  rw[qu] at wake;simp![af,ag,aG,toF,aF,aE,aH,aj,aI,FV.v,ae,oO,r_,ak,aP,aV,aQ,aR,aU,aS,ay,au,ar,aO,aX,aW,aw,ba,a_,aZ,sd,tV,bH,q2b,dEq,dy];exact wake
 |cons x r =>
  let zO:dEq (.lst ((x::r).map D.int)) (.lst [])=ι:=by simp[dEq,dy]
  let Lx:=g9 (x::r);rw[qu] at wake;let mem:=λz (hz:z∈x::r)=>FH (i:=0) (q:=N.q) (x:=z) (by rw[qu];calc hz);let pos:0<↑(x::r):=by simp
  let len:↑(x::r)<=↑N.q:=by rw[<-qu];exact FI
  generalize x::r=us at *;simp![af,ag,aG,toF,aF,aE,aH,aj,aI,FV.v,ae,oO,r_,ak,aP,aV,aQ,aR,aU,aS,ay,au,ar,aO,aX,aW,aw,ba,a_,aZ,sd,tV,bH,zO];refine⟨⋯,?_⟩
  by_cases c:kind<kG
  .rw[q0n c]
   simp![af,ag,aG,toF,aF,aE,aH,aj,aI,FV.v,ae,oO,r_,ak,aP,aV,aQ,aR,aU,aS,ay,au,ar,aO,aX,aW,aw,ba,a_,aZ,sd,tV];exact wake
  .rw[q0e c]
   simp![af,ag,aG,toF,aF,aE,aH,aj,aI,FV.v,ae,oO,r_,ak,aP,aV,aQ,aR,aU,aS,ay,au,ar,aO,aX,aW,aw,ba,a_,aZ,sd,tV];subst hB;show M _;subst hM;simp![af,ag,aG,toF,aF,aE,aH,aj,aI,FV.v,ae,oO,r_,ak,aP,aV,aQ,aR,aU,aS,ay,au,ar,aO,aX,aW,aw,ba,a_,aZ,sd,tV,BE];calc⟨n+1+1,↑us,o2,Y,Y,P2,⋯,⋯,⋯,λz o3 z0 z1 P3=>?_⟩;simp![af,ag,aG,toF,aF,aE,aH,aj,aI,FV.v,ae,oO,r_,ak,aP,aV,aQ,aR,aU,aS,ay,au,ar,aO,aX,aW,aw,ba,a_,aZ,sd,tV];calc⟨n+1+1+1,3,o3,Y,Y,P3,⋯,⋯,by decide,λy o4 y0 y1 P4=>?_⟩;simp![af,ag,aG,toF,aF,aE,aH,aj,aI,FV.v,ae,oO,r_,ak,aP,aV,aQ,aR,aU,aS,ay,au,ar,aO,aX,aW,aw,ba,a_,aZ,sd,tV]
   let⟨p,ep,hp⟩:=FT (a:=0) (b:=(↑us:Int)-1) (c:=z) ⟨y0,y1⟩;rw[ep];dsimp only;let⟨w,hw,ew⟩:=Xr (us:=us) (k:=p) ⋯ ⋯;rw[ew];simp![af,ag,aG,toF,aF,aE,aH,aj,aI,FV.v,ae,oO,r_,ak,aP,aV,aQ,aR,aU,aS,ay,au,ar,aO,aX,aW,aw,ba,a_,aZ,sd,tV];let⟨j,fo,h,e1,e2⟩:=mem w hw;rw[q0G] at e1;subst e1;calc⟨[_,_,_],[],[],Y,Y,k (.fin j) o4 ⟨fo,h,e2⟩ (P4.mono ⋯)⟩
def zP(C:O):GK:=λys aB K=>∃(a b:O)(m:Int)(ws:-Wy)(N:Nt)(e:fN),aY m ws/\eI m ws N/\gU m N e/\↑N.q<900/\ys=[.p (bq m ws),.w a,.p (gA e)]/\aB=[lO a b N,sO b N]/\K (.p (jZ (N.tell m ws e))) [lO a b (N.step m ws e),sO b (N.step m ws e)] []
def FX(c_Night:O):WS:=(aD (bS (dT (d2 (d2 (aa 2) (dC (.int 0)) bw) (dC (.str "wake")) oEq)) (bh (aE ι 3 (FO c_Night) (aq (aa 0) (aq (aa 1) (aq (d2 (aa 2) (dC (.int 1)) bw) ah))))) dZ) (bh (aE ι 3 (FQ c_Night) (aq (aa 0) (aq (aa 1) (aq (d2 (aa 2) (dC (.int 1)) bw) ah))))))
theorem Xt(C:ξ):∀ys aB K',↑ys=3->zP C ys aB K'->FX C (ae ↑aB K') ⟨ys.map U++q0h 0 Z,aB.map U⟩:=by
 ext ys aB K'-⟨a,b,m,ws,N,e,W,O,he,ql,rfl,rfl,k⟩;let ww:dEq (.str "wake") (.str "wake")=θ:=Y;let ew:dEq (.str "end") (.str "wake")=ι:=Y;unfold FX;refine bt λM hM=>jC λA B hA hB=>?_
 cases e with
 |wake h =>
  simp![af,ag,aG,toF,aF,aE,aH,aj,aI,FV.v,ae,oO,r_,ak,aP,aV,aQ,aR,aU,aS,ay,au,ar,aO,aX,aW,aw,ba,a_,aZ,sd,tV,gA,dm,ww];subst hA;simp![af,ag,aG,toF,aF,aE,aH,aj,aI,FV.v,ae,oO,r_,ak,aP,aV,aQ,aR,aU,aS,ay,au,ar,aO,aX,aW,aw,ba,a_,aZ,sd,tV,eF];calc⟨[(0,lO a b N),(1,sO b N)],⟨Y,Y,trivial⟩,?_⟩;simp![af,ag,aG,toF,aF,aE,aH,aj,aI,FV.v,ae,oO,r_,ak,aP,aV,aQ,aR,aU,aS,ay,au,ar,aO,aX,aW,aw,ba,a_,aZ,sd,tV];calc⟨a,b,m,ws,N,h,W,O,he,ql,Y,Y,?_⟩;simp![af,ag,aG,toF,aF,aE,aH,aj,aI,FV.v,ae,oO,r_,ak,aP,aV,aQ,aR,aU,aS,ay,au,ar,aO,aX,aW,aw,ba,a_,aZ,sd,tV];exact⟨[_,_],[],[],Y,Y,k⟩
 |fin i =>
  simp![af,ag,aG,toF,aF,aE,aH,aj,aI,FV.v,ae,oO,r_,ak,aP,aV,aQ,aR,aU,aS,ay,au,ar,aO,aX,aW,aw,ba,a_,aZ,sd,tV,gA,dm,ew];subst hB;show M _;subst hM;simp![af,ag,aG,toF,aF,aE,aH,aj,aI,FV.v,ae,oO,r_,ak,aP,aV,aQ,aR,aU,aS,ay,au,ar,aO,aX,aW,aw,ba,a_,aZ,sd,tV,eF];calc⟨[(0,lO a b N),(1,sO b N)],⟨Y,Y,trivial⟩,?_⟩;simp![af,ag,aG,toF,aF,aE,aH,aj,aI,FV.v,ae,oO,r_,ak,aP,aV,aQ,aR,aU,aS,ay,au,ar,aO,aX,aW,aw,ba,a_,aZ,sd,tV];calc⟨a,b,m,ws,N,i,W,O,he,Y,Y,?_⟩;simp![af,ag,aG,toF,aF,aE,aH,aj,aI,FV.v,ae,oO,r_,ak,aP,aV,aQ,aR,aU,aS,ay,au,ar,aO,aX,aW,aw,ba,a_,aZ,sd,tV];calc⟨[_,_],[],[],Y,Y,k⟩
def FY(C:O):GK:=λys aB K=>∃(n m many:Int)(ws:-Wy)(o:OV),aY m ws/\0<=many/\many<=60/\ys=[.o 0,.p (bq m ws),.p (.int many)]/\aB=[o]/\bM n o/\n+500<2 ^ 30/\∀es o' a b,lj m ws bU es->↑es=many.toNat->bM (n+400) o'->K (.u θ [.p (.lst (es.map gA)),.p (.lst ((lh m ws bU es).map jZ)),.w a]) [o'] [lO a b (runN m ws bU es),sO b (runN m ws bU es)]
def FZ(c_Night:O):WS:=(aD (bj 3 (d2 (dC (.int 1)) (aJ 2 gP (aq (aa 0) (aq (dC (.int 5)) ah))) dh)) (aD (bj 4 (aE ι 0 (zN c_Night) ah)) (aD (bj 5 (oS ah)) (aD (bj 6 (oS ah)) (aD (e8 (mK (aq (aa 2) ah)) (bQ 7) (aD (bj 8 (aE ι 4 (FU c_Night) (aq (aa 0) (aq (aa 1) (aq (aa 4) (aq (aa 3) ah)))))) (aD (ky (ij (aa 5) (aq (aa 8) ah))) (ky (ij (aa 6) (aq (aE ι 3 (zP c_Night) (aq (aa 1) (aq (aa 4) (aq (aa 8) ah)))) ah)))))) (bh (aX θ (aq (aa 5) (aq (aa 6) (aq (aa 4) ah))))))))))
theorem Xu(C:O):∀ys aB K',↑ys=3->FY C ys aB K'->FZ C (ae ↑aB K') ⟨ys.map U++q0h 6 Z,aB.map U⟩:=by
 ext ys aB K'-⟨n,m,many,ws,o,W,h0,h60,rfl,rfl,P,hn,k⟩;unfold FZ;calc bt λM hM=>?_;simp![af,ag,aG,toF,aF,aE,aH,aj,aI,FV.v,ae,oO,r_,ak,aP,aV,aQ,aR,aU,aS,ay,au,ar,aO,aX,aW,aw,ba,a_,aZ,sd,tV];calc⟨n,5,o,Y,Y,P,⋯,⋯,by decide,λz o1 z0 z1 P1=>?_⟩;simp![af,ag,aG,toF,aF,aE,aH,aj,aI,FV.v,ae,oO,r_,ak,aP,aV,aQ,aR,aU,aS,ay,au,ar,aO,aX,aW,aw,ba,a_,aZ,sd,tV];subst hM;calc bt λM hM=>?_;simp![af,ag,aG,toF,aF,aE,aH,aj,aI,FV.v,ae,oO,r_,ak,aP,aV,aQ,aR,aU,aS,ay,au,ar,aO,aX,aW,aw,ba,a_,aZ,sd,tV];calc⟨[],trivial,?_⟩;simp![af,ag,aG,toF,aF,aE,aH,aj,aI,FV.v,ae,oO,r_,ak,aP,aV,aQ,aR,aU,aS,ay,au,ar,aO,aX,aW,aw,ba,a_,aZ,sd,tV]
 calc⟨Y,Y,λa b=>?_⟩;simp![af,ag,aG,toF,aF,aE,aH,aj,aI,FV.v,ae,oO,r_,ak,aP,aV,aQ,aR,aU,aS,ay,au,ar,aO,aX,aW,aw,ba,a_,aZ,sd,tV];subst hM;calc bt λM hM=>?_;simp![af,ag,aG,toF,aF,aE,aH,aj,aI,FV.v,ae,oO,r_,ak,aP,aV,aQ,aR,aU,aS,ay,au,ar,aO,aX,aW,aw,ba,a_,aZ,sd,tV];subst hM;calc bt λM hM=>?_;simp![af,ag,aG,toF,aF,aE,aH,aj,aI,FV.v,ae,oO,r_,ak,aP,aV,aQ,aR,aU,aS,ay,au,ar,aO,aX,aW,aw,ba,a_,aZ,sd,tV];subst hM;calc bt λM hM=>pB λg' b' K2 hg hb' hK=>?_;simp![af,ag,aG,toF,aF,aE,aH,aj,aI,FV.v,ae,oO,r_,ak,aP,aV,aQ,aR,aU,aS,ay,au,ar,aO,aX,aW,aw,ba,a_,aZ,sd,tV]
 calc⟨⋯,?_⟩;subst hg hb' hK;refine mO (λi δ=>∃es o,lj m ws bU es/\↑es=i/\bM (n+1+5*i) o/\δ=⟨[U (.o 0),U (.p (bq m ws)),U (.p (.int many)),U (.p (.int (1+z))),U (.w a),U (.o 3),U (.o 4),Z,Z],[U o,U (lO a b (runN m ws bU es)),U (sO b (runN m ws bU es)),U (.lst (es.map gA)),U (.lst ((lh m ws bU es).map jZ))]⟩) ⟨[],o1,trivial,Y,P1.mono ⋯,Y⟩ ?_ ?_
 .ext i d δ L hi ⟨es,o2,ok,el,P2,rfl⟩ hL
  let⟨il,rfl⟩:=o8 hi;let ql:=zF (m:=m) (ws:=ws) (N:=bU) (es:=es);let ql:(runN m ws bU es).q.length<=i:=by let z:bU.q.length=0:=Y;symm
  let ON:=eI.run W (p_ m ws) ok;let tl:=Er (m:=m) (ws:=ws) (N:=bU) (a:=es);let hN:∀e o,gU m (runN m ws bU es) e->bM (n+1+5*(i+1:Nat)) o->L ⟨[U (.o 0),U (.p (bq m ws)),U (.p (.int many)),U (.p (.int (1+z))),U (.w a),U (.o 3),U (.o 4),Z,Z],[U o,U (lO a b ((runN m ws bU es).step m ws e)),U (sO b ((runN m ws bU es).step m ws e)),U (.lst (es.map gA++[gA e])),U (.lst ((lh m ws bU es).map jZ++[jZ ((runN m ws bU es).tell m ws e)]))]⟩:=λe o he Po=>hL _ ⟨es++[e],o,K4 ok he,by rw[Qs,el];rfl,Po,by rw[zu,Ep,q0w,q0w];rfl⟩;let Xv:↑((lh m ws bU es).map jZ)=i:=by rw[BE,tl,el]
  generalize runN m ws bU es=N at ON ql hN ⊢;generalize(lh m ws bU es).map jZ=ts at hN Xv ⊢;calc⟨trivial,?_⟩;erw[bQ,q0Y,q0Z];calc bt λM2 qf=>?_;simp![af,ag,aG,toF,aF,aE,aH,aj,aI,FV.v,ae,oO,r_,ak,aP,aV,aQ,aR,aU,aS,ay,au,ar,aO,aX,aW,aw,ba,a_,aZ,sd,tV];calc⟨[(1,lO a b N),(2,sO b N)],⟨Y,Y,trivial⟩,?_⟩;simp![af,ag,aG,toF,aF,aE,aH,aj,aI,FV.v,ae,oO,r_,ak,aP,aV,aQ,aR,aU,aS,ay,au,ar,aO,aX,aW,aw,ba,a_,aZ,sd,tV];calc⟨n+1+5*i,a,b,m,ws,N,1+z,o2,W,⋯,Y,Y,P2,⋯,λe o3 he P3=>?_⟩;simp![af,ag,aG,toF,aF,aE,aH,aj,aI,FV.v,ae,oO,r_,ak,aP,aV,aQ,aR,aU,aS,ay,au,ar,aO,aX,aW,aw,ba,a_,aZ,sd,tV]
  subst qf;calc bt λM2 qf=>?_;simp![af,ag,aG,toF,aF,aE,aH,aj,aI,FV.v,ae,oO,r_,ak,aP,aV,aQ,aR,aU,aS,ay,au,ar,aO,aX,aW,aw,ba,a_,aZ,sd,tV];calc⟨⋯,?_⟩;subst qf;simp![af,ag,aG,toF,aF,aE,aH,aj,aI,FV.v,ae,oO,r_,ak,aP,aV,aQ,aR,aU,aS,ay,au,ar,aO,aX,aW,aw,ba,a_,aZ,sd,tV];calc⟨[(1,lO a b N),(2,sO b N)],⟨Y,Y,trivial⟩,?_⟩;simp![af,ag,aG,toF,aF,aE,aH,aj,aI,FV.v,ae,oO,r_,ak,aP,aV,aQ,aR,aU,aS,ay,au,ar,aO,aX,aW,aw,ba,a_,aZ,sd,tV];calc⟨a,b,m,ws,N,e,W,ON,he,⋯,Y,Y,?_⟩;simp![af,ag,aG,toF,aF,aE,aH,aj,aI,FV.v,ae,oO,r_,ak,aP,aV,aQ,aR,aU,aS,ay,au,ar,aO,aX,aW,aw,ba,a_,aZ,sd,tV]
  exact⟨⋯,hN e o3 he (P3.mono ⋯)⟩
 .ext δ ⟨es,o2,ok,el,P2,rfl⟩
  calc⟨trivial,?_⟩;show M _;rw[n8] at el P2;subst hM;simp![af,ag,aG,toF,aF,aE,aH,aj,aI,FV.v,ae,oO,r_,ak,aP,aV,aQ,aR,aU,aS,ay,au,ar,aO,aX,aW,aw,ba,a_,aZ,sd,tV];calc⟨[_],[_,_],[Z,Z],Y,Y,k es o2 a b ok el (P2.mono ⋯)⟩
end LJ
namespace L2
open PySem PySem.Spec PyProof.Rows
variable[bf]
def ny:-DV->aN->(-FV->aN->Prop)->Prop
 |[],δ,K=>K [] δ
 |x::xs,δ,K=>toF x δ λf δ1=>ny xs δ1 λfs δ2=>K (f::fs) δ2
def F7(t:Bool)(fa:WA):WE:=fun δ K=>fa δ λxs δ1=>ny xs δ1 λfs δ2=>fs.length<=1000/\K (.u t fs) δ2
noncomputable def F8(t:Bool)(ds:-D):D:=match t with
 |true=>.tup ds
 |false=>.lst ds
inductive nA (mu:-(Option OV)):-FV->-D->Prop
 |nil:nA mu [] []
 |p {d:D} {fs:-FV} {ds:-D} (h:nA mu fs ds):nA mu (.p d::fs) (d::ds)
 |w {a:O} {es:-D} {fs:-FV} {ds:-D} (k:Nat) (e:mu[k]?=U (U (.al a es))) (h:nA mu fs ds):nA mu (.w a::fs) (.lst es::ds)
inductive cR (mu:-(Option OV)):-DV->-D->Prop
 |nil:cR mu [] []
 |p {d:D} {xs:-DV} {ds:-D} (h:cR mu xs ds):cR mu (.p d::xs) (d::ds)
 |o {k:Nat} {es:-D} {xs:-DV} {ds:-D} (e:mu[k]?=U (U (.lst es))) (h:cR mu xs ds):cR mu (.o k::xs) (.lst es::ds)
 |u {t:Bool} {fs:-FV} {es:-D} {xs:-DV} {ds:-D} (e:nA mu fs es) (h:cR mu xs ds):cR mu (.u t fs::xs) (F8 t es::ds)
def xD(n:Nat)(G:GD)(fa:WA):WE:=fun δ K=>fa δ λxs δ1=>∃ds,cR δ1.mu xs ds/\↑ds=n/\G (ds.map .p) [] λr ows=>match r with
 |.p (.bl b)=>K (.p (.bl b)) δ1
 |_=>False
def uQ(δ0:aN)(g:WG)(b:WS)(K:KS):-FV->aN->Prop
 |[],δ=>K.nx δ
 |d::r,δ=>g d.v δ fun δ1=>b {nx:=fun δ2=>uQ δ0 g b K r (δ0.trim δ2),ct:=fun δ2=>uQ δ0 g b K r (δ0.trim δ2),bk:=K.nx,rt:=K.rt} δ1
def F9(f:WE)(g:WG)(b:WS):WS:=λK δ=>f δ λx δ1=>match x with
 |.u true fs=>uQ δ1 g b K fs δ1
 |_=>False
section
variable{F H:Hp}{ad:-O}{δ:aN}{σ:St}
theorem Ly:∀{xs:-DV}{vs:-V}{δ:aN}{K:-FV->aN->Prop},SR F ad δ σ H->cG F ad xs vs->ny xs δ K->∃fs δ',K fs δ'/\Ext F ad δ.mu H F ad δ'.mu H/\SR F ad δ' σ H/\d5 F fs vs
 |[],_,δ,K,S,V,h=>⟨[],δ,h,.refl,S,V⟩
 |x::xs,_,δ,K,S,⟨v,r,e,V1,V2⟩,h=>by
  subst e;let⟨f,δ1,h1,E1,S1,i1⟩:=zx S V1 h;let⟨fs,δ2,h2,E2,S2,i2⟩:=Ly S1 V2 h1;calc⟨f::fs,δ2,h2,E1.trans E2,S2,v,r,Y,i1,i2⟩
noncomputable def nB:OV->Option (-D)
 |.lst ds=>U ds
 |.al _ ds=>U ds
 |_=>Z
omit [bf] in
theorem Lz {F:Hp} {a:O} {ov:OV} {o:HO} {ds:-D} (h:eN F a ov o) (e:nB ov=U ds):∃vs,o=.lst vs/\ai F ds vs:=by
 cases ov with
 |lst d=>cases e;exact h
 |al b d=>cases e;exact h.2
 |_=>cases e
open Classical in
noncomputable def qg (F H:Hp) (ad:List Addr) (mu:List (Option OV)):Hp:=λa=>if ∃(k:Nat)(ov:OV)(ds:List D),ad[k]?=some a/\mu[k]?=some (some ov)/\nB ov=some ds then H a else F a
noncomputable abbrev nD(δ:aN):aN:=⟨[],δ.mu.map λ_=>Z⟩
omit [bf] in
theorem zQ (δ:aN) (k:Nat) (ov:OV) (e:(nD δ).mu[k]?=U (U ov)):False:=by
 rw[Qw] at e;let⟨_,_,z⟩:=q0f.mp e;cases z
theorem Xw(S:SR F ad δ σ H):bc F (qg F H ad δ.mu)/\SR (qg F H ad δ.mu) ad (nD δ) [] H/\∀{k:Nat}{a:O}{ov:OV}{ds:-D},ad[k]?=U a->δ.mu[k]?=U (U ov)->nB ov=U ds->∃vs,qg F H ad δ.mu a=U (.lst vs)/\ai (qg F H ad δ.mu) ds vs:=by
 let sm:bc F (qg F H ad δ.mu):=λa o e=>by
  unfold qg;rw[q0i λz=>by let⟨k,ov,ds,e1,e2,_⟩:=z;rw[S.off _ ⟨k,_,e1,e2⟩] at e;cases e];exact e
 refine⟨sm,⟨λa o e=>?_,λa ⟨k,ov,_,e⟩↦(zQ δ k ov e).elim,by show ↑ad=↑(δ.mu.map _);rw[BE];calc S.cF,λk l a ov ow _ _ e _=>(zQ δ k ov e).elim,λk ov e=>(zQ δ k ov e).elim,λi x e=>by simp at e,Y,S.tab,S.nt.up sm λa ha=>?_⟩,λ{k a ov ds} e1 e2 e3=>?_⟩
 .unfold qg at e
  split at e
  .exact e
  .exact S.sub a o e
 .unfold qg
  split
  .rename_i z
   let⟨k,ov,ds,e1,e2,e5⟩:=z;let⟨a',o,e3,e4,h⟩:=S.mu k _ e2;rw[e1] at e3;cases e3;let⟨vs,rfl,_⟩:=Lz h e5;let⟨ps,q⟩:=bf.tb S.tab ha;rw[e4] at q;cases q
  .exact S.nt a ha
 .let⟨a',o,e4,e5,h⟩:=S.mu k _ e2
  rw[e1] at e4;cases e4;let⟨vs,rfl,i⟩:=Lz h e3;calc⟨vs,by unfold qg;rw[q0k ⟨k,ov,ds,e1,e2,e3⟩];calc e5,i.same sm⟩
theorem Xx{F0 F1 H':Hp}{bp:-O}{Xy:-(Option OV)}(S:SR F ad δ σ H)(E:Ext F0 ad (nD δ).mu H F1 bp Xy H')(tk:bf.ok H'):Ext F ad δ.mu H F ad δ.mu H'/\SR F ad δ σ H':=by
 let kp:∀a o,H a=U o->a∉bf.ad->H' a=U o:=λa o e n=>E.keep a o e (λ⟨k,ov,_,e⟩↦zQ δ k ov e) n;calc⟨⟨λ_ _ e=>e,λ_ _ e=>.inl e,λa o e _ n=>kp a o e n,λ_ _ e=>e,λ_ l=>.inl l,E.i7⟩,⟨λa o e=>kp a o (S.sub a o e) (λz=>by rw[S.nt a z] at e;cases e),S.off,S.cF,S.inj,λk ov e=>?_,S.sl,S.len,tk,S.nt⟩⟩;let⟨a,o,e1,e2,h⟩:=S.mu k ov e;calc⟨a,o,e1,kp a o e2 λz=>?_,h⟩;let⟨ps,q⟩:=bf.tb S.tab z;rw[e2] at q;calc h.kind _ (q0A q)
theorem nA.is{G:Hp}(S:SR F ad δ σ H)(sm:bc F G)(at':∀{k:Nat} {a:O} {ov:OV} {ds:-D},ad[k]?=U a->δ.mu[k]?=U (U ov)->nB ov=U ds->∃vs,G a=U (.lst vs)/\ai G ds vs):∀{fs:-FV}{ds:-D}{us:-V},nA δ.mu fs ds->d5 F fs us->ai G ds us
 |_,_,_,.nil,h=>by let h:_=[]:=h;subst h;exact .nil
 |_,_,_,.p h,⟨v,r,e,i,j⟩=>by subst e;exact .cons (Is.same sm i) (nA.is S sm at' h j)
 |_,_,_,.w (a:=a) (es:=es) k q h,⟨v,r,e,i,j⟩=>by
  subst e;let i:v=.ref a:=i;subst i;let⟨a',o,e1,e2,⟨e3,_⟩⟩:=S.mu k _ q;subst e3;let⟨vs,z1,z2⟩:=at' e1 q Y;calc .cons ?_ (nA.is S sm at' h j);erw[Is];calc⟨_,vs,Y,z1,z2⟩
theorem cR.is{G:Hp}(S:SR F ad δ σ H)(sm:bc F G)(at':∀{k:Nat} {a:O} {ov:OV} {ds:-D},ad[k]?=U a->δ.mu[k]?=U (U ov)->nB ov=U ds->∃vs,G a=U (.lst vs)/\ai G ds vs):∀{xs:-DV}{ds:-D}{vs:-V},cR δ.mu xs ds->cG F ad xs vs->cG G ad (ds.map .p) vs
 |_,_,_,.nil,h=>h
 |_,_,_,.p h,⟨v,r,e,i,j⟩=>⟨v,r,e,Is.same sm i,cR.is S sm at' h j⟩
 |_,_,_,.o (es:=es) q h,⟨v,r,e,⟨a,i1,i2⟩,j⟩=>by
  calc⟨v,r,e,?_,cR.is S sm at' h j⟩;let⟨vs,z1,z2⟩:=at' i1 q Y;show Is G (.lst es) v;erw[Is];exact⟨a,vs,i2,z1,z2⟩
 |_,_,_,.u (t:=t) q h,⟨v,r,e,⟨b,us,i1,i2,i3⟩,j⟩=>by
  calc⟨v,r,e,?_,cR.is S sm at' h j⟩;let:=nA.is S sm at' q i3;let i4:=sm _ _ i2
  cases t with
  |true=>show Is G (.tup _) v;erw[Is];exact⟨b,us,i1,i4,this⟩
  |false=>show Is G (.lst _) v;erw[Is];exact⟨b,us,i1,i4,this⟩
omit [bf] in
theorem LA {mu:-(Option OV)}:∀(ds:-D)(j:Nat),passes mu (ds.map .p) j=U (ds.map .p,[])
 |[],_=>Y
 |d::r,j=>by
  show(match passes mu (r.map .p) j with|some q=>U (DV.p d::q.1,q.2)|none=>Z)=_;rw[LA r j];rfl
variable{X:Cx}{a b e i o:l}{es:-l}{body:-R}{f g:WE}{fa:WA}{w:WI}{wg:WG}{bs:WS}{pos:y}
theorem Xz{F1 H1:Hp}{bp:-O}{δ1:aN}{t:Bool}{K:DV->aN->Prop}{Q:VK}{xs:-DV}{vs:-V}(k:∀x δ',K x δ'->∀v F' aL H',Ext F ad δ.mu H F' aL δ'.mu H'->SR F' aL δ' σ H'->dG F' aL x v->Q v H')(h1:ny xs δ1 λfs δ2=>fs.length<=1000/\K (.u t fs) δ2)(E1:Ext F ad δ.mu H F1 bp δ1.mu H1)(S1:SR F1 bp δ1 σ H1)(V1:cG F1 bp xs vs):↑vs<=sizeLine/\∀p,H1 p=Z->Q (.ref p) (upd H1 p (kS t vs)):=by
 let⟨fs,δ2,⟨hl,h2⟩,E2,S2,i2⟩:=Ly S1 V1 h1;calc⟨kW (by rw[↑i2];calc hl),λp hp=>?_⟩;let sm:bc H1 (upd H1 p (kS t vs)):=cK hp;calc k _ _ h2 _ _ _ _ ((E1.trans E2).trans (Ext.al S2 sm)) (S2.al sm) ?_;rw[Nw.upd S2.sub hp];calc⟨p,vs,Y,cA,i2.same λb o e=>by rw[bE (dY (S2.sub b o e) hp)];calc e⟩
theorem XA{x1}(ha:JA X es (cy fa)):JE X (.Tuple es x1 pos) (tD (F7 θ fa)):=(Bh ha).weak fun σ H Q ⟨F,ad,δ,K,S,q,k⟩ ↦
 ⟨F,ad,δ,_,S,q,λxs δ1 h1 vs F1 bp H1 E1 S1 V1=>Xz (t:=true) k h1 E1 S1 V1⟩
theorem XB(ha:JE X a (tD f))(hi:JE X i (tD g))(hs:Bs i:=by ext _ _;rfl):JE X (.Subscript a i pos) (tD (tG f g)):=(Bt Qh ha hi hs).weak fun σ H Q ⟨F,ad,δ,K,S,q,k⟩ ↦
 ⟨F,ad,δ,_,S,q,λx δ1 h1 v F1 bp H1 E1 S1 V1=>⟨F1,bp,δ1,_,S1,h1,λy δ2 h2 u F2 cz H2 E2 S2 V2=>by
  let⟨t,fs,j,w,⟨rfl,rfl,hw⟩,h3⟩:=h2;let⟨b,us,rfl,e1,e2⟩:=V1;let V2:Is F2 (.int j) u:=V2;erw[Is] at V2;subst V2;let e1:=S2.sub _ _ (E2.same _ _ e1);let e2:=e2.same E2.same
  let⟨n,XC,tT⟩:∃n,iX fs.length j=U n/\fs[n]?=U w:=by
   unfold eK at hw
   cases z:iX fs.length j with
   |none=>rw[z] at hw;cases hw
   |some n=>rw[z] at hw;exact⟨n,Y,hw⟩
  let⟨v,hv,iv⟩:=e2.get tT;let LB:eK us j=U v:=by unfold eK;rw[↑e2,XC];exact hv
  let fin:=k _ _ h3 _ _ _ _ (E1.trans E2) S2 iv.v
  cases t with
  |true=>exact .inr (.inl ⟨b,us,j,v,Y,Y,bZ.of e1,LB,fin⟩)
  |false=>calc .inl ⟨b,us,j,v,Y,Y,bT.of e1,LB,fin⟩⟩⟩
theorem XD{n:Nat}{G:GD}{E:XK}:∀σ H Q,tD (xD n G fa) σ H Q->vq (lQ G n) [] E (cy fa) σ H Q:=fun σ H Q ⟨F,ad,δ,K,S,q,k⟩=>⟨F,ad,δ,_,S,q,λxs δ1 h1 vs F1 bp H1 E1 S1 V1=>by
 let⟨ds,l,hn,g⟩:=h1;let⟨sm,S2,at'⟩:=Xw S1;let V2:=cR.is S1 sm at' l V1;show lQ G n (vs++[]) H1 Q E;rw[oO];refine Ci (r:=(ds.map .p,[])) S2 V2 (by rw[↑V2,BE,hn]) (LA ds 0) Y g λres ows v F' H' hk E2 S3 dW=>?_
 cases res with
 |p d =>
  cases d with
  |bl b =>
   let⟨E3,S4⟩:=Xx S1 E2 S3.tab;calc k _ _ hk _ _ _ _ (E1.trans E3) S4 ?_;let dW:Is F' (.bl b) v:=dW;show Is F1 (.bl b) v;erw[Is] at dW ⊢;exact dW
  |_=>exact hk.elim
 |_=>calc hk.elim⟩
theorem XE{x:J}{p:y}{k:Nat}{h:O}{fd:FuncData}{ps:-J}{n:Nat}{G:GD}(Fn:cf X.prog X.w X.K X.mg X.base eZ k h fd ps (lQ G n))(hr:bB k X.A)(hg:Gl X x)(hm:X.mg x=U (.ref h))(hk:q0_ X.K (.ref h)=θ)(hb:Binds X.K fd ps [])
  (ha:JA X (e::es) (cy fa)) (c8:b7 x:=by decide) (he:cI X e es:=by rfl) (cX:cS X pos es:=by rfl) :
  JE X (.Call (.Name x p) (e::es) [] pos) (tD (xD n G fa)):=(vt Fn hr hg hm hk hb .nil oP ha c8 he cX).weak XD
theorem XF[kq]{tg l:υ}(hp:PassesOwn (ς X.prog X.w) X.A X.env X.xe)(hc:X.calm=θ)(hl:JE X l (tD f))(hg:JG X tg (jR wg))(hb:dM X body (dU bs))(hs:∀x,foldedSetIterable l X.env x=pure x:=by ext _;rfl):
  JS X (.For tg l body [] pos) (dU (F9 f wg bs)):=(A6 hp hc (Jk hl) hg hb hs).weak λD σ H ⟨F,ad,δ,K,S,q,k⟩=>by
 calc⟨F,ad,δ,_,S,q,λx δ1 h1 v F1 bp H1 E1 S1 V1=>?_⟩;let k1:=k.ext E1;split at h1
 .rename_i fs
  let⟨b,us,rfl,e1,e2⟩:=V1;let e0:=S1.sub _ _ e1;calc⟨b,Y,.inr ⟨⟨us,bZ.of e0⟩,?_⟩⟩;calc⟨λi m σ' H'=>∃F' aL δ',i+m=fs.length/\Ext F1 bp δ1.mu H1 F' aL δ'.mu H'/\SR F' aL δ' σ' H'/\uQ δ1 wg bs K (fs.drop i) δ',⟨fs.length,F1,bp,δ1,⋯,.refl,S1,h1⟩,?_⟩;ext i m σ' H' ⟨F',aL,δ',hm,E',S',h⟩;let e3:=S'.sub _ _ (E'.same _ _ e1)
  by_cases dX:i<fs.length
  .rw[q2t dX] at h
   let⟨v,hv,iv⟩:=(e2.same E'.same).get (vD dX);calc .inr ⟨⟨us,v,bZ.of e3,hv⟩,fun σ2 H2=>∃F2 cz δ2,Ext F1 bp δ1.mu H1 F2 cz δ2.mu H2/\SR F2 cz δ2 σ2 H2/\uQ δ1 wg bs K (fs.drop (i+1)) δ2,fun σ2 H2 ⟨F2,cz,δ2,e1,e2,e3⟩↦⟨m-1,⋯,F2,cz,δ2,⋯,e1,e2,e3⟩,λx H2 ⟨eh,hy⟩=>?_⟩;subst eh;let hx:=hy us (bZ.of e3);rw[hv] at hx;cases hx;calc⟨F',aL,δ',_,_,S',iv.v,h,fun δ3 h3 F3 oV σ3 H3 E3 S3=>?_⟩;let mJ:=E'.trans E3;refine⟨F3,oV,δ3,_,S3,h3,⟨fun δ4 h4 F4 uh σ4 H4 E4 S4=>⟨F4,_,_,(mJ.trans E4).trim S1.cF,S4.trim,h4⟩,k1.nx.ext mJ,fun δ4 h4 F4 uh σ4 H4 E4 S4=>⟨F4,_,_,(mJ.trans E4).trim S1.cF,S4.trim,h4⟩,(k1.ext mJ).rt,(k1.ext mJ).kp⟩⟩
  .rw[q3l ⋯] at h
   exact .inl ⟨⟨us,bZ.of e3,by rw[↑e2];symm⟩,k1.nx _ h _ _ _ _ E' S'⟩
 .calc h1.elim
end
end L2
namespace LJ
open PySem L2 PySem.Spec PySem.W PyProof.Rows
variable[bf]
theorem XG{X:Cx}{x:J}{e:l}{es:-l}{fa:WA}{ps:-J}{n j k:Nat}{G:GD}{p pos:y}(F:Fx ⟨X.prog,X.w,X.K,X.mg,X.base⟩ j x ps n G)(hr:bB k X.A)(ha:JA X (e::es) (cy fa))(hj:q41 j k=θ:=by rfl)(hg:Gl X x:=by rfl)(c8:b7 x:=by decide)(he:cI X e es:=by rfl)(cX:cS X pos es:=by rfl):
  JE X (.Call (.Name x p) (e::es) [] pos) (tD (xD n G fa)):=let⟨_,_,F⟩:=F.ex;XE F.ok (hr.mono (q1u hj)) hg F.t7 F.kp F.bd ha c8 he cX
end LJ
namespace LJ
open PySem L2
variable[bf]
def F_(C:O):GK:=λys aB K=>∃(a b:O)(m:Int)(ws:-Wy)(N:Nt),ys=[.w a]/\aB=[nO C a b m ws N]/\∀x y z,K (.u θ [.w x,.w y,.w z]) [nO C a b m ws N] [.al x (N.p.map D.int),.al y (N.k.map D.int),.al z (N.s.map D.int)]
def Ga(c_Night:O):WS:=(bh (F7 θ (aq (ux (aq (d2 (af c_Night "latest" (aa 0)) (dC (.int 0)) bw) ah) uy) (aq (ux (aq (d2 (af c_Night "latest" (aa 0)) (dC (.int 1)) bw) ah) uy) (aq (ux (aq (d2 (af c_Night "latest" (aa 0)) (dC (.int 2)) bw) ah) uy) ah)))))
theorem XH(C:O):∀ys aB K',↑ys=1->F_ C ys aB K'->Ga C (ae ↑aB K') ⟨ys.map U++q0h 0 Z,aB.map U⟩:=by
 ext ys aB K'-⟨a,b,m,ws,N,rfl,rfl,k⟩;unfold Ga;simp![af,ag,aG,toF,aF,aE,aH,aj,aI,FV.v,ae,oO,r_,ak,aP,aV,aQ,aR,aU,aS,ay,au,ar,aO,aX,aW,aw,ba,a_,aZ,sd,tV];calc⟨a,0,_,.p (fE N.p N.k N.s),⟨Y,Y,Y⟩,?_⟩;simp![af,ag,aG,toF,aF,aE,aH,aj,aI,FV.v,ae,oO,r_,ak,aP,aV,aQ,aR,aU,aS,ay,au,ar,aO,aX,aW,aw,ba,a_,aZ,sd,tV,fE,tupI,dm];calc⟨a,0,_,.p (fE N.p N.k N.s),⟨Y,Y,Y⟩,?_⟩;simp![af,ag,aG,toF,aF,aE,aH,aj,aI,FV.v,ae,oO,r_,ak,aP,aV,aQ,aR,aU,aS,ay,au,ar,aO,aX,aW,aw,ba,a_,aZ,sd,tV,fE,tupI,eF];calc⟨a,0,_,.p (fE N.p N.k N.s),⟨Y,Y,Y⟩,?_⟩;simp![af,ag,aG,toF,aF,aE,aH,aj,aI,FV.v,ae,oO,r_,ak,aP,aV,aQ,aR,aU,aS,ay,au,ar,aO,aX,aW,aw,ba,a_,aZ,sd,tV,fE,tupI,at2,F7,ny]
 ext x y z;calc⟨[_],[_,_,_],[],Y,Y,k x y z⟩
def Gb(C:O):GK:=λys aB K=>∃(m:Int)(ws:-Wy)(es:-fN),aY m ws/\lj m ws bU es/\↑es<900/\ys=[.p (bq m ws),.p (.lst (es.map gA))]/\aB=[]/\∀a b x y z,K (.u θ [.w x,.w y,.w z]) [] [nO C a b m ws (runN m ws bU es),gO b (runN m ws bU es),.al x ((runN m ws bU es).p.map D.int),.al y ((runN m ws bU es).k.map D.int),.al z ((runN m ws bU es).s.map D.int)]
def Gd(c_Night:O):WS:=(aD (bj 2 (aH c_Night 2 (Ff c_Night) (aq (aa 0) ah))) (aD (ky (aE ι 2 (Fv c_Night) (aq (aa 2) (aq (aa 1) ah)))) (bh (aF ι c_Night "stand" 1 (F_ c_Night) (aa 2) ah))))
theorem XI(C:O):∀ys aB K',↑ys=2->Gb C ys aB K'->Gd C (ae ↑aB K') ⟨ys.map U++q0h 1 Z,aB.map U⟩:=by
 ext ys aB K'-⟨m,ws,es,W,ok,Lq,rfl,rfl,k⟩;unfold Gd;calc bt λM hM=>?_;simp![af,ag,aG,toF,aF,aE,aH,aj,aI,FV.v,ae,oO,r_,ak,aP,aV,aQ,aR,aU,aS,ay,au,ar,aO,aX,aW,aw,ba,a_,aZ,sd,tV];ext a;calc⟨[(0,.ins a C [])],⟨Y,trivial⟩,?_⟩;simp![af,ag,aG,toF,aF,aE,aH,aj,aI,FV.v,ae,oO,r_,ak,aP,aV,aQ,aR,aU,aS,ay,au,ar,aO,aX,aW,aw,ba,a_,aZ,sd,tV];calc⟨a,m,ws,W,Y,Y,λb=>?_⟩;simp![af,ag,aG,toF,aF,aE,aH,aj,aI,FV.v,ae,oO,r_,ak,aP,aV,aQ,aR,aU,aS,ay,au,ar,aO,aX,aW,aw,ba,a_,aZ,sd,tV];subst hM;calc bt λM hM=>?_;simp![af,ag,aG,toF,aF,aE,aH,aj,aI,FV.v,ae,oO,r_,ak,aP,aV,aQ,aR,aU,aS,ay,au,ar,aO,aX,aW,aw,ba,a_,aZ,sd,tV]
 calc⟨[(0,nO C a b m ws bU),(1,gO b bU)],⟨Y,Y,trivial⟩,?_⟩;simp![af,ag,aG,toF,aF,aE,aH,aj,aI,FV.v,ae,oO,r_,ak,aP,aV,aQ,aR,aU,aS,ay,au,ar,aO,aX,aW,aw,ba,a_,aZ,sd,tV];calc⟨a,b,m,ws,es,W,ok,Lq,Y,Y,?_⟩;simp![af,ag,aG,toF,aF,aE,aH,aj,aI,FV.v,ae,oO,r_,ak,aP,aV,aQ,aR,aU,aS,ay,au,ar,aO,aX,aW,aw,ba,a_,aZ,sd,tV];subst hM;simp![af,ag,aG,toF,aF,aE,aH,aj,aI,FV.v,ae,oO,r_,ak,aP,aV,aQ,aR,aU,aS,ay,au,ar,aO,aX,aW,aw,ba,a_,aZ,sd,tV];calc⟨⟨a,0,_,Y,Y,Y⟩,[(0,nO C a b m ws (runN m ws bU es))],⟨Y,trivial⟩,?_⟩;simp![af,ag,aG,toF,aF,aE,aH,aj,aI,FV.v,ae,oO,r_,ak,aP,aV,aQ,aR,aU,aS,ay,au,ar,aO,aX,aW,aw,ba,a_,aZ,sd,tV]
 calc⟨a,b,m,ws,runN m ws bU es,Y,Y,λx y z=>?_⟩;simp![af,ag,aG,toF,aF,aE,aH,aj,aI,FV.v,ae,oO,r_,ak,aP,aV,aQ,aR,aU,aS,ay,au,ar,aO,aX,aW,aw,ba,a_,aZ,sd,tV];calc⟨[],[_,_,_,_,_],[],Y,Y,k a b x y z⟩
noncomputable def uR(N:Nt):D:=.tup [bH N.p,bH N.k,bH N.s]
def Ge(C:O):GK:=λys aB K=>∃(a b:O)(N:Nt),ys=[.w a]/\aB=[lO a b N]/\K (.p (uR N)) [lO a b N] []
def Gf(c_Night:O):WS:=(bh (bW (aq (ak "put" (aa 0)) (aq (ak "known" (aa 0)) (aq (ak "sure" (aa 0)) ah)))))
theorem XJ(C:O):∀ys aB K',↑ys=1->Ge C ys aB K'->Gf C (ae ↑aB K') ⟨ys.map U++q0h 0 Z,aB.map U⟩:=by
 ext ys aB K'-⟨a,b,N,rfl,rfl,k⟩;unfold Gf;simp![af,ag,aG,toF,aF,aE,aH,aj,aI,FV.v,ae,oO,r_,ak,aP,aV,aQ,aR,aU,aS,ay,au,ar,aO,aX,aW,aw,ba,a_,aZ,sd,tV];calc⟨a,0,_,.p (bH N.p),⟨Y,Y,Y⟩,a,0,_,.p (bH N.k),⟨Y,Y,Y⟩,a,0,_,.p (bH N.s),⟨Y,Y,Y⟩,?_⟩;simp![af,ag,aG,toF,aF,aE,aH,aj,aI,FV.v,ae,oO,r_,ak,aP,aV,aQ,aR,aU,aS,ay,au,ar,aO,aX,aW,aw,ba,a_,aZ,sd,tV];calc⟨[_],[],[],Y,Y,k⟩
end LJ
namespace LJT
open PySem L2 LJ
variable[bf]
mutual
noncomputable def kH:D->Bool
 |.lst ds=>G (↑ds<=1000)&&gW ds
 |.tup ds=>G (↑ds<=1000)&&gW ds
 |_=>θ
noncomputable def gW:-D->Bool
 |[]=>θ
 |d::r=>kH d&&gW r
end
theorem iB:∀{ds:-D},gW ds=θ->∀d∈ds,kH d=θ
 |[],_,d,h=>nomatch h
 |a::r,hn,d,h=>by
  erw[gW,q0L] at hn;rcases Qu.mp h with rfl|h
  .exact hn.1
  .calc iB hn.2 d h
inductive bC (n:Nat) (ys:-DV) (aB:-OV) (K:RV->-OV->Prop):Prop
 |mk (d) (_:dep d<=n) (_:n<=50) (_:kH d=θ) (_:ys=[.p d,.p d]) (_:aB=[]) (_:K (.p (.bl θ)) [])
def br(Gg:GD):WS:=(aD (bS (dT (d2 (aa 1) (dC .non) jc)) (bh (d2 (aa 0) (dC .non) jc)) dZ) (aD (bS (nY (dT (d1 (aa 1) (dz "bool"))) (dT (d1 (aa 0) (dz "bool")))) (bh (lP (d1 (aa 1) (dz "bool")) (lP (d1 (aa 0) (dz "bool")) (d2 (aa 0) (aa 1) oEq)))) dZ) (aD (bS (dT (d1 (aa 1) (dz "int"))) (bh (lP (d1 (aa 0) (dz "int")) (d2 (aa 0) (aa 1) oEq))) dZ) (aD (bS (dT (d1 (aa 1) (dz "str"))) (bh (lP (d1 (aa 0) (dz "str")) (d2 (aa 0) (aa 1) oEq))) dZ) (aD (bS (nY (dT (d2 (d1 (aa 1) (dz "tuple")) (d1 (aa 0) (dz "tuple")) pd)) (dT (d2 (d1 (aa 1) (dz "list")) (d1 (aa 0) (dz "list")) pd))) (bh (dC (.bl ι))) dZ) (aD (bS (dT (d2 (dN (aq (aa 0) ah) cw) (dN (aq (aa 1) ah) cw) pd)) (bh (dC (.bl ι))) dZ) (bh (d2 (dC (.bl ι)) (d9 (zM (aq (aa 0) (aq (aa 1) ah))) [Z,Z] (i8 2 (d7 (bQ 0) (d7 (bQ 1) iO))) du (aJ 2 Gg (aq (aa 0) (aq (aa 1) ah)))) (f6 θ)))))))))
def jm(g:Nat->GD):Nat->GD
 |0=>λ_ _ _=>False
 |n+1=>g n
theorem XM(g:GD){K':RV->-OV->Prop}(k:K' (.p (.bl θ)) []):br g (jT 0 K') ⟨[U (.p .non),U (.p .non)],[]⟩:=by
 unfold br;calc bt λN hN=>?_;simp![cY,pF,pG,pH,pJ,pK,dEq];calc k9 k
theorem XN(g:GD){K':RV->-OV->Prop}(b:Bool)(k:K' (.p (.bl θ)) []):br g (jT 0 K') ⟨[U (.p (.bl b)),U (.p (.bl b))],[]⟩:=by
 unfold br;calc bt λN hN=>?_;simp![cY,n_,oa,og,oh,om,gN];subst hN;calc bt λN hN=>?_;simp![cY,n_,oa,og,oh,om,gN];calc k9 k
theorem same_int(g:GD){K':RV->-OV->Prop}(b:Int)(k:K' (.p (.bl θ)) []):br g (jT 0 K') ⟨[U (.p (.int b)),U (.p (.int b))],[]⟩:=by
 unfold br;calc bt λN hN=>?_;simp![cY,mS,mT,mU,mV,mW,gN];subst hN;calc bt λN hN=>?_;simp![cY,mS,mT,mU,mV,mW,gN];subst hN;calc bt λN hN=>?_;simp![cY,mS,mT,mU,mV,mW,gN];calc k9 k
theorem same_str(g:GD){K':RV->-OV->Prop}(b:J)(k:K' (.p (.bl θ)) []):br g (jT 0 K') ⟨[U (.p (.str b)),U (.p (.str b))],[]⟩:=by
 unfold br;calc bt λN hN=>?_;simp![cY,lT,lU,lV,lW,lX,gN];subst hN;calc bt λN hN=>?_;simp![cY,lT,lU,lV,lW,lX,gN];subst hN;calc bt λN hN=>?_;simp![cY,lT,lU,lV,lW,lX,gN];subst hN;calc bt λN hN=>?_;simp![cY,lT,lU,lV,lW,lX,gN];calc k9 k
theorem XO{n:Nat}{K':RV->-OV->Prop}{ds:-D}(hd:dep (.lst ds)<=n)(hn:n<=50)(nd:kH (.lst ds)=θ)(k:K' (.p (.bl θ)) []):br (jm bC n) (jT 0 K') ⟨[U (.p (.lst ds)),U (.p (.lst ds))],[]⟩:=by
 unfold br;calc bt λN hN=>?_;simp![cY,pF,pG,pH,pJ,pK,n_,oa,og,oh,om,mS,mT,mU,mV,mW,lT,lU,lV,lW,lX,pL,pM,pN,pO,pP,pQ,pR,pT,pU,pV];subst hN;calc bt λN hN=>?_;simp![cY,pF,pG,pH,pJ,pK,n_,oa,og,oh,om,mS,mT,mU,mV,mW,lT,lU,lV,lW,lX,pL,pM,pN,pO,pP,pQ,pR,pT,pU,pV];subst hN;calc bt λN hN=>?_;simp![cY,pF,pG,pH,pJ,pK,n_,oa,og,oh,om,mS,mT,mU,mV,mW,lT,lU,lV,lW,lX,pL,pM,pN,pO,pP,pQ,pR,pT,pU,pV];subst hN;calc bt λN hN=>?_;simp![cY,pF,pG,pH,pJ,pK,n_,oa,og,oh,om,mS,mT,mU,mV,mW,lT,lU,lV,lW,lX,pL,pM,pN,pO,pP,pQ,pR,pT,pU,pV];subst hN;calc bt λN hN=>?_;simp![cY,pQ,pR,pT,pU,pV]
 subst hN;erw[gN,q4m,q1b,q2g];calc bt λN hN=>?_;simp![gN];subst hN;let⟨m,rfl⟩:∃m,n=m+1:=⟨n-1,by erw[dep] at hd;symm⟩;let Gh:bV ds<=m:=by erw[dep] at hd;symm
 let Gi:gW ds=θ:=by erw[kH,q0L] at nd;exact nd.2
 let xE:↑ds<=1000:=by erw[kH,q0L,q0y] at nd;exact nd.1
 let zl:↑(df ds ds)<=1000:=by rw[yI];symm
 simp![zM];refine L2.kC (λd=>.bl θ) zl trivial ?_ ?_
 .ext d rK acc L ha h
  let⟨a,rfl,ma⟩:=Dj rK;simp!;calc⟨a,q0B (Di ma) Gh,⋯,iB Gi a ma,Y,Y,?_⟩;simp!;exact⟨ha,h⟩
 .simp!
  let e1:((df ds ds).map λ_=>D.bl θ).any (λe=>dEq e (.bl ι))=ι:=by
   rw[q2c];ext x hx;let⟨_,_,rfl⟩:=q0q.mp hx;simp[dEq]
  let e2:bV ((df ds ds).map λ_=>D.bl θ)<=55:=Dl _;calc⟨e2,by rw[e1];calc k9 k⟩
theorem nE{n:Nat}{K':RV->-OV->Prop}{ds:-D}(hd:dep (.tup ds)<=n)(hn:n<=50)(nd:kH (.tup ds)=θ)(k:K' (.p (.bl θ)) []):br (jm bC n) (jT 0 K') ⟨[U (.p (.tup ds)),U (.p (.tup ds))],[]⟩:=by
 unfold br;calc bt λN hN=>?_;simp![cY,pF,pG,pH,pJ,pK,n_,oa,og,oh,om,mS,mT,mU,mV,mW,lT,lU,lV,lW,lX,pL,pM,pN,pO,pP,pQ,pR,pT,pU,pV];subst hN;calc bt λN hN=>?_;simp![cY,pF,pG,pH,pJ,pK,n_,oa,og,oh,om,mS,mT,mU,mV,mW,lT,lU,lV,lW,lX,pL,pM,pN,pO,pP,pQ,pR,pT,pU,pV];subst hN;calc bt λN hN=>?_;simp![cY,pF,pG,pH,pJ,pK,n_,oa,og,oh,om,mS,mT,mU,mV,mW,lT,lU,lV,lW,lX,pL,pM,pN,pO,pP,pQ,pR,pT,pU,pV];subst hN;calc bt λN hN=>?_;simp![cY,pF,pG,pH,pJ,pK,n_,oa,og,oh,om,mS,mT,mU,mV,mW,lT,lU,lV,lW,lX,pL,pM,pN,pO,pP,pQ,pR,pT,pU,pV];subst hN;calc bt λN hN=>?_;simp![cY,pL,pM,pN,pO,pP]
 subst hN;erw[gN,q4m,q1b,q2g];calc bt λN hN=>?_;simp![gN];subst hN;let⟨m,rfl⟩:∃m,n=m+1:=⟨n-1,by erw[dep] at hd;symm⟩;let Gh:bV ds<=m:=by erw[dep] at hd;symm
 let Gi:gW ds=θ:=by erw[kH,q0L] at nd;exact nd.2
 let xE:↑ds<=1000:=by erw[kH,q0L,q0y] at nd;exact nd.1
 let zl:↑(df ds ds)<=1000:=by rw[yI];symm
 simp![zM];refine L2.kC (λd=>.bl θ) zl trivial ?_ ?_
 .ext d rK acc L ha h
  let⟨a,rfl,ma⟩:=Dj rK;simp!;calc⟨a,q0B (Di ma) Gh,⋯,iB Gi a ma,Y,Y,?_⟩;simp!;exact⟨ha,h⟩
 .simp!
  let e1:((df ds ds).map λ_=>D.bl θ).any (λe=>dEq e (.bl ι))=ι:=by
   rw[q2c];ext x hx;let⟨_,_,rfl⟩:=q0q.mp hx;simp[dEq]
  let e2:bV ((df ds ds).map λ_=>D.bl θ)<=55:=Dl _;calc⟨e2,by rw[e1];calc k9 k⟩
theorem gv(n:Nat):Sem 2 0 (bC n) (br (jm bC n)):=by
 ext ys aB K'-⟨d,hd,hn,nd,rfl,rfl,k⟩
 .cases d with
  |tup ds=>exact nE hd hn nd k
  |non=>exact XM _ k
  |bl b=>exact XN _ b k
  |int b=>exact same_int _ b k
  |str b=>exact same_str _ b k
  |lst ds=>calc XO hd hn nd k
end LJT
namespace LJ
open PySem L2
variable[bf]
abbrev Gg:=LJT.bC 3
noncomputable abbrev KL:KS:=⟨λ_=>False,λx _=>x=.p (.bl θ),λ_=>False,λ_=>False⟩
theorem Gj(us:-Int)(h:↑us<=1000):LJT.kH (bH us)=θ:=by
 let:∀us:-Int,LJT.gW (us.map D.int)=θ:=λus=>by
  induction us with
  |nil=>rfl
  |cons n r ih=>erw[q0r,LJT.gW,LJT.kH,ih,q7U]
 unfold bH LJT.kH;rw[this,BE,q0n h];rfl
theorem XQ{N:Nt}(h1:↑N.p<=1000)(h2:↑N.k<=1000)(h3:↑N.s<=1000):LJT.kH (uR N)=θ:=by
 unfold uR;erw[LJT.kH,LJT.gW];rw[Gj _ h1,Gj _ h2,Gj _ h3];rfl
theorem XR(N:Nt):dep (uR N)<=3:=by
 let a:=g9 N.p;let b:=g9 N.k;let c:=g9 N.s;erw[uR,bH,dep,bV];symm
theorem XS(es:-fN):bV (es.map gA)<=1:=by
 induction es with
 |nil=>simp[bV]
 |cons n r ih=>cases n<;>simp[bV,dep,gA]<;>symm
theorem LC{m:Int}{ws:-Wy}:∀{N:Nt}{es:-fN}{c:Nat},lj m ws N es->lj m ws N (es.take c)
 |_,[],c,_=>by rw[q7T];trivial
 |_,_::_,0,_=>trivial
 |N,x::r,c+1,h=>⟨h.1,LC (N:=N.step m ws x) (es:=r) h.2⟩
def Gk(c_Night:O):WS:=(aD (e8 (mK (aq (dC (.int 3)) ah)) (bQ 2) (aD (bj 3 (aJ 3 C9 (aq (aJ 1 C2 (aq (aa 1) ah)) (aq (d2 (dS (aq (dC (.int 8)) (aq (dC (.int 4)) (aq (dC (.int 12)) ah)))) (aa 2) bw) (aq (dC (.int 30)) ah))))) (aD (bj 4 (tG (aE ι 3 (FY c_Night) (aq (aa 1) (aq (aa 3) (aq (d2 (dS (aq (dC (.int 40)) (aq (dC (.int 14)) (aq (dC (.int 24)) ah)))) (aa 2) bw) ah)))) (dC (.int 0)))) (aD (bj 5 (dS (aq (dN (aq (aa 4) ah) cw) (aq (aJ 2 gP (aq (aa 1) (aq (dN (aq (aa 4) ah) cw) ah))) (aq (aJ 2 gP (aq (aa 1) (aq (dN (aq (aa 4) ah) cw) ah))) (aq (dC (.int 0)) ah)))))) (e8 (cq (aa 5)) (bQ 6) (aD (bj 7 (aE ι 0 (zN c_Night) ah)) (aD (e8 (cq (gq (aa 4) gi (mM (aa 6)))) (bQ 8) (ky (aE ι 3 (zP c_Night) (aq (aa 3) (aq (aa 7) (aq (aa 8) ah)))))) (aD (bj 9 (gq (aa 4) gi (mM (aa 6)))) (e8 (mK (aq (dC (.int 2)) ah)) (bQ 10) (aD (bj 11 (aE ι 2 (Gb c_Night) (aq (aa 3) (aq (aa 9) ah)))) (aD (bS (nY (gK (dT (xD 2 Gg (aq (aa 11) (aq (aE ι 1 (Ge c_Night) (aq (aa 7) ah)) ah))))) (dT (d2 (aa 9) (gq (aa 4) gi (mM (aa 6))) pd))) (bh (dC (.bl ι))) dZ) (F9 (aa 11) (bQ 12) (ky (ij (ag (aa 12)) (aq (dC (.int 0)) ah))))))))))))))) (bh (dC (.bl θ))))
theorem XT(C:O)(ns:-Int)(hn:↑ns<=63):Gk C KL ⟨Z::U (.o 0)::q0h 11 Z,[U (jV ns 0 0)]⟩:=by
 unfold Gk;calc bt λN hN=>?_;simp![af,ag,aG,toF,aF,aE,aH,aj,aI,FV.v,ae,oO,r_,ak,aP,aV,aQ,aR,aU,aS,ay,au,ar,aO,aX,aW,aw,ba,a_,aZ,sd,tV];calc⟨by decide,?_⟩;refine mO (λi δ=>∃o,bM (10000*i) o/\δ=⟨Z::U (.o 0)::q0h 11 Z,[U o]⟩) ⟨jV ns 0 0,⟨ns,0,0,Y,hn,⋯,⋯⟩,Y⟩ ?_ ?_
 .ext j d δ L hj ⟨o,P,rfl⟩ hL
  let⟨LF,rfl⟩:=o8 hj;let LF:j<3:=LF;calc⟨trivial,?_⟩;erw[bQ,q1s,q5H,q0Y,q0Z];let⟨h1,XU,QN⟩:=FT (a:=40) (b:=14) (c:=24) (k:=0+(j:Int)) ⟨⋯,⋯⟩;let⟨h2,XW,hh2⟩:=FT (a:=8) (b:=4) (c:=12) (k:=0+(j:Int)) ⟨⋯,⋯⟩;calc bt λM hM=>?_;simp![af,ag,aG,toF,aF,aE,aH,aj,aI,FV.v,ae,oO,r_,ak,aP,aV,aQ,aR,aU,aS,ay,au,ar,aO,aX,aW,aw,ba,a_,aZ,sd,tV];calc⟨10000*j,o,Y,Y,P,λo1 P1=>?_⟩;simp![af,ag,aG,toF,aF,aE,aH,aj,aI,FV.v,ae,oO,r_,ak,aP,aV,aQ,aR,aU,aS,ay,au,ar,aO,aX,aW,aw,ba,a_,aZ,sd,tV,XW];refine⟨10000*j,h2,30,o1,Y,Y,P1,⋯,⋯,⋯,⋯,⋯,λm ws o4 W _ _ P4=>?_⟩
  simp![af,ag,aG,toF,aF,aE,aH,aj,aI,FV.v,ae,oO,r_,ak,aP,aV,aQ,aR,aU,aS,ay,au,ar,aO,aX,aW,aw,ba,a_,aZ,sd,tV];subst hM;calc bt λM hM=>?_;simp![af,ag,aG,toF,aF,aE,aH,aj,aI,FV.v,ae,oO,r_,ak,aP,aV,aQ,aR,aU,aS,ay,au,ar,aO,aX,aW,aw,ba,a_,aZ,sd,tV,tG,XU];calc⟨[],trivial,?_⟩;simp![af,ag,aG,toF,aF,aE,aH,aj,aI,FV.v,ae,oO,r_,ak,aP,aV,aQ,aR,aU,aS,ay,au,ar,aO,aX,aW,aw,ba,a_,aZ,sd,tV];calc⟨10000*j+300,m,h1,ws,o4,W,⋯,⋯,Y,Y,P4,⋯,λes o5 a b ok el P5=>?_⟩;simp![af,ag,aG,toF,aF,aE,aH,aj,aI,FV.v,ae,oO,r_,ak,aP,aV,aQ,aR,aU,aS,ay,au,ar,aO,aX,aW,aw,ba,a_,aZ,sd,tV]
  calc⟨θ,_,0,_,⟨Y,Y,dm⟩,?_⟩;simp![af,ag,aG,toF,aF,aE,aH,aj,aI,FV.v,ae,oO,r_,ak,aP,aV,aQ,aR,aU,aS,ay,au,ar,aO,aX,aW,aw,ba,a_,aZ,sd,tV];subst hM;let e60:↑es<=60:=by symm
  let e1:1<=↑es:=by symm
  calc bt λM hM=>?_;simp![af,ag,aG,toF,aF,aE,aH,aj,aI,FV.v,ae,oO,r_,ak,aP,aV,aQ,aR,aU,aS,ay,au,ar,aO,aX,aW,aw,ba,a_,aZ,sd,tV];calc⟨10000*j+300+400,↑es,o5,Y,Y,P5,⋯,⋯,⋯,λc1 o6 c10 c11 P6=>?_⟩;simp![af,ag,aG,toF,aF,aE,aH,aj,aI,FV.v,ae,oO,r_,ak,aP,aV,aQ,aR,aU,aS,ay,au,ar,aO,aX,aW,aw,ba,a_,aZ,sd,tV];calc⟨10000*j+300+400+1,↑es,o6,Y,Y,P6,⋯,⋯,⋯,λc2 o7 c20 c21 P7=>?_⟩;simp![af,ag,aG,toF,aF,aE,aH,aj,aI,FV.v,ae,oO,r_,ak,aP,aV,aQ,aR,aU,aS,ay,au,ar,aO,aX,aW,aw,ba,a_,aZ,sd,tV];subst hM;refine pB λg' b' K2 hg hb' hK=>?_
  simp![af,ag,aG,toF,aF,aE,aH,aj,aI,FV.v,ae,oO,r_,ak,aP,aV,aQ,aR,aU,aS,ay,au,ar,aO,aX,aW,aw,ba,a_,aZ,sd,tV];subst hg hb' hK;refine mO (λi δ=>δ=⟨[Z,U (.o 0),U (.p (.int (0+(j:Int)))),U (.p (bq m ws)),U (.p (.lst (es.map gA))),U (.p (.lst [.int ↑es,.int c1,.int c2,.int 0])),Z,Z,Z,Z,Z,Z,Z],[U o7,U (lO a b (runN m ws bU es)),U (sO b (runN m ws bU es))]⟩) Y ?_ ?_
  .ext i d δ L2 hi rfl xQ
   let⟨c,hc,rfl⟩:∃c:Nat,c<=↑es/\d=.int c:=by
    let:=q0S hi;erw[Qu,q0s,q1v] at this;rcases this with rfl|rfl|rfl|rfl
    .exact⟨↑es,Im _,Y⟩
    .exact⟨c1.toNat,⋯,by congr 1;symm⟩
    .exact⟨c2.toNat,⋯,by congr 1;symm⟩
    .exact⟨0,q06 _,Y⟩
   calc⟨trivial,?_⟩;erw[bQ,q0Y,q0Z];calc bt λM hM=>?_;simp![af,ag,aG,toF,aF,aE,aH,aj,aI,FV.v,ae,oO,r_,ak,aP,aV,aQ,aR,aU,aS,ay,au,ar,aO,aX,aW,aw,ba,a_,aZ,sd,tV];calc⟨[],trivial,?_⟩;simp![af,ag,aG,toF,aF,aE,aH,aj,aI,FV.v,ae,oO,r_,ak,aP,aV,aQ,aR,aU,aS,ay,au,ar,aO,aX,aW,aw,ba,a_,aZ,sd,tV];calc⟨Y,Y,λa' b'=>?_⟩;simp![af,ag,aG,toF,aF,aE,aH,aj,aI,FV.v,ae,oO,r_,ak,aP,aV,aQ,aR,aU,aS,ay,au,ar,aO,aX,aW,aw,ba,a_,aZ,sd,tV];subst hM;let ct:cutD (es.map gA) Z (U (c:Int))=(es.take c).map gA:=by rw[Xd (by rw[BE];calc hc),q7X]
   let zR:lj m ws bU (es.take c):=LC ok;let lc:↑(es.take c)<=↑es:=by rw[q0D];symm
   let⟨cs,qE⟩:∃cs,cs=es.take c:=⟨_,Y⟩;rw[<-qE] at ct zR lc;calc bt λM hM=>pB λg' b' K2 hg hb' hK=>?_;simp![af,ag,aG,toF,aF,aE,aH,aj,aI,FV.v,ae,oO,r_,ak,aP,aV,aQ,aR,aU,aS,ay,au,ar,aO,aX,aW,aw,ba,a_,aZ,sd,tV,ct];subst hg hb' hK;refine mO (λi δ=>δ=⟨[Z,U (.o 0),U (.p (.int (0+(j:Int)))),U (.p (bq m ws)),U (.p (.lst (es.map gA))),U (.p (.lst [.int ↑es,.int c1,.int c2,.int 0])),U (.p (.int c)),U (.w a'),Z,Z,Z,Z,Z],[U o7,U (lO a b (runN m ws bU es)),U (sO b (runN m ws bU es)),U (lO a' b' (runN m ws bU (cs.take i))),U (sO b' (runN m ws bU (cs.take i)))]⟩) Y ?_ ?_
   .ext i d δ L3 hi rfl xF
    rw[Qw] at hi;let⟨e,he,rfl⟩:=q0f.mp hi;let il:i<cs.length:=(Il.mp he).1;let⟨o1,o2⟩:=Fp zR he;let ql:=zF (m:=m) (ws:=ws) (N:=bU) (es:=cs.take i);rw[q0D,q5b (q1e il)] at ql;let z0:bU.q.length=0:=Y;let ON:=eI.run W (p_ m ws) o2;rw[Fs he,zu] at xF;generalize runN m ws bU (cs.take i)=Ni at ON o1 ql xF ⊢;calc⟨trivial,?_⟩;erw[bQ,q0Y,q0Z];simp![af,ag,aG,toF,aF,aE,aH,aj,aI,FV.v,ae,oO,r_,ak,aP,aV,aQ,aR,aU,aS,ay,au,ar,aO,aX,aW,aw,ba,a_,aZ,sd,tV];calc⟨[(3,lO a' b' Ni),(4,sO b' Ni)],⟨Y,Y,trivial⟩,?_⟩;simp![af,ag,aG,toF,aF,aE,aH,aj,aI,FV.v,ae,oO,r_,ak,aP,aV,aQ,aR,aU,aS,ay,au,ar,aO,aX,aW,aw,ba,a_,aZ,sd,tV]
    calc⟨a',b',m,ws,Ni,e,W,ON,o1,⋯,Y,Y,?_⟩;simp![af,ag,aG,toF,aF,aE,aH,aj,aI,FV.v,ae,oO,r_,ak,aP,aV,aQ,aR,aU,aS,ay,au,ar,aO,aX,aW,aw,ba,a_,aZ,sd,tV];exact xF _ Y
   .ext δ rfl
    calc⟨trivial,?_⟩;show M _;rw[BE,q2I];let ON:=eI.run W (p_ m ws) zR;let pl:=ON.pl W;let kl:=ON.kl W;let sl:=ON.sl W;subst hM;calc bt λM hM=>?_;simp![af,ag,aG,toF,aF,aE,aH,aj,aI,FV.v,ae,oO,r_,ak,aP,aV,aQ,aR,aU,aS,ay,au,ar,aO,aX,aW,aw,ba,a_,aZ,sd,tV,ct];subst hM;calc pB λg' b' K2 hg hb' hK=>?_;simp![af,ag,aG,toF,aF,aE,aH,aj,aI,FV.v,ae,oO,r_,ak,aP,aV,aQ,aR,aU,aS,ay,au,ar,aO,aX,aW,aw,ba,a_,aZ,sd,tV];calc⟨by decide,?_⟩;subst hg hb' hK;refine mO (λi δ=>δ=⟨[Z,U (.o 0),U (.p (.int (0+(j:Int)))),U (.p (bq m ws)),U (.p (.lst (es.map gA))),U (.p (.lst [.int ↑es,.int c1,.int c2,.int 0])),U (.p (.int c)),U (.w a'),Z,U (.p (.lst (cs.map gA))),Z,Z,Z],[U o7,U (lO a b (runN m ws bU es)),U (sO b (runN m ws bU es)),U (lO a' b' (runN m ws bU cs)),U (sO b' (runN m ws bU cs))]⟩) Y ?_ ?_
    .ext i d δ L3 hi rfl xF
     calc⟨trivial,?_⟩;erw[bQ,q0Y,q0Z];calc bt λM hM=>?_;simp![af,ag,aG,toF,aF,aE,aH,aj,aI,FV.v,ae,oO,r_,ak,aP,aV,aQ,aR,aU,aS,ay,au,ar,aO,aX,aW,aw,ba,a_,aZ,sd,tV];calc⟨[],trivial,?_⟩;simp![af,ag,aG,toF,aF,aE,aH,aj,aI,FV.v,ae,oO,r_,ak,aP,aV,aQ,aR,aU,aS,ay,au,ar,aO,aX,aW,aw,ba,a_,aZ,sd,tV];calc⟨m,ws,cs,W,zR,⋯,Y,Y,λa2 b2 x y z=>?_⟩;simp![af,ag,aG,toF,aF,aE,aH,aj,aI,FV.v,ae,oO,r_,ak,aP,aV,aQ,aR,aU,aS,ay,au,ar,aO,aX,aW,aw,ba,a_,aZ,sd,tV];subst hM;calc bt λM hM=>jC λA B hA hB=>?_;let de:=XS cs;simp![af,ag,aG,toF,aF,aE,aH,aj,aI,FV.v,ae,oO,r_,ak,aP,aV,aQ,aR,aU,aS,ay,au,ar,aO,aX,aW,aw,ba,a_,aZ,sd,tV,xD]
     calc⟨[(3,lO a' b' (runN m ws bU cs))],⟨Y,trivial⟩,?_⟩;simp![af,ag,aG,toF,aF,aE,aH,aj,aI,FV.v,ae,oO,r_,ak,aP,aV,aQ,aR,aU,aS,ay,au,ar,aO,aX,aW,aw,ba,a_,aZ,sd,tV];calc⟨a',b',runN m ws bU cs,Y,Y,?_⟩;simp![af,ag,aG,toF,aF,aE,aH,aj,aI,FV.v,ae,oO,r_,ak,aP,aV,aQ,aR,aU,aS,ay,au,ar,aO,aX,aW,aw,ba,a_,aZ,sd,tV];calc⟨_,.u (.w 7 Y (.w 8 Y (.w 9 Y .nil))) (.p .nil),Y,?_⟩;calc⟨uR (runN m ws bU cs),XR _,by decide,XQ ⋯ ⋯ ⋯,Y,Y,?_⟩;simp![af,ag,aG,toF,aF,aE,aH,aj,aI,FV.v,ae,oO,r_,ak,aP,aV,aQ,aR,aU,aS,ay,au,ar,aO,aX,aW,aw,ba,a_,aZ,sd,tV,ct]
     calc⟨⋯,?_⟩;rw[gN];simp![af,ag,aG,toF,aF,aE,aH,aj,aI,FV.v,ae,oO,r_,ak,aP,aV,aQ,aR,aU,aS,ay,au,ar,aO,aX,aW,aw,ba,a_,aZ,sd,tV];subst hB;show M _;subst hM;simp![af,ag,aG,toF,aF,aE,aH,aj,aI,FV.v,ae,oO,r_,ak,aP,aV,aQ,aR,aU,aS,ay,au,ar,aO,aX,aW,aw,ba,a_,aZ,sd,tV,F9,uQ];calc⟨x,7,_,⟨Y,Y,Y⟩,?_⟩;simp![af,ag,aG,toF,aF,aE,aH,aj,aI,FV.v,ae,oO,r_,ak,aP,aV,aQ,aR,aU,aS,ay,au,ar,aO,aX,aW,aw,ba,a_,aZ,sd,tV];calc⟨⋯,y,8,_,⟨Y,Y,Y⟩,?_⟩;simp![af,ag,aG,toF,aF,aE,aH,aj,aI,FV.v,ae,oO,r_,ak,aP,aV,aQ,aR,aU,aS,ay,au,ar,aO,aX,aW,aw,ba,a_,aZ,sd,tV];refine⟨⋯,z,9,_,⟨Y,Y,Y⟩,?_⟩
     simp![af,ag,aG,toF,aF,aE,aH,aj,aI,FV.v,ae,oO,r_,ak,aP,aV,aQ,aR,aU,aS,ay,au,ar,aO,aX,aW,aw,ba,a_,aZ,sd,tV];calc⟨⋯,?_⟩;exact xF _ Y
    .ext δ rfl
     calc⟨trivial,?_⟩;exact xQ _ Y
  .ext δ rfl
   calc⟨trivial,?_⟩;exact hL _ ⟨o7,P7.mono ⋯,Y⟩
 .ext δ ⟨o,P,rfl⟩
  calc⟨trivial,?_⟩;show N _;subst hN;simp![af,ag,aG,toF,aF,aE,aH,aj,aI,FV.v,ae,oO,r_,ak,aP,aV,aQ,aR,aU,aS,ay,au,ar,aO,aX,aW,aw,ba,a_,aZ,sd,tV]
end LJ
namespace L2
open PySem PySem.Spec PyProof.Rows
noncomputable def XX:l->-J
 |.Name x _=>[x]
 |.Tuple es _ _=>es.filterMap fun
  |.Name x _=>U x
  |_=>Z
 |_=>[]
noncomputable def dB(N:-J)(cp:-(Option Nat))(tg:l):-J:=XX tg++cp.filterMap λc=>c.bind λi=>N[i]?
variable[bf]
section
variable{X:Cx}{tg iter elt:l}{ifs:-l}{scope:a}{pos:y}{w:WI}{g:WG}{t:WT}{f:WE}{cp:-(Option Nat)}
theorem XY(hi:JI X tg iter (kz w))(hg:∀d,(dB X.N cp tg).Nodup->JG (cV X scope (dB X.N cp tg) d) tg (jR g))(hf:∀d,JF (cV X scope (dB X.N cp tg) d) ifs (dH t))(he:∀d,JE (cV X scope (dB X.N cp tg) d) elt (tD f))(hc:X.calm=θ:=by rfl)(hn:G (dB X.N cp tg).Nodup=θ:=by kernel_rfl)
  (hk:scope.kind=.function:=by rfl) (ho:mz X.N X.env.scope scope (dB X.N cp tg) cp=θ:=by kernel_rfl) (hs:∀x,foldedSetIterable iter X.env x=pure x:=by ext _;rfl) :
  JE X (.ListComp elt [⟨tg,iter,ifs,0⟩] scope pos) (tD (d9 w cp g t f)):=v9 cp _ hc hi (λd=>hg d (q0U hn)) hf he hk ho hs
theorem XZ(hi:JI X tg iter (kz w))(hg:∀d,(dB X.N cp tg).Nodup->JG (cV X scope (dB X.N cp tg) d) tg (jR g))(hf:∀d,JF (cV X scope (dB X.N cp tg) d) ifs (dH t))(he:∀d,JE (cV X scope (dB X.N cp tg) d) elt (tD f))(hc:X.calm=θ:=by rfl)(hn:G (dB X.N cp tg).Nodup=θ:=by kernel_rfl)
  (hk:scope.kind=.function:=by rfl) (ho:mz X.N X.env.scope scope (dB X.N cp tg) cp=θ:=by kernel_rfl) (hs:∀x,foldedSetIterable iter X.env x=pure x:=by ext _;rfl) :
  JE X (.ListComp elt [⟨tg,iter,ifs,0⟩] scope pos) (tD (qO w cp g t f)):=RL cp _ hc hi (λd=>hg d (q0U hn)) hf he hk ho hs
theorem X0[kq]{i:Nat}{x:J}{pos' iZ:y}(hN:X.N.Nodup)(hit:JI X tg iter (kz w))(hg:∀d,(dB X.N cp tg).Nodup->JG (cV X scope (dB X.N cp tg) d) tg (jR g))(hf:∀d,JF (cV X scope (dB X.N cp tg) d) ifs (dH t))(he:∀d,JE (cV X scope (dB X.N cp tg) d) elt (tD f))(hi:X.N[i]?=U x:=by rfl)(hx:Loc X.env.scope x:=by trivial)(hc:X.calm=θ:=by rfl)(hn:G (dB X.N cp tg).Nodup=θ:=by kernel_rfl)
  (hk:scope.kind=.function:=by rfl) (ho:mz X.N X.env.scope scope (dB X.N cp tg) cp=θ:=by kernel_rfl) (hs:∀x,foldedSetIterable iter X.env x=pure x:=by ext _;rfl)
  (vK:swapsWith (.ListComp elt [⟨tg,iter,ifs,0⟩] scope pos) (U (.Name x pos')) iZ.line X.env=pure θ:=by rfl)
  (nP:hV X x:=by first|exact .inl Y|exact .inr Y|assumption) :
  JS X (.Assign [.Name x pos'] (.ListComp elt [⟨tg,iter,ifs,0⟩] scope pos) iZ) (dU (bj i (d9 w cp g t f))):=Ji cp _ hN hi hx hc hit (λd=>hg d (q0U hn)) hf he hk ho hs vK nP
end
end L2
namespace LJ
open PySem L2 PySem.Spec PySem.W PyProof.Rows
variable[bf]{X:Cx}{Z:Ev}{x:J}{ps:-J}{G:GD}{e:l}{es:-l}{fa:WA}{p pos:y}{j k n:Nat}
end LJ
namespace LJ
open PySem L2 PySem.Spec PySem.W PyProof.Rows
variable[bf]
def Gm(V:Ev)(x:J)(d:D):Prop:=∃v u,V.mg x=U u/\RelV v u/\Is bf.cs d v
theorem X1{X:Cx}{x:J}{d:D}{pos:y}(C:Gm ⟨X.prog,X.w,X.K,X.mg,X.base⟩ x d)(hg:Gl X x:=by rfl)(hd:b7 x:=by decide):JE X (.Name x pos) (tD (dC d)) :=
 let⟨_,_,h1,r,h2⟩:=C
 (Ho hg h1 r hd).weak λ_ _ _ ⟨_,_,_,_,S,q,k⟩↦k _ _ q _ _ _ _ .refl S (Is.same S.nt.cs h2)
def zS(K:My)(x:J)(d:D):Prop:=∃v u,q1R K mainGlobals x=U (U u)/\RelV v u/\Is bf.cs d v
theorem zS.v{K:My}{h:I}{mg:J->Option L}{P:t}{w:S}{base:I}{x:J}{d:D}(c:zS K x d)(X:K.In h)(G:h.Ns mainGlobals mg):Gm ⟨P,w,K,mg,base⟩ x d :=
 let⟨v,u,a,r,i⟩:=c
 ⟨v,u,q25 X G a,r,i⟩
end LJ
namespace LJ
open PySem L2
noncomputable def top(i:Nat):R:=PySem.Challenge.pw_lotjoin_k47_stands_behind_events.main.body.getD i (.Pass ⟨0,0,0,0⟩)
section
variable[bf]{Z:Ev}
set_option hygiene false
local macro_rules | `(tactic| ac_rfl) => `(tactic| repeat' first|(show JE _ (.Name _ _) _;(first|exact dv _|exact V0 (by assumption)))|(show JE _ (.Constant _ _ _) _;(first|exact cb|exact t_|exact jP))|(show JA _ _ _;(first|exact bF|refine bg ?_ ?_|refine b8 ?_ ?_|refine dR ?_ ?_|refine cm ?_ ?_|refine vZ ?_ ?_|refine B6 ?_ ?_|refine jQ ?_ ?_))|(show JE _ (.Call _ _ _ _) _;(first|refine cJ (by assumption) hr ?_|refine VZ (by assumption) hr ?_|refine gy lR (by rfl) B.len q1o ?_|refine gy (Sg rfl) (by rfl) B.all Rv ?_|refine gy (Sh rfl) (by rfl) B.min yX ?_|refine gy (Si rfl) (by rfl) B.max Sw ?_|refine gy (KR rfl) (by rfl) B.min yX ?_|refine gy (Uo hu) (by rfl) B.sorted qX ?_|refine gy yR (by rfl) B.sorted qX ?_|refine Jb Se (by rfl) B.list sv ?_|refine Jb Sf (by rfl) B.tuple yt ?_|refine jU CM (by rfl) B.isinstance (by rfl) B.int BZ ?_|refine jU wJ (by rfl) B.isinstance (by rfl) B.bool vT ?_|refine jU CN (by rfl) B.isinstance (by rfl) B.tuple yt ?_|refine Sj rfl (by rfl) B.list sv (by rfl) B.range Sv ?_|refine Em rfl (by rfl) B.sorted qX (by rfl) B.set yu ?_|refine Th rfl hu (by rfl) B.len q1o (by rfl) B.set yu ?_|refine(nR q0V q1p q1q qG ?_ ?_).weak sM|refine(nR q0V q4u q4v Ih ?_ ?_).weak JQ|refine(nR q0V PySem.F.slot_list_pop PySem.F.type_list_pop Qo ?_ ?_).weak So))|(show JE _ (.Subscript _ _ _) _;(first|refine d6 eA ?_ ?_ λ_ _=>rfl|refine uA ?_ ?_ ?_))|(show JE _ (.BinOp _ _ _ _) _;(first|refine g5 (op:=.Add) pA ?_ ?_|refine g5 (op:=.Sub) wt ?_ ?_|refine g5 (op:=.Mult) CJ ?_ ?_|refine g5 (op:=.Mod) R7 ?_ ?_|refine g5 (op:=.FloorDiv) SQ ?_ ?_|refine g5 (op:=.Pow) R8 ?_ ?_|refine Sy ?_ ?_))|(show JE _ (.Compare _ _ _ _) _;(first|refine nX (op:=.Eq) (pe hu) ?_ ?_ (by rfl)|refine nX (op:=.NotEq) (uq hu) ?_ ?_ (by rfl)|refine nX (op:=.Lt) (CK hu) ?_ ?_ (by rfl)|refine nX (op:=.Gt) Jv ?_ ?_ (by rfl)|refine nX (op:=.In) (sJ hu) ?_ ?_ (by rfl)|refine Sb Ju Ju ?_ ?_ ?_))|(show JE _ _ _;(first|refine mE ?_|refine ua ?_|refine km ?_|refine v7 ?_ ?_|refine yA ?_|refine RG ?_|refine Jd ?_ ?_ ?_|refine XY ?_ (λd nd=>?_) (λd=>?_) λd=>?_|refine XZ ?_ (λd nd=>?_) (λd=>?_) λd=>?_))|(show JS _ _ _;(first|refine eD ?_|refine iN ?_ ?_ ?_|refine X0 nd ?_ (λd nd=>?_) (λd=>?_) λd=>?_|refine fL nd rfl (by trivial) ?_|refine mG ?_|refine(xY ?_ (AZ ?_ ?_ set_list)).weak JR|refine Je ?_ ?_|refine qP q1S rfl ?_ ?_ ?_|exact yY))|(show dM _ _ _;(first|refine cN ?_|refine bX ?_ ?_|exact iM))|(show JT _ _ _;(first|refine e7 (op:=.Eq) (pe hu) ?_ ?_ (by rfl)|refine e7 (op:=.Lt) (CK hu) ?_ ?_ (by rfl)|refine e7 (op:=.Gt) Jv ?_ ?_ (by rfl)|refine e7 (op:=.GtE) R9 ?_ ?_ (by rfl)|refine e7 (op:=.In) (sJ hu) ?_ ?_ (by rfl)|refine e7 (op:=.NotIn) (yN hu) ?_ ?_ (by rfl)|refine e7 (op:=.Is) wQ ?_ ?_ (by rfl)|refine e7 (op:=.IsNot) Kb ?_ ?_ (by rfl)|refine yz ?_|refine JW.jt (qN ?_ ?_)|refine JW.jt (ud ?_ ?_)|refine nZ ?_))|(show JW _ _ _;(first|refine qN ?_ ?_|refine sA ?_|refine ud ?_ ?_|refine v5 ?_))|exact ur|refine uu ?_|refine yK (by rfl) B.range ?_|refine R5 (by rfl) B.range ?_|refine yJ (by rfl) B.enumerate ?_|refine uk ?_|exact g6 nd rfl (by trivial)|refine ug rfl ?_|exact uf|refine mH ?_ ?_|exact B_|refine yE ?_)
noncomputable abbrev LG:R:=top 9
abbrev Gn(Z:Ev):Prop:=Fx Z 1 "is_whole" ["thing"] 1 y6
theorem X7(D:Dx Z "is_whole" LG)(B:BT Z.mg):Gn Z:=eC (N:=["thing"]) D qc λhr nd hu=>⟨Df,(by ac_rfl),Te⟩
noncomputable abbrev LH:R:=top 10
abbrev xG(Z:Ev):Prop:=Fx Z 2 "is_within" ["thing", "least", "most"] 3 sS
theorem X8(D:Dx Z "is_within" LH)(B:BT Z.mg)(LI:Gn Z):xG Z:=eC (N:=["thing", "least", "most"]) D jk λhr nd hu=>⟨Dg,(by ac_rfl),Tf⟩
noncomputable abbrev LL:R:=top 11
abbrev zT(Z:Ev):Prop:=Fx Z 1 "is_tuple_of" ["thing", "size"] 2 uD
theorem X9(D:Dx Z "is_tuple_of" LL)(B:BT Z.mg):zT Z:=eC (N:=["thing", "size"]) D iP λhr nd hu=>⟨Dh,(by ac_rfl),Tg⟩
noncomputable abbrev LM:R:=top 12
abbrev LN(Z:Ev):Prop:=Fx Z 3 "are_ends" ["many", "one", "other"] 3 Dp
theorem X_(D:Dx Z "are_ends" LM)(B:BT Z.mg)(zU:xG Z):LN Z:=eC (N:=["many", "one", "other"]) D jk λhr nd hu=>⟨Dq,(by ac_rfl),Ti⟩
noncomputable abbrev LO:R:=top 13
abbrev LP(Z:Ev):Prop:=Fx Z 4 "is_way" ["many", "thing"] 2 Dr
theorem Ya(D:Dx Z "is_way" LO)(B:BT Z.mg)(z1o:Ct Z "MOST_PRICE" 1000000000)(zV:zT Z)(z3g:LN Z)(zU:xG Z):LP Z:=eC (N:=["many", "thing"]) D iP λhr nd hu=>⟨Ds,(by ac_rfl),Tj⟩
noncomputable abbrev LQ:R:=top 14
abbrev LR(Z:Ev):Prop:=Fx Z 5 "are_ways" ["many", "thing"] 2 Dt
theorem Yb(D:Dx Z "are_ways" LQ)(B:BT Z.mg)(z3b:Ct Z "MOST_WAYS" 30)(z4M:LP Z):LR Z:=eC (N:=["many", "thing"]) D iP λhr nd hu=>⟨Du,(by ac_rfl),Tn⟩
noncomputable abbrev LU:R:=top 15
abbrev LV(Z:Ev):Prop:=Fx Z 6 "is_web" ["thing"] 1 Dv
theorem Yc(D:Dx Z "is_web" LU)(B:BT Z.mg)(z0U:Ct Z "MOST_HOUSES" 12)(zV:zT Z)(zU:xG Z)(z3f:LR Z):LV Z:=eC (N:=["thing"]) D qc λhr nd hu=>⟨Dw,(by ac_rfl),To⟩
noncomputable abbrev LW:R:=top 16
abbrev LX(Z:Ev):Prop:=Fx Z 7 "need_web" ["web"] 1 D0
theorem Yd(D:Dx Z "need_web" LW)(B:BT Z.mg)(z4L:LV Z):LX Z:=eC (N:=["web"]) D qc λhr nd hu=>⟨D1,(by ac_rfl),Uu⟩
noncomputable abbrev LY:R:=top 17
abbrev LZ(Z:Ev):Prop:=Fx Z 1 "rank_of" ["way"] 1 D2
theorem Ye(D:Dx Z "rank_of" LY)(B:BT Z.mg):LZ Z:=eC (N:=["way"]) D qc λhr nd hu=>⟨D3,(by ac_rfl),Uv⟩
noncomputable abbrev L0:R:=top 19
abbrev L1(Z:Ev):Prop:=Fx Z 1 "joined" ["firsts", "one", "other"] 3 Dy
theorem Yf(D:Dx Z "joined" L0)(B:BT Z.mg):L1 Z:=eC (N:=["firsts", "one", "other", "gone", "kept"]) D jk λhr nd hu=>⟨Dz,(by ac_rfl),Tq⟩
noncomputable abbrev L4:R:=top 20
abbrev L5(Z:Ev):Prop:=Fx Z 2 "firsts_of" ["web", "ways"] 2 ER
theorem Yg(D:Dx Z "firsts_of" L4)(B:BT Z.mg)(z4K:L1 Z):L5 Z:=eC (N:=["web", "ways", "firsts", "number", "way"]) D iP λhr nd hu=>⟨ES,(by ac_rfl),Wi⟩
noncomputable abbrev L6:R:=top 22
abbrev L7(Z:Ev):Prop:=Fx Z 5 "least_of" ["web", "ways"] 2 Ei
theorem Yh{T:O}(D:zC Z "least_of" L6 T ⟨58,25,58,63⟩ ((("least_of" : J)++".<locals>.")++"<lambda>"))(B:BT Z.mg)(Yi:LZ Z):L7 Z:=V_ (N:=["web", "ways"]) D iP λLD hc hr nd hu=>⟨Ej,(cN (eD (U9 ι (mY.mk (x:="number") (Nb:=["web"]) (cp:=[U 0]) ⟨LD.env hc,LD.ng,LD.blt⟩ LD.tbl Y Y (by first|rfl|kernel_rfl) Y Y (λ_ _ _ _ _=>Y) ⟨1,hr.mono (by decide),λd hr=>(cJ Yi hr (cm (d6 eA (d6 eA (dv 1) cb (λ_ _=>Y)) (dv 0) (λ_ _=>Y)) bF))⟩) hu (by rfl) B.min yX (bg (dv 1) bF)))),Vf⟩
noncomputable abbrev L8:R:=top 23
abbrev L9(Z:Ev):Prop:=Fx Z 1 "leads_out" ["way", "houses"] 2 Ee
theorem Yj(D:Dx Z "leads_out" L8)(B:BT Z.mg):L9 Z:=eC (N:=["way", "houses"]) D iP λhr nd hu=>⟨Ef,(by ac_rfl),Vd⟩
noncomputable abbrev L_:R:=top 24
abbrev Ma(Z:Ev):Prop:=Fx Z 2 "ways_out" ["web", "houses"] 2 Eg
theorem Yk(D:Dx Z "ways_out" L_)(B:BT Z.mg)(z28:L9 Z):Ma Z:=eC (N:=["web", "houses"]) D iP λhr nd hu=>⟨Eh,(by ac_rfl),Ve⟩
noncomputable abbrev Mb:R:=top 25
abbrev zW(Z:Ev):Prop:=Fx Z 3 "lot_at" ["web", "ways", "house"] 3 xv
theorem Yl(D:Dx Z "lot_at" Mb)(B:BT Z.mg)(z29:L5 Z):zW Z:=eC (N:=["web", "ways", "house", "firsts"]) D jk λhr nd hu=>⟨ET,(by ac_rfl),Wj⟩
noncomputable abbrev Mc:R:=top 26
abbrev Gp(Z:Ev):Prop:=Fx Z 1 "ends_of" ["web", "ways"] 2 zr
theorem Ym(D:Dx Z "ends_of" Mc)(B:BT Z.mg):Gp Z:=eC (N:=["web", "ways"]) D iP λhr nd hu=>⟨El,(by ac_rfl),Vk⟩
noncomputable abbrev Md:R:=top 29
abbrev zX(Z:Ev):Prop:=Fx Z 1 "rising" ["numbers"] 1 xw
theorem Yn(D:Dx Z "rising" Md)(B:BT Z.mg):zX Z:=eC (N:=["numbers"]) D qc λhr nd hu=>⟨EV,(by ac_rfl),Wk⟩
noncomputable abbrev Me:R:=top 30
abbrev Mf(Z:Ev):Prop:=Fx Z 2 "letters_of_asking" ["web", "stand", "lot"] 3 EW
theorem Yo(D:Dx Z "letters_of_asking" Me)(B:BT Z.mg)(Yp:Gp Z):Mf Z:=eC (N:=["web", "stand", "lot", "settled", "unsettled", "asking"]) D jk λhr nd hu=>⟨EX,(by ac_rfl),Wo⟩
noncomputable abbrev Mg:R:=top 31
abbrev Mh(Z:Ev):Prop:=Fx Z 1 "ways_within" ["web", "lot"] 2 EY
theorem Yq(D:Dx Z "ways_within" Mg)(B:BT Z.mg):Mh Z:=eC (N:=["web", "lot"]) D iP λhr nd hu=>⟨EZ,(by ac_rfl),Wq⟩
noncomputable abbrev Mi:R:=top 32
abbrev Mj(Z:Ev):Prop:=Fx Z 6 "waked" ["web", "stand", "house"] 3 E5
theorem Yr(D:Dx Z "waked" Mi)(B:BT Z.mg)(Ml:zW Z)(z3e:L7 Z)(z3d:Ma Z)(z0R:Mh Z)(Mm:zX Z)(x2W:Mf Z):Mj Z:=eC (N:=["web", "stand", "house", "lot", "found", "within", "behind"]) D jk λhr nd hu=>⟨E6,(by ac_rfl),Wr⟩
noncomputable abbrev Mn:R:=top 33
abbrev Mo(Z:Ev):Prop:=Fx Z 4 "joined_over" ["web", "stand", "found"] 3 E7
theorem Ys(D:Dx Z "joined_over" Mn)(B:BT Z.mg)(Yp:Gp Z)(Ml:zW Z)(Mm:zX Z):Mo Z:=eC (N:=["web", "stand", "found", "sizes"]) D jk λhr nd hu=>⟨E8,(by ac_rfl),Ws⟩
noncomputable abbrev Mp:R:=top 34
abbrev Mq(Z:Ev):Prop:=Fx Z 4 "told_whole" ["web", "stand", "house"] 3 E_
theorem Yt(D:Dx Z "told_whole" Mp)(B:BT Z.mg)(Ml:zW Z)(Mm:zX Z):Mq Z:=eC (N:=["web", "stand", "house", "lot"]) D jk λhr nd hu=>⟨Fb,(by ac_rfl),Wt⟩
noncomputable abbrev Mr:R:=top 35
abbrev Ms(Z:Ev):Prop:=Fx Z 5 "ended" ["web", "stand", "house", "found"] 4 Fd
theorem Yu(D:Dx Z "ended" Mr)(B:BT Z.mg)(z1n:Mq Z)(z0S:Mo Z):Ms Z:=eC (N:=["web", "stand", "house", "found"]) D Ln λhr nd hu=>⟨Fe,(by ac_rfl),Wu⟩
noncomputable abbrev Mt:R:=inClass (top 36) 0
abbrev Mu(Z:Ev)(c_Night:O):Prop:=Fc Z c_Night 8 "Night" ["self", "web"] 2 (Ff c_Night)
theorem Yv{c_Night:O}(D:Dc Z c_Night "Night" "Night.__init__" Mt)(B:BT Z.mg)(gX:Gm Z "FIRST_STAND" (.tup [(.tup []),(.tup []),(.tup [])]))(az:Kx Z.K c_Night ["town", "latest", "begun", "going"])(Yw:LX Z):Mu Z c_Night:=Wf (N:=["self", "web"]) D EM λhr nd hu=>⟨Fg c_Night,(bX (mG (cJ Yw hr (bg (dv 1) bF))) (bX (tF az.c (az.at "town") (dv 0) (dv 1)) (bX (tF az.c (az.at "latest") (dv 0) (X1 gX)) (bX (tF az.c (az.at "begun") (dv 0) cb) (cN (tF az.c (az.at "going") (dv 0) Uz)))))),Wx c_Night⟩
noncomputable abbrev Mv:R:=inClass (top 36) 1
abbrev Mw(Z:Ev)(c_Night:O):Prop:=Fk Z c_Night 7 "wake" ["self", "house"] 2 (Fh c_Night)
theorem Yx{c_Night:O}(D:Dm Z c_Night "wake" "Night.wake" Mv)(B:BT Z.mg)(az:Kx Z.K c_Night ["town", "latest", "begun", "going"])(zU:xG Z)(Yy:Mj Z):Mw Z c_Night:=EO (N:=["self", "house", "number", "waking"]) D EM λhr nd hu=>⟨Fi c_Night,(bX (iN (yz (nZ (cJ zU hr (bg (dv 1) (b8 cb (jQ (g5 wt (d6 eA (lr az.c (az.at "town") (dv 0)) cb (λ_ _=>Y)) cb) bF)))))) (cN yY) iM) (bX (fL (i:=2) nd Y (by trivial) (lr az.c (az.at "begun") (dv 0))) (bX (tF az.c (az.at "begun") (dv 0) (g5 pA (dv 2) cb)) (bX (iN (e7 (sJ hu) (dv 1) (d6 eA (lr az.c (az.at "latest") (dv 0)) cb (λ_ _=>Y)) (by rfl)) (cN (eD (km (b8 jP (b8 cb bF))))) iM) (bX (fL (i:=3) nd Y (by trivial) (cJ Yy hr (jQ (lr az.c (az.at "town") (dv 0)) (jQ (lr az.c (az.at "latest") (dv 0)) (bg (dv 1) bF))))) (bX (UD hu (qb (lr az.c (az.at "going") (dv 0))) (dv 2) (km (bg (dv 1) (cm (d6 eA (dv 3) cb (λ_ _=>Y)) bF)))) (bX (tF az.c (az.at "latest") (dv 0) (d6 eA (dv 3) cb (λ_ _=>Y))) (cN (eD (km (b8 jP (cm (d6 eA (dv 3) cb (λ_ _=>Y)) bF)))))))))))),Wz c_Night⟩
noncomputable abbrev Mx:R:=inClass (top 36) 2
abbrev Mz(Z:Ev)(c_Night:O):Prop:=Fk Z c_Night 6 "end" ["self", "number"] 2 (Fj c_Night)
theorem Yz{c_Night:O}(D:Dm Z c_Night "end" "Night.end" Mx)(B:BT Z.mg)(az:Kx Z.K c_Night ["town", "latest", "begun", "going"])(LI:Gn Z)(YA:Ms Z):Mz Z c_Night:=EO (N:=["self", "number", "search", "ending"]) D EM λhr nd hu=>⟨Fl c_Night,(bX (iN (JW.jt (qN (yz (nZ (cJ LI hr (bg (dv 1) bF)))) (sA (UC hu (dv 1) (qb (lr az.c (az.at "going") (dv 0))))))) (cN yY) iM) (bX (fL (i:=2) nd Y (by trivial) (VI (qb (lr az.c (az.at "going") (dv 0))) (dv 1))) (bX (fL (i:=3) nd Y (by trivial) (cJ YA hr (jQ (lr az.c (az.at "town") (dv 0)) (jQ (lr az.c (az.at "latest") (dv 0)) (cm (d6 eA (dv 2) cb (λ_ _=>Y)) (cm (d6 eA (dv 2) cb (λ_ _=>Y)) bF)))))) (bX (tF az.c (az.at "latest") (dv 0) (d6 eA (dv 3) cb (λ_ _=>Y))) (cN (eD (km (cm (d6 eA (dv 3) cb (λ_ _=>Y)) (cm (d6 eA (dv 3) cb (λ_ _=>Y)) bF))))))))),WB c_Night⟩
noncomputable abbrev MA:R:=inClass (top 36) 3
abbrev MB(Z:Ev)(c_Night:O):Prop:=Fk Z c_Night 1 "stand" ["self"] 1 (F_ c_Night)
theorem YB{c_Night:O}(D:Dm Z c_Night "stand" "Night.stand" MA)(B:BT Z.mg)(az:Kx Z.K c_Night ["town", "latest", "begun", "going"]):MB Z c_Night:=EO (N:=["self"]) D We λhr nd hu=>⟨Ga c_Night,(cN (eD (XA (dR (CU CV (by rfl) B.list sv (cm (d6 eA (lr az.c (az.at "latest") (dv 0)) cb (λ_ _=>Y)) bF)) (dR (CU CV (by rfl) B.list sv (cm (d6 eA (lr az.c (az.at "latest") (dv 0)) cb (λ_ _=>Y)) bF)) (dR (CU CV (by rfl) B.list sv (cm (d6 eA (lr az.c (az.at "latest") (dv 0)) cb (λ_ _=>Y)) bF)) bF)))))),XH c_Night⟩
noncomputable abbrev MC:R:=top 37
abbrev MD(Z:Ev)(c_Night:O):Prop:=Fq Z 8 "told_of" ["night", "event"] 2 (Ft c_Night)
theorem YC{c_Night:O}(D:Dx Z "told_of" MC)(B:BT Z.mg)(az:Kx Z.K c_Night ["town", "latest", "begun", "going"])(zV:zT Z)(iC:Mw Z c_Night)(jn:Mz Z c_Night):MD Z c_Night:=nq (N:=["night", "event"]) D iP λhr nd hu=>⟨Fu c_Night,(bX (iN (JW.jt (ud (nZ (cJ zV hr (bg (dv 1) (b8 cb bF)))) (v5 (e7 (pe hu) (d6 eA (dv 1) cb (λ_ _=>Y)) vY (by rfl))))) (cN (eD (xu ι az.c iC hr (dv 0) (cm (d6 eA (dv 1) cb (λ_ _=>Y)) bF)))) iM) (bX (iN (JW.jt (ud (nZ (cJ zV hr (bg (dv 1) (b8 cb bF)))) (v5 (e7 (pe hu) (d6 eA (dv 1) cb (λ_ _=>Y)) vY (by rfl))))) (cN (eD (xu ι az.c jn hr (dv 0) (cm (d6 eA (dv 1) cb (λ_ _=>Y)) bF)))) iM) (cN yY))),WD c_Night⟩
noncomputable abbrev ME:R:=top 38
abbrev MF(Z:Ev)(c_Night:O):Prop:=Fq Z 9 "all_told" ["night", "events"] 2 (Fv c_Night)
theorem YD{c_Night:O}(D:Dx Z "all_told" ME)(B:BT Z.mg)(az:Kx Z.K c_Night ["town", "latest", "begun", "going"])(YE:MD Z c_Night):MF Z c_Night:=nq (N:=["night", "events", "told", "place", "event"]) D iP λhr nd hu=>⟨Fw c_Night,(bX (fL (i:=2) nd Y (by trivial) (ua bF)) (bX (qP q1S Y (yJ (by rfl) B.enumerate (bg (dv 1) bF)) (ug Y (mH (g6 (i:=3) nd Y (by trivial)) (mH (g6 (i:=4) nd Y (by trivial)) uf))) (cN (VH λpn=>(cN (mG ((nR q0V q1p q1q qG (dv 2) (dR (gu ι YE hr (bg (dv 0) (bg (dv 4) bF))) bF)).weak sM)))))) (cN (eD (dv 2))))),WH c_Night⟩
noncomputable abbrev MG:R:=top 39
abbrev MH(Z:Ev)(c_Night:O):Prop:=Fq Z 10 "stand_behind" ["web", "events"] 2 (Gb c_Night)
theorem YF{c_Night:O}(D:Dx Z "stand_behind" MG)(B:BT Z.mg)(az:Kx Z.K c_Night ["town", "latest", "begun", "going"])(iD:Mu Z c_Night)(YG:MF Z c_Night)(gY:MB Z c_Night):MH Z c_Night:=nq (N:=["web", "events", "night"]) D iP λhr nd hu=>⟨Gd c_Night,(bX (fL (i:=2) nd Y (by trivial) (EL iD hr (bg (dv 0) bF))) (bX (mG (gu ι YG hr (bg (dv 2) (bg (dv 1) bF)))) (cN (eD (Wd ι az.c gY hr (dv 2)))))),XI c_Night⟩
noncomputable abbrev MI:R:=top 41
abbrev MJ(Z:Ev):Prop:=Fx Z 1 "_law_spread" ["cell", "at"] 2 C0
theorem YH(D:Dx Z "_law_spread" MI)(B:BT Z.mg):MJ Z:=eC (N:=["cell", "at", "primes", "one", "two", "three"]) D iP λhr nd hu=>⟨C1,(by ac_rfl),SU⟩
noncomputable abbrev MK:R:=top 43
abbrev ML(Z:Ev):Prop:=Fx Z 1 "_law_anew" ["pen"] 1 C2
theorem YI(D:Dx Z "_law_anew" MK)(B:BT Z.mg):ML Z:=eC (N:=["pen"]) D qc λhr nd hu=>⟨C3,(by ac_rfl),SV⟩
noncomputable abbrev MM:R:=top 44
abbrev uS(Z:Ev):Prop:=Fx Z 2 "_law_take" ["pen", "many"] 2 gP
theorem YJ(D:Dx Z "_law_take" MM)(B:BT Z.mg)(z0T:MJ Z):uS Z:=eC (N:=["pen", "many", "at", "cell", "found"]) D iP λhr nd hu=>⟨C4,(by ac_rfl),SW⟩
noncomputable abbrev MN:R:=top 46
abbrev MO(Z:Ev):Prop:=Fx Z 3 "_law_pairs_of" ["pen", "kind", "many"] 3 C5
theorem YK(D:Dx Z "_law_pairs_of" MN)(B:BT Z.mg)(nG:uS Z):MO Z:=eC (N:=["pen", "kind", "many", "every", "other", "ring", "half"]) D jk λhr nd hu=>⟨C6,(by ac_rfl),S7⟩
noncomputable abbrev MP:R:=top 47
abbrev MQ(Z:Ev):Prop:=Fx Z 4 "_law_web" ["pen", "houses", "most"] 3 C9
theorem YL(D:Dx Z "_law_web" MP)(B:BT Z.mg)(nG:uS Z)(x9g:MO Z):MQ Z:=eC (N:=["pen", "houses", "most", "kind", "prices", "many", "pairs", "ways", "k", "one", "other", "price"]) D jk λhr nd hu=>⟨C_,(by ac_rfl),S8⟩
noncomputable abbrev MR:R:=top 48
abbrev MS(Z:Ev):Prop:=Fx Z 1 "_law_key" ["web", "number"] 2 D4
theorem YM(D:Dx Z "_law_key" MR)(B:BT Z.mg):MS Z:=eC (N:=["web", "number", "one", "other", "price"]) D iP λhr nd hu=>⟨D5,(by ac_rfl),Ux⟩
noncomputable abbrev MT:R:=top 49
abbrev MU(Z:Ev):Prop:=Fx Z 1 "_law_marks_by" ["web", "ways"] 2 DB
theorem YN(D:Dx Z "_law_marks_by" MT)(B:BT Z.mg):MU Z:=eC (N:=["web", "ways", "found", "number", "one", "other"]) D iP λhr nd hu=>⟨y7,(by ac_rfl),Tu⟩
noncomputable abbrev MV:R:=top 50
abbrev Gq(Z:Ev):Prop:=Fx Z 2 "_law_lot_at" ["web", "ways", "house"] 3 xB
theorem YO(D:Dx Z "_law_lot_at" MV)(B:BT Z.mg)(x9h:MU Z):Gq Z:=eC (N:=["web", "ways", "house", "marks"]) D jk λhr nd hu=>⟨FD,(by ac_rfl),Xf⟩
noncomputable abbrev MW:R:=top 51
abbrev MX(Z:Ev):Prop:=Fx Z 1 "_law_leads_out" ["web", "houses", "number"] 3 FA
theorem YQ(D:Dx Z "_law_leads_out" MW)(B:BT Z.mg):MX Z:=eC (N:=["web", "houses", "number", "one", "other"]) D jk λhr nd hu=>⟨FC,(by ac_rfl),Xe⟩
noncomputable abbrev MY:R:=top 52
abbrev MZ(Z:Ev):Prop:=Fx Z 2 "_law_outs" ["web", "houses", "ways"] 3 FE
theorem YR(D:Dx Z "_law_outs" MY)(B:BT Z.mg)(x5O:MX Z)(z3h:MS Z):MZ Z:=eC (N:=["web", "houses", "ways", "found"]) D jk λhr nd hu=>⟨FF,(by ac_rfl),Xg⟩
noncomputable abbrev M0:R:=top 53
abbrev Gr(Z:Ev)(c_Night:O):Prop:=Fq Z 1 "_law_night" [] 0 (zN c_Night)
theorem YS{c_Night:O}(D:Dx Z "_law_night" M0)(B:BT Z.mg):Gr Z c_Night:=nq (N:=[]) D Wh λhr nd hu=>⟨FG c_Night,(cN (eD (VN (zB (mE bF) (zB (mE bF) (zB (mE bF) (zB (ua bF) VM))))))),Xi c_Night⟩
noncomputable abbrev M3:R:=top 54
abbrev M4(Z:Ev)(c_Night:O):Prop:=Fq Z 1 "_law_under" ["night"] 1 (FK c_Night)
theorem YT{c_Night:O}(D:Dx Z "_law_under" M3)(B:BT Z.mg):M4 Z c_Night:=nq (N:=["night"]) D qc λhr nd hu=>⟨FL c_Night,(cN (eD (v9 [η,η] ["number", "search"] Y (yJ (by rfl) B.enumerate (cm (qb (iu hu (dv 0))) bF)) (λd=>(ug Y (mH (g6 (i:=0) (show(["number", "search"]:-J).Nodup by decide +kernel) Y (by trivial)) (mH (g6 (i:=1) (show(["number", "search"]:-J).Nodup by decide +kernel) Y (by trivial)) uf)))) (λd=>(yE (e7 Kb (dv 1) jP (by rfl)))) (λd=>(dv 0))))),Xj c_Night⟩
noncomputable abbrev M5:R:=top 55
abbrev M6(Z:Ev)(c_Night:O):Prop:=Fq Z 3 "_law_wake" ["web", "night", "house"] 3 (FO c_Night)
theorem YU{c_Night:O}(D:Dx Z "_law_wake" M5)(B:BT Z.mg)(zY:Gq Z)(YV:MZ Z):M6 Z c_Night:=nq (N:=["web", "night", "house", "lot", "gone", "asked", "one", "outs"]) D jk λhr nd hu=>⟨FP c_Night,(bX (iN (e7 (sJ hu) (dv 2) (iu hu (dv 1)) (by rfl)) (bX (mG ((nR q0V q1p q1q qG (qb (iu hu (dv 1))) (b8 jP bF)).weak sM)) (cN (eD (km (b8 jP (b8 cb bF)))))) iM) (bX (fL (i:=3) nd Y (by trivial) (cJ zY hr (bg (dv 0) (cm (iu hu (dv 1)) (bg (dv 2) bF))))) (bX (fL (i:=4) nd Y (by trivial) (g5 pA (iu hu (dv 1)) (iu hu (dv 1)))) (bX (fL (i:=5) nd Y (by trivial) (ua bF)) (bX (qP q1S Y (uk (dv 3)) (g6 (i:=6) nd Y (by trivial)) (cN (mG ((nR q0V q4u q4v Ih (dv 5) (jQ (v9 [η,η,U 6,U 4] ["number", "way", "one", "gone"] Y (yJ (by rfl) B.enumerate (cm (d6 eA (dv 0) cb (λ_ _=>Y)) bF)) (λd=>(ug Y (mH (g6 (i:=0) (show(["number", "way", "one", "gone"]:-J).Nodup by decide +kernel) Y (by trivial)) (mH (g6 (i:=1) (show(["number", "way", "one", "gone"]:-J).Nodup by decide +kernel) Y (by trivial)) uf)))) (λd=>(yE (JW.jt (ud (e7 (sJ hu) (dv 2) (uA (dv 1) ur (uu cb)) (by rfl)) (v5 (e7 (yN hu) (dv 0) (dv 3) (by rfl))))))) (λd=>(dv 0))) bF)).weak JQ)))) (bX (fL (i:=7) nd Y (by trivial) (cJ YV hr (bg (dv 0) (bg (dv 3) (dR (Em Y (by rfl) B.sorted qX (by rfl) B.set yu (bg (dv 5) bF)) bF))))) (bX (Ex hu (dv 1) (gy yR (by rfl) B.sorted qX (jQ (g5 pA (iu hu (dv 1)) (v9 [η,U 7] ["number", "outs"] Y (uk (Em Y (by rfl) B.sorted qX (by rfl) B.set yu (bg (dv 5) bF))) (λd=>(g6 (i:=0) (show(["number", "outs"]:-J).Nodup by decide +kernel) Y (by trivial))) (λd=>(yE (e7 (yN hu) (dv 0) (dv 1) (by rfl)))) (λd=>(dv 0)))) bF))) (bX (mG ((nR q0V q1p q1q qG (qb (iu hu (dv 1))) (vZ (km (jQ (Jd (e7 (uq hu) (dv 7) (mE bF) (by rfl)) (d6 eA (dv 7) cb (λ_ _=>Y)) jP) (bg (dv 2) bF))) bF)).weak sM)) (cN (eD (km (b8 jP (jQ (g5 pA (g5 CJ cb (g5 wt (gy lR (by rfl) B.len q1o (bg (dv 3) bF)) cb)) (g5 CJ cb (gy lR (by rfl) B.len q1o (bg (dv 5) bF)))) bF))))))))))))),Xm c_Night⟩
noncomputable abbrev M7:R:=top 56
abbrev M8(Z:Ev)(c_Night:O):Prop:=Fq Z 3 "_law_end" ["web", "night", "number"] 3 (FQ c_Night)
theorem YW{c_Night:O}(D:Dx Z "_law_end" M7)(B:BT Z.mg)(zY:Gq Z):M8 Z c_Night:=nq (N:=["web", "night", "number", "way", "house", "lot", "sizes"]) D jk λhr nd hu=>⟨FR c_Night,(bX (Je (d6 eA (qb (iu hu (dv 1))) (dv 2) (λ_ _=>Y)) (ug Y (mH (g6 (i:=3) nd Y (by trivial)) (mH (g6 (i:=4) nd Y (by trivial)) uf)))) (bX ((xY jP (AZ (qb (iu hu (dv 1))) (dv 2) set_list)).weak JR) (bX (iN (JW.jt (qN (JW.jt (ud (e7 wQ (dv 3) jP (by rfl)) (v5 (e7 (sJ hu) (dv 4) (iu hu (dv 1)) (by rfl))))) (sA (e7 (sJ hu) (dv 3) (iu hu (dv 1)) (by rfl))))) (cN (eD (km (b8 jP (b8 cb bF))))) iM) (bX (iN (e7 wQ (dv 3) jP (by rfl)) (bX (fL (i:=5) nd Y (by trivial) (cJ zY hr (bg (dv 0) (cm (iu hu (dv 1)) (bg (dv 4) bF))))) (bX (Ex hu (dv 1) (gy yR (by rfl) B.sorted qX (jQ (g5 pA (iu hu (dv 1)) (dv 5)) bF))) (cN (eD (km (b8 jP (jQ (g5 wt (gy lR (by rfl) B.len q1o (bg (dv 5) bF)) cb) bF))))))) iM) (bX (Ji [η,U 0,U 1] ["end", "web", "night"] (i:=6) nd Y (by trivial) Y (uk (uA (d6 eA (d6 eA (dv 0) cb (λ_ _=>Y)) (dv 3) (λ_ _=>Y)) ur (uu cb))) (λd=>(g6 (i:=0) (show(["end", "web", "night"]:-J).Nodup by decide +kernel) Y (by trivial))) (λd=>B_) (λd=>(gy lR (by rfl) B.len q1o (dR (cJ zY hr (bg (dv 1) (cm (iu hu (dv 2)) (bg (dv 0) bF)))) bF)))) (bX (Ex hu (dv 1) (gy yR (by rfl) B.sorted qX (jQ (g5 pA (iu hu (dv 1)) (mE (bg (dv 3) bF))) bF))) (cN (eD (km (bg (dv 3) (jQ (g5 pA cb (gy (KR Y) (by rfl) B.min yX (bg (dv 6) bF))) bF))))))))))),Xq c_Night⟩
noncomputable abbrev M9:R:=top 57
abbrev M_(Z:Ev)(c_Night:O):Prop:=Fq Z 1 "_law_stand" ["night"] 1 (Ge c_Night)
theorem YX{c_Night:O}(D:Dx Z "_law_stand" M9)(B:BT Z.mg):M_ Z c_Night:=nq (N:=["night"]) D qc λhr nd hu=>⟨Gf c_Night,(cN (eD (km (cm (iu hu (dv 0)) (cm (iu hu (dv 0)) (cm (iu hu (dv 0)) bF)))))),XJ c_Night⟩
noncomputable abbrev Na:R:=top 58
abbrev Nc(Z:Ev)(c_Night:O):Prop:=Fq Z 3 "_law_event" ["pen", "web", "night", "wakes"] 4 (FU c_Night)
theorem YY{c_Night:O}(D:Dx Z "_law_event" Na)(B:BT Z.mg)(az:Kx Z.K c_Night ["town", "latest", "begun", "going"])(nG:uS Z)(YZ:M4 Z c_Night):Nc Z c_Night:=nq (N:=["pen", "web", "night", "wakes", "kind", "house", "under"]) D Ln λhr nd hu=>⟨FW c_Night,(bX (fL (i:=4) nd Y (by trivial) (cJ nG hr (bg (dv 0) (b8 cb bF)))) (bX (fL (i:=5) nd Y (by trivial) (cJ nG hr (bg (dv 0) (cm (d6 eA (dv 1) cb (λ_ _=>Y)) bF)))) (bX (fL (i:=6) nd Y (by trivial) (gu ι YZ hr (bg (dv 2) bF))) (bX (iN (JW.jt (qN (e7 (pe hu) (dv 6) (mE bF) (by rfl)) (sA (e7 (CK hu) (dv 4) (dv 3) (by rfl))))) (cN (eD (km (b8 vY (bg (dv 5) bF))))) iM) (cN (eD (km (b8 vY (cm (d6 eA (dv 6) (d6 eA (mE (b8 cb (jQ (g5 wt (gy lR (by rfl) B.len q1o (bg (dv 6) bF)) cb) (dR (cJ nG hr (bg (dv 0) (dR (gy lR (by rfl) B.len q1o (bg (dv 6) bF)) bF))) bF)))) (cJ nG hr (bg (dv 0) (b8 cb bF))) (λ_ _=>Y)) (λ_ _=>Y)) bF))))))))),Xs c_Night⟩
noncomputable abbrev Nd:R:=top 59
abbrev Gs(Z:Ev)(c_Night:O):Prop:=Fq Z 4 "_law_happen" ["web", "night", "event"] 3 (zP c_Night)
theorem Y0{c_Night:O}(D:Dx Z "_law_happen" Nd)(B:BT Z.mg)(az:Kx Z.K c_Night ["town", "latest", "begun", "going"])(Y1:M6 Z c_Night)(Y2:M8 Z c_Night):Gs Z c_Night:=nq (N:=["web", "night", "event"]) D jk λhr nd hu=>⟨FX c_Night,(bX (iN (e7 (pe hu) (d6 eA (dv 2) cb (λ_ _=>Y)) vY (by rfl)) (cN (eD (gu ι Y1 hr (bg (dv 0) (bg (dv 1) (cm (d6 eA (dv 2) cb (λ_ _=>Y)) bF)))))) iM) (cN (eD (gu ι Y2 hr (bg (dv 0) (bg (dv 1) (cm (d6 eA (dv 2) cb (λ_ _=>Y)) bF))))))),Xt c_Night⟩
noncomputable abbrev Nf:R:=top 60
abbrev Ng(Z:Ev)(c_Night:O):Prop:=Fq Z 5 "_law_events" ["pen", "web", "many"] 3 (FY c_Night)
theorem Y3{c_Night:O}(D:Dx Z "_law_events" Nf)(B:BT Z.mg)(az:Kx Z.K c_Night ["town", "latest", "begun", "going"])(nG:uS Z)(Gu:Gr Z c_Night)(Y4:Nc Z c_Night)(Gv:Gs Z c_Night):Ng Z c_Night:=nq (N:=["pen", "web", "many", "wakes", "night", "events", "told", "k", "event"]) D jk λhr nd hu=>⟨FZ c_Night,(bX (fL (i:=3) nd Y (by trivial) (g5 pA cb (cJ nG hr (bg (dv 0) (b8 cb bF))))) (bX (fL (i:=4) nd Y (by trivial) (Lo ι Gu hr)) (bX (fL (i:=5) nd Y (by trivial) (ua bF)) (bX (fL (i:=6) nd Y (by trivial) (ua bF)) (bX (qP q1S Y (yK (by rfl) B.range (bg (dv 2) bF)) (g6 (i:=7) nd Y (by trivial)) (bX (fL (i:=8) nd Y (by trivial) (gu ι Y4 hr (bg (dv 0) (bg (dv 1) (bg (dv 4) (bg (dv 3) bF)))))) (bX (mG ((nR q0V q1p q1q qG (dv 5) (bg (dv 8) bF)).weak sM)) (cN (mG ((nR q0V q1p q1q qG (dv 6) (dR (gu ι Gv hr (bg (dv 1) (bg (dv 4) (bg (dv 8) bF)))) bF)).weak sM)))))) (cN (eD (VY (bg (dv 5) (bg (dv 6) (bg (dv 4) bF))))))))))),Xu c_Night⟩
noncomputable abbrev Gw:R:=top 45
theorem Gx{x:J}{st:R}{ps:-J}{n:Nat}(D:Dx Z x st)(bd:iw x st ps):Fx Z 0 x ps n (λ_ _ _=>False) :=
 let⟨f,fd,a,F⟩:=D
 ⟨f,fd,⟨λvs H Q E h=>by let⟨_,_,_,_,_,_,_,hF,_⟩:=h;calc hF.elim,λA outer s H args us vs Q E _ _ _ _ h=>by let⟨_,_,_,_,_,_,_,hF,_⟩:=h;calc hF.elim⟩,a,F.kp,F.binds bd⟩
theorem Nh(D:Dx Z "_law_same" Gw)(B:BT Z.mg)(n:Nat)(Gy:Fx Z n "_law_same" ["found", "due"] 2 (LJT.jm LJT.bC n)):Fx Z (n+1) "_law_same" ["found", "due"] 2 (LJT.bC n):=eC (N:=["found", "due"]) D iP λhr nd hu=>⟨LJT.br (LJT.jm LJT.bC n),(bX (iN (e7 wQ (dv 1) jP (by rfl)) (cN (eD (nX wQ (dv 0) jP (by rfl)))) iM) (bX (iN (JW.jt (qN (nZ (jU wJ (by rfl) B.isinstance (by rfl) B.bool vT (dv 1))) (sA (nZ (jU wJ (by rfl) B.isinstance (by rfl) B.bool vT (dv 0)))))) (cN (eD (v7 (jU wJ (by rfl) B.isinstance (by rfl) B.bool vT (dv 1)) (v7 (jU wJ (by rfl) B.isinstance (by rfl) B.bool vT (dv 0)) (yA (nX (pe hu) (dv 0) (dv 1) (by rfl))))))) iM) (bX (iN (nZ (jU CM (by rfl) B.isinstance (by rfl) B.int BZ (dv 1))) (cN (eD (v7 (jU CM (by rfl) B.isinstance (by rfl) B.int BZ (dv 0)) (yA (nX (pe hu) (dv 0) (dv 1) (by rfl)))))) iM) (bX (iN (nZ (jU JN (by rfl) B.isinstance (by rfl) B.str IU (dv 1))) (cN (eD (v7 (jU JN (by rfl) B.isinstance (by rfl) B.str IU (dv 0)) (yA (nX (pe hu) (dv 0) (dv 1) (by rfl)))))) iM) (bX (iN (JW.jt (qN (e7 (uq hu) (jU CN (by rfl) B.isinstance (by rfl) B.tuple yt (dv 1)) (jU CN (by rfl) B.isinstance (by rfl) B.tuple yt (dv 0)) (by rfl)) (sA (e7 (uq hu) (jU JO (by rfl) B.isinstance (by rfl) B.list sv (dv 1)) (jU JO (by rfl) B.isinstance (by rfl) B.list sv (dv 0)) (by rfl))))) (cN (eD t_)) iM) (bX (iN (e7 (uq hu) (gy lR (by rfl) B.len q1o (bg (dv 0) bF)) (gy lR (by rfl) B.len q1o (bg (dv 1) bF)) (by rfl)) (cN (eD t_)) iM) (cN (eD (nX (yN hu) t_ (v9 [η,η] ["one", "other"] Y (W9 (by rfl) B.zip (bg (dv 0) (bg (dv 1) bF))) (λd=>(ug Y (mH (g6 (i:=0) (show(["one", "other"]:-J).Nodup by decide +kernel) Y (by trivial)) (mH (g6 (i:=1) (show(["one", "other"]:-J).Nodup by decide +kernel) Y (by trivial)) uf)))) (λd=>B_) (λd=>(cJ (hj:=Nat.ble_eq_true_of_le (Im _)) Gy hr (bg (dv 0) (bg (dv 1) bF))))) (by rfl)))))))))),LJT.gv n⟩
abbrev Y5(Z:Ev):Prop:=Fx Z 4 "_law_same" ["found", "due"] 2 (LJT.bC 3)
theorem Y6(D:Dx Z "_law_same" Gw)(B:BT Z.mg)(n:Nat):Fx Z (n+1) "_law_same" ["found", "due"] 2 (LJT.bC n):=by
 induction n with
 |zero=>exact Nh D B 0 (Gx D iP)
 |succ m ih=>calc Nh D B (m+1) ih
noncomputable abbrev zZ:R:=top 42
theorem nH:oF ["script", "cells", "k", "cell"] ["script"] (cM zZ):=fU (by decide +kernel)
theorem Y7{f:O}{fd:FuncData}(F:gx Z.K "_law_open" "_law_open" zZ f fd)(h1:Z.mg "list" = η)(h2:Z.mg "enumerate" = η):cf Z.P Z.w Z.K Z.mg Z.base eZ 1 f fd ["script"] (Kk Z.K):=by
 refine F.ye nH (λvs H Q E h=>?_) (λbJ A outer s H vs Q E hr h=>?_)
 .let⟨a,ns,rfl,_⟩:=h
  rfl
 .let⟨a,ns,rfl,hS,hlen,fin⟩:=h
  let nd:=nH.nd
  refine⟨_,xW (A0 (i:=1) nd Y (q5l Y) (rS vA (by rfl) h1 PyProof.Rows.boot_list (kL (Bo h_ (jv 0) HS (yb qy)) c7)))
   (xW (A6 q1S Y (QS (by rfl) h2 (kL (Bo h_ (jv 0) (yb qy) (yb qy)) c7)) (Hs Y (AX (AV (i:=2) nd Y (q5l Y)) (AX (AV (i:=3) nd Y (q5l Y)) ka)))
    (AR (xY (vn Hw (Bt h9 (jv 1) (vn A9 (jv 2) qy) (λ_ _=>Y)) (jv 3)) (AZ (jv 1) (vn A9 (jv 2) qy) set_list))))
   (AR (Hr (Bi (kL (jv 1) (kL qy (kL qy c7))))))),?_⟩
  calc⟨_,Y,_,Y,a,_,Y,hS,λl1 n1=>⟨l1,_,Y,.inl (bT.of cA),λc nc=>?_⟩⟩;let s1:bc H (upd (upd H l1 (.lst (dP (ns.map V.int) η (U 12)))) c (.lst (dP (ns.map V.int) η (U 12)))):=(uE n1).trans (uE nc);calc⟨_,Y,_,Y,_,Y,a,_,Y,s1.seq hS,λl2 n2=>⟨l2,Y,⟨_,bT.of cA⟩,?_⟩⟩;let Y8:H c=η:=(uE n1).free nc;let Y9:=n2
  let hcc:∃ms:-Int,↑ms=min 12 ↑ns/\dP (ns.map V.int) η (U 12)=ms.map V.int:=by
   calc⟨_,?_,DD ns η (U 12)⟩;rw[q0D,q2k];let e1:HT.bP ↑ns 0 η=0:=HT.HN _ _;let e2:HT.bP ↑ns ↑ns (U 12)=min 12 ↑ns:=HT.ya ↑ns ↑ns 12;rw[e1,e2];symm
  let qL:↑(dP (ns.map V.int) (U 12) (U 63))=↑ns-12:=by
   rw[DD,BE,q0D,q2k];let e1:HT.bP ↑ns 0 (U 12)=min 12 ↑ns:=HT.ya ↑ns 0 12;let e2:HT.bP ↑ns ↑ns (U 63)=min 63 ↑ns:=HT.ya ↑ns ↑ns 63;rw[e1,e2,Nat.min_eq_right hlen,q6t];symm
  let Nj:∀i x,(dP (ns.map V.int) (U 12) (U 63))[i]?=U x->∃n:Int,x=V.int n:=λi x e=>by
   rw[DD,Qw] at e
   cases q:((ns.drop (HT.bP ↑ns 0 (U 12))).take (HT.bP ↑ns ↑ns (U 63)-HT.bP ↑ns 0 (U 12)))[i]? with
   |none=>rw[q] at e;cases e
   |some n=>rw[q] at e;exact⟨n,(q0A e).symm⟩
  generalize dP (ns.map V.int) (U 12) (U 63)=rest at qL Nj n2 ⊢;let⟨ms,Y_,Za⟩:=hcc
  refine QW (K:=Z.K) (a:=l2) (xs:=rest) (λi σ H2=>∃(ks:-Int)(v1 v2:Option V),σ=[U (.ref a),U (.ref c),v1,v2]/\H2 c=U (.lst (ks.map V.int))/\↑ks=min 12 ↑ns/\H2 l2=U (.lst rest)/\bc H H2)
   ⟨ms,η,η,Y,?_,Y_,cA,?_⟩ (λi σ H2 _ ⟨_,_,_,_,_,_,q,_⟩↦bT.of q) ?_ ?_
  .rw[bE (dY cA n2),cA,Za]
  .exact s1.trans (uE n2)
  .ext i x T σ H2 hi ⟨ks,v1,v2,rfl,hc,hk,tU,sm⟩ hT
   let⟨n,rfl⟩:=Nj i x hi;let n6:i<↑rest:=(Il.mp hi).1;let Zb:↑ks=12:=by symm
   let cT:c≠T:=dY hc hT;let kJ:upd H2 T (.tup [.int i,.int n]) c=U (.lst (ks.map V.int)):=by rw[bE cT];exact hc
   let j0:0<=((i:Int))%12:=q1O _ (by decide);let j1:((i:Int))%12<12:=q1i _ (by decide);let⟨m,em⟩:=Tv (ns:=ks) j0 ⋯
   let ix:iX ↑(ks.map V.int) ((i:Int)%12)=U ((i:Int)%12).toNat:=by
    unfold iX;rw[q0k j0,q0k (by rw[BE];symm)]
   calc⟨T,_,Y,bZ.of cA,Y,_,_,Y,_,_,Y,Y,?_⟩;calc⟨_,Y,_,Y,_,_,Y,Y,(show(0:Int)<12 by decide),_,_,_,_,Y,Y,bT.of kJ,em,_,Y,_,_,Y,Y,_,Y,_,Y,_,_,Y,Y,(show(0:Int)<12 by decide),_,_,_,_,Y,Y,kJ,ix,?_⟩;refine⟨ks.set ((i:Int)%12).toNat (m+n),_,_,Y,?_,by rw[q1C];calc hk,?_,?_⟩
   .rw[cA,q8O]
   .let Zc:l2≠c:=by
     ext z;subst z;exact absurd Y9 (by rw[cA];ext y;cases y)
    rw[bE Zc,bE (dY tU hT)];exact tU
   .ext b o e
    rw[bE (dY e Y8)];exact uE hT b o (sm b o e)
  .ext σ H2 ⟨ks,v1,v2,rfl,hc,hk,tU,sm⟩
   calc⟨_,Y,(by show 3<=sizeLine;decide),λp np=>?_⟩;let Zd:H p=η:=sm.free np;calc fin p c _ (sm.trans (uE np)) Zd ⟨cA,⟨ks,by rw[bE (dY hc np)];calc hc,⋯⟩,q6V 0⟩
noncomputable abbrev uT:R:=top 61
theorem Ze{c_Night:O}{f tJ:O}{fd qh:FuncData}(F:gx Z.K "law" "law" uT f fd)(B:BT Z.mg)(GO:Fn Z.P Z.w Z.K Z.mg Z.base 1 "_law_open" ["script"] (Kk Z.K) tJ qh)(az:Kx Z.K c_Night ["town", "latest", "begun", "going"])(Zf:MQ Z)(Zg:ML Z)(Zh:Ng Z c_Night)(nG:uS Z)(Gu:Gr Z c_Night)(Gv:Gs Z c_Night)(Zi:MH Z c_Night)(Gy:Y5 Z)(Zj:M_ Z c_Night):cf Z.P Z.w Z.K Z.mg Z.base eZ 21 f fd ["script"] (y9 Z.K):=by
 let sc:oF ["script", "pen", "turn", "web", "events", "cuts", "cut", "night", "event", "handed", "again", "found", "part"] ["script"] (cM uT):=fU (by decide +kernel);refine F.ye (k:=20) sc (λvs H Q E h=>?_) (λbJ A outer s H vs Q E hr h=>?_)
 .let⟨a,ns,rfl,_⟩:=h
  rfl
 let⟨a,ns,rfl,hS,hlen,hT,fin⟩:=h;let nd:=sc.nd;let hu:=hr.units;let rest:dM (fz eZ Z.P Z.w Z.K Z.mg Z.base ["script", "pen", "turn", "web", "events", "cuts", "cut", "night", "event", "handed", "again", "found", "part"] "law" (cM uT) f bJ A outer s H E).lG ((fZ uT).drop 1) (dU (Gk c_Night)):=(bX (qP q1S Y (yK (by rfl) B.range (b8 cb bF)) (g6 (i:=2) nd Y (by trivial)) (bX (fL (i:=3) nd Y (by trivial) (cJ Zf hr (dR (cJ Zg hr (bg (dv 1) bF)) (cm (d6 eA (mE (b8 cb (b8 cb (b8 cb bF)))) (dv 2) (λ_ _=>Y)) (b8 cb bF))))) (bX (fL (i:=4) nd Y (by trivial) (XB (gu ι Zh hr (bg (dv 1) (bg (dv 3) (cm (d6 eA (mE (b8 cb (b8 cb (b8 cb bF)))) (dv 2) (λ_ _=>Y)) bF)))) cb)) (bX (fL (i:=5) nd Y (by trivial) (mE (dR (gy lR (by rfl) B.len q1o (bg (dv 4) bF)) (dR (cJ nG hr (bg (dv 1) (dR (gy lR (by rfl) B.len q1o (bg (dv 4) bF)) bF))) (dR (cJ nG hr (bg (dv 1) (dR (gy lR (by rfl) B.len q1o (bg (dv 4) bF)) bF))) (b8 cb bF)))))) (cN (qP q1S Y (uk (dv 5)) (g6 (i:=6) nd Y (by trivial)) (bX (fL (i:=7) nd Y (by trivial) (Lo ι Gu hr)) (bX (qP q1S Y (uk (uA (dv 4) ur (uu (dv 6)))) (g6 (i:=8) nd Y (by trivial)) (cN (mG (gu ι Gv hr (bg (dv 3) (bg (dv 7) (bg (dv 8) bF))))))) (bX (fL (i:=9) nd Y (by trivial) (uA (dv 4) ur (uu (dv 6)))) (cN (qP q1S Y (yK (by rfl) B.range (b8 cb bF)) (g6 (i:=10) nd Y (by trivial)) (bX (fL (i:=11) nd Y (by trivial) (gu ι Zi hr (bg (dv 3) (bg (dv 9) bF)))) (bX (iN (JW.jt (qN (yz (nZ (XG Gy hr (bg (dv 11) (dR (gu ι Zj hr (bg (dv 7) bF)) bF))))) (sA (e7 (uq hu) (dv 9) (uA (dv 4) ur (uu (dv 6))) (by rfl))))) (cN (eD t_)) iM) (cN (XF q1S Y (dv 11) (g6 (i:=12) nd Y (by trivial)) (cN (mG ((nR q0V q1p q1q qG (qb (dv 12)) (b8 cb bF)).weak sM)))))))))))))))))) (cN (eD t_)))
 calc⟨_,xW (A0 (i:=1) nd Y (by trivial) (vt GO.ok (hr.mono (by decide)) (by rfl) GO.t7 GO.kp GO.bd .nil oP (si (jv 0) c7))) rest,?_⟩;calc⟨_,Y,a,ns,Y,hS,hlen,λp c H1 sm hp N1=>?_⟩;let⟨F',ms,hm,S⟩:=Tw (a:=a) (n:=11) (bf.same hT sm) N1;calc Tx S (XT c_Night ms hm) fin
end
end LJ
namespace LJ
open PySem L2 PySem.Spec PySem.W PyProof.Rows
noncomputable def qi(cl:-(O×-V)):Hp:=λb=>(cl.lookup b).map HO.tup
theorem Gz{cl:-(O×-V)}{a:O}{o:HO}(e:qi cl a=U o):∃xs,o=.tup xs/\cl.lookup a=U xs:=by
 unfold qi at e
 cases q:cl.lookup a with
 |none=>rw[q] at e;cases e
 |some xs=>rw[q] at e;cases e;calc⟨xs,Y,Y⟩
noncomputable def GA(cl:-(O×-V)):CC:=⟨qi cl,λe=>let⟨xs,h,_⟩:=Gz e;⟨xs,h⟩⟩
inductive cD (K:My):-(O×-V)->Prop
 |nil:cD K []
 |cons {a:O} {xs:-V} {aA:Array L} {n:Nat} {od:Option O} {sl:Array (Option L)} {r:-(O×-V)} (hl:K.lookup a=U ⟨.type "tuple",od,.seq aA n,sl⟩) (hv:Vals xs aA.toList) (hn:↑xs<=1000) (h:cD K r):cD K ((a,xs)::r)
theorem cD.at{K:My}{h:I}(X:K.In h):∀{cl:-(O×-V)},cD K cl->∀{b:O}{xs:-V},cl.lookup b=U xs->↑xs<=sizeLine/\∃aA:-L,Vals xs aA/\IsTup h b aA.toArray
 |_,.nil,b,xs,q=>nomatch q
 |_,.cons (a:=a) hl hv hn t,b,xs,q=>by
  rw[q0v] at q;split at q
  .rename_i c
   let c:=q1D c;subst c;cases q
   exact⟨q0B hn (by decide),_,hv,_,X _ _ hl,Y,_,Y⟩
  .calc cD.at X t q
theorem cD.cs{K:My}{h:I}{P:ψ}{w:S}{cl:-(O×-V)}(t:cD K cl)(X:K.In h):Cs P w (qi cl) h :=
 ⟨λe=>let⟨xs,h,_⟩:=Gz e;⟨xs,h⟩,λe=>by
  let⟨ys,e1,e2⟩:=Gz e;cases e1
  calc cD.at X t e2⟩
end LJ
namespace LJ
open PySem L2
noncomputable def di:-mX:=[⟨152,⟨58,25,58,63⟩,(("least_of" : J)++".<locals>.")++"<lambda>"⟩]
noncomputable def GB:-(J×R×O):=[("least_of",L6,152)]
noncomputable abbrev dp(x:J)(s:R):J×R:=(x,s)
noncomputable def Nk:-(J×R):=[dp "is_whole" LG,dp "is_within" LH,dp "is_tuple_of" LL,dp "are_ends" LM,dp "is_way" LO,dp "are_ways" LQ,dp "is_web" LU,dp "need_web" LW,dp "rank_of" LY,dp "joined" L0,dp "firsts_of" L4,dp "leads_out" L8,dp "ways_out" L_,dp "lot_at" Mb,dp "ends_of" Mc,dp "rising" Md,dp "letters_of_asking" Me,dp "ways_within" Mg,dp "waked" Mi,dp "joined_over" Mn,dp "told_whole" Mp,dp "ended" Mr,dp "told_of" MC,dp "all_told" ME,dp "stand_behind" MG,dp "_law_spread" MI,dp "_law_open" zZ,dp "_law_anew" MK,dp "_law_take" MM,dp "_law_same" Gw,dp "_law_pairs_of" MN,dp "_law_web" MP,dp "_law_key" MR,dp "_law_marks_by" MT,dp "_law_lot_at" MV,dp "_law_leads_out" MW,dp "_law_outs" MY,dp "_law_night" M0,dp "_law_under" M3,dp "_law_wake" M5,dp "_law_end" M7,dp "_law_stand" M9,dp "_law_event" Na,dp "_law_happen" Nd,dp "_law_events" Nf,dp "law" uT]
noncomputable def Zk:-(J×J×R):=[("wake", "Night.wake",Mv),("end", "Night.end",Mx),("stand", "Night.stand",MA)]
noncomputable def Zl:-(O×-V):=[(183,[.ref 180,.ref 181,.ref 182]),(180,[]),(181,[]),(182,[])]
noncomputable def xH:CC:=GA Zl
theorem Zm{K:My}(a:q1R K mainGlobals "FIRST_STAND" = U (U (.ref 183))):@zS (gr di xH) K "FIRST_STAND" (.tup [(.tup []),(.tup []),(.tup [])]):=⟨.ref 183,.ref 183,a,Y,by erw[Is];calc⟨183,_,Y,Y,.cons (by erw[Is];calc⟨180,_,Y,Y,.nil⟩) (.cons (by erw[Is];calc⟨181,_,Y,Y,.nil⟩) (.cons (by erw[Is];calc⟨182,_,Y,Y,.nil⟩) (.nil)))⟩⟩
theorem Zn{c_Night iE:O}{jo:FuncData}{l:q6_}{w:S}{K:My}{h:I}{mg:J->Option L}{fa:O}(X:K.In h)(G:h.Ns mainGlobals mg)(Zo:mg "law" = U (.ref fa))(DS:iy K Nk)(LS:fH K GB)(N:∀x∈EK,q1R K mainGlobals x=U η)(qj:q1R K mainGlobals "Night" = U (U (.ref c_Night)))(az:Kx K c_Night ["town", "latest", "begun", "going"])(iF:iz K c_Night Zk)(qk:Mk K c_Night iE)(qm:gx K "__init__" "Night.__init__" Mt iE jo)(iG:Ck K "MOST_HOUSES" 12)(j4:Ck K "MOST_WAYS" 30)(jq:Ck K "MOST_PRICE" 1000000000)(iH:@zS (gr di xH) K "FIRST_STAND" (.tup [(.tup []),(.tup []),(.tup [])]))
  : ∃fd:FuncData,(∀(s:ο)(v:L),BindsTo s fd ⟨[v],[]⟩ [("script",v)])/\∀base:I,K.In base->base.Ns mainGlobals mg->(∀t∈di,base.BuiltinsAt mg t.T)->cf l.prog w K mg base eZ 21 fa fd ["script"] (@y9 (gr di xH) K):=by
 let⟨f,fd,a,F⟩:=DS.at (x:="law") (st:=uT) 45 Y;cases Zo.symm.trans (q25 X G a)
 letI:bf:=gr di xH;let B:=Wc X G N;calc⟨fd,λs v=>by let⟨_,_,_,_,_,_,_,_,_,rfl,_⟩:=F.ex;calc .of_eq Y,λbase KB _ hB=>?_⟩;let D:∀(i:Nat){x:J}{st:R},Nk[i]?=U (x,st)->Dx ⟨l.prog,w,K,mg,base⟩ x st:=λi _ _ e=>(DS.at i e).v X G;let M:∀(i:Nat){x:J}{st:R}{T:O}{lp:y}{q:J},GB[i]?=U (x,st,T)->di[i]?=U ⟨T,lp,q⟩->zC ⟨l.prog,w,K,mg,base⟩ x st T lp q:=λi _ _ _ _ _ e e2=>(LS.at i e).v X G KB hB (by decide) (by decide) (q0S e2);let Nl:=X7 (D 0 Y) B;let z6:=X8 (D 1 Y) B Nl;let GC:=X9 (D 2 Y) B;let Zp:=X_ (D 3 Y) B z6;let Zq:=Ya (D 4 Y) B (jq.v X G) GC Zp z6
 let Zr:=Yb (D 5 Y) B (j4.v X G) Zq;let Zs:=Yc (D 6 Y) B (iG.v X G) GC z6 Zr;let Zt:=Yd (D 7 Y) B Zs;let Zu:=Ye (D 8 Y) B;let Zv:=Yf (D 9 Y) B;let Zw:=Yg (D 10 Y) B Zv;let Zx:=Yh (M 0 Y Y) B Zu;let Zy:=Yj (D 11 Y) B;let Zz:=Yk (D 12 Y) B Zy;let GF:=Yl (D 13 Y) B Zw;let Nm:=Ym (D 14 Y) B;let GG:=Yn (D 15 Y) B;let ZA:=Yo (D 16 Y) B Nm;let ZC:=Yq (D 17 Y) B;let ZD:=Yr (D 18 Y) B GF Zx Zz ZC GG ZA;let ZE:=Ys (D 19 Y) B Nm GF GG;let ZF:=Yt (D 20 Y) B GF GG;let ZH:=Yu (D 21 Y) B ZF ZE;let jr:=Yv (Z:=⟨l.prog,w,K,mg,base⟩) ⟨iE,jo,⟨q25 X G qj,qk⟩,qm⟩ B (iH.v X G) az Zt
 let ju:=Yx (Z:=⟨l.prog,w,K,mg,base⟩) (iF.at 0 Y) B az z6 ZD;let j5:=Yz (Z:=⟨l.prog,w,K,mg,base⟩) (iF.at 1 Y) B az Nl ZH;let iI:=YB (Z:=⟨l.prog,w,K,mg,base⟩) (iF.at 2 Y) B az;let ZI:=YC (c_Night:=c_Night) (D 22 Y) B az GC ju j5;let ZJ:=YD (c_Night:=c_Night) (D 23 Y) B az ZI;let ZK:=YF (c_Night:=c_Night) (D 24 Y) B az jr ZJ iI;let ZL:=YH (D 25 Y) B;let ZM:=YI (D 27 Y) B;let xI:=YJ (D 28 Y) B ZL;let ZN:=Y6 (D 29 Y) B 3;let ZO:=YK (D 30 Y) B xI;let ZP:=YL (D 31 Y) B xI ZO;let ZQ:=YM (D 32 Y) B;let ZR:=YN (D 33 Y) B;let Nn:=YO (D 34 Y) B ZR;let ZS:=YQ (D 35 Y) B
 let ZT:=YR (D 36 Y) B ZS ZQ;let Np:=YS (c_Night:=c_Night) (D 37 Y) B;let ZU:=YT (c_Night:=c_Night) (D 38 Y) B;let ZV:=YU (c_Night:=c_Night) (D 39 Y) B Nn ZT;let ZW:=YW (c_Night:=c_Night) (D 40 Y) B Nn;let ZX:=YX (c_Night:=c_Night) (D 41 Y) B;let ZY:=YY (c_Night:=c_Night) (D 42 Y) B az xI ZU;let Nq:=Y0 (c_Night:=c_Night) (D 43 Y) B az ZV ZW;let ZZ:=Y3 (c_Night:=c_Night) (D 44 Y) B az xI Np ZY Nq;let⟨fo,fdo,ao,Fo⟩:=D 26 (x:="_law_open") (st:=zZ) Y;calc Ze (Z:=⟨l.prog,w,K,mg,base⟩) F B ⟨Y7 Fo B.list B.enumerate,ao,Fo.kp,Fo.binds qc⟩ az ZP ZM ZZ xI Np Nq ZK ZN ZX
theorem Z0{K:My}{h:I}(X:K.In h)(LS:fH K GB):∀t∈di,∃cc,q7A h cc t.T:=λt ht=>LS.code X t.T (show t.T∈di.map (·.T) from q20 ht)
end LJ
open PySem PySem.W PyProof.Rows
end
open LJ L2
inductive PySem.W.Fast:Prop|tw16770946322955204558|tw6189534325751035826|tw7550695112055006641|tw7025736906705910519|tw15380772927186741033|tw13960830505897474567|tw16390570852818611096|tw5332078149497494986|tw455540475600126977|tw12867141794099119044|tw14579806057255682936|tw437750894963087872|tw7745213197712787800|tw14609336293580472468|tw9856432791631782090|tw14048504736890945141|tw11558332876339695655|tw5127016147054881541|tw6908218869205505171|tw7117706449603485567|tw2166775912249153479|tw13977585737366169107|tw11002917576889291955|tw15241405470440562167|tw947353550554732874|tw9025267915453590956|tw4970713312846995231|tw10640523312314603731|tw7919710331218542832|tw9548566701462955777|tw16855902572831959780|tw10421423531561812259|tw11692333112153075109|tw9976140400178583736|tw4200980968288031338|tw8137820260185173892|tw14532511520571633018|tw15370227066050127983|tw10861484948190182886|tw8655352439836067298|tw11818106170332707262|tw2360460653944775685|tw17880667891137715648|tw12785465933652993587|tw4024852451272442663|tw5085666260861068160|tw347343033536286201|tw18324605175807144565|tw14340985420864552145|tw12742866045099319680|tw17195881856422234584|tw5452224091966915579|tw9269047897810464615|tw14660129676208238079|tw470518482959336027|tw16557061183458682388|tw4777357330974625215|tw17874713265273383821|tw14975020756317965767|tw12198808113708445019|tw6589847662741085591|tw17967743027846407709|tw17170399675905452216|tw9838809696951443335|tw12110446030167663806|tw1281265699984053748|tw12487120198928988530|tw17918510820603397617|tw17055887651788596222|tw674331722174989266|tw2289321159933678554|tw15201893157127075480|tw7602087787760010587|tw182937529979383752|tw1244822828080218232|tw17739061442162136978|tw665697589373654891|tw2346679274576458829|tw3272202457657362419|tw13490843656416212562|tw3547887709621474964|tw16412319032070111681|tw8155092477180160657|tw9709787054186244422|tw15054737203058310916|tw5498626577572813776|tw2897226422727268725|tw10415207565420642305|tw3782133549031553777|tw13735357774972096667|tw633368078673296731|tw12498548184250188380|tw1780999320278648786|tw16802287202918711620|tw17930607614439283068|tw2183130834479688608|tw9671875092060071995|tw4869485606963985110|tw13661387974614449142|tw6743412068972633051|tw11057993295063324942|tw13512784992691188390|tw2669458070543136615|tw11861067466897900357|tw7836175522428477965|tw5270229746571405127|tw410404775758850877|tw11114175465275714439|tw10470190000679509789|tw10391197350243577950|tw11196772006645219431|tw18237748912640206876|tw14931244426489904833|tw6398594057390044334|tw11126882105394467276|tw16744018157916455281|tw14923419550900903673|tw8406037828543908461|tw14486816079773650667|tw1220648125454430514|tw10084843335375980127|tw4298471324878041949|tw3013422582582690847|tw1927265409489627410|tw9583700448739466482|tw3221412575699693663|tw16666455388129116843|tw6004614834596314839|tw12182758749903698189|tw14538813420664023358|tw17569565830026982814|tw8272219776618908484|tw6141822461113878686|tw2185105467093975170|tw10560567118783159786|tw6189795239080003318|tw3725680554941494434|tw7935957490336306399|tw14192049918963707971|tw378499443899634566|tw13645949071162333393|tw14203235163762272782|tw2786198370960789904|tw13451281226467968006|tw1968207498480851580|tw10258953206366256086|tw11379775337036973915|tw12466763831538733823|tw10125810102041615675|tw1519117136065952818|tw2747576536243439726|tw16398752304340536071|tw2171061557959009089|tw9976174183389767116|tw6098708854576024215|tw11880319268592183966|tw16736967433120195121|tw14171454372218580950|tw8064663584783569652|tw8097898395943803035|tw1919315080428221973|tw1383067556105534081|tw17362126872588140777|tw16316556536107614726|tw5631693988870152329|tw6644675697449890887|tw4278336528709911965|tw1223910034385808347|tw12062029842905117771|tw587585457150262434|tw12774511892111488078|tw11042607776535343343|tw13053315977261477398|tw8418049497745916149|tw11222849926045271885|tw17351151570033569647|tw7079256842319669770|tw7558515110700735703|tw11773892137358281728|tw6195637236813904610|tw15455411985686579456|tw8170786080670104474|tw16693227902188264022|tw9708395423613262015|tw17156771385632823249|tw5443021188344738843|tw5808433783328457671|tw8697888926236595237|tw1088902583244290969|tw17055478746266097469|tw15021443443924516625|tw2150555041350136647|tw4203074415324310662|tw16155260240577731031|tw12701764536564947254|tw7162947751096258101|tw12248364510673403040|tw13580220939797813370|tw1223018566653846370|tw3764403279197196787|tw12089887824521486530|tw9705865491894542919|tw12197255332893489256|tw1982204376233198736|tw7724683768515235482|tw9916146604955997746|tw17684817964711165148|tw4788522323487848762|tw14999163514833515310|tw14938677542457846856|tw5166012920898580588|tw11492129565524400241|tw2155214176752738992|tw3743934261235139407|tw12631804404929890404|tw11643107127332964156|tw8116485978409944007|tw4167475147029323759|tw7097527100899101359|tw3674364247148804177|tw13218921319746884876|tw9768177905220429038|tw18395663224271211172|tw5850080562055355932|tw512471283169619621|tw5698544850894991391|tw17999631088677199493|tw15738818498937189029|tw14902587702144871710|tw1216198921520982117|tw6879239650853200405|tw16930156876973543298|tw8520662956261812454|tw17732301064216061420|tw7058113383538591746|tw7625897893764349146|tw5360912981983188074|tw15305669685405517082|tw5844494700420620422|tw18121877157788035035|tw14218645947649767812|tw6820771568161585084|tw15621868978966660319|tw13793332011322146816|tw17939809512986451393|tw7238393966676135840|tw7698155697699719983|tw15050667691827621332|tw14727360513050306854|tw125136903200695275|tw11060391429932348816|tw7006553746589390322|tw6883633442664114817|tw15453719383500648417|tw12821397551508170555|tw1441904677463489970|tw17697575959629994792|tw12820959748376620461
set_option maxRecDepth 100000 in
set_option maxHeartbeats 0 in
theorem PySem.Challenge.cw_lotjoin_k47_stands_behind_events_holds : PySem.Challenge.rw_lotjoin_k47_stands_behind_events.Holds := by
 w_on;o_law;k_head;(case hw=>w_witness2)
 k_fill
 refine LJ.Ur (l:=PySem.Challenge.rw_lotjoin_k47_stands_behind_events) (kk:=21) LJ.di LJ.xH rfl rfl rfl ⟨rfl,by decide,by decide,rfl⟩ ?S ?C (λP=>by kernel_rfl) ?F
 case S =>
  intro w h KX;refine LJ.cD.cs ?_ KX
  repeat' first|exact LJ.cD.nil|refine LJ.cD.cons (by k_is) (by repeat' first|exact .nil|refine .cons rfl ?_) (by decide) ?_
 case C =>
  intro w h KX;refine LJ.Z0 KX ?_
  repeat' first|exact LJ.fH.nil|refine LJ.xt (by k_is) (by k_is) (by k_is) (by k_is) (by kernel_rfl) ?_
 case F =>
  intro w mg fa h KX G oN;refine' LJ.Zn KX G oN ?dD ?dL ?dN ?aNight ?kNight ?mNight ?iNight ?fNight ⟨_,by k_is,_,rfl⟩ ⟨_,by k_is,_,rfl⟩ ⟨_,by k_is,_,rfl⟩ (LJ.Zm (by k_is))
  (case dD=>repeat' first|exact LJ.iy.nil|refine LJ.EJ (by k_is) (by k_is) (by k_is) (by k_is) ?_)
  (case dL=>repeat' first|exact LJ.fH.nil|refine LJ.xt (by k_is) (by k_is) (by k_is) (by k_is) (by kernel_rfl) ?_)
  (case dN=>repeat' first|exact q5K _|refine LJ.Wa (by k_is) ?_)
  (case aNight=>k_is)
  (case kNight=>exact⟨⟨by k_is,by k_is,by k_is,by k_is⟩,by repeat' first|exact q5K _|refine List.forall_mem_cons.mpr ⟨(by k_is:q1z _ _ _=_),?_⟩⟩)
  (case mNight=>repeat' first|exact LJ.iz.nil|refine LJ.allM (by k_is) (by k_is) (by k_is) (by k_is) (by k_is) ?_)
  (case iNight=>exact⟨by k_is,by k_is,by k_is,by k_is⟩)
  (case fNight=>exact L2.yf (by k_is) (by k_is) (by k_is))
