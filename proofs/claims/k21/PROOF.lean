import PyProof.Rows.All
import Wide.All
import OpenK.AllK
import Wide.FinOn
import Lean
import PyProof.Rows.SetFrom
import PyProof.TupleKey
import PyProof.SetRoads
import PySem.SetOps
import PyProof.EqAt
import PyProof.EqKinds
import PyProof.TupleCall
import KE.KDictList
import KE.KDictLaws
import PyProof.NeKinds
import PyProof.Draws
import KE.KSortTup
import KE.KLam
import PyProof.ListRange
import PyProof.TupleOfSeq
import KE.KNestM
import KE.KMinKey
import PySem.Challenge.RW_lotjoin_k21_one_round
open PySem renaming wpAny_bind->n_,Heap.get?_push_of_some->qT,wpAny_pure->uX,W.Frag->xA,Heap.lt_size->My,Heap.get?_push_size->PG,W.kitOne->q0q,Value.none->q0v,Value.ref->q0C,wpAny_holding->q0D,Spec->q0H,Heap.get?_update_self->q0J,W.nsIn->q0N,Heap.get?_update_other->q0P,Heap.SameBut.update->q0T,W.mg_of->q0U,Str.ofString->q0X,Builtin.SmallTypes.nextOf->q08,wpAny_newObj_type->q1c,Obj.mapSeq->q1d,Value.int->q1i,wpAny_callSpecial?_slot->q1j,wpAny_call_entry->q1k,Around.under_plainId->q1m,F.called_set->q1q,Heap.size_push->q1s,W.kia_one->q1t,W.keepIn->q1u,wpAny_loadPart'->q1v,mem_of_lookup->q1w,wpAny_field->q1x,Obj.data_mapFields->q1D,wpAny_mono->q1E,codeAny_builtin->q1G,wpAny_seqItems->q1O,NameKind.cell->q1P,Builtin.SmallTypes.ownedTupleIsFree->q1Q,W.fnOf->q1T,F.plainAttrs_list->q12,NameKind.free->q14,wpAny_setState_of->q17,wpAny_truthy_bool->q19,sizeLine_eq->q2c,plainId_quiet->q2h,W.findIn->q2i,wpAny_pyIter_list->q2k,wpAny_pyIter_enum->q2m,SetTable.layClean.free->q2o,Value.type->q2q,F.slot_tuple_iterator_next->q2r,wpAny_setField_rec->q2t,Obj.isFreed_of_fields->q2u,Builtin.Slice.slicePlaces->q2v,SetTable.fill->q2z,wpAny_standAt->q2A,Builtin.Tuple.tupleExact->q2B,Builtin.List.listTooLong->q2C,wpAny_setField->q2I,Heap.SameBut->q2N,Obj.putSet->q2O,codeAny_mono->q2P,Value.bool->q2Q,wpAny_Call_Name_kw->q2S,Around.in1_handled->q2T,wpAny_pyIter_tuple->q2U,wpAny_loadPart_at->q22,SetTable->q24,codeAny_call_builtin->q26,Heap.get?_none_of_le->q27,W.codeIn->q28,wpAny_askSetting->q3a,Builtin.Slice.sliceAdjust->q3e,Builtin.SmallTypes.ownedTupleHandOut->q3g,SetTable.fits->q3i,wpAny_attempt->q3j,F.args_tuple_add_2->q3k,Value.builtin->q3l,wpAny_ite_split->q3n,wpAny_updateSeq->q3o,wpAny_passesOwn->q3p,wpAny_call->q3t,Code.quiet_builtin->q3u,F.entry_tuple_add->q3w,wpAny_letGo->q3x,SetTable.probe.go->q3z,wpAny_storeSet_of->q3C,wpAny_typeOf->q3E,W.cellsFrom_some->q3F,F.slot_tuple_add->q3G,W.exmOne->q3J,Builtin.Tuple.tupleCompareSizes->q3L,putSet_of->q3P,intKind_is->q3R,wpAny_rule->q3S,SeqAt.EqAt->q3T,call_meets->q3U,wpAny_onRaise->q3W,wpAny_updateSeq_pair->q3Z,codeAny_of_tree->q31,Builtin.Frozenset.updateFrom->q32,wpAny_execs_nil->q33,SeqAt.EqAt.same->q34,F.slot_dict_setdefault->q35,F.args_tuple_iterator_next_1->q36,F.slot_zip_next->q38,wpAny_setEntries_of->q39,Builtin.List.listLengthHint->q4a,Builtin.List.listExtendWith->q4b,F.entry_tuple_iterator_next->q4d,Builtin.Builtins.bindParams->q4e,Walks.list->q4j,SeqAt.EqAt.int_str->q4k,SeqAt.EqAt.str_int->q4l,Calls.Name_function_global->q4m,SeqAt.EqAt.int_int->q4n,Builtin.Slice.sliceApplied->q4p,Builtin.Tuple.tupleItemsOf->q4q,wpAny_letOwnedTupleGo_enum->q4r,wpAny_tryCatch->q4u,boot_len->q4v,Calls.call_function_entry->q4y,Obj.cls_mapFields->q4A,W.methodObj->q4B,Obj.mapFields->q4F,Builtin.Frozenset.sizeOf->q4G,Builtin.List.listSameRef->q4H,AutoSeq1.sub_tuple_tuple->q4J,F.store_ValueError->q4L,F.slot_dict_values->q4N,wpAny_newList->q4P,F.slot_list_append->q4R,F.type_list_append->q4S,wpAny_forIn_list->q4U,wpAny_isInstance->q4V,wpAny_eqBool_int->q4W,Builtin.Range.rangeSize->q4X,noFill_tuple_add->q4Y,F.attr_ValueError->q41,F.plainAttrs_dict->q45,richCompare_meets_room->q48,Calls.callWith_builtin->q4_,wpAny_specialOf->q5g,W.instObj->q5h,PassesOwn.never->q5m,weight_type_call_type->q5o,builtinLookup_eq_fast->q5p,wpAny_isTrue_Compare1->q5q,F.sub_list_frozenset->q5w,wpAny_runValue->q5x,wpAny_of_eq->q5z,isSubtype_type->q5A,W.lookIn->q5C,Around.frames_deeper->q5D,Value.notImplemented->q5E,SeqAt.EqAt.none_bool->q5F,SeqAt.EqAt.bool_none->q5G,SeqAt.EqAt.bool_bool->q5H,Heap.MadeExcOf->q5J,Value.str->q5L,F.plain_extend_loop->q5N,SeqAt.EqAt.none_int->q5Q,SeqAt.EqAt.none_str->q5R,SeqAt.EqAt.bool_int->q5S,SeqAt.EqAt.bool_str->q5T,SeqAt.EqAt.int_none->q5U,SeqAt.EqAt.int_bool->q5V,SeqAt.EqAt.str_none->q5W,SeqAt.EqAt.str_bool->q5X,call_enumerate_list->q5Y,Heap.get?_update_ne->q5Z,wpAny_isSubtype_exc->q50,W.codeHd_of_K->q53,EntryCells.newEntry->q54,Paired.length->q6b,seq_tuple_add->q6c,PlainL.isList->q6g,Around.under_plain->q6l,W.callWith_K->q6n,SeqAt.EqAt.str_str->q6p,tupleKind_room_in1->q6r,SeqAt.EqAt.of_refs->q6s,W.mg_none_of->q6t,Value.isInt_shape->q6A,F.entry_type_call->q6B,wpAny_pyIter_slot->q6E,F.plain_list_iadd->q6F,wpAny_assign_Name->q6G,W.hasDictIn->q6H,W.specialIn->q6I,W.kitx_list->q6J,W.kitx_dict->q6K,Around.under->q6L,Code.isFrame->q6M,concat_meets->q6N,wpAny_sequenceKey->q6O,seqIndex_neg->q6P,slot_list_getitem->q6Q,Heap.get?_push_at->q6U,W.isFn->q6W,wpAny_collect_seq->q61,F.args_zip_next_1->q62,F.typeCall_set_1->q64,F.entry_set_init->q65,check_set_init_1->q66,wpAny_execs_cons->q67,W.plainGet->q68,W.codeHdIn->q7b,F.entry_zip_next->q7m,wpAny_pyIter_zip->q7n,Value.float->q7p,seqIndex_of->q7q,Shared.heap->q7t,F.plain_set_new->q7w,typeLookup_type->q7x,F.slot_set_iter->q7y,W.takesIn->q7z,F.slot_int_rmul->q7B,pushCells_keeps->q7C,W.OpenLaw->q7F,SetTable.grown->q7O,F.sub_list_set->q7Q,entryFor_alias->q7S,wpAny_load->q7T,isSubtype_stop->q7U,wpAny_Name->q7V,W.InstAt->q7W,typeIs_int->q7Y,fitsIndex_both->q71,call->q73,wpAny_loadPart->q74,SeqAt.RcAt->q77,W.CodeHd->q8b,wpAny_newTuple->q8c,Shared.TypeIs->q8m,wpAny_handled->q8n,Value.isStrOf->q8o,rangeSize_one->q8q,intBits_le_64->q8r,evalPart_none->q8z,call_list_seq->q8A,Within->q85
open List renaming length_map->qU,getElem?_eq_getElem->qV,getElem?_eq_some_iff->sR,size_toArray->Hb,length_cons->Hc,length_append->Hd,getD_eq_getElem?_getD->He,mem_cons->PD,mem_cons_self->PE,getElem?_map->q0b,mem_cons_of_mem->q0c,mem_map->q0d,replicate->q0h,mem_iff_getElem?->q0i,getElem?_append_left->q0j,getElem?_append_right->q0k,mem_append_right->q0n,map_map->q0o,map_cons->q0p,not_mem_nil->q0s,map_append->q0w,lookup_cons->q0z,range->q0A,mem_range->q0B,mem_singleton->q0K,length_take->q0L,mem_of_getElem?->q0M,length_singleton->q0O,getElem?_set_self->q0Q,map_congr_left->q0R,mem_filter->q0S,getElem?_set_ne->q0V,set_cons_zero->q0Y,set_cons_succ->q0Z,all_eq_true->q03,mem_append->q04,drop_eq_getElem_cons->q07,length_nil->q09,length_range->q0_,mem_iff_getElem->q1a,nodup_append->q1b,getElem?_take_of_lt->q1f,pairwise_map->q1l,take_of_length_le->q1o,pairwise_cons->q1p,replicate_succ->q1y,mem_append_left->q1C,map->q1F,length_set->q1H,pairwise_lt_range->q1J,getElem_mem->q1K,exists_cons_of_length_eq_add_one->q1M,length_replicate->q1N,append_nil->q1S,length_drop->q1V,length_eq_zero_iff->q1W,getElem?_cons_succ->q10,getElem_map->q11,append_assoc->q18,map_nil->q1_,flatten_cons->q2a,getElem?_range->q2b,getElem?_eq_none->q2d,zip_cons_cons->q2g,take_succ->q2j,any_eq_false->q2l,getElem?_cons_zero->q2n,any_cons->q2p,filter_append->q2s,nodup_cons->q2w,toArray->q2y,filterMap_cons->q2D,countP_cons->q2E,Perm.refl->q2F,nodup_nil->q2H,getElem_inj->q2J,getElem?_replicate->q2K,take_length->q2M,find?_cons->q2W,filter_map->q2X,getElem?_toArray->q2Z,ext_getElem?->q20,zip_nil_left->q21,length_eraseIdx_of_lt->q25,take->q29,drop->q2_,pairwise_iff_getElem->q3d,mem_map_of_mem->q3f,eq_of_mem_replicate->q3h,range_succ->q3m,mem_filterMap->q3r,contains_cons->q3v,drop_of_length_le->q3H,length_filterMap_eq_countP->q3K,Perm.append_left->q3M,length_filter_le->q3N,nodup_range->q3O,cons_append->q3V,mem_of_mem_drop->q3X,find?_some->q30,find?_eq_none->q4f,drop_zero->q4h,Perm.swap->q4i,zip_nil_right->q4o,take_zero->q4s,mem_or_eq_of_mem_set->q4w,extract_eq_take_drop->q4x,mem_of_find?_eq_some->q4z,map_id->q4C,all_cons->q4K,map_take->q4Q,filter_cons_of_pos->q42,filter_cons_of_neg->q43,filter_cons->q44,length_eq_one_iff->q5b,find?_cons_of_pos->q5c,find?_cons_of_neg->q5d,foldl_cons->q5e,of_mem_zip->q5i,nil_append->q5j,forIn_cons->q5k,countP_eq_length->q5n,mem_of_mem_take->q5u,Perm.cons->q5v,forIn_nil->q5I,take_succ_cons->q51,replicate_zero->q55,filter_sublist->q56,map_eq_nil_iff->q57,length_pos_iff->q58,length_take_le->q59,map_drop->q6d,cons.inj->q6f,filterMap_map->q6j,getElem_take->q6y,take_sublist->q6z,Pairwise.nil->q6C,Sublist.refl->q6Z,foldl_append->q60,any_eq_true->q7h,mem_flatten->q7i,drop_length->q7j,zipIdx_cons->q7l,lookup->q7r,filter_nil->q7J,zipIdx_nil->q7K,foldl->q7Z,Perm->q8J,filter->x0J,range'->x0P
open Nat renaming le_refl->Bi,ne_of_lt->q0e,lt_of_lt_of_le->q0l,lt_succ_of_lt->q0W,zero_add->q00,le_trans->q02,zero_le->q06,lt_succ_self->q1h,sub_self->q1r,le_of_lt->q1z,ne_of_gt->q1L,lt_irrefl->q13,le_of_ble_eq_true->q2e,le_add_right->q2f,succ.inj->q2V,lt_of_le_of_lt->q3s,le_of_lt_succ->q3y,le_of_not_lt->q3Q,le_succ->q3Y,succ_ne_self->q40,lt_trans->q46,reduceAdd->q6e,sub_zero->q6x,le_of_succ_le->q6S,lt_of_succ_le->q6T,ble->q6Y,zero_lt_one->q7G,min_eq_left->q7L,succ_add->q8Z,succ_pos->q80,mul_comm->q81,min_self->q9d,le_of_eq->q9t,mod_lt->x1b,not_lt->x1p
open Array renaming length_toList->PF,getElem?_eq_getElem->q0t,getElem?_toList->q0F,getD_eq_getD_getElem?->q01,getElem?_eq_none->q1I,getElem?_eq_some_iff->q15,toList_setIfInBounds->q16,toList_replicate->q3A,toList_push->q3B,size_map->q3D,perm_iff_toList_perm->q4t,getElem_mem_toList->q4D,size_setIfInBounds->q4E,toList_filterMap->q47,toList_extract->q5t,toList_append->q5M,foldl_toList->q6h,size_extract->q6i,getD->q6m,size_append->q6w,replicate->q7u,size_push->q7v,Perm.refl->q7D,toList->q86
open Bool renaming false_ne_true->PH,and_eq_true->q0y,false_eq_true->q0G,not_true->q2Y,eq_iff_iff->q3q,not_eq_true'->q3I,true_or->q4c,and_true->q4O,or_true->q5a,false_and->q5B,or_false->q6a,eq_false_iff->q6V,not_eq_true->q7d,and_false->q70,false_bne->q8d,and_self->q8C
open Option renaming map_eq_some_iff->q0g,some.inj->q0E,bind_some->q2L,isSome_iff_exists->q4I,getD_none->q4T,map_some->q5f,isSome->q5_,map->q6k,isSome_some->q6q,isSome_map->q6X,join_some->q7c,none->x0g
open LawfulBEq renaming eq_of_beq->q0m
open Int renaming toNat_natCast->q0u,emod_lt_of_pos->q1n,emod_nonneg->q1R,ofNat.inj->q4M,toNat_of_nonneg->q52,ofNat->q6_,toNat->q7e,max_eq_right->q7f,min_eq_right->q7g,min_eq_left->q7H,max_eq_left->q7I,zero_add->q9a,mul_one->x0d
open False renaming elim->q1e
open PyProof renaming Rows.slot_tuple_getitem->q1g,Rows.callWith_type1->q1B,Rows.F.plain_set_update_loop->q1Y,Rows.F.entry_set_update_loop->q2G,Rows.boot_isinstance->q37,Rows.lt_int->q3_,Rows.subscriptTail_builtinR->q49,Rows.get?_update_seq->q5l,Rows.entry_tuple_getitem->q5P,Rows.args_tuple_getitem->q6o
open Ne renaming symm->q1A
open ForInStep renaming yield->q1U
open True renaming intro->q2R
open Or renaming inl->q23,inr->q63
open Sum renaming inl->q3b,inr->q5K,inl.inj->q7o
open Classical renaming byContradiction->q3c,choose_spec->q5r,choose->x14
open Function renaming comp->q8D
open Prod renaming fst->x0k
set_option Elab.async false
set_option linter.all false
set_option maxRecDepth 100000
abbrev aH:=PySem.Value->PySem.Shared->Prop
local macro_rules | `(tactic| trivial) => `(tactic| first|exact q23 rfl|exact q63 rfl)
abbrev q0a:=@if_neg
abbrev q0f:=@if_pos
abbrev q0r:=@decide_eq_false
abbrev q0x:=@decide_eq_true
abbrev q0I:=@decide_eq_true_eq
abbrev q05:=@of_decide_eq_true
abbrev q1X:=@if_false
abbrev q1Z:=@or_false
abbrev q2x:=@if_true
abbrev q4g:=@of_decide_eq_false
abbrev q4Z:=@beq_self_eq_true
abbrev q5y:=@not_or
theorem el7{α β γ ε:Type}{A B C:α→β→γ→ε→Prop}{R:Prop}(h:∃F ad δ K, A F ad δ K∧B F ad δ K∧C F ad δ K)(k:∀F ad δ K, A F ad δ K→B F ad δ K→C F ad δ K→R): R:=h.elim fun F h=>h.elim fun a h=>h.elim fun d h=>h.elim fun K h=>k F a d K h.1 h.2.1 h.2.2
theorem el5{α β:Type}{A B C:α→β→Prop}{R:Prop}(h:∃F ad, A F ad∧B F ad∧C F ad)(k:∀F ad, A F ad→B F ad→C F ad→R): R:=h.elim fun F h=>h.elim fun a h=>k F a h.1 h.2.1 h.2.2
theorem el3{α:Type}{A B:α→Prop}{R:Prop}(h:∃F, A F∧B F)(k:∀F, A F→B F→R): R:=h.elim fun F h=>k F h.1 h.2
set_option compiler.extract_closed false
local macro_rules | `(tactic| omega) => `(tactic| first|lia|omega (config:={}))
namespace LJS
open PySem PySem.SetTable
noncomputable def nx(m i:Nat):Nat:=(i*5+1)%(m+1)
noncomputable def nB(m:Nat):Nat->Nat->Nat
 |0,i=>i
 |n+1,i=>nB m n (nx m i)
theorem xb(m:Nat):∀a b i,nB m (a+b) i=nB m b (nB m a i)
 |0,b,i=>by rw[q00];rfl
 |a+1,b,i=>by rw[q8Z];exact xb m a b (nx m i)
noncomputable def zq(m:Nat):Nat->Nat->List Nat
 |0,_=>[]
 |n+1,i=>i::zq m n (nx m i)
theorem FG(m:Nat):∀{n i e:Nat},e∈zq m n i->∃k,k<n/\nB m k i=e
 |0,_,_,h=>nomatch h
 |n+1,i,e,h=>by
  rcases PD.mp h with rfl|h
  ·exact⟨0,q80 _,rfl⟩
  ·obtain⟨k,hk,e⟩:=FG m h
   exact⟨k+1,Nat.succ_lt_succ hk,e⟩
def Mk(m:Nat):Prop:=m=7\/m=31\/m=127
noncomputable def uf(m:Nat):Bool:=(q0A (m+1)).all fun e=>(zq m (m+1) 0).contains e
theorem FH(h:Mk m):uf m=true/\nB m (m+1) 0=0:=by
 rcases h with rfl|rfl|rfl<;>exact⟨by decide +kernel,by decide +kernel⟩
theorem pC(h:Mk m)(he:e<=m):∃k,k<=m/\nB m k 0=e:=by
 have:=q03.mp (FH h).1 e (q0B.mpr (Nat.lt_succ_of_le he));obtain⟨k,hk,q⟩:=FG m (List.contains_iff_mem.mp this);exact⟨k,q3y hk,q⟩
theorem MT(h:Mk m)(hi:i<=m)(he:e<=m):∃n,n<=m/\nB m n i=e:=by
 obtain⟨a,ha,rfl⟩:=pC h hi;obtain⟨b,hb,rfl⟩:=pC h he
 by_cases xc:a<=b
 ·refine⟨b-a,by omega,?_⟩
  rw[<-xb];congr 1;omega
 ·refine⟨m+1-a+b,by omega,?_⟩
  rw[<-xb,show a+(m+1-a+b)=(m+1)+b by omega,xb,(FH h).2]
noncomputable def lp(m:Nat):Nat->Nat->Nat->Nat×Nat
 |0,i,p=>(i,p)
 |n+1,i,p=>lp m n (leap m i p).1 (leap m i p).2
theorem zr(m:Nat):∀a b i p,lp m (a+b) i p=lp m b (lp m a i p).1 (lp m a i p).2
 |0,b,i,p=>by rw[q00];rfl
 |a+1,b,i,p=>by rw[q8Z];exact zr m a b _ _
theorem FJ(m:Nat):∀n i,lp m n i 0=(nB m n i,0)
 |0,i=>rfl
 |n+1,i=>by
  show lp m n (leap m i 0).1 (leap m i 0).2=_;have e:leap m i 0=(nx m i,0):=by unfold leap nx;simp
  rw[e];exact FJ m n _
theorem MU(m i p:Nat):(leap m i p).1<=m:=q3y (x1b _ (q80 _))
theorem FK(m:Nat):∀n i p,(lp m n i p).2=p / 32 ^ n
 |0,i,p=>by simp[lp]
 |n+1,i,p=>by
  show(lp m n (leap m i p).1 (leap m i p).2).2=_;rw[FK m n];show p / 32 / 32 ^ n=_;rw[Nat.div_div_eq_div_mul,Nat.pow_succ,q81]
theorem reach(h:Mk m)(hp:p<2 ^ 64)(he:e<=m):∃n,n<=13+m/\(lp m n i p).1=e:=by
 have z:(lp m 13 i p).2=0:=by
  rw[FK];exact Nat.div_eq_of_lt (q46 hp (by decide))
 have q:(lp m 13 i p).1<=m:=by
  rw[zr m 12 1];exact MU _ _ _
 obtain⟨n,hn,en⟩:=MT h q he;refine⟨13+n,by omega,?_⟩;rw[zr,z,FJ];exact en
theorem FL(j:Nat):has #[] j=false:=by unfold has;simp
theorem zu{t:SetTable}(hd:t.dummies = #[])(j:Nat):t.slot j=.empty\/∃i,t.slot j=.live i/\i<t.place.size/\j∈t.place.toList:=by
 unfold slot;rw[hd,FL];dsimp only
 by_cases c:(t.place[below t.place j]?==some j)=true
 ·right
  rw[q0f c];have e:=q0m c;obtain⟨hl,ev⟩:=q15.mp e;exact⟨_,rfl,hl,by rw[<-ev];exact q4D hl⟩
 ·left
  rw[q0a c];rfl
theorem MV{t:SetTable}(hd:t.dummies = #[])(hj:j∉t.place.toList):t.slot j=.empty:=by
 rcases zu hd j with h|⟨_,_,_,h⟩
 ·exact h
 ·exact absurd h hj
theorem FN:∀{l l':List Nat},l.Nodup->(∀x∈l,x∈l')->l.length<=l'.length
 |[],_,_,_=>q06 _
 |a::l,l',hn,hs=>by
  have ha:a∈l':=hs a (PE ..);have kD:=q2w.mp hn;have ih:=FN (l:=l) (l':=l'.erase a) kD.2 fun x hx=>(List.mem_erase_of_ne (fun z=>kD.1 (by rw[<-z];exact hx))).mpr (hs x (q0c _ hx));rw[List.length_erase_of_mem ha] at ih;have:=List.length_pos_of_mem ha;rw[Hc];omega
theorem MW{l:List Nat}(h:l.length<=m):∃e,e<=m/\e∉l:=by
 refine q3c fun no=>?_;have all:∀e,e∈q0A (m+1)->e∈l:=fun e he=>q3c fun z=>no ⟨e,q3y (q0B.mp he),z⟩;have:(q0A (m+1)).length<=l.length:=FN q3O all;rw[q0_] at this;omega
noncomputable def stateOf(t:SetTable)(i p:Nat):Probe:=⟨i,runEnd t.mask i-i,i,p,none⟩
theorem MX(m i:Nat):runEnd m i-i<=9:=by unfold runEnd;split<;>omega
section
variable{t:SetTable}{f:Nat->Int}{h:Int}
theorem xf(F:Nat)(p:Probe):q3z t f h (F+1) p=(match t.slot p.j with
  |.empty=>some (.empty p.j p.dummy)
  |.dummy=>q3z t f h F (t.advance {p with dummy:=some p.j})
  |.live i=>if f i==h then some (.candidate p.j i (t.advance p)) else q3z t f h F (t.advance p)):=rfl
theorem FO(hd:t.dummies = #[])(hf:∀i,i<t.place.size->f i≠h):∀(k F:Nat)(p:Probe),p.more=k->p.dummy=none →
  (∃j,q3z t f h (F+k+1) p=some (.empty j none))\/q3z t f h (F+k+1) p=q3z t f h F (stateOf t (leap t.mask p.i p.perturb).1 (leap t.mask p.i p.perturb).2)
 |0,F,p,hm,ug=>by
  show(∃j,q3z t f h (F+1) p=_)\/q3z t f h (F+1) p=_;rw[xf];rcases zu hd p.j with e|⟨i,e,hi,_⟩
  ·left;rw[e];exact⟨p.j,by rw[ug]⟩
  ·right
   rw[e];show(if(f i==h)=true then _ else _)=_;rw[q0a (by intro z;exact hf i hi (q0m z))];unfold advance;rw[hm,q0a (by omega),ug];rfl
 |k+1,F,p,hm,ug=>by
  have ih:=FO hd hf k F {p with j:=p.j+1,more:=p.more-1} (by show p.more-1=k;omega) ug;rw[show F+(k+1)+1=(F+k+1)+1 by omega,xf];rcases zu hd p.j with e|⟨i,e,hi,_⟩
  ·left;rw[e];exact⟨p.j,by rw[ug]⟩
  ·rw[e]
   show(∃j,(if(f i==h)=true then _ else _)=_)\/(if(f i==h)=true then _ else _)=_;rw[q0a (by intro z;exact hf i hi (q0m z))];have ea:t.advance p={p with j:=p.j+1,more:=p.more-1}:=by unfold advance;rw[q0f (by omega)]
   rw[ea];exact ih
theorem FP(hd:t.dummies = #[])(hf:∀i,i<t.place.size->f i≠h):∀(n F i p:Nat),10*(n+1)<=F->t.slot (lp t.mask n i p).1=.empty->∃j,q3z t f h F (stateOf t i p)=some (.empty j none)
 |0,F,i,p,hF,hs=>by
  obtain⟨G,rfl⟩:∃G,F=G+1:=⟨F-1,by omega⟩;rw[xf];have e:t.slot (stateOf t i p).j=.empty:=hs;rw[e];exact⟨i,rfl⟩
 |n+1,F,i,p,hF,hs=>by
  have hr:=MX t.mask i;obtain⟨G,hG⟩:∃G,F=G+(runEnd t.mask i-i)+1:=⟨F-(runEnd t.mask i-i)-1,by omega⟩;have:=FO (f:=f) (h:=h) hd hf (runEnd t.mask i-i) G (stateOf t i p) rfl rfl;rw[<-hG] at this;rcases this with h1|h1
  ·exact h1
  ·rw[h1]
   exact FP hd hf n G _ _ (by omega) hs
theorem zv(h:Int):bits h<2 ^ 64:=by
 unfold bits;have:=q1n h (show(0:Int)<2 ^ 64 by decide);have:=q1R h (show(2 ^ 64:Int)≠0 by decide);omega
theorem FQ(hd:t.dummies = #[])(hm:Mk t.mask)(hz:t.place.size<=t.mask)(hf:∀i,i<t.place.size->f i≠h):∃j,t.probe f h (t.probeStart h)=some (.empty j none):=by
 obtain⟨e,he,ne⟩:=MW (l:=t.place.toList) (m:=t.mask) (by rw[PF];exact hz);obtain⟨n,hn,en⟩:=reach hm (i:=bits h%(t.mask+1)) (zv h) he;exact FP hd hf n _ _ _ (by unfold turns;omega) (by rw[en];exact MV hd ne)
end
section
variable{m:Nat}{owner:Array (Option Nat)}
theorem FT(F i p:Nat):q2o m owner (F+1) i p=(match(q0A (runEnd m i+1-i)).find? fun k=>(owner.getD (i+k) (some 0)).isNone with
   |some k=>some (i+k)
   |none=>q2o m owner F (leap m i p).1 (leap m i p).2):=rfl
theorem zw:∀(n F i p:Nat),n+1<=F->(owner.getD (lp m n i p).1 (some 0)).isNone=true->∃j,q2o m owner F i p=some j/\(owner.getD j (some 0)).isNone=true
 |0,F,i,p,hF,hs=>by
  obtain⟨G,rfl⟩:∃G,F=G+1:=⟨F-1,by omega⟩;rw[FT]
  cases hc:(q0A (runEnd m i+1-i)).find? fun k=>(owner.getD (i+k) (some 0)).isNone with
  |some k =>
   have:=q30 hc;exact⟨i+k,rfl,this⟩
  |none =>
   have:=q4f.mp hc 0 (q0B.mpr (by unfold runEnd;split<;>omega));exact absurd hs this
 |n+1,F,i,p,hF,hs=>by
  obtain⟨G,rfl⟩:∃G,F=G+1:=⟨F-1,by omega⟩;rw[FT]
  cases hc:(q0A (runEnd m i+1-i)).find? fun k=>(owner.getD (i+k) (some 0)).isNone with
  |some k =>
   have:=q30 hc;exact⟨i+k,rfl,this⟩
  |none=>exact zw n G _ _ (by omega) hs
end
structure Ow(m:Nat)(owner:Array (Option Nat))(k:Nat):Prop where
 size:owner.size=m+1
 cnt:owner.toList.countP q5_=k
 lt:∀x,some x∈owner.toList->x<k
theorem zx:∀{l:List (Option Nat)}{j k:Nat},l[j]?=some none->(l.set j (some k)).countP q5_=l.countP q5_+1
 |[],j,k,h=>by simp at h
 |x::l,0,k,h=>by
  simp at h;subst h;rw[q0Y,q2E,q2E];rfl
 |x::l,j+1,k,h=>by
  simp at h;rw[q0Z,q2E,q2E,zx h];omega
theorem getD_none{owner:Array (Option Nat)}(h:(owner.getD j (some 0)).isNone=true):owner.toList[j]?=some none:=by
 rw[q01] at h;rw[q0F]
 cases e:owner[j]? with
 |none=>rw[e] at h;cases h
 |some x =>
  rw[e] at h
  cases x with
  |none=>rfl
  |some y=>cases h
theorem FU{owner:Array (Option Nat)}(O:Ow m owner k)(hk:k<=m):∃e,e<=m/\(owner.getD e (some 0)).isNone=true:=by
 refine q3c fun no=>?_
 have all:∀x∈owner.toList,x.isSome=true:=by
  intro x hx;obtain⟨e,he⟩:=q0i.mp hx
  cases x with
  |some y=>rfl
  |none =>
   have hl:=(sR.mp he).1;rw[PF,O.size] at hl;refine absurd ⟨e,q3y hl,?_⟩ no;rw[q01,<-q0F,he];rfl
 have:=q5n.mpr all;rw[O.cnt,PF,O.size] at this;omega
theorem MY{owner:Array (Option Nat)}(hm:Mk m)(O:Ow m owner k)(hk:k<=m)(h:Int):∃j,q2o m owner (turns m) (bits h%(m+1)) (bits h)=some j/\Ow m (owner.setIfInBounds j (some k)) (k+1):=by
 obtain⟨e,he,hn⟩:=FU O hk;obtain⟨n,kD,en⟩:=reach hm (i:=bits h%(m+1)) (zv h) he;obtain⟨j,ej,hj⟩:=zw (m:=m) (owner:=owner) n (turns m) (bits h%(m+1)) (bits h) (by unfold turns;omega) (by rw[en];exact hn);refine⟨j,ej,by rw[q4E];exact O.size,?_,fun x hx=>?_⟩
 ·rw[q16,zx (getD_none hj),O.cnt]
 ·rw[q16] at hx
  rcases q4w hx with h|h
  ·exact q0W (O.lt x h)
  ·cases h;exact q1h _
theorem FV(hm:Mk m):∀(hs:List Int)(owner:Array (Option Nat))(k:Nat),Ow m owner k->k+hs.length<=m+1 →
  ∃d7,(hs.foldl (init:=some (owner,k)) fun acc h=>do
   let(owner,k) <- acc
   let j <- q2o m owner (turns m) (bits h%(m+1)) (bits h)
   pure (owner.setIfInBounds j (some k),k+1))=some (d7,k+hs.length)/\Ow m d7 (k+hs.length)
 |[],owner,k,O,_=>⟨owner,rfl,O⟩
 |h::hs,owner,k,O,hl=>by
  rw[Hc] at hl ⊢;obtain⟨j,ej,O'⟩:=MY hm O (by omega) h;obtain⟨o2,e2,O2⟩:=FV hm hs _ (k+1) O' (by omega);refine⟨o2,?_,by rw[show k+(hs.length+1)=k+1+hs.length by omega];exact O2⟩;rw[q5e,show k+(hs.length+1)=k+1+hs.length by omega,<-e2];congr 1;show(do let j <- q2o m owner (turns m) (bits h%(m+1)) (bits h);pure (owner.setIfInBounds j (some k),k+1))=_;rw[ej];rfl
theorem FW(m:Nat):Ow m (q7u (m+1) none) 0:=by
 refine⟨by simp,?_,fun x hx=>?_⟩
 ·rw[q3A]
  exact List.countP_eq_zero.mpr fun x hx=>by rw[q3h hx];decide
 ·rw[q3A] at hx
  cases q3h hx
theorem MZ(hm:Mk m)(hs:Array Int)(hz:hs.size<=m+1):∃owner,layClean m hs=some owner/\Ow m owner hs.size:=by
 obtain⟨o,e,O⟩:=FV hm hs.toList _ 0 (FW m) (by rw[PF];omega);rw[q00,PF] at O;refine⟨o,?_,O⟩;unfold layClean;rw[<-q6h,e];rfl
noncomputable def j5(m:Nat)(owner:Array (Option Nat)):List (Nat×Nat):=(q0A (m+1)).filterMap fun j=>(owner.getD j none).map (j,·)
theorem zy(O:Ow m owner k):(j5 m owner).length=k:=by
 unfold j5;rw[q3K,<-O.cnt]
 have e:owner.toList=(q0A (m+1)).map fun j=>owner.getD j none:=by
  refine q20 fun i=>?_;rw[q0F,q0b]
  by_cases hi:i<m+1
  ·rw[q2b hi,q5f,q0t (by rw[O.size];exact hi),q01,q0t (by rw[O.size];exact hi)];rfl
  ·rw[q1I (by rw[O.size];omega),q2d (by rw[q0_];omega)];rfl
 rw[e,List.countP_map];refine List.countP_congr fun j _=>?_;simp
theorem M1(O:Ow m owner k)(hz:z∈j5 m owner):z.2<k:=by
 unfold j5 at hz;obtain⟨j,hj,e⟩:=q3r.mp hz;obtain⟨x,ex,rfl⟩:=q0g.mp e;refine O.lt x ?_;rw[q01] at ex
 cases q:owner[j]? with
 |none=>rw[q] at ex;cases ex
 |some y =>
  rw[q] at ex;cases(show y=some x from ex)
  exact q0i.mpr ⟨j,by rw[q0F];exact q⟩
theorem M3(hm:Mk m)(t:SetTable)(hs:Array Int)(wanted:Nat)(hw:sizeAbove wanted-1=m)(hz:hs.size<=m+1):
  ∃t' order,t.relaid hs wanted=some (t',order)/\t'.mask=m/\t'.dummies = #[]/\t'.place.size=hs.size/\t'.led=t.led/\t'.plain=t.plain/\order.size=hs.size/\∀k∈order.toList,k<hs.size:=by
 obtain⟨owner,e,O⟩:=MZ hm hs hz;refine⟨{mask:=m,place:=((j5 m owner).map (·.1)).toArray,dummies := #[],finger:=t.finger,led:=t.led,moves:=t.movedTo m,plain:=t.plain},((j5 m owner).map (·.2)).toArray,?_,rfl,rfl,?_,rfl,rfl,?_,fun k hk=>?_⟩
 ·unfold relaid laid
  rw[hw,e];rfl
 ·rw[Hb,qU,zy O]
 ·rw[Hb,qU,zy O]
 ·obtain⟨z,hz,rfl⟩:=q0d.mp hk
  exact M1 O hz
theorem FX{α:Type}{es:Array α}{order:Array Nat}(h:∀k∈order.toList,k<es.size):(order.filterMap (es[·]?)).size=order.size/\∀e∈(order.filterMap (es[·]?)).toList,e∈es.toList:=by
 constructor
 ·rw[<-PF,q47,q3K,q5n.mpr fun k hk=>?_,PF]
  rw[q0t (h k hk)];rfl
 ·intro e he
  rw[q47] at he;obtain⟨k,_,q⟩:=q3r.mp he;exact q0i.mpr ⟨k,by rw[q0F];exact q⟩
theorem zA(t:SetTable)(hd:t.dummies = #[])(j:Nat):(t.put j).1.dummies = #[]/\(t.put j).1.mask=t.mask/\(t.put j).1.place.size=t.place.size+1/\(t.put j).1.led=t.led/\(t.put j).1.plain=t.plain/\(t.put j).1.moves=t.moves/\(t.put j).1.finger=t.finger:=by
 unfold put;dsimp only;rw[hd,FL];refine⟨rfl,rfl,?_,rfl,rfl,rfl,rfl⟩;unfold insertAt;simp only[q6w,q7v,q6i];omega
theorem M4{α:Type}{xs:Array α}{p:Nat}{x e:α}(h:e∈(insertAt xs p x).toList):e=x\/e∈xs.toList:=by
 unfold insertAt at h;simp only[q5M,q3B,q04,q0K,q5t] at h;simp only[q4x] at h;rcases h with(h|h)|h
 ·right;exact q3X (q5u h)
 ·exact .inl h
 ·right;exact q3X (q5u h)
theorem zB{α:Type}(xs:Array α)(p:Nat)(x:α):(insertAt xs p x).size=xs.size+1:=by
 unfold insertAt;simp only[q6w,q7v,q6i];omega
end LJS
namespace LJS
open PySem PySem.SetTable PyProof.Rows
structure fQ(t:SetTable)(es:Array (Int×Value))(hs:List Int):Prop where
 pD:t.dummies = #[]
 mn:Mk t.mask
 iJ:t.place.size=es.size
 num:es.size=hs.length
 gZ:t.tooFull=false
 ins:∀e∈es.toList,e.1∈hs
def fh(h:Heap)(S:Addr)(hs:List Int):Prop:=∃o es ep t,h.get? S=some o/\o.ExactSet/\o.data=.set es ep t/\fQ t es hs
section
variable{t:SetTable}{es:Array (Int×Value)}{hs:List Int}
theorem fQ.fill(T:fQ t es hs):t.fill=es.size:=by
 unfold q2z;rw[T.iJ,T.pD];rfl
theorem fQ.lt(T:fQ t es hs):es.size*5<t.mask*3:=by
 have:=T.gZ;unfold tooFull at this;rw[T.fill] at this;have:=q4g this;omega
theorem fQ.fits(T:fQ t es hs):t.fits es.size=true:=by
 have:=T.lt;unfold q3i;rw[T.fill,T.iJ];simp;omega
theorem fQ.zC(T:fQ t es hs):t.gaveWay=false:=by
 unfold SetTable.gaveWay;rcases T.mn with h|h|h<;>rw[h]<;>rfl
end
theorem FY:sizeAbove (grown 5)-1=31:=by decide +kernel
theorem FZ:sizeAbove (grown 19)-1=127:=by decide +kernel
section
variable{prog:Program}{w:World}{A:Around}{E:aH}{s:Shared}
theorem M5{S:Addr}{x:Value}{h:Int}{hs:List Int}{o:Obj}{es:Array (Int×Value)}{ep:Nat}{t:SetTable}{Q:SetFound->Shared->Prop}(ho:s.heap.get? S=some o)(hd:o.data=.set es ep t)(T:fQ t es hs)(hn:h∉hs)
  (k:∀j,Q (.free j false) s):wpAny (model prog w) A (setSearch S x h true) Q E s:=by
 unfold setSearch;show wpAny _ _ (setSearchFrom S x h true (99999+1) none) _ _ _;unfold setSearchFrom;refine n_ (q17 ho hd T.fits ?_);dsimp only;rw[T.zC];simp only[q0G,↓reduceIte];have hz:t.place.size<=t.mask:=by have:=T.lt;rw[T.iJ];omega
 obtain⟨j,ej⟩:=FQ (t:=t) (f:=fun i=>(es[i]?.map (·.1)).getD 0) (h:=h) T.pD T.mn hz (fun i hi z=>by
  rw[T.iJ] at hi;rw[q0t hi] at z
  exact hn (by rw[<-show es[i].1=h from z];exact T.ins _ (q4D hi)))
 simp only[q4T];generalize hP:t.probe _ h (t.probeStart h)=P;have eP:P=some (.empty j none):=hP.symm.trans ej;rw[eP];exact uX (k j)
theorem M6{S:Addr}{x:Value}{h:Int}{hs:List Int}{Q:Bool->Shared->Prop}(hx:x.scannable=false)(hS:fh s.heap S hs)(hn:h∉hs)(hl:hs.length<60)
  (hv:∀Q':Bool->Shared->Prop,(∀b,Q' b s)->wpAny (model prog w) A (hashByValue 8 x) Q' E s)
  (k:∀h',q2N S s.heap h'->fh h' S (hs++[h])->Q true {s with heap:=h'}):wpAny (model prog w) A (setAddHashed S x h) Q E s:=by
 obtain⟨o,es,ep,t,ho,hex,hd,T⟩:=hS;unfold setAddHashed;refine q0D ?_;show wpAny _ _ (setAddHashedIn S x h (99999+1)) _ _ _;unfold setAddHashedIn;refine n_ (q17 ho hd T.fits ?_);have hb:byScan x es=false:=by unfold byScan;rw[hx];rfl
 dsimp only;rw[hb];simp only[q0G,↓reduceIte];refine n_ (M5 ho hd T hn fun j=>?_);dsimp only;refine n_ (q17 ho hd T.fits ?_);dsimp only;obtain⟨p1,p2,p3,p4,p5,p6,p7⟩:=zA t T.pD j
 have fin:∀b:Bool,wpAny (model prog w) A (do
   storeSet S (SetTable.insertAt es (t.put j).2 (h,x)) (if b=true then(t.put j).1 else{(t.put j).1 with plain:=false})
   if(!false&&(if b=true then(t.put j).1 else{(t.put j).1 with plain:=false}:SetTable).tooFull)=true then do
       setRelay S (q7O (es.size+1))
       pure true
    else pure true) Q E s:=by
  intro b;generalize kE:(if b=true then(t.put j).1 else{(t.put j).1 with plain:=false}:SetTable)=t2;have q1:t2.dummies = #[]:=by rw[<-kE];cases b<;>exact p1
  have q2:t2.mask=t.mask:=by rw[<-kE];cases b<;>exact p2
  have q3:t2.place.size=es.size+1:=by rw[<-kE,<-T.iJ];cases b<;>exact p3
  have gM:=zB es (t.put j).2 (h,x)
  have qj:∀e∈(insertAt es (t.put j).2 (h,x)).toList,e.1∈hs++[h]:=fun e he=>by
   rcases M4 he with rfl|he
   ·exact q0n _ (q0K.mpr rfl)
   ·exact q1C _ (T.ins e he)
  generalize insertAt es (t.put j).2 (h,x)=bY at gM qj;have M7:es.size<60:=by rw[T.num];exact hl
  refine n_ (q3C ho hd ?_ (by rw[gM,q2c];omega))
  have gr:(s.heap.update S (q2O bY t2)).get? S=some {o with data:=.set bY (ep+1) t2}:=by
   have:=q0J (q2O bY t2) ho (by rw[q3P bY t2 hd];rfl);rw[q3P bY t2 hd] at this;exact this
  have fl:t2.fill=es.size+1:=by unfold q2z;rw[q1,q3];rfl
  have lt:=T.lt
  have pE:t2.fits bY.size=true:=by
   unfold q3i;rw[fl,q3,gM,q2];simp;rcases T.mn with e|e|e<;>rw[e] at lt ⊢ <;> omega
  by_cases tf:t2.tooFull=true
  ·rw[q0f (by rw[tf];rfl)]
   have qk:t.mask*3<=(es.size+1)*5:=by
    unfold tooFull at tf;rw[fl,q2] at tf;have:=q05 tf;omega
   obtain⟨m,hm,hw,hsz⟩:∃m,Mk m/\sizeAbove (grown (es.size+1))-1=m/\(es.size+1)*5<m*3:=by
    rcases T.mn with e|e|e
    ·rw[e] at lt qk
     have:es.size+1=5:=by omega
     rw[this];exact⟨31,.inr (.inl rfl),FY,by omega⟩
    ·rw[e] at lt qk
     have:es.size+1=19:=by omega
     rw[this];exact⟨127,.inr (.inr rfl),FZ,by omega⟩
    ·rw[e] at qk;omega
   refine n_ ?_;unfold setRelay;refine n_ (q17 gr rfl pE ?_);dsimp only
   have zD:¬ SetTable.sizeAbove (q7O (es.size+1))>sizeLine:=by
    rw[q2c];rcases hm with e|e|e<;>omega
   rw[q0a zD];obtain⟨t3,order,er,r1,r2,r3,_,_,r4,r5⟩:=M3 hm t2 (bY.map (·.1)) (grown (es.size+1)) hw (by rw[q3D,gM];omega);rw[er];rw[q3D,gM] at r3 r4;rw[q3D] at r5;obtain⟨o1,o2⟩:=FX (es:=bY) (order:=order) r5;refine n_ ?_
   show wpAny _ _ (do
    if(order.filterMap (bY[·]?)).size != bY.size then
     unsupported "internal:set-table-lost-an-element"
    pure (order.filterMap (bY[·]?),t3)) _ _ _
   rw[q0a (by rw[o1,r4,gM];simp)];refine uX ?_;dsimp only;refine q3C gr rfl ?_ (by rw[o1,r4,q2c];omega)
   have eZ:((s.heap.update S (q2O bY t2)).update S (q2O (order.filterMap (bY[·]?)) t3)).get? S=some {o with data:=.set (order.filterMap (bY[·]?)) (ep+1+1) t3}:=by
    have:=q0J (q2O (order.filterMap (bY[·]?)) t3) gr (by rw[q3P _ t3 rfl];rfl);rw[q3P _ t3 rfl] at this;exact this
   refine uX (k _ ?_ ⟨_,_,_,_,eZ,hex,rfl,r2,by rw[r1];exact hm,by rw[r3,o1,r4],by rw[o1,r4,T.num,Hd];rfl,?_,fun e he=>qj e (o2 e he)⟩)
   ·exact(q0T ..).trans (q0T ..)
   ·unfold tooFull q2z
    rw[r2,r3,r1];simp;omega
  ·have uh:t2.tooFull=false:=by cases q:t2.tooFull<;>simp_all
   rw[q0a (by rw[uh];decide)];refine uX (k _ (q0T ..) ⟨_,_,_,_,gr,hex,rfl,q1,by rw[q2];exact T.mn,by rw[q3,gM],by rw[gM,T.num,Hd];rfl,uh,qj⟩)
 by_cases hp:(t.put j).1.plain=true
 ·rw[q0f hp]
  refine n_ (hv _ fun b=>?_);exact fin b
 ·rw[q0a hp]
  refine n_ (uX ?_);exact fin true
end
end LJS
namespace LJS
open PySem PySem.SetTable
def Up(xs:Array Nat):Prop:=xs.toList.Pairwise (· < ·)
theorem Up.lt{xs:Array Nat}(u:Up xs){i k:Nat}(M8:i<k)(hk:k<xs.size):xs[i]'(by omega)<xs[k]:=by
 have:=q3d.mp u i k (by rw[PF];omega) (by rw[PF];exact hk) M8;simpa using this
theorem zE{xs:Array Nat}(u:Up xs)(j:Nat):∀(fuel lo hi:Nat),hi<=xs.size->lo<=hi->hi-lo<=fuel->(∀i,(h:i<xs.size)->i<lo->xs[i]<j)->(∀i,(h:i<xs.size)->hi<=i->j<=xs[i]) →
  below.go xs j fuel lo hi<=xs.size/\(∀i,(h:i<xs.size)->i<below.go xs j fuel lo hi->xs[i]<j)/\(∀i,(h:i<xs.size)->below.go xs j fuel lo hi<=i->j<=xs[i])
 |0,lo,hi,h1,h2,h3,a,b=>by
  have:lo=hi:=by omega
  subst this;exact⟨h1,a,b⟩
 |fuel+1,lo,hi,h1,h2,h3,a,b=>by
  unfold below.go
  by_cases c:lo<hi
  ·rw[q0f c]
   have hm:(lo+hi) / 2<xs.size:=by omega
   have em:xs.getD ((lo+hi) / 2) j=xs[(lo+hi) / 2]:=by rw[q01,q0t hm];rfl
   simp only[em]
   by_cases d:xs[(lo+hi) / 2]<j
   ·rw[q0f d]
    refine zE u j fuel _ hi h1 (by omega) (by omega) (fun i cz hl=>?_) b
    by_cases e:i<(lo+hi) / 2
    ·exact q46 (u.lt e hm) d
    ·have:i=(lo+hi) / 2:=by omega
     subst this;exact d
   ·rw[q0a d]
    refine zE u j fuel lo _ (by omega) (by omega) (by omega) a fun i cz hl=>?_
    by_cases e:(lo+hi) / 2<i
    ·exact q1z (q3s (q3Q d) (u.lt e cz))
    ·have:i=(lo+hi) / 2:=by omega
     subst this;exact q3Q d
  ·rw[q0a c]
   have:lo=hi:=by omega
   subst this;exact⟨h1,a,b⟩
theorem xg{xs:Array Nat}(u:Up xs)(j:Nat):below xs j<=xs.size/\(∀i,(h:i<xs.size)->i<below xs j->xs[i]<j)/\(∀i,(h:i<xs.size)->below xs j<=i->j<=xs[i]) :=
 zE u j xs.size 0 xs.size (Bi _) (q06 _) (by omega) (fun i _ h=>by omega) (fun i h h'=>by omega)
theorem M9{xs:Array Nat}(u:Up xs){i:Nat}(hi:i<xs.size):below xs (xs[i]+1)=i+1:=by
 obtain⟨h0,h1,h2⟩:=xg u (xs[i]+1)
 have a:i<below xs (xs[i]+1):=by
  refine Nat.lt_of_not_le fun z=>?_;have:=h2 i hi z;omega
 have b:below xs (xs[i]+1)<=i+1:=by
  refine q3Q fun z=>?_;have hk:i+1<xs.size:=by omega
  have:=h1 (i+1) hk z;have:=u.lt (k:=i+1) (q1h i) hk;omega
 omega
theorem M_{xs:Array Nat}(u:Up xs):below xs 0=0:=by
 obtain⟨h0,h1,h2⟩:=xg u 0;refine Nat.eq_zero_of_not_pos fun z=>?_;have:=h1 0 (by omega) z;omega
theorem Na{t:SetTable}(u:Up t.place){j:Nat}(hj:j∉t.place.toList):Up (t.put j).1.place:=by
 obtain⟨h0,h1,h2⟩:=xg u j;show Up (insertAt t.place (below t.place j) j);unfold Up insertAt;generalize below t.place j=p at h0 h1 h2
 have eL:(((t.place.extract 0 p).push j)++t.place.extract p t.place.size).toList=t.place.toList.take p++([j]++t.place.toList.drop p):=by
  simp only[q5M,q3B,q5t,q4x,q4h,q6x,q18];have e2:q29 (t.place.size-p) (q2_ p t.place.toList)=q2_ p t.place.toList:=q1o (by rw[q1V,PF];exact Bi _);rw[e2]
 rw[eL]
 have lo:∀x∈t.place.toList.take p,x<j:=by
  intro x hx;obtain⟨i,hi,e⟩:=q1a.mp hx;rw[q0L,PF] at hi;rw[q6y] at e;have:=h1 i (by omega) (by omega);rw[<-e];simpa using this
 have cz:∀x∈t.place.toList.drop p,j<x:=by
  intro x hx;obtain⟨i,hi,e⟩:=q1a.mp hx;rw[q1V,PF] at hi;rw[List.getElem_drop] at e;have:=h2 (p+i) (by omega) (by omega);have zF:j<=x:=by rw[<-e];simpa using this
  refine Nat.lt_of_le_of_ne zF fun z=>hj ?_;rw[z];exact q3X hx
 refine List.pairwise_append.mpr ⟨u.sublist (q6z _ _),?_,fun a ha b hb=>?_⟩
 ·exact q1p.mpr ⟨cz,u.sublist (List.drop_sublist _ _)⟩
 ·rcases PD.mp hb with rfl|hb
  ·exact lo a ha
  ·exact q46 (lo a ha) (cz b hb)
theorem Nc(n:Nat)(f:Nat->Option Nat):(((q0A n).filterMap fun j=>(f j).map fun x=>(j,x)).map (·.1)).Pairwise (· < ·):=by
 rw[q1l];refine List.Pairwise.filterMap _ (fun a a' cB b hb b' hb'=>?_) (q1J (n:=n));obtain⟨x,_,rfl⟩:=q0g.mp hb;obtain⟨y,_,rfl⟩:=q0g.mp hb';exact cB
theorem Nd(m:Nat)(owner:Array (Option Nat)):((j5 m owner).map (·.1)).Pairwise (· < ·):=Nc (m+1) fun j=>owner.getD j none
theorem F7{α:Type}(next:Nat->Nat):∀(fuel k:Nat)(left:List α)(out:Array α),left.length<=fuel->(pickOrder.go next fuel k left out).toList.Perm (out.toList++left)
 |0,k,left,out,h=>by
  have:left=[]:=q1W.mp (by omega);subst this;rw[q1S];exact q2F _
 |fuel+1,k,left,out,h=>by
  unfold pickOrder.go
  cases left with
  |nil=>simp
  |cons a l =>
   have cB:next k%(a::l).length<(a::l).length:=x1b _ (by rw[Hc];omega);rw[qV cB];refine(F7 next fuel (k+1) _ _ ?_).trans ?_
   ·rw[q25 cB];omega
   ·rw[q3B,q18]
    refine q3M _ ?_;generalize next k%(a::l).length=j at cB;exact(jd cB).symm
where
 jd {α:Type}:∀{l:List α}{j:Nat}(h:j<l.length),q8J l (l[j]::l.eraseIdx j)
  |[],_,h=>by simp at h
  |a::l,0,_=>q2F _
  |a::l,j+1,h=>(q5v a (jd (l:=l) (j:=j) (by simpa using h))).trans (q4i _ _ _)
theorem Nf{α:Type}(next:Nat->Nat)(xs:Array α):(pickOrder next xs).toList.Perm xs.toList:=by
 have:=F7 next xs.size 0 xs.toList #[] (by rw[PF];exact Bi _);unfold pickOrder;simpa using this
theorem zG{t:SetTable}{f:Nat->Int}{h:Int}:∀{fuel:Nat}{p:Probe}{j:Nat}{d:Option Nat},q3z t f h fuel p=some (.empty j d)->t.slot j=.empty
 |0,_,_,_,e=>nomatch e
 |fuel+1,p,j,d,e=>by
  rw[xf] at e
  cases q:t.slot p.j with
  |empty =>
   rw[q] at e;cases e
   exact q
  |dummy =>
   rw[q] at e;exact zG e
  |live i =>
   rw[q] at e
   by_cases c:(f i==h)=true
   ·simp only[c,q2x] at e;cases e
   ·simp only[c,q1X] at e;exact zG e
theorem Ng{t:SetTable}(u:Up t.place){j:Nat}(e:t.slot j=.empty):j∉t.place.toList:=by
 intro hm;obtain⟨i,hi,ei⟩:=q1a.mp hm;have cz:i<t.place.size:=by rw[<-PF];exact hi
 have zH:t.place[i]=j:=by simpa using ei
 obtain⟨h0,h1,h2⟩:=xg u j;have a:¬ i<below t.place j:=fun z=>by have:=h1 i cz z;omega
 have b:¬ below t.place j<i:=fun z=>by
  have:=h2 (below t.place j) (by omega) (Bi _);have:=u.lt z cz;omega
 have eb:below t.place j=i:=by omega
 unfold slot at e;rw[eb] at e;have:(t.place[i]?==some j)=true:=by rw[q0t cz,zH];simp
 simp only[this,q2x] at e;cases e
def mq(owner:Array (Option Nat))(k:Nat):Prop:=(owner.toList.filterMap id).Perm (q0A k)
theorem zI:∀{l:List (Option Nat)}{j k:Nat},l[j]?=some none->((l.set j (some k)).filterMap id).Perm (k::l.filterMap id)
 |[],j,k,h=>by simp at h
 |x::l,0,k,h=>by
  simp at h;subst h;rw[q0Y];show(k::l.filterMap id).Perm (k::l.filterMap id);exact q2F _
 |x::l,j+1,k,h=>by
  simp at h;rw[q0Z]
  cases x with
  |none =>
   show((l.set j (some k)).filterMap id).Perm (k::l.filterMap id);exact zI h
  |some y =>
   show(y::(l.set j (some k)).filterMap id).Perm (k::y::l.filterMap id);exact(q5v y (zI h)).trans (q4i _ _ _)
theorem Nh{owner:Array (Option Nat)}{j k:Nat}(P:mq owner k)(h:owner.toList[j]?=some none):mq (owner.setIfInBounds j (some k)) (k+1):=by
 unfold mq at P ⊢;rw[q16,q3m];exact(zI h).trans ((q5v k P).trans (List.perm_append_singleton k _).symm)
theorem Ni{m:Nat}{owner:Array (Option Nat)}{k:Nat}(hm:Mk m)(O:Ow m owner k)(Pm:mq owner k)(hk:k<=m)(h:Int):∃j,q2o m owner (turns m) (bits h%(m+1)) (bits h)=some j/\Ow m (owner.setIfInBounds j (some k)) (k+1)/\mq (owner.setIfInBounds j (some k)) (k+1):=by
 obtain⟨e,he,hn⟩:=FU O hk;obtain⟨n,kD,en⟩:=reach hm (i:=bits h%(m+1)) (zv h) he;obtain⟨j,ej,hj⟩:=zw (m:=m) (owner:=owner) n (turns m) (bits h%(m+1)) (bits h) (by unfold turns;omega) (by rw[en];exact hn);refine⟨j,ej,⟨by rw[q4E];exact O.size,?_,fun x hx=>?_⟩,Nh Pm (getD_none hj)⟩
 ·rw[q16,zx (getD_none hj),O.cnt]
 ·rw[q16] at hx
  rcases q4w hx with h|h
  ·exact q0W (O.lt x h)
  ·cases h;exact q1h _
theorem F8{m:Nat}(hm:Mk m):∀(hs:List Int)(owner:Array (Option Nat))(k:Nat),Ow m owner k->mq owner k->k+hs.length<=m+1 →
  ∃d7,(hs.foldl (init:=some (owner,k)) fun acc h=>do
   let(owner,k) <- acc
   let j <- q2o m owner (turns m) (bits h%(m+1)) (bits h)
   pure (owner.setIfInBounds j (some k),k+1))=some (d7,k+hs.length)/\Ow m d7 (k+hs.length)/\mq d7 (k+hs.length)
 |[],owner,k,O,Pm,_=>⟨owner,rfl,O,Pm⟩
 |h::hs,owner,k,O,Pm,hl=>by
  rw[Hc] at hl ⊢;obtain⟨j,ej,O',P'⟩:=Ni hm O Pm (by omega) h;obtain⟨o2,e2,O2,P2⟩:=F8 hm hs _ (k+1) O' P' (by omega);refine⟨o2,?_,by rw[show k+(hs.length+1)=k+1+hs.length by omega];exact⟨O2,P2⟩⟩;rw[q5e,show k+(hs.length+1)=k+1+hs.length by omega,<-e2];congr 1;show(do let j <- q2o m owner (turns m) (bits h%(m+1)) (bits h);pure (owner.setIfInBounds j (some k),k+1))=_;rw[ej];rfl
theorem Nj(m:Nat):mq (q7u (m+1) none) 0:=by
 unfold mq;rw[q3A,List.filterMap_eq_nil_iff.mpr fun x hx=>by rw[q3h hx];rfl];exact q2F _
theorem Nk{m:Nat}(hm:Mk m)(hs:Array Int)(hz:hs.size<=m+1):∃owner,layClean m hs=some owner/\Ow m owner hs.size/\mq owner hs.size:=by
 obtain⟨o,e,O,Pm⟩:=F8 hm hs.toList _ 0 (FW m) (Nj m) (by rw[PF];omega);rw[q00,PF] at O Pm;refine⟨o,?_,O,Pm⟩;unfold layClean;rw[<-q6h,e];rfl
theorem Nl{m:Nat}{owner:Array (Option Nat)}(hs:owner.size=m+1):(j5 m owner).map (·.2)=owner.toList.filterMap id:=by
 unfold j5;rw[List.map_filterMap]
 have e:owner.toList=(q0A (m+1)).map fun j=>owner.getD j none:=by
  refine q20 fun i=>?_;rw[q0F,q0b]
  by_cases hi:i<m+1
  ·rw[q2b hi,q5f,q0t (by rw[hs];exact hi),q01,q0t (by rw[hs];exact hi)];rfl
  ·rw[q1I (by rw[hs];omega),q2d (by rw[q0_];omega)];rfl
 rw[e,q6j];congr 1;funext j;show q6k (fun x:Nat×Nat=>x.2) (q6k (fun x=>(j,x)) (owner.getD j none))=owner.getD j none;cases owner.getD j none<;>rfl
theorem Nm{m:Nat}(hm:Mk m)(t:SetTable)(hs:Array Int)(wanted:Nat)(hw:sizeAbove wanted-1=m)(hz:hs.size<=m+1):
  ∃t' order,t.relaid hs wanted=some (t',order)/\t'.mask=m/\t'.dummies = #[]/\t'.place.size=hs.size/\t'.led=t.led/\t'.plain=t.plain/\Up t'.place/\order.toList.Perm (q0A hs.size):=by
 obtain⟨owner,e,O,Pm⟩:=Nk hm hs hz;refine⟨{mask:=m,place:=((j5 m owner).map (·.1)).toArray,dummies := #[],finger:=t.finger,led:=t.led,moves:=t.movedTo m,plain:=t.plain},((j5 m owner).map (·.2)).toArray,?_,rfl,rfl,?_,rfl,rfl,?_,?_⟩
 ·unfold relaid laid
  rw[hw,e];rfl
 ·rw[Hb,qU,zy O]
 ·unfold Up
  exact Nd m owner
 ·show((j5 m owner).map (·.2)).Perm _
  rw[Nl O.size];exact Pm
theorem Nn{order:Array Nat}{n:Nat}(h:order.toList.Perm (q0A n)):coversAll order n=true:=by
 unfold coversAll;exact List.isPerm_iff.mpr h
end LJS
namespace LJS
open PySem PySem.SetTable PyProof.Rows
noncomputable def keyOf(e:Int×Value):Int:=match e.2 with
 |.int k _=>k
 |_=>0
structure cf(t:SetTable)(es:Array (Int×Value))(led:Bool)(ks:List Int):Prop where
 pD:t.dummies = #[]
 mn:Mk t.mask
 iJ:t.place.size=es.size
 gZ:t.tooFull=false
 up:Up t.place
 ui:t.plain=true
 zJ:t.led=led
 xh:∀e∈es.toList,∃k tk,e=(hashInt k,q1i k tk)
 keys:(es.toList.map keyOf).Perm ks
 kF:ks.Nodup
def d8(h:Heap)(S:Addr)(led:Bool)(ks:List Int):Prop:=∃o es ep t,h.get? S=some o/\o.ExactSet/\o.data=.set es ep t/\cf t es led ks
section
variable{t:SetTable}{es:Array (Int×Value)}{led:Bool}{ks:List Int}
theorem cf.num(T:cf t es led ks):es.size=ks.length:=by rw[<-T.keys.length_eq,qU,PF]
theorem cf.fill(T:cf t es led ks):t.fill=es.size:=by unfold q2z;rw[T.iJ,T.pD];rfl
theorem cf.lt(T:cf t es led ks):es.size*5<t.mask*3:=by
 have:=T.gZ;unfold tooFull at this;rw[T.fill] at this;have:=q4g this;omega
theorem cf.fits(T:cf t es led ks):t.fits es.size=true:=by
 have:=T.lt;unfold q3i;rw[T.fill,T.iJ];simp;omega
theorem cf.elems{prog:Program}{w:World}(T:cf t es led ks):ElemsOf (intKind prog w) es.toList:=fun e he=>by
 obtain⟨k,tk,rfl⟩:=T.xh e he;exact⟨⟨k,q3R ..,rfl⟩,rfl⟩
theorem cf.lay(T:cf t es led ks)(k:Int)(tk:Tok):∃j,j∉t.place.toList/\layNew t es (hashInt k) (.int k tk)=(insertAt es (t.put j).2 (hashInt k,.int k tk),(t.put j).1,false,false):=by
 have lt:=T.lt;obtain⟨j,ej⟩:=FQ (t:=t) (f:=fun _=>hashInt k+1) (h:=hashInt k) T.pD T.mn (by rw[T.iJ];omega) (fun i _ z=>by omega);have hs:t.slot j=.empty:=zG ej;obtain⟨p1,p2,p3,_⟩:=zA t T.pD j;refine⟨j,Ng T.up hs,?_⟩
 have ff:(t.put j).1.fits (insertAt es (t.put j).2 (hashInt k,q1i k tk)).size=true:=by
  unfold q3i q2z;rw[p1,p2,p3,zB,T.iJ];simp;omega
 unfold layNew freeSlot;rw[ej];show(insertAt es (t.put j).2 (hashInt k,q1i k tk),(t.put j).1.orStandIn (insertAt es (t.put j).2 (hashInt k,q1i k tk)).size,false,!(t.put j).1.fits (insertAt es (t.put j).2 (hashInt k,q1i k tk)).size)=_;unfold SetTable.orStandIn;rw[ff,q0f rfl];rfl
end
section
variable{prog:Program}{w:World}{A:Around}{E:aH}{s:Shared}
theorem add_int{S:Addr}{k:Int}{tk:Tok}{led:Bool}{ks:List Int}{Q:Bool->Shared->Prop}(hS:d8 s.heap S led ks)(hl:ks.length<60)
  (fin:∀(b:Bool) h',q2N S s.heap h'->d8 h' S led (if k∈ks then ks else ks++[k])->Q b {s with heap:=h'}):wpAny (model prog w) A (setAddHashed S (.int k tk) (hashInt k)) Q E s:=by
 obtain⟨o,es,ep,t,ho,hex,hd,T⟩:=hS;have hb:es.size<scanBound:=by rw[T.num];unfold scanBound;omega
 have el:=T.elems (prog:=prog) (w:=w);unfold setAddHashed;refine q0D ?_;show wpAny _ _ (setAddHashedIn S (.int k tk) (hashInt k) (99999+1)) _ _ _;unfold setAddHashedIn;refine n_ (q17 ho hd T.fits ?_);dsimp only;rw[byScan_of (knd:=intKind prog w) rfl hb el];simp only[↓reduceIte];unfold setAddByScan;refine n_ ?_;refine n_ (q3S ?_);refine n_ (wpAny_setScan_of (knd:=intKind prog w) (k:=k) (q3R ..) ho hd T.fits el ?_)
 have F9:∀e∈es.toList,(intKind prog w).is k e.2=decide (k=keyOf e):=fun e he=>by
  obtain⟨k',je,rfl⟩:=T.xh e he;exact KeyKind.is_eq_decide (q3R ..) k
 cases hr:es.toList.findIdx? (fun e=>(intKind prog w).is k e.2) with
 |some j =>
  obtain⟨hj,F_,_⟩:=List.findIdx?_eq_some_iff_getElem.mp hr;have hm:es.toList[j]∈es.toList:=q1K hj;rw[F9 _ hm] at F_;have hk:k∈ks:=T.keys.mem_iff.mp (by rw[q05 F_];exact q0d.mpr ⟨_,hm,rfl⟩);dsimp only;refine uX (uX ?_);have e:s={s with heap:=s.heap}:=by cases s;rfl
  rw[e];exact fin false s.heap (Heap.SameBut.refl S s.heap) (by rw[q0f hk];exact⟨o,es,ep,t,ho,hex,hd,T⟩)
 |none =>
  have hk:k∉ks:=fun z=>by
   obtain⟨e,he,ek⟩:=q0d.mp (T.keys.mem_iff.mpr z);have:=List.findIdx?_eq_none_iff.mp hr e he;rw[F9 e he,<-ek,q0x rfl] at this;cases this
  dsimp only;obtain⟨j,nj,ej⟩:=T.lay k tk;rw[ej];rw[q0a hk] at fin;obtain⟨p1,p2,p3,p4,p5,p6,p7⟩:=zA t T.pD j;have up1:=Na T.up nj;have gM:=zB es (t.put j).2 (hashInt k,q1i k tk)
  have zK:(insertAt es (t.put j).2 (hashInt k,q1i k tk)).toList.Perm (es.toList++[(hashInt k,q1i k tk)]):=by
   have:=SetTable.insertAt_perm es (t.put j).2 (hashInt k,q1i k tk);rw[q3B] at this;exact this
  have lt:=T.lt;have M7:es.size<60:=by rw[T.num];exact hl
  generalize(t.put j).1=t2 at p1 p2 p3 p4 p5 up1 ⊢;generalize insertAt es (t.put j).2 (hashInt k,q1i k tk)=bY at gM zK ⊢
  have ints2:∀e∈bY.toList,∃k tk,e=(hashInt k,q1i k tk):=fun e he=>by
   rcases q04.mp (zK.mem_iff.mp he) with q|q
   ·exact T.xh e q
   ·exact⟨k,tk,q0K.mp q⟩
  have pF:(bY.toList.map keyOf).Perm (ks++[k]):=by
   refine(zK.map keyOf).trans ?_;rw[q0w];exact List.Perm.append_right _ T.keys
  have uj:(ks++[k]).Nodup:=q1b.mpr ⟨T.kF,by simp,fun a ha b hb z=>hk (by rw[<-q0K.mp hb,<-z];exact ha)⟩;have zL:t2.place.size=bY.size:=by rw[p3,T.iJ,gM]
  have fl:t2.fill=es.size+1:=by unfold q2z;rw[p1,p3,T.iJ];rfl
  have pE:t2.fits bY.size=true:=by
   unfold q3i;rw[fl,p3,gM,p2,T.iJ];simp;rcases T.mn with e|e|e<;>rw[e] at lt ⊢ <;> omega
  refine n_ (uX ?_);dsimp only;rw[p5,T.ui,q0f rfl];refine n_ ?_;rw[hashByValue_scannable 8 rfl];refine uX ?_;rw[q0f (show plainKind (q1i k tk)=true from rfl)];refine n_ (q3C ho hd ?_ (by rw[gM,q2c];omega))
  have gr:(s.heap.update S (q2O bY t2)).get? S=some {o with data:=.set bY (ep+1) t2}:=by
   have:=q0J (q2O bY t2) ho (by rw[q3P bY t2 hd];rfl);rw[q3P bY t2 hd] at this;exact this
  by_cases tf:t2.tooFull=true
  ·rw[q0f (by rw[tf];rfl)]
   have qk:t.mask*3<=(es.size+1)*5:=by
    unfold tooFull at tf;rw[fl,p2] at tf;have:=q05 tf;omega
   obtain⟨m,hm,hw,hsz⟩:∃m,Mk m/\sizeAbove (grown bY.size)-1=m/\(es.size+1)*5<m*3:=by
    rw[gM];rcases T.mn with e|e|e
    ·rw[e] at lt qk
     have:es.size+1=5:=by omega
     rw[this];exact⟨31,.inr (.inl rfl),FY,by omega⟩
    ·rw[e] at lt qk
     have:es.size+1=19:=by omega
     rw[this];exact⟨127,.inr (.inr rfl),FZ,by omega⟩
    ·rw[e] at qk;omega
   obtain⟨t3,order,er,r1,r2,r3,r4,r5,r6,r7⟩:=Nm hm t2 (bY.map (·.1)) (grown bY.size) hw (by rw[q3D,gM];omega);rw[q3D] at r3 r7;have um:=relayAll_perm t2 bY (grown bY.size)
   have e3:relayAll t2 bY (grown bY.size)=(order.filterMap (bY[·]?),t3,false):=by
    have Np:(order.filterMap (bY[·]?)).size=bY.size:=by
     have:=FX (es:=bY) (order:=order) fun x hx=>q0B.mp (r7.mem_iff.mp hx);rw[this.1,<-PF,r7.length_eq,q0_]
    have ff:t3.fits (order.filterMap (bY[·]?)).size=true:=by
     unfold q3i q2z;rw[Np,r2,r3,r1,gM];simp;omega
    unfold relayAll;rw[er];show(if(coversAll order bY.size&&t3.fits (order.filterMap (bY[·]?)).size)=true then _ else _)=_;rw[Nn r7,ff];rfl
   rw[e3] at um ⊢;refine n_ (uX ?_);dsimp only;generalize order.filterMap (bY[·]?)=xi at um ⊢;have Ga:xi.size=bY.size:=by rw[<-PF,um.length_eq,PF]
   refine n_ (q3C gr rfl ?_ (by rw[Ga,gM,q2c];omega))
   have eZ:((s.heap.update S (q2O bY t2)).update S (q2O xi t3)).get? S=some {o with data:=.set xi (ep+1+1) t3}:=by
    have:=q0J (q2O xi t3) gr (by rw[q3P _ t3 rfl];rfl);rw[q3P _ t3 rfl] at this;exact this
   refine uX (uX (fin true _ ((q0T ..).trans (q0T ..)) ⟨_,_,_,_,eZ,hex,rfl,r2,by rw[r1];exact hm,by rw[r3,Ga],?_,r6,by rw[r5,p5];exact T.ui,by rw[r4,p4];exact T.zJ,fun e he=>ints2 e (um.mem_iff.mp he),(um.map keyOf).trans pF,uj⟩));unfold tooFull q2z;rw[r2,r3,r1,gM];simp;omega
  ·have uh:t2.tooFull=false:=by cases q:t2.tooFull<;>simp_all
   rw[q0a (by rw[uh];decide)];refine uX (uX (fin true _ (q0T ..) ⟨_,_,_,_,gr,hex,rfl,p1,by rw[p2];exact T.mn,zL,uh,up1,by rw[p5];exact T.ui,by rw[p4];exact T.zJ,ints2,pF,uj⟩))
theorem Nq{ks:List Int}:∀{vs:List Value},ItemsAre (intKind prog w) ks vs->∀v∈vs,∃i t,v=.int i t:=by
 induction ks with
 |nil=>intro vs h v hv;cases h;cases hv
 |cons k ks ih =>
  intro vs h v hv
  cases h with
  |cons h1 h2 =>
   rcases PD.mp hv with rfl|hv
   ·obtain⟨t,e⟩:=q6A (k:=k) (v:=v) (by first|exact h1|simpa[intKind] using h1)
    exact⟨_,_,e⟩
   ·exact ih h2 v hv
theorem Nr{ks:List Int}{a:Addr}{Q:Bool->Shared->Prop}(hk:IsTupleKey (intKind prog w) s.heap ks a)(h:∀b,Q b s):wpAny (model prog w) A (hashByValue 8 (.ref a)) Q E s:=by
 have hT:=hk.typeIs;obtain⟨o,ah,n,ho,_,hd,hi⟩:=hk;show wpAny _ _ (hashByValue (7+1) (.ref a)) _ _ _;unfold hashByValue;refine n_ (q5g hT F.slot_tuple_hash.lookup ?_);show wpAny _ _ (seqItems? (.ref a) >>= _) _ _ s;refine n_ (q1O ho hd ?_);refine n_ ?_;show wpAny _ _ (forIn ah _ _) _ _ s;rw[<-Array.forIn_toList];refine q4U _ (fun rest _ s'=>s'=s/\∀v∈rest,∃i t,v=q1i i t) _ ?_ ?_ _ _ ⟨rfl,Nq hi⟩
 ·rintro v rest r s' ⟨rfl,nD⟩
  obtain⟨i,t,rfl⟩:=nD v PE;have e:hashByValue 7 (.int i t)=pure true:=by unfold hashByValue;rfl
  rw[e];refine n_ (uX ?_);simp only[q2Y,q0G,q1X];exact uX ⟨rfl,fun u hu=>nD u (q0c _ hu)⟩
 ·rintro⟨r1,r2⟩ s' ⟨rfl,_⟩
  cases r1 with
  |none=>exact uX (h _)
  |some b=>exact uX (h _)
theorem zM{h h':Heap}{ks:List Int}{a:Addr}(x:IsTupleKey (intKind prog w) h ks a)(k:∀o,h.get? a=some o->h'.get? a=some o):IsTupleKey (intKind prog w) h' ks a:=by
 obtain⟨o,ah,n,ho,r⟩:=x;exact⟨o,ah,n,k o ho,r⟩
noncomputable abbrev hT(prog:Program)(w:World)(ks:List Int):Int:=tupleKeyHash (intKind prog w) ks
theorem zN{h h':Heap}{S:Addr}{hs:List Int}(x:fh h S hs)(k:∀o,h.get? S=some o->h'.get? S=some o):fh h' S hs:=by
 obtain⟨o,es,ep,t,ho,r⟩:=x;exact⟨o,es,ep,t,k o ho,r⟩
end
section
variable{prog:Program}{w:World}{A:Around}{R:Result->Shared->Prop}{I S:Addr}{fp wr:List Addr}{G:Array GenState->Array GenState->Prop}{n:Nat}{P:Nat->Value->Prop}{St:Nat->Shared->Prop}
theorem Nt(W:WalksS prog w A.in1 I fp wr G n P St)(out:S∉fp)(ad:Nat->Addr)(ks:Nat->List Int)(ql:∀i v,P i v->v=.ref (ad i))(apart:∀i,i<n->ad i∉S::wr)(room:A.in1.units<cLine)
  (unlike:∀i j,i<n->j<i->hT prog w (ks j)≠hT prog w (ks i)) (gN:n<=30) :
  ∀(left i:Nat)(s:Shared),i+left=n->St i s->(∀j,j<n->IsTupleKey (intKind prog w) s.heap (ks j) (ad j))->fh s.heap S ((q0A i).map fun j=>hT prog w (ks j)) →
   (∀s',Moved (S::wr) G s s'->fh s'.heap S ((q0A n).map fun j=>hT prog w (ks j))->R (.ok (.ret .none)) s') →
   codeAny (model prog w) A (.builtin "set.update.loop" ⟨[.ref S,.ref I],[]⟩) R s:=by
 have kG:S∉wr:=fun z=>out (W.sub _ z);have more:∀b,b∈wr->b∈S::wr:=fun b hb=>q0c _ hb;intro left
 induction left with
 |zero =>
  intro i s hi st tk se fin;obtain rfl:i=n:=by omega
  refine q1G q2G ?_;rw[q1m q1Y _];show wpAny _ A.in1 (pyNext (.ref I) >>= _) _ _ s;refine n_ (W.done s _ _ st fun s' mv=>?_);show wpAny _ A.in1 (ret q0v) _ _ s';exact uX (fin s' (mv.mono more) (zN se fun o e=>mv.heap S o kG e))
 |succ left ih =>
  intro i s hi st tk se fin;have cB:i<n:=by omega
  refine q1G q2G ?_;rw[q1m q1Y _];show wpAny _ A.in1 (pyNext (.ref I) >>= _) _ _ s;refine n_ (W.item i s _ _ cB st fun v s1 hP iK mv=>?_);obtain rfl:=ql i v hP;have my:∀j,j<n->IsTupleKey (intKind prog w) s1.heap (ks j) (ad j):=fun j hj=>zM (tk j hj) fun o e=>mv.heap _ o (fun z=>apart j hj (more _ z)) e;show wpAny _ A.in1 (holding [q0C (ad i)] (setAdd S (.ref (ad i))) >>= _) _ _ s1;refine n_ (q0D ?_);unfold setAdd;refine q0D (n_ (wpAny_pyHash_tuple room (my i cB) ?_));refine M6 (s:={s1 with toks:=s1.toks+((ks i).length+1)}) (hs:=(q0A i).map fun j=>hT prog w (ks j)) rfl (zN se fun o e=>mv.heap S o kG e) (fun z=>?_) (by rw[qU,q0_];omega) (fun Q' q=>Nr (my i cB) q) fun h2 sb zO=>?_
  ·obtain⟨j,hj,e⟩:=q0d.mp z
   exact unlike i j cB (q0B.mp hj) e
  ·have nS:∀b,b∈fp->b≠S:=fun b hb z=>out (by rw[<-z];exact hb)
   refine uX ⟨q2h q1Y _,ih (i+1) _ (by omega) (W.frame _ s1 _ _ iK (q2f _ _) fun b hb o e=>by rw[sb.2 b (nS b hb)];exact e) (fun j hj=>zM (my j hj) fun o e=>?_) (by rw[q3m,q0w];exact zO) fun s3 zP zQ=>?_⟩
   ·rw[sb.2 _ (fun z=>apart j hj (by rw[z];exact PE))];exact e
   ·refine fin s3 (Moved.trans W.gtrans ((mv.mono more).then_heap (q2f _ _) fun b o hb e=>?_) zP) zQ
    rw[sb.2 b (fun z=>hb (by rw[z];exact PE))];exact e
end
theorem zR{h h':Heap}{S:Addr}{led:Bool}{ks:List Int}(x:d8 h S led ks)(k:∀o,h.get? S=some o->h'.get? S=some o):d8 h' S led ks:=by
 obtain⟨o,es,ep,t,ho,r⟩:=x;exact⟨o,es,ep,t,k o ho,r⟩
noncomputable def once(ks:List Int)(n:Int):List Int:=if n∈ks then ks else ks++[n]
noncomputable def j6(ns:List Int):Nat->List Int
 |0=>[]
 |i+1=>once (j6 ns i) (ns.getD i 0)
theorem zS(ns:List Int):∀i,(j6 ns i).length<=i
 |0=>Bi _
 |i+1=>by
  have:=zS ns i;show(once (j6 ns i) (ns.getD i 0)).length<=i+1;unfold once;split
  ·omega
  ·rw[Hd,q0O];omega
section
variable{prog:Program}{w:World}{A:Around}{R:Result->Shared->Prop}{I S:Addr}{fp wr:List Addr}{G:Array GenState->Array GenState->Prop}{n:Nat}{P:Nat->Value->Prop}{St:Nat->Shared->Prop}
theorem Nu(W:WalksS prog w A.in1 I fp wr G n P St)(out:S∉fp){led:Bool}(ns:List Int)(isInt:∀i v,P i v->∃t,v=.int (ns.getD i 0) t)(gN:n<=40):
  ∀(left i:Nat)(s:Shared),i+left=n->St i s->d8 s.heap S led (j6 ns i)->(∀s',Moved (S::wr) G s s'->d8 s'.heap S led (j6 ns n)->R (.ok (.ret .none)) s') →
   codeAny (model prog w) A (.builtin "set.update.loop" ⟨[.ref S,.ref I],[]⟩) R s:=by
 have kG:S∉wr:=fun z=>out (W.sub _ z);have more:∀b,b∈wr->b∈S::wr:=fun b hb=>q0c _ hb;intro left
 induction left with
 |zero =>
  intro i s hi st se fin;obtain rfl:i=n:=by omega
  refine q1G q2G ?_;rw[q1m q1Y _];show wpAny _ A.in1 (pyNext (.ref I) >>= _) _ _ s;refine n_ (W.done s _ _ st fun s' mv=>?_);show wpAny _ A.in1 (ret q0v) _ _ s';exact uX (fin s' (mv.mono more) (zR se fun o e=>mv.heap S o kG e))
 |succ left ih =>
  intro i s hi st se fin;have cB:i<n:=by omega
  refine q1G q2G ?_;rw[q1m q1Y _];show wpAny _ A.in1 (pyNext (.ref I) >>= _) _ _ s;refine n_ (W.item i s _ _ cB st fun v s1 hP iK mv=>?_);obtain⟨t,rfl⟩:=isInt i v hP;show wpAny _ A.in1 (holding [q1i (ns.getD i 0) t] (setAdd S (.int (ns.getD i 0) t)) >>= _) _ _ s1;refine n_ (q0D ?_);unfold setAdd;refine q0D (n_ ((intKind prog w).pyHash (k:=ns.getD i 0) (q3R _ _ _ _) ?_));have hlen:=zS ns i;refine add_int (s:={s1 with toks:=s1.toks+1}) (zR se fun o e=>mv.heap S o kG e) (by omega) fun b h2 sb zO=>?_;have nS:∀b,b∈fp->b≠S:=fun b hb z=>out (by rw[<-z];exact hb);refine uX ⟨q2h q1Y _,ih (i+1) _ (by omega) (W.frame _ s1 _ _ iK (q2f _ _) fun b hb o e=>by rw[sb.2 b (nS b hb)];exact e) zO fun s3 zP zQ=>?_⟩
  refine fin s3 (Moved.trans W.gtrans ((mv.mono more).then_heap (q2f _ _) fun b o hb e=>?_) zP) zQ;rw[sb.2 b (fun z=>hb (by rw[z];exact PE))];exact e
end
noncomputable abbrev cg(led:Bool):Obj:={cls:=.type "set",dict:=none,data:=.set #[] 0 (.fresh 0 0 led)}
theorem Nv{h:Heap}{S:Addr}{led:Bool}(e:h.get? S=some (cg led)):fh h S [] :=
 ⟨_,#[],0,_,e,⟨rfl,rfl,rfl⟩,rfl,rfl,.inl rfl,rfl,rfl,by cases led<;>decide,fun _ h=>nomatch h⟩
section
variable{prog:Program}{w:World}{A:Around}{E:aH}{s:Shared}
set_option maxHeartbeats 3200000 in
theorem Nx {l:Addr} {items:Array Value} {Q:aH} (ad:Nat->Addr) (ks:Nat->List Int) (hh:A.handled=none) (room:A.units+8<cLine) (zT:s.heap.IsList l items) (ql:∀(i:Nat)(v:Value),items[i]?=some v->v=.ref (ad i))
  (tk:∀i,i<items.size->IsTupleKey (intKind prog w) s.heap (ks i) (ad i)) (unlike:∀i j,i<items.size->j<i->hT prog w (ks j)≠hT prog w (ks i)) (gN:items.size<=30)
  (fin:∀(h':Heap)(tk:Nat),fh h' s.heap.objs.size ((q0A items.size).map fun j=>hT prog w (ks j))->(∀b o,b<s.heap.objs.size->s.heap.get? b=some o->h'.get? b=some o)->Q (.ref s.heap.objs.size) {s with heap:=h',toks:=tk}) :
  wpAny (model prog w) A (call (.type "set") [.ref l]) Q E s:=by
 obtain⟨c,tl,zU⟩:=q1q.mro;have m1:=q1q.made;have m2:=q1q.sub;have m3:=q1q.notType;have m4:=q1q.canCreate;have m5:=q64 (.ref l);refine q3t (q31 ?_);show wpAny _ _ (callAny (.type "set") _) _ _ _;refine uX ⟨q3u _ (by decide +kernel),q1G q6B ?_⟩;rw[q6l (q5o "set" [.ref l] []) rfl]
 repeat(any_goals (first|assumption|wp_step))
 refine q2P (code_set_new_1 (.ref l) (E:=E) (Q₁:=fun r s1=>∃led:Bool,r=.ref s.heap.objs.size/\s1={s with heap:=s.heap.push (cg led)}) fun led=>⟨led,rfl,rfl⟩) fun r s1 hr=>?_
 cases r with
 |error e=>exact hr
 |ok fl =>
  cases fl with
  |ret obj =>
   obtain⟨led,rfl,rfl⟩:=hr;have gS:(s.heap.push (cg led)).get? s.heap.objs.size=some (cg led):=PG _ rfl;have tS:q8m {s with heap:=s.heap.push (cg led)} (.ref s.heap.objs.size) "set" := ⟨_,gS,rfl⟩;have m6:=q1q.init.lookup;have m7:=q1q.init.bind (.ref s.heap.objs.size)
   repeat(any_goals (first|assumption|wp_step))
   refine q2P (q26 (R:=wants (fun r s2=>r=.none/\∃h' tk,s2={s with heap:=h',toks:=tk}/\fh h' s.heap.objs.size ((q0A items.size).map fun j=>hT prog w (ks j)) ∧
     ∀b o,b<s.heap.objs.size->s.heap.get? b=some o->h'.get? b=some o) E) q1q.init.plain q65 (q66 tS ?_)) fun r2 s2 kH=>?_
   ·obtain⟨ol,gl,cl,nl,dl⟩:=zT
    obtain⟨c0,d0,Ny,uo⟩:=ol;simp only at cl dl;subst cl;subst dl;have zV:(s.heap.push (cg led)).get? l=some {cls:=.type "list",dict:=d0,data:=.seq items nl,slots:=uo}:=qT _ gl;have x1:=q7Q;have x2:=q5w;have x3:(q2q "list" == q2q "dict")=false:=by decide
    have kI:(s.heap.push (cg led)).IsList l items:=⟨_,zV,rfl,nl,rfl⟩;have ll:l<s.heap.objs.size:=My gl;unfold Builtin.«set.__init__» noKeywords q32;generalize zW:pyIter=PI
    wp_walk
    subst zW;refine q2k kI (n_ (q5x ?_));have h3:A.in1.in1.in1.handled=none:=by simp[hh]
    have ez:(s.heap.push (cg led)).objs.size=s.heap.objs.size+1:=q1s ..;have nI:l≠(s.heap.push (cg led)).objs.size:=by rw[ez];exact q0e (q0W ll)
    have lt:∀i,i<items.size->ad i<s.heap.objs.size:=fun i hi=>by
     obtain⟨o,_,_,e,_⟩:=tk i hi;exact My e
    refine Nt ((q4j h3 _ l nI items).toS) (S:=s.heap.objs.size) ?out ad ks (fun i v hv=>ql i v hv) ?apart ?room unlike gN items.size 0 _ (q00 _)
     ⟨⟨_,PG _ rfl,rfl,rfl⟩,kI.push _⟩ ?tk ?fresh ?fin
    case out =>
     simp only[PD,q0s,q1Z,q5y,ez];exact⟨q0e (q1h _),q1L ll⟩
    case apart =>
     intro i hi;have:=lt i hi;simp only[PD,q0s,q1Z,q5y,ez];exact⟨q0e this,q0e (q0W this)⟩
    case room =>
     show A.units+1+1+1<cLine;exact q3s (Nat.add_le_add_left (by decide:3<=8) _) room
    case tk =>
     intro j hj;exact zM (tk j hj) fun o e=>qT _ (qT _ e)
    case fresh =>
     exact Nv (led:=led) (qT _ gS)
    case fin =>
     intro s' mv se;obtain⟨h',g',d',je,uq⟩:=s';obtain rfl:g'=s.gens:=mv.gens;obtain rfl:d'=s.drawn:=mv.drawn;obtain rfl:uq=s.os:=mv.os;show wpAny _ _ _ _ _ _;refine uX ?_;show wpAny _ _ (ret q0v) _ _ _;refine uX ⟨rfl,h',je,rfl,se,fun b o hb e=>?_⟩;refine mv.heap b o ?_ (qT _ (qT _ e));simp only[PD,q0s,q1Z,q5y,ez];exact⟨q0e hb,q0e (q0W hb)⟩
   ·cases r2 with
    |error e=>exact kH
    |ok zX =>
     cases zX with
     |ret r =>
      obtain⟨rfl,h',je,rfl,se,kp⟩:=kH
      repeat(any_goals (first|assumption|wp_step))
      exact fin _ _ se kp
     |next=>exact kH
     |brk=>exact kH
     |cont=>exact kH
  |next=>exact hr
  |brk=>exact hr
  |cont=>exact hr
end
noncomputable abbrev g9(w:World):Bool := !w.params.followText "set-order"
theorem Nz{h:Heap}{S:Addr}{led:Bool}(e:h.get? S=some (cg led)):d8 h S led [] :=
 ⟨_,#[],0,_,e,⟨rfl,rfl,rfl⟩,rfl,rfl,.inl rfl,rfl,by cases led<;>decide,q6C,rfl,rfl,(fun _ h=>nomatch h),q2F _,q2H⟩
section
variable{prog:Program}{w:World}{A:Around}{E:aH}{s:Shared}
theorem NA(a:Value){Q₁:aH}(h:Q₁ (.ref s.heap.objs.size) {s with heap:=s.heap.push (cg (g9 w))}):
  codeAny (model prog w) A (.call (.builtin "set.__new__") ⟨[.type "set",a],[]⟩) (wants Q₁ E) s:=by
 refine q31 ?_;show wpAny _ A.in1 (checkBuiltinCall "set.__new__" ⟨[.type "set",a],[]⟩ >>= fun _=>again (.builtin "set.__new__" ⟨[.type "set",a],[]⟩)) _ _ s;refine n_ (q5z (F.newCall_set_1 a) (uX ⟨q2h q7w _,?_⟩));refine q1G F.entry_set_new ?_;rw[q1m q7w _];have x1:=sub_set_self;unfold Builtin.«set.__new__» Builtin.Frozenset.newClass newSet setsByText;obtain⟨hp,g,d,tk,os⟩:=s;dsimp only
 wp_walk
 refine q3a (uX ?_);dsimp only;simp only[newObj];exact n_ (wpAny_alloc (uX (uX h)))
set_option maxHeartbeats 3200000 in
theorem NB {l:Addr} {items:Array Value} {Q:aH} (ns:List Int) (hh:A.handled=none) (zT:s.heap.IsList l items) (isInt:∀(i:Nat)(v:Value),items[i]?=some v->∃t,v=.int (ns.getD i 0) t) (Gb:items.size<=40)
  (fin:∀(h':Heap)(tk:Nat),d8 h' s.heap.objs.size (g9 w) (j6 ns items.size)->(∀b o,b<s.heap.objs.size->s.heap.get? b=some o->h'.get? b=some o)->Q (.ref s.heap.objs.size) {s with heap:=h',toks:=tk}) :
  wpAny (model prog w) A (call (.type "set") [.ref l]) Q E s:=by
 obtain⟨c,tl,zU⟩:=q1q.mro;have m1:=q1q.made;have m2:=q1q.sub;have m3:=q1q.notType;have m4:=q1q.canCreate;have m5:=q64 (.ref l);refine q3t (q31 ?_);show wpAny _ _ (callAny (.type "set") _) _ _ _;refine uX ⟨q3u _ (by decide +kernel),q1G q6B ?_⟩;rw[q6l (q5o "set" [.ref l] []) rfl]
 repeat(any_goals (first|assumption|wp_step))
 refine q2P (NA (.ref l) (E:=E) (Q₁:=fun r s1=>r=.ref s.heap.objs.size/\s1={s with heap:=s.heap.push (cg (g9 w))}) ⟨rfl,rfl⟩) fun r s1 hr=>?_
 cases r with
 |error e=>exact hr
 |ok fl =>
  cases fl with
  |ret obj =>
   obtain⟨rfl,rfl⟩:=hr;generalize NC:g9 w=led at fin ⊢;have gS:(s.heap.push (cg led)).get? s.heap.objs.size=some (cg led):=PG _ rfl;have tS:q8m {s with heap:=s.heap.push (cg led)} (.ref s.heap.objs.size) "set" := ⟨_,gS,rfl⟩;have m6:=q1q.init.lookup;have m7:=q1q.init.bind (.ref s.heap.objs.size)
   repeat(any_goals (first|assumption|wp_step))
   refine q2P (q26 (R:=wants (fun r s2=>r=.none/\∃h' tk,s2={s with heap:=h',toks:=tk}/\d8 h' s.heap.objs.size led (j6 ns items.size) ∧
     ∀b o,b<s.heap.objs.size->s.heap.get? b=some o->h'.get? b=some o) E) q1q.init.plain q65 (q66 tS ?_)) fun r2 s2 kH=>?_
   ·obtain⟨ol,gl,cl,nl,dl⟩:=zT
    obtain⟨c0,d0,Ny,uo⟩:=ol;simp only at cl dl;subst cl;subst dl;have zV:(s.heap.push (cg led)).get? l=some {cls:=.type "list",dict:=d0,data:=.seq items nl,slots:=uo}:=qT _ gl;have x1:=q7Q;have x2:=q5w;have x3:(q2q "list" == q2q "dict")=false:=by decide
    have kI:(s.heap.push (cg led)).IsList l items:=⟨_,zV,rfl,nl,rfl⟩;have ll:l<s.heap.objs.size:=My gl;unfold Builtin.«set.__init__» noKeywords q32;generalize zW:pyIter=PI
    wp_walk
    subst zW;refine q2k kI (n_ (q5x ?_));have h3:A.in1.in1.in1.handled=none:=by simp[hh]
    have ez:(s.heap.push (cg led)).objs.size=s.heap.objs.size+1:=q1s ..;have nI:l≠(s.heap.push (cg led)).objs.size:=by rw[ez];exact q0e (q0W ll)
    refine Nu ((q4j h3 _ l nI items).toS) (S:=s.heap.objs.size) ?out (led:=led) ns (fun i v hv=>isInt i v hv) Gb items.size 0 _ (q00 _)
     ⟨⟨_,PG _ rfl,rfl,rfl⟩,kI.push _⟩ ?fresh ?fin
    case out =>
     simp only[PD,q0s,q1Z,q5y,ez];exact⟨q0e (q1h _),q1L ll⟩
    case fresh =>
     exact Nz (led:=led) (qT _ gS)
    case fin =>
     intro s' mv se;obtain⟨h',g',d',je,uq⟩:=s';obtain rfl:g'=s.gens:=mv.gens;obtain rfl:d'=s.drawn:=mv.drawn;obtain rfl:uq=s.os:=mv.os;show wpAny _ _ _ _ _ _;refine uX ?_;show wpAny _ _ (ret q0v) _ _ _;refine uX ⟨rfl,h',je,rfl,se,fun b o hb e=>?_⟩;refine mv.heap b o ?_ (qT _ (qT _ e));simp only[PD,q0s,q1Z,q5y,ez];exact⟨q0e hb,q0e (q0W hb)⟩
   ·cases r2 with
    |error e=>exact kH
    |ok zX =>
     cases zX with
     |ret r =>
      obtain⟨rfl,h',je,rfl,se,kp⟩:=kH
      repeat(any_goals (first|assumption|wp_step))
      exact fin _ _ se kp
     |next=>exact kH
     |brk=>exact kH
     |cont=>exact kH
  |next=>exact hr
  |brk=>exact hr
  |cont=>exact hr
end
theorem aM:Slot "set_iterator" "__next__" "set_iterator.__next__" :=
 .of (owner:="set_iterator") (n:="__next__") (by rw[q7x,q5p];kernel_rfl) (by decide +kernel) (by decide +kernel) (by decide +kernel)
  (by first|exact .inl (by decide +kernel)|exact .inr (by decide +kernel)) (by rw[q5A];kernel_rfl)
theorem Gd:Slot "set_iterator" "__iter__" "set_iterator.__iter__" :=
 .of (owner:="set_iterator") (n:="__iter__") (by rw[q7x,q5p];kernel_rfl) (by decide +kernel) (by decide +kernel) (by decide +kernel)
  (by first|exact .inl (by decide +kernel)|exact .inr (by decide +kernel)) (by rw[q5A];kernel_rfl)
theorem Ge:entryFor table "set_iterator.__next__" = some Builtin.«set_iterator.__next__» := entryFor_of_fast (by kernel_rfl)
theorem ND:entryFor table "set_iterator.__iter__" = some Builtin.«dict_keyiterator.__iter__» :=
 q7S (id':="dict_keyiterator.__iter__") (by kernel_rfl) rfl (by decide +kernel) (by kernel_rfl)
theorem NF:entryFor table "set.__iter__" = some Builtin.«frozenset.__iter__» :=
 q7S (id':="frozenset.__iter__") (by kernel_rfl) rfl (by decide +kernel) (by kernel_rfl)
theorem Gf(a:Value):argsOk "set_iterator.__next__" ⟨[a],[]⟩:=by unfold argsOk;kernel_rfl
theorem NG(a:Value):argsOk "set_iterator.__iter__" ⟨[a],[]⟩:=by unfold argsOk;kernel_rfl
def bJ(h:Heap)(I S:Addr)(first:Value)(i n ep:Nat):Prop:=∃o,h.get? I=some o/\o.cls=.type "set_iterator" /\ o.data=.fields #[first,.int i 0,.ref S,.int n 0,.int ep 0]
theorem bJ.typeIs{s:Shared}{I S:Addr}{f:Value}{i n ep:Nat}(x:bJ s.heap I S f i n ep):s.TypeIs (.ref I) "set_iterator" := let⟨o,ho,hc,_⟩:=x;⟨o,ho,hc⟩
theorem bJ.at{h h':Heap}{I S:Addr}{f:Value}{i n ep:Nat}(x:bJ h I S f i n ep)(e:∀o,h.get? I=some o->h'.get? I=some o):bJ h' I S f i n ep:=let⟨o,ho,r⟩:=x;⟨o,e _ ho,r⟩
noncomputable def gO(w:World)(S:Addr)(ep:Nat)(es:Array (Int×Value)):Array (Int×Value):=if w.params.followText "set-order" = true then pickOrder (w.params.setOrder S ep) es else es
theorem zY(w:World)(S:Addr)(ep:Nat)(es:Array (Int×Value)):(gO w S ep es).toList.Perm es.toList:=by
 unfold gO;split
 ·exact Nf _ _
 ·exact q2F _
theorem xj(w:World)(S:Addr)(ep:Nat)(es:Array (Int×Value)):(gO w S ep es).size=es.size:=by
 have:=(zY w S ep es).length_eq;simpa using this
noncomputable def slotAt(t:SetTable)(i:Nat):Nat:=if i=0 then 0 else t.place.getD (i-1) 0+1
structure zZ(w:World)(I S:Addr)(o:Obj)(es:Array (Int×Value))(ep:Nat)(t:SetTable)(i:Nat)(h:Heap):Prop where
 set:h.get? S=some o
 it:∃slot:Nat,bJ h I S (.int slot 0) i es.size ep/\(w.params.followText "set-order" = false->slot=slotAt t i)
section
variable{prog:Program}{w:World}{A:Around}{I S:Addr}{o:Obj}{es:Array (Int×Value)}{ep:Nat}{t:SetTable}{ks:List Int}
theorem NH(T:cf t es (g9 w) ks){i:Nat}(hi:i<=es.size):below t.place (slotAt t i)=i:=by
 unfold slotAt;split
 ·rename_i h;subst h;exact M_ T.up
 ·rename_i h
  have hl:i-1<t.place.size:=by rw[T.iJ];omega
  have e:t.place.getD (i-1) 0=t.place[i-1]:=by simp[q6m,hl]
  rw[e,M9 T.up hl];omega
theorem Gg{E:aH}{s:Shared}{Q:Option (Value×Nat)->Shared->Prop}(ho:s.heap.get? S=some o)(hd:o.data=.set es ep t)(T:cf t es (g9 w) ks){slot i:Nat}(hi:i<=es.size)(hs:w.params.followText "set-order" = false->slot=slotAt t i)
  (k:∀qm:Nat,(w.params.followText "set-order" = false->i<es.size->qm=slotAt t (i+1))->Q (((gO w S ep es)[i]?).map fun e=>(e.2,qm)) s):wpAny (model prog w) A (setNext S slot i ep) Q E s:=by
 unfold setNext;refine n_ (q17 ho hd T.fits ?_);dsimp only;refine n_ ?_;unfold setsByText;refine n_ (q3a (uX ?_));dsimp only;have mw:(model prog w).w=w:=rfl
 cases q:w.params.followText "set-order" with
 |true =>
  rw[mw,q];simp only[bne_self_eq_false,q0G,q1X,q2x];refine n_ ?_;unfold setWalk;refine n_ (q17 ho hd T.fits ?_);dsimp only;refine n_ ?_;unfold setsByText;refine n_ (q3a (uX ?_));dsimp only;rw[mw,q,q0f rfl];refine n_ (q3a (uX ?_));refine uX ?_;have:=k slot fun z=>by rw[q] at z;cases z
  unfold gO at this;rw[q0f q] at this;exact this
 |false =>
  rw[mw,q,q0a (by decide)];have zD:=hs q;subst zD;have hb:=NH T hi;rw[hb];refine q3n (fun h=>absurd (show(!t.plain&&decide (es.size>1))=true from h) (by rw[T.ui];simp)) (fun _=>?_);refine n_ ?_;refine q3n (c:=(!t.led && !es.isEmpty)=true) (fun h=>absurd h (by rw[T.zJ];unfold g9;rw[q];simp)) (fun _=>?_);refine uX (uX ?_);have hk:=k (slotAt t (i+1)) fun _ _=>rfl;unfold gO at hk;rw[q0a (by rw[q];decide)] at hk
  by_cases hl:i<es.size
  ·have hp:i<t.place.size:=by rw[T.iJ];exact hl
   rw[q0t hl] at hk;rw[q0t hl,q0t hp]
   have e:slotAt t (i+1)=t.place[i]+1:=by
    unfold slotAt;rw[q0a (by omega),Nat.add_sub_cancel];simp[q6m,hp]
   rw[e] at hk;exact hk
  ·rw[q1I (by omega)] at hk
   rw[q1I (by omega)];exact hk
theorem Gh{E:aH}{s:Shared}{a:Addr}{ob:Obj}{vs:Array Value}{Q:Array Value->Shared->Prop}(ho:s.heap.get? a=some ob)(hd:ob.data=.fields vs)(h:Q vs s):wpAny (model prog w) A (fieldsOf (.ref a)) Q E s:=by
 unfold fieldsOf;refine n_ (q7T ho ?_);rw[hd];exact uX h
theorem NI(hh:A.handled=none)(fj:S≠I)(hex:o.ExactSet)(hd:o.data=.set es ep t)(T:cf t es (g9 w) ks):
  Walks prog w A I [I,S] [I] es.size (fun i v=>∃e,(gO w S ep es)[i]?=some e/\v=e.2) (zZ w I S o es ep t) where
 sub:=fun b hb=>by simp at hb;simp[hb]
 frame:=fun i h h' st hk=>⟨hk S (by simp) _ st.set,let⟨slot,x,y⟩:=st.it;⟨slot,x.at fun o e=>hk I (by simp) o e,y⟩⟩
 item:=fun i s Q E hi st hQ=>by
  obtain⟨slot,hit,hs⟩:=st.it;obtain⟨oi,sE,hc,qo⟩:=id hit;unfold pyNext
  refine n_ (q3j (q1j (name:=q0X "__next__") hit.typeIs aM
   (q1k aM hit.typeIs Ge ?_ (Gf _))))
  unfold Builtin.«set_iterator.__next__»;refine n_ (m:=slotArgs _ _ _) (uX ?_);refine n_ (Gh sE qo ?_);dsimp only;refine n_ (q39 st.set hd T.fits ?_);rw[q0a (by simp)];refine n_ (Gg st.set hd T (slot:=slot) (i:=i) (by omega) hs fun qm hn=>?_);have ei:(gO w S ep es)[i]?=some ((gO w S ep es)[i]'(by rw[xj];exact hi)):=q0t _;rw[ei];dsimp only [q6k];refine n_ (q2I sE qo (by simp) ?_);have gr:=q0J (q4F (·.setIfInBounds 0 (rawInt qm))) sE (q2u (q1D qo _));have ur:=q1D qo (·.setIfInBounds 0 (rawInt (qm:Int)));refine n_ (q2I gr ur (by simp) ?_);have eZ:=q0J (q4F (·.setIfInBounds 1 (rawInt ((i:Int)+1)))) gr (q2u (q1D ur _))
  have hd2:=q1D ur (·.setIfInBounds 1 (rawInt ((i:Int)+1)));refine uX ⟨_,rfl,uX (hQ _ _ s.toks ⟨_,ei,rfl⟩ ⟨?_,qm,⟨_,eZ,?_,?_⟩,fun z=>hn z hi⟩ fun b ob hb e=>?_)⟩
  ·rw[q0P _ _ (q1A fj),q0P _ _ (q1A fj)];exact st.set
  ·exact(q4A ..).trans ((q4A ..).trans hc)
  ·rw[hd2];simp[rawInt]
  ·have hb':I≠b:=fun z=>hb (by simp[z])
   rw[q0P _ _ hb',q0P _ _ hb'];exact e
 done:=fun s Q E st hQ=>by
  obtain⟨slot,hit,hs⟩:=st.it;obtain⟨oi,sE,hc,qo⟩:=id hit;unfold pyNext
  refine n_ (q3j (q1j (name:=q0X "__next__") hit.typeIs aM
   (q1k aM hit.typeIs Ge ?_ (Gf _))))
  unfold Builtin.«set_iterator.__next__»;refine n_ (m:=slotArgs _ _ _) (uX ?_);refine n_ (Gh sE qo ?_);dsimp only;refine n_ (q39 st.set hd T.fits ?_);rw[q0a (by simp)];refine n_ (Gg st.set hd T (slot:=slot) (i:=es.size) (Bi _) hs fun qm hn=>?_);rw[q1I (by rw[xj];exact Bi _)];dsimp only [q6k];refine n_ (q2I sE qo (by simp) ?_);show wpAny _ _ (newExc (.type "StopIteration") [] >>= _) _ _ _;refine n_ ?_;simp only[newExc,newTuple];refine n_ (q1c ?_ (by size_fits));refine n_ (m:=firstArgMember _ _) (q5z (a:=q0v) (by first|rfl|(simp only[firstArgMember];rfl)) ?_);refine q1c ?_ (by size_fits);simp only[raiseNew]
  refine n_ (q8n ?_);rw[show A.in1.handled=none from hh];refine n_ (uX (wpAny_throw ?_));refine n_ (q4V (T:="StopIteration") (b:=true) ⟨_,PG _ rfl,rfl⟩ q7U ?_);refine uX (hQ _ s.toks fun b ob hb e=>?_);have hb':b≠I:=fun z=>hb (by simp[z]);exact(((q0T ..).extBut.push _).push _) b ob hb' e
 self:=fun i s Q E st hQ=>by
  obtain⟨slot,hit,_⟩:=st.it;refine q6E hit.typeIs Gd (q1k Gd hit.typeIs ND ?_ (NG _));show wpAny _ _ (ret (.ref I)) _ _ s;exact uX ⟨_,rfl, "set_iterator",_,hit.typeIs,aM.lookup,hQ⟩
theorem NJ{E:aH}{s:Shared}{Q:Bool->Shared->Prop}(ho:s.heap.get? S=some o)(hd:o.data=.set es ep t)(T:cf t es (g9 w) ks)(k:Q false s):wpAny (model prog w) A (setDrawn S) Q E s:=by
 unfold setDrawn;refine n_ (q17 ho hd T.fits ?_);dsimp only;refine n_ ?_;unfold setsByText;refine n_ (q3a (uX ?_));refine uX ?_;have e:(!(model prog w).w.params.followText "set-order" && (!t.plain&&decide (es.size>1)))=false:=by rw[T.ui];simp
 exact e▸k
theorem NK{E:aH}{s:Shared}{Q:aH}(ho:s.heap.get? S=some o)(hex:o.ExactSet)(hd:o.data=.set es ep t)(T:cf t es (g9 w) ks)
  (k:∀h',(∀b ob,s.heap.get? b=some ob->h'.get? b=some ob)->zZ w s.heap.objs.size S o es ep t 0 h'->Q (.ref s.heap.objs.size) {s with heap:=h'}):wpAny (model prog w) A (pyIter (.ref S)) Q E s:=by
 have tS:s.TypeIs (.ref S) "set" := ⟨o,ho,hex.1⟩;refine q6E tS q7y (q1k q7y tS NF ?_ (F.args_set_iter_1 _));unfold Builtin.«frozenset.__iter__»;refine n_ (m:=Builtin.Frozenset.slot0 _ _) (uX (a:=S) ?_);refine n_ (m:=q4G _) ?_;unfold q4G;refine n_ (q39 ho hd T.fits (uX ?_));refine n_ (NJ ho hd T ?_);simp only[q0G,q1X];refine n_ (uX ?_);refine n_ (wpAny_setEpoch_of ho hd T.fits ?_);refine n_ (m:=newFields _ _) (q1c (uX ⟨_,rfl, "set_iterator",_,⟨_,PG _ rfl,rfl⟩,aM.lookup,?_⟩));refine k _ (fun b ob e=>qT _ e) ⟨qT _ ho,0,⟨_,PG _ rfl,rfl,rfl⟩,fun _=>rfl⟩
end
section
variable{prog:Program}{w:World}{A:Around}{S:Addr}{o:Obj}{es:Array (Int×Value)}{ep:Nat}{t:SetTable}{ks:List Int}
theorem NL{E:aH}{s:Shared}{Q:Bool->Shared->Prop}(tS:s.TypeIs (.ref S) "set")(k:Q false s):wpAny (model prog w) A (q4a (.ref S)) Q E s:=by
 unfold q4a;refine n_ (q5g tS F.slot_set_len.lookup ?_);generalize z6:("set.__len__" : String)=NM
 wp_delta
 rw[show splitId NM=some ("set", "__len__") from by subst z6;decide +kernel];subst z6;refine n_ (q4V (T:="set") (b:=true) tS (by rw[q5A];kernel_rfl) ?_);refine q3n (fun xc=>absurd xc (by decide)) (fun _=>?_);refine q3n (fun _=>?_) (fun xc=>absurd (by decide +kernel) xc);refine n_ (q3E tS ?_);exact uX k
theorem NN{E:aH}{s:Shared}{Q:List Value->Shared->Prop}(hh:A.handled=none)(ho:s.heap.get? S=some o)(hex:o.ExactSet)(hd:o.data=.set es ep t)(T:cf t es (g9 w) ks)(hn:es.size<=1000)
  (h:∀(h':Heap)(tk:Nat),(∀b ob,s.heap.get? b=some ob->h'.get? b=some ob)->s.heap.objs.size<=h'.objs.size->Q ((gO w S ep es).toList.map (·.2)) {s with heap:=h',toks:=tk}):wpAny (model prog w) A (collect (.ref S)) Q E s:=by
 have tS:s.TypeIs (.ref S) "set" := ⟨o,ho,hex.1⟩;have lS:S<s.heap.objs.size:=My ho;unfold collect;refine n_ (q5x (q1G F.entry_proto_collect ?_));rw[q1m F.plain_proto_collect _];show wpAny _ A.in1 (newList [] >>= fun l=>again (.builtin "list.__iadd__" ⟨[l,.ref S],[]⟩)) _ _ s;refine n_ (q1c ?_);refine uX ⟨q2h q6F _,q1G F.entry_list_iadd ?_⟩;rw[q1m q6F _];generalize sF:({s with heap:=s.heap.push {cls:=.type "list",data:=.seq ([]:List Value).toArray}}:Shared)=s1;have gr:s1.heap.get? S=some o:=by rw[<-sF];exact qT _ ho
 have gL:s1.heap.get? s.heap.objs.size=some {cls:=.type "list",data:=.seq ([]:List Value).toArray}:=by rw[<-sF];exact PG _ rfl
 have z1:s1.heap.objs.size=s.heap.objs.size+1:=by rw[<-sF];exact q1s ..
 show wpAny _ A.in1 (q4b (.ref s.heap.objs.size) (.ref S) (.ref s.heap.objs.size)) _ _ _;unfold q4b;refine n_ (q3E (T:="set") ⟨o,gr,hex.1⟩ ?_);have h1:q4H (.ref s.heap.objs.size) (.ref S)=false:=by simp[q4H];exact q1L lS
 have h2:(q2q "set" == q2q "list")=false:=by decide
 have h3:(q2q "set" == q2q "tuple")=false:=by decide
 simp only[h1,h2,h3,q6a,q0G,q1X];refine n_ (NK gr hex hd T fun fm qp iL=>?_);refine n_ (q0D (NL ⟨o,qp _ _ gr,hex.1⟩ ?_));have fj:S≠s1.heap.objs.size:=by rw[z1];exact q0e (q0W lS)
 have W:=(NI (prog:=prog) (A:=A.in1) (I:=s1.heap.objs.size) (by simp[hh]) fj hex hd T).toS
 have NO:s.heap.objs.size∉[s1.heap.objs.size,S]:=by
  simp only[PD,q0s,q1Z,q5y,z1];exact⟨q0e (q1h _),q1L lS⟩
 have key:∀(uu:Heap)(c:Nat),zZ w s1.heap.objs.size S o es ep t 0 uu->uu.get? s.heap.objs.size=some {cls:=.type "list",data:=.seq #[] c}->(∀b ob,b≠s.heap.objs.size->fm.get? b=some ob->uu.get? b=some ob) →
   codeAny (model prog w) A (.builtin "list.extend.loop" ⟨[.ref s.heap.objs.size,.ref s1.heap.objs.size,.ref s.heap.objs.size],[]⟩) (fun r s'=>match r with
    |.ok (.ret v)=>wpAny (model prog w) A (match v with
     |.ref a=>do match(<- load a).data with
      |.seq xs _=>pure xs.toList
      |_=>unsupported "internal:collect"
     |_=>unsupported "internal:collect") Q E s'
    |.ok _=>False
    |.error e=>E e s') {s1 with heap:=uu}:=by
  intro uu c st hL kp;refine codeAny_extend_loopS W (by rw[q2c];omega) _ NO _ es.size 0 _ #[] c rfl (q06 _) st hL (ItemsOf.nil _) fun s' d9 c' hm sG qq=>?_;show wpAny _ A (load s.heap.objs.size >>= _) _ _ s';refine n_ (q7T sG (uX ?_))
  have ea:d9.toList=(gO w S ep es).toList.map (·.2):=by
   refine q20 fun i=>?_;rw[q0b]
   by_cases hi:i<es.size
   ·have Gi:i<d9.size:=by rw[qq.1];exact hi
    obtain⟨e,he,hv⟩:=qq.2 i _ (q0t Gi);rw[q0F,q0t Gi,q0F,he,hv];rfl
   ·rw[q0F,q1I (by rw[qq.1];omega),q0F,q1I (by rw[xj];omega)];rfl
  rw[ea];obtain⟨z9,g3,d3,Z_,NP⟩:=s';obtain rfl:g3=s1.gens:=hm.gens;obtain rfl:d3=s1.drawn:=hm.drawn;obtain rfl:NP=s1.os:=hm.os;subst sF;refine h _ _ (fun b ob e=>?_) (q1z (My sG));have hb:b<s.heap.objs.size:=My e;refine hm.heap b ob ?_ (kp b ob (q0e hb) (qp b ob (qT _ e)));simp only[PD,q0s,q1Z,q5y];exact⟨q0e hb,by show b≠(s.heap.push _).objs.size;rw[q1s];exact q0e (q0W hb)⟩
 have nE:=qp _ _ gL;refine q3n (fun _=>?_) (fun _=>uX ⟨q2h q5N _,key _ _ iL nE (fun b ob _ e=>e)⟩);refine n_ (q3S ?_);refine n_ ?_;show wpAny _ _ (updateSeq s.heap.objs.size (·.push .none) >>= fun _=>updateSeq s.heap.objs.size (·.pop)) _ _ _;refine n_ (q3o nE rfl ?_);have Gj:=q0J (q1d (·.push q0v)) nE rfl;refine q3o (hz:=by seq_fits) Gj rfl ?_;have NQ:=q0J (q1d (·.pop)) Gj rfl
 have z_:∀b ob,b≠s.heap.objs.size->fm.get? b=some ob->((fm.update s.heap.objs.size (q1d (·.push q0v))).update s.heap.objs.size (q1d (·.pop))).get? b=some ob :=
  fun b ob hb e=>(q0P _ _ (q1A hb)).trans ((q0P _ _ (q1A hb)).trans e)
 refine uX ⟨q2h q5N _,key _ _ ?_ NQ z_⟩;obtain⟨slot,it,sl⟩:=iL.it;exact⟨z_ _ _ (q0e lS) iL.set,slot,it.at fun ob e=>z_ _ _ (by rw[z1];exact q1L (q1h _)) e,sl⟩
end
end LJS
namespace L2
open PySem PySem.Spec PyProof.Rows
abbrev Key:=Sum Int Str
noncomputable def sI:Key->Value->Bool
 |.inl k,v=>Value.isInt k v
 |.inr x,v=>q8o x v
noncomputable def Aa(w:World):Key->Int
 |.inl k=>hashInt k
 |.inr x=>hashStr w x
theorem nG:∀{k:Key}{v:Value},sI k v=true->(∃i t,k=q3b i/\v=q1i i t)\/(∃x t,k=q5K x/\v=q5L x t)
 |.inl i,v,h=>by
  obtain⟨t,e⟩:=q6A (k:=i) (v:=v) h;exact .inl ⟨i,t,rfl,e⟩
 |.inr x,v,h=>by
  obtain⟨t,e⟩:=Value.isStrOf_shape (x:=x) (v:=v) h;exact .inr ⟨x,t,rfl,e⟩
theorem NR(i:Int)(t:Tok):sI (.inl i) (.int i t)=true:=by simp[sI,Value.isInt]
theorem NS(x:Str)(t:Tok):sI (.inr x) (.str x t)=true:=by simp[sI,q8o]
theorem NT(a b:Int):decide ((q3b a:Key)=q3b b)=(a==b):=by
 by_cases e:a=b
 ·subst e;simp
 ·have h:¬ (q3b a:Key)=q3b b:=fun q=>e (q7o q)
  rw[q0r h];exact(beq_eq_false_iff_ne.mpr e).symm
theorem NU(a b:Str):decide ((q5K a:Key)=q5K b)=decide (a=b):=by
 by_cases e:a=b
 ·subst e;simp
 ·have h:¬ (q5K a:Key)=q5K b:=fun q=>e (Sum.inr.inj q)
  rw[q0r h,q0r e]
theorem NV(a:Int)(b:Str):decide ((q3b a:Key)=q5K b)=false:=q0r (fun q=>nomatch q)
theorem NW(a:Str)(b:Int):decide ((q5K a:Key)=q3b b)=false:=q0r (fun q=>nomatch q)
noncomputable def g_(prog:Program)(w:World):PySem.KeyKind prog w Key where
 is:=sI
 hash:=Aa w
 inj:=fun v a b ha hb=>by
  rcases nG ha with⟨i,t,rfl,rfl⟩|⟨x,t,rfl,rfl⟩
  ·rcases nG hb with⟨j,u,rfl,e⟩|⟨y,u,rfl,e⟩
   ·injection e with e1 _;rw[e1]
   ·exact nomatch e
  ·rcases nG hb with⟨j,u,rfl,e⟩|⟨y,u,rfl,e⟩
   ·exact nomatch e
   ·injection e with e1 _;rw[e1]
 byValue:=fun k v h=>by
  rcases nG h with⟨i,t,rfl,rfl⟩|⟨x,t,rfl,rfl⟩<;>rfl
 pyHash:=fun hv h=>by
  rcases nG hv with⟨i,t,rfl,rfl⟩|⟨x,t,rfl,rfl⟩
  ·exact wpAny_pyHash_int h
  ·exact wpAny_pyHash_str h
 eqBool:=fun hu hv h=>by
  rcases nG hu with⟨i,t,rfl,rfl⟩|⟨x,t,rfl,rfl⟩
  ·rcases nG hv with⟨j,u,rfl,rfl⟩|⟨y,u,rfl,rfl⟩
   ·rw[NT] at h;exact q4W h
   ·rw[NV] at h;exact q4k i t y u _ _ _ _ h
  ·rcases nG hv with⟨j,u,rfl,rfl⟩|⟨y,u,rfl,rfl⟩
   ·rw[NW] at h;exact q4l x t j u _ _ _ _ h
   ·rw[NU] at h;exact wpAny_eqBool_str h
 «strs» := fun k x t v h=>by
  rcases nG h with⟨i,u,rfl,e⟩|⟨y,u,rfl,e⟩
  ·exact nomatch e
  ·injection e with e1 _
   subst e1;cases v<;>rfl
theorem NX(prog:Program)(w:World)(i:Int)(t:Tok):(g_ prog w).is (.inl i) (.int i t)=true:=NR i t
theorem NY(prog:Program)(w:World)(x:Str)(t:Tok):(g_ prog w).is (.inr x) (.str x t)=true:=NS x t
inductive V where
 |non|bl (b:Bool)|int (i:Int)|str (x:Str)|byt (b:Array UInt8)|flt (b:UInt64)|ref (a:Addr)|ty (n:String)
 deriving DecidableEq
def RelV:V->Value->Prop
 |.non,u=>u=q0v
 |.bl b,u=>u=q2Q b
 |.int i,u=>∃t,u=q1i i t
 |.str x,u=>∃t,u=q5L x t
 |.byt b,u=>∃t,u=Value.bytes b t
 |.flt b,u=>∃t,u=q7p b t
 |.ref a,u=>u=q0C a
 |.ty n,u=>u=q2q n
abbrev Vals:List V->List Value->Prop:=Paired RelV
theorem Vals.length{xs:List V}{us:List Value}(r:Vals xs us):xs.length=us.length:=q6b r
theorem Vals.get:∀{xs:List V}{us:List Value}{i:Nat}{x:V},Vals xs us->xs[i]?=some x->∃u,us[i]?=some u/\RelV x u
 |_,_,_,_,.nil,e=>by simp at e
 |_,_,0,_,.cons r _,e=>by simp at e;subst e;exact⟨_,rfl,r⟩
 |_,_,i+1,x,.cons _ t,e=>by
  obtain⟨u,h1,h2⟩:=Vals.get (i:=i) (x:=x) t (by simpa using e);exact⟨u,by simpa using h1,h2⟩
theorem Vals.set{x:V}{u:Value}(r:RelV x u):∀{xs:List V}{us:List Value}(i:Nat),Vals xs us->Vals (xs.set i x) (us.set i u)
 |_,_,_,.nil=>.nil
 |_,_,0,.cons _ t=>.cons r t
 |_,_,i+1,.cons q t=>.cons q (Vals.set r i t)
theorem Vals.append:∀{xs ys:List V}{us ws:List Value},Vals xs us->Vals ys ws->Vals (xs++ys) (us++ws)
 |_,_,_,_,.nil,s=>s
 |_,_,_,_,.cons r t,s=>.cons r (Vals.append t s)
theorem Vals.take:∀{xs:List V}{us:List Value}(n:Nat),Vals xs us->Vals (xs.take n) (us.take n)
 |_,_,0,_=>.nil
 |_,_,_+1,.nil=>.nil
 |_,_,n+1,.cons r t=>.cons r (Vals.take n t)
theorem Vals.drop:∀{xs:List V}{us:List Value}(n:Nat),Vals xs us->Vals (xs.drop n) (us.drop n)
 |_,_,0,r=>r
 |_,_,_+1,.nil=>.nil
 |_,_,n+1,.cons _ t=>Vals.drop n t
def fq:Option V->Option Value->Prop
 |some v,some u=>RelV v u
 |none,none=>True
 |_,_=>False
def KV{κ:Type}:List (κ×V)->List (κ×Value)->Prop:=Paired fun(p:κ×V) (q:κ×Value)=>p.1=q.1/\RelV p.2 q.2
noncomputable def kV:Key->V
 |.inl i=>.int i
 |.inr x=>.str x
inductive HO where
 |lst (xs:List V)
 |tup (xs:List V)
 |dK (kvs:List (Key×V))|dT (kvs:List (List Key×V))
 |set (S:Int->Bool) (n:Nat)
 |ins (C dx:Addr) (fs:List (Str×V))
 |own (x:Addr)
 |xd (fs:List (Str×V))
 |met (f x:Addr)
 |rng (lo hi:Int)
 |frz (o:Obj) (u:HO)
 |tbl (ps:Array Value)
 |ext (φ:Heap->Prop)
abbrev Hp:=Addr->Option HO
noncomputable def upd(H:Hp)(a:Addr)(o:HO):Hp:=fun b=>if b=a then some o else H b
theorem a_{H:Hp}{a:Addr}{o:HO}:upd H a o a=some o:=by unfold upd;rw[q0f rfl]
theorem av{H:Hp}{a b:Addr}{o:HO}(h:b≠a):upd H a o b=H b:=by unfold upd;rw[q0a h]
theorem pG{H:Hp}{a b:Addr}{o u:HO}(h:H a=some o)(h':H b=some u)(d:o≠u):a≠b:=by
 intro e;subst e;rw[h] at h';exact d (q0E h')
theorem bH{H:Hp}{a b:Addr}{o:HO}(h:H a=some o)(h':H b=none):a≠b:=by
 intro e;subst e;rw[h] at h';cases h'
section
variable(P:Program)(w:World)
def az(H:Hp)(h:Heap)(a:Addr):HO->Prop
 |.lst xs=>xs.length<=sizeLine/\∃(ah:List Value)(n:Nat),Vals xs ah/\h.get? a=some {cls:=.type "list",data:=.seq ah.toArray n}
 |.tup xs=>xs.length<=sizeLine/\∃ah:List Value,Vals xs ah/\IsTup h a ah.toArray
 |.dK kvs=>kvs.length<=sizeLine/\(a==sysModules)=false/\∃vs,KV kvs vs/\h.DictOf (g_ P w) a vs
 |.dT kvs=>kvs.length<=sizeLine/\(a==sysModules)=false/\∃xs:List (List Key×Addr×Value),
   Paired (fun(p:List Key×V) (q:List Key×Addr×Value)=>p.1=q.1/\H q.2.1=some (.tup (p.1.map kV))/\RelV p.2 q.2.2) kvs xs ∧
   ∃o es ep,h.get? a=some o/\o.ExactDict/\o.data=.dict es ep/\es.toList=xs.map (entryOfKey (tupleKind (g_ P w)))/\(xs.map (·.1)).Nodup
 |.set S n=>h.SetOf (intKind P w) a S n
 |.ins C dx fs=>H dx=some (.own a)/\fs.length<=1000/\dx≠a/\h.get? a=some (q5h C dx) ∧
   ∃mA,h.Ns1 dx mA/\(∀f,fq (fs.lookup f) (mA f))/\q85 mA (fs.map (·.1))
 |.own _=>∃o,h.get? a=some o
 |.xd fs=>∃mA,h.Ns1 a mA/\∀f,fq (fs.lookup f) (mA f)
 |.rng lo hi=>∃t u v,h.get? a=some {cls:=.type "range",data:=.fields #[.int lo t,.int hi u,.int 1 v]}
 |.frz o u=>h.get? a=some o/\az H h a u
 |.tbl ps=>h.get? a=some {cls:=.none,data:=.fields ps}
 |.met f x=>h.get? a=some (q4B (.ref f) (.ref x))
 |.ext φ=>φ h/\(∃o,h.get? a=some o)/\∀h1 h2:Heap,φ h1->(∀o,h1.get? a=some o->h2.get? a=some o)->φ h2
def cn(H:Hp)(h:Heap):Prop:=∀a o,H a=some o->az P w H h a o
end
section
variable{P:Program}{w:World}{H H':Hp}{h h':Heap}{a:Addr}{o:HO}
theorem az.lt(x:az P w H h a o):a<h.objs.size:=by
 cases o with
 |lst xs=>obtain⟨_,_,_,_,e⟩:=x;exact My e
 |tup xs=>obtain⟨_,_,_,p⟩:=x;exact p.lt
 |dK kvs=>obtain⟨_,_,_,_,o,_,_,e,_⟩:=x;exact My e
 |dT kvs=>obtain⟨_,_,_,_,o,_,_,e,_⟩:=x;exact My e
 |set S n=>obtain⟨o,_,_,_,e,_⟩:=x;exact My e
 |ins C dx fs=>obtain⟨_,_,_,e,_⟩:=x;exact My e
 |own y=>obtain⟨_,e⟩:=x;exact My e
 |xd fs=>obtain⟨_,⟨_,_,_,e,_⟩,_⟩:=x;exact My e
 |rng lo hi=>obtain⟨_,_,_,e⟩:=x;exact My e
 |frz ob u=>obtain⟨e,_⟩:=x;exact My e
 |tbl ps=>exact My (show h.get? a=some _ from x)
 |met f y=>exact My (show h.get? a=some _ from x)
 |ext φ=>obtain⟨_,⟨_,e⟩,_⟩:=x;exact My e
theorem Paired.qr{α β:Type}{F G:α->β->Prop}:∀{l₁:List α}{l₂:List β},Paired F l₁ l₂->(∀a b,F a b->G a b)->Paired G l₁ l₂
 |_,_,.nil,_=>.nil
 |_,_,.cons r t,f=>.cons (f _ _ r) (Paired.qr t f)
theorem az.dm(x:az P w H h a o)(k:∀b u,(b=a\/H b=some (.own a))->h.get? b=some u->h'.get? b=some u)
  (ho:∀b,H b=some (.own a)->H' b=some (.own a)) (ht:∀b xs,H b=some (.tup xs)->H' b=some (.tup xs)):az P w H' h' a o:=by
 induction o with
 |lst xs=>obtain⟨z,ah,n,r,e⟩:=x;exact⟨z,ah,n,r,k _ _ (.inl rfl) e⟩
 |tup xs=>obtain⟨z,ah,r,ob,e,c⟩:=x;exact⟨z,ah,r,ob,k _ _ (.inl rfl) e,c⟩
 |dK kvs=>obtain⟨z,y,vs,r,ob,es,ep,e,c⟩:=x;exact⟨z,y,vs,r,ob,es,ep,k _ _ (.inl rfl) e,c⟩
 |dT kvs =>
  obtain⟨z,y,xs,r,ob,es,ep,e,c⟩:=x;exact⟨z,y,xs,Paired.qr r fun p q z=>⟨z.1,ht _ _ z.2.1,z.2.2⟩,ob,es,ep,k _ _ (.inl rfl) e,c⟩
 |set S n=>obtain⟨ob,es,ep,t,e,c⟩:=x;exact⟨ob,es,ep,t,k _ _ (.inl rfl) e,c⟩
 |ins C dx fs =>
  obtain⟨d,z,ne,e,mA,⟨od,es,ep,e2,c⟩,r⟩:=x;exact⟨ho _ d,z,ne,k _ _ (.inl rfl) e,mA,⟨od,es,ep,k _ _ (.inr d) e2,c⟩,r⟩
 |own y=>obtain⟨ob,e⟩:=x;exact⟨ob,k _ _ (.inl rfl) e⟩
 |xd fs=>obtain⟨mA,⟨od,es,ep,e,c⟩,r⟩:=x;exact⟨mA,⟨od,es,ep,k _ _ (.inl rfl) e,c⟩,r⟩
 |rng lo hi=>obtain⟨t,u,v,e⟩:=x;exact⟨t,u,v,k _ _ (.inl rfl) e⟩
 |frz ob u ih=>obtain⟨e,q⟩:=x;exact⟨k _ _ (.inl rfl) e,ih q⟩
 |tbl ps =>
  have e:h.get? a=some {cls:=.none,data:=.fields ps}:=x;show h'.get? a=some {cls:=.none,data:=.fields ps};exact k a _ (.inl rfl) e
 |met f y =>
  have e:h.get? a=some (q4B (.ref f) (.ref y)):=x;show h'.get? a=some (q4B (.ref f) (.ref y));exact k a _ (.inl rfl) e
 |ext φ=>obtain⟨p,⟨o,e⟩,st⟩:=x;exact⟨st _ _ p fun o q=>k _ _ (.inl rfl) q,⟨o,k _ _ (.inl rfl) e⟩,st⟩
theorem cn.lt(x:cn P w H h)(e:H a=some o):a<h.objs.size:=(x a o e).lt
theorem cn.fresh(x:cn P w H h)(e:h.objs.size<=a):H a=none:=by
 cases q:H a with
 |none=>rfl
 |some u=>exact absurd (q0l (x.lt q) e) (q13 _)
theorem cn.kept(x:cn P w H h)(k:∀b u,h.get? b=some u->h'.get? b=some u):cn P w H h':=fun a o e =>
 (x a o e).dm (fun b u _ q=>k b u q) (fun _ q=>q) fun _ _ q=>q
theorem cn.laid(x:cn P w H h)(k:∀b u,h.get? b=some u->h'.get? b=some u)(hp:h.objs.size<=a)(new:az P w (upd H a o) h' a o):cn P w (upd H a o) h':=fun b u e=>by
 have hn:=x.fresh hp
 by_cases hb:b=a
 ·subst hb;rw[a_] at e;cases e;exact new
 ·rw[av hb] at e
  exact(x b u e).dm (fun c v _ q=>k c v q) (fun c q=>by rw[av (bH q hn)];exact q) fun c xs q=>by rw[av (bH q hn)];exact q
end
def Rd(H:Hp)(a:Addr)(u:HO):Prop:=H a=some u\/∃o,H a=some (.frz o u)
theorem Rd.ok{P:Program}{w:World}{H:Hp}{h:Heap}{a:Addr}{u:HO}(r:Rd H a u)(x:cn P w H h):az P w H h a u:=by
 rcases r with r|⟨o,r⟩
 ·exact x a u r
 ·obtain⟨_,q⟩:=x a _ r
  exact q
def qt:Option HO->Prop
 |some (.lst _)=>True
 |some (.dK _)=>True
 |some (.dT _)=>True
 |some (.set _ _)=>True
 |some (.ins _ _ _)=>True
 |some (.ext _)=>True
 |_=>False
section
variable{P:Program}{w:World}{H:Hp}{h h':Heap}{x e:Addr}{o':HO}
theorem cn.write(ok:cn P w H h)(mu:qt (H x))(he:e=x\/H e=some (.own x))(k:∀b u,b≠e->h.get? b=some u->h'.get? b=some u)(mz:∃u,h'.get? e=some u)
  (new:az P w (upd H x o') h' x o'):cn P w (upd H x o') h':=fun b u q=>by
 have uv:∀c y,H c=some (.own y)->c≠x:=fun c y r z=>by subst z;rw[r] at mu;exact mu
 have Ab:∀c xs,H c=some (.tup xs)->c≠x:=fun c xs r z=>by subst z;rw[r] at mu;exact mu
 by_cases hb:b=x
 ·subst hb;rw[a_] at q;cases q;exact new
 ·rw[av hb] at q
  by_cases qu:b=e
  ·have q':H b=some (.own x):=by
    rcases he with z|z
    ·exact absurd (qu.trans z) hb
    ·rw[qu];exact z
   rw[q] at q';cases q';obtain⟨v,hv⟩:=mz;exact⟨v,by rw[qu];exact hv⟩
  ·refine(ok b u q).dm (fun c v hc r=>k c v ?_ r) (fun c r=>by rw[av (uv c b r)];exact r) fun c xs r=>by rw[av (Ab c xs r)];exact r
   rcases hc with rfl|hc
   ·exact qu
   ·rintro rfl
    rcases he with z|z
    ·exact uv c b hc z
    ·rw[hc] at z;cases z;exact hb rfl
end
structure Un(fs ex:List Addr)(H H':Hp)(h h':Heap):Prop where
 keep:∀b o,h.get? b=some o->H b=none->b∉fs->b∉ex->h'.get? b=some o
 slot:∀b o,h.get? b=some o->H b=none->b∈fs->b∉ex->∃sl,h'.get? b=some {o with slots:=sl}
 free:∀b o,h.get? b=some o->H b=none->b∉ex->H' b=none
 there:∀b o,h.get? b=some o->b∉ex->∃o',h'.get? b=some o'
 cC:∀b xs,H b=some (.tup xs)->H' b=some (.tup xs)
 cP:∀b o u,H b=some (.frz o u)->H' b=some (.frz o u)
 dq:∀b ps,H b=some (.tbl ps)->∃more,H' b=some (.tbl (ps++more))
section
variable{fs NZ ex ex':List Addr}{H H1 H2:Hp}{h h1 h2 h':Heap}{a x e:Addr}{o:HO}
theorem Un.any(u:Un fs ex H H1 h h1){b:Addr}{ob:Obj}(q:h.get? b=some ob)(n:H b=none)(hx:b∉ex):∃sl,h1.get? b=some {ob with slots:=sl}:=by
 by_cases hb:b∈fs
 ·exact u.slot b ob q n hb hx
 ·exact⟨ob.slots,u.keep b ob q n hb hx⟩
theorem Un.kept(k:∀b u,h.get? b=some u->h'.get? b=some u):Un fs ex H H h h' :=
 ⟨fun b ob q _ _ _=>k b ob q,fun b ob q _ _ _=>⟨ob.slots,k b ob q⟩,fun _ _ _ n _=>n,fun b ob q _=>⟨ob,k b ob q⟩,fun _ _ q=>q,fun _ _ _ q=>q,fun _ ps q=>⟨#[],by rw[q];simp⟩⟩
theorem Un.refl:Un fs ex H H h h:=Un.kept fun _ _ q=>q
theorem Un.laid(k:∀b u,h.get? b=some u->h'.get? b=some u)(hp:h.objs.size<=a)(hn:H a=none):Un fs ex H (upd H a o) h h' where
 keep:=fun b u q _ _ _=>k b u q
 slot:=fun b u q _ _ _=>⟨u.slots,k b u q⟩
 free:=fun b u q n _=>by rw[av (q0e (q0l (My q) hp))];exact n
 there:=fun b u q _=>⟨u,k b u q⟩
 cC:=fun b xs q=>by rw[av (bH q hn)];exact q
 cP:=fun b u xs q=>by rw[av (bH q hn)];exact q
 dq:=fun b ps q=>⟨#[],by rw[av (bH q hn),q];simp⟩
theorem Un.write(mu:qt (H x))(he:e=x\/H e=some (.own x))(k:∀b u,b≠e->h.get? b=some u->h'.get? b=some u)(mz:∃u,h'.get? e=some u):Un fs ex H (upd H x o) h h':=by
 have hx:∀b,H b=none->b≠x:=fun b n z=>by subst z;rw[n] at mu;exact mu
 have hb:∀b,H b=none->b≠e:=fun b n z=>by
  subst z;rcases he with r|r
  ·exact hx b n r
  ·rw[n] at r;cases r
 have hm:∀b u,H b=some u->¬ qt (some u)->b≠x:=fun b u q nm z=>by subst z;rw[q] at mu;exact nm mu
 refine⟨fun b u q n _ _=>k b u (hb b n) q,fun b u q n _ _=>⟨u.slots,k b u (hb b n) q⟩,fun b u q n _=>by rw[av (hx b n)];exact n,fun b u q _=>?_,
  fun b xs q=>by rw[av (hm b _ q fun z=>z)];exact q,fun b u xs q=>by rw[av (hm b _ q fun z=>z)];exact q,fun b ps q=>⟨#[],by rw[av (hm b _ q fun z=>z),q];simp⟩⟩
 by_cases qu:b=e
 ·subst qu;exact mz
 ·exact⟨u,k b u qu q⟩
end
noncomputable def xk(h:Heap)(H:Hp):List Addr:=(q0A h.objs.size).filter fun a=>(H a).isSome
noncomputable def fU(h:Heap)(H:Hp):Heap:=PySem.W.hideAll h (xk h H)
theorem N3(h:Heap)(H:Hp):(fU h H).objs.size=h.objs.size:=PySem.W.hideAll_size _ _
theorem N4{h:Heap}{H:Hp}{b:Addr}{o:Obj}(e:h.get? b=some o)(n:H b=none):(fU h H).get? b=some o :=
 PySem.W.hideAll_get _ e fun hm=>by
  have q:(H b).isSome=true:=(q0S.mp hm).2;rw[n] at q;simp at q
theorem N5{h:Heap}{H:Hp}{b:Addr}{o:Obj}(e:(fU h H).get? b=some o):h.get? b=some o/\H b=none:=by
 have e':h.get? b=some o:=PySem.W.of_hideAll (xk h H) e;refine⟨e',?_⟩
 cases q:H b with
 |none=>rfl
 |some x =>
  have hm:b∈xk h H:=q0S.mpr ⟨q0B.mpr (My e'),by simp[q]⟩;have z:(fU h H).get? b=none:=PySem.W.hideAll_none (xk h H) hm;rw[z] at e;cases e
structure Mod(K:xA)(mg:Str->Option Value)(base:Heap):Prop where
 nH:K.In base
 glob:base.Ns mainGlobals mg
 blt:∃mb,base.Ns builtinsNs mb/\∀x:Str,x≠"__name__" -> mb x=bootBuiltins x
 nolimit:base.NoLimit
structure Cx where
 prog:Program
 w:World
 K:xA
 mg:Str->Option Value
 base:Heap
 A:Around
 N:List Str
 s₀:Shared
 H₀:Hp
 env:Env
 outer:List Env
 stack:List Env
 ex:List Addr
 fn:Str->Bool
 calm:Bool
 pn:List (Addr×Obj)
 xe:Value->Shared->Prop
noncomputable def d5(l:List Env):List Addr:=l.filterMap (·.frame)
noncomputable abbrev Cx.fs(X:Cx):List Addr:=d5 X.outer
def sJ(sc:Scope)(x:Str):Prop:=sc.names.lookup x=some .local\/sc.names.lookup x=some .cell\/sc.names.lookup x=some .free
def Loc(sc:Scope)(x:Str):Prop:=sc.names.lookup x=some .local\/sc.names.lookup x=some .cell
abbrev bA(x:Str):Prop:=(x==("__debug__" : Str))=false
abbrev dG(X:Cx)(x:Str):Prop:=X.fn x=true\/X.env.scope.names.lookup x=some .local
abbrev cQ(X:Cx)(e:Expr)(es:List Expr):Prop:=starEach (e::es) X.env=(false,eval e X.env)::starEach es X.env
abbrev dH(X:Cx)(p:Pos)(es:List Expr):Prop:=(backTo p (starEach es X.env)).any (·.1)=false
abbrev aq:=List (Addr×Obj)
def Look(env:Env)(h:Heap)(m:Str->Option Value)(x:Str)(u:Value):Prop :=
 (env.kindOf x=some .local/\m x=some u)\/((env.kindOf x=some .cell\/env.kindOf x=some .free)/\∃c,env.cells.lookup x=some c/\h.IsCell c (some u))
structure Cx.Ok(X:Cx):Prop where
 mod:Mod X.K X.mg X.base
 kind:X.env.scope.kind=.function
 glob:X.env.globals=mainGlobals
 blt:X.env.builtins=builtinsNs
 above:X.s₀.heap.objs.size<=X.env.locals
 inj:∀x y c,X.env.cells.lookup x=some c->X.env.cells.lookup y=some c->x=y
 has:∀x,(X.env.kindOf x=some .cell\/X.env.kindOf x=some .free)->∃c,X.env.cells.lookup x=some c
 pH:∀x c,X.fn x=true->X.env.cells.lookup x=some c->X.s₀.heap.objs.size<=c
 hd:X.calm=true->X.A.handled=none
 frames:X.A.frames=some X.stack
 qv:X.stack=X.outer\/(X.stack=X.env::X.outer/\X.env.frame=some X.env.locals)
 uw:∀b∈X.ex,b≠X.env.locals/\∀x c,X.env.cells.lookup x=some c->c≠b
 bs:∀b o,X.base.get? b=some o->X.s₀.heap.get? b=some o/\X.H₀ b=none
 j7:X.base.objs.size<=X.s₀.heap.objs.size
 hJ:∀b o,X.base.get? b=some o->b∉X.ex
 iM:∀b∈X.ex,b∉X.fs
 cR:X.s₀.heap.FunFrames X.base X.outer
 kJ:∀b∈X.fs,X.H₀ b=none
structure Inv(X:Cx)(pins:aq)(σ:List (Option V))(H:Hp)(s:Shared):Prop where
 ok:X.Ok
 os:s.os=X.s₀.os
 bare:AllBare s.gens
 base:Un X.fs X.ex X.H₀ H X.s₀.heap s.heap
 loc:∃m,s.heap.Ns X.env.locals m/\∀(i:Nat)(x:Str)(v:V),X.N[i]?=some x->σ[i]?=some (some v)->sJ X.env.scope x->∃u,RelV v u/\Look X.env s.heap m x u
 cell:∀x c,X.env.cells.lookup x=some c->∃v,s.heap.IsCell c v
 free:H X.env.locals=none
 bx:∀x c,X.env.cells.lookup x=some c->H c=none
 pin:∀p∈X.pn++pins,s.heap.get? p.1=some p.2/\H p.1=none/\p.1≠X.env.locals/\p.1∉X.fs/\∀v,p.2.data≠.cell v
 aD:cn X.prog X.w H s.heap
 len:σ.length=X.N.length
section
variable{X:Cx}{pins:aq}{σ:List (Option V)}{H H':Hp}{s:Shared}{h':Heap}
theorem Cx.Ok.Ac(ok:X.Ok){b:Addr}{o:Obj}(e:X.base.get? b=some o):b∉X.fs:=fun hb=>by
 have:=(ok.cR.mem hb).1;rw[e] at this;cases this
theorem Inv.bs(I:Inv X pins σ H s):∀b o,X.base.get? b=some o->s.heap.get? b=some o/\H b=none:=fun b o e =>
 ⟨I.base.keep b o (I.ok.bs b o e).1 (I.ok.bs b o e).2 (I.ok.Ac e) (I.ok.hJ b o e),I.base.free b o (I.ok.bs b o e).1 (I.ok.bs b o e).2 (I.ok.hJ b o e)⟩
theorem Inv.bk(I:Inv X pins σ H s):∀b o,X.base.get? b=some o->s.heap.get? b=some o:=fun b o e=>(I.bs b o e).1
theorem Inv.mod(I:Inv X pins σ H s):Mod X.K X.mg X.base:=I.ok.mod
theorem Inv.d6(I:Inv X pins σ H s):X.K.In s.heap:=I.ok.mod.nH.keeps I.bk
theorem Inv.nolimit(I:Inv X pins σ H s):s.heap.NoLimit:=I.ok.mod.nolimit.keeps I.bk
theorem Inv.lt(I:Inv X pins σ H s):X.env.locals<s.heap.objs.size:=let⟨_,hn,_⟩:=I.loc;hn.lt
theorem Inv.sz(I:Inv X pins σ H s):X.s₀.heap.objs.size<=s.heap.objs.size:=q02 I.ok.above (q1z I.lt)
theorem Inv.Ad(I:Inv X pins σ H s){a:Addr}(h:s.heap.objs.size<=a):a∉X.fs:=fun hb=>by
 obtain⟨_,o,ho,_⟩:=I.ok.cR.mem hb;exact absurd (q0l (My ho) (q02 I.sz h)) (q13 _)
theorem Inv.nJ(I:Inv X pins σ H s):∀x c,X.env.cells.lookup x=some c->c≠X.env.locals:=fun x c e z=>by
 obtain⟨v,o,ho,hd⟩:=I.cell x c e;obtain⟨m,⟨o',es,ep,kK,ux,_⟩,_⟩:=I.loc;rw[z,kK] at ho;cases ho;rw[ux] at hd;cases hd
theorem Inv.cR(I:Inv X pins σ H s):s.heap.FunFrames X.base X.outer:=by
 have all:∀(l:List Env),(∀b∈d5 l,b∈X.fs)->X.s₀.heap.FunFrames X.base l->s.heap.FunFrames X.base l:=by
  intro l
  induction l with
  |nil=>intro _ _;trivial
  |cons env r ih =>
   intro hs hl;obtain⟨hk,⟨L,o,hf,hn,ho,hd⟩,hr⟩:=hl;have hL:L∈X.fs:=hs L (by unfold d5;rw[q2D,hf];exact PE);obtain⟨sl,e⟩:=I.base.slot L o ho (I.ok.kJ L hL) hL fun z=>I.ok.iM L z hL;exact⟨hk,⟨L,_,hf,hn,e,hd⟩,ih (fun b hb=>hs b (by unfold d5;rw[q2D,hf];exact q0c _ hb)) hr⟩
 exact all X.outer (fun _ hb=>hb) I.ok.cR
theorem Inv.stack(I:Inv X pins σ H s):s.heap.FunFrames X.base X.stack:=by
 rcases I.ok.qv with e|⟨e,hf⟩
 ·rw[e];exact I.cR
 ·rw[e]
  obtain⟨m,hn,_⟩:=I.loc;refine .cons (by rw[I.ok.kind];decide) hf hn ?_ I.cR;exact q27 (q02 I.ok.j7 I.ok.above)
theorem Inv.gs(I:Inv X pins σ H s):∀b∈d5 X.stack,b∈X.env.locals::X.fs:=fun b hb=>by
 rcases I.ok.qv with e|⟨e,hf⟩
 ·rw[e] at hb;exact q0c _ hb
 ·rw[e] at hb
  unfold d5 at hb;rw[q2D,hf] at hb;exact hb
theorem Inv.dI(I:Inv X pins σ H s):∀b∈d5 X.stack,H b=none:=fun b hb=>by
 rcases PD.mp (I.gs b hb) with e|hb
 ·rw[e];exact I.free
 ·obtain⟨_,o,ho,_⟩:=I.ok.cR.mem hb
  exact I.base.free b o ho (I.ok.kJ b hb) fun z=>I.ok.iM b z hb
theorem Inv.step{g':Array GenState}{t':Nat}{d':Drawn}{ch:List Addr}(I:Inv X pins σ H s)
  (mB:∀b∈ch,(b∈X.ex\/X.s₀.heap.objs.size<=b)/\b≠X.env.locals/\(∀x c,X.env.cells.lookup x=some c->c≠b)/\∀p∈X.pn++pins,p.1≠b)
  (keep:∀b o,b≠X.env.locals->b∉X.fs->b∉ch->s.heap.get? b=some o->H b=none->h'.get? b=some o)
  (slot:∀b o,b≠X.env.locals->b∈X.fs->b∉ch->s.heap.get? b=some o->H b=none->∃sl,h'.get? b=some {o with slots:=sl}) (free:∀b o,b∉ch->s.heap.get? b=some o->H b=none->H' b=none)
  (there:∀b o,b∉ch->s.heap.get? b=some o->∃o',h'.get? b=some o')
  (cC:∀b xs,H b=some (.tup xs)->H' b=some (.tup xs)) (cP:∀b o u,H b=some (.frz o u)->H' b=some (.frz o u)) (dq:∀b ps,H b=some (.tbl ps)->∃more,H' b=some (.tbl (ps++more)))
  (ns:∀m,s.heap.Ns X.env.locals m->h'.Ns X.env.locals m) (aD:cn X.prog X.w H' h') (hg:AllBare g') :
  Inv X pins σ H' {s with heap:=h',gens:=g',drawn:=d',toks:=t'}:=by
 have Gk:∀b o,X.s₀.heap.get? b=some o->b≠X.env.locals:=fun b o e=>q0e (q0l (My e) I.ok.above)
 have xm:∀b o,X.s₀.heap.get? b=some o->b∉X.ex->b∉ch:=fun b o e hx hb=>by
  rcases(mB b hb).1 with z|z
  ·exact hx z
  ·exact absurd (q0l (My e) z) (q13 _)
 have cellK:∀x c,X.env.cells.lookup x=some c->∀v,s.heap.IsCell c v->h'.IsCell c v:=fun x c e v ⟨o,ho,hd⟩=>by
  have kM:c∉ch:=fun z=>(mB c z).2.2.1 x c e rfl
  by_cases hc:c∈X.fs
  ·obtain⟨sl,q⟩:=slot c o (I.nJ x c e) hc kM ho (I.bx x c e)
   exact⟨_,q,hd⟩
  ·exact⟨o,keep c o (I.nJ x c e) hc kM ho (I.bx x c e),hd⟩
 refine⟨I.ok,I.os,hg,⟨fun b o e n hb hx=>?_,fun b o e n hb hx=>?_,fun b o e n hx=>?_,fun b o e hx=>?_,fun b xs e=>cC b xs (I.base.cC b xs e),fun b o xs e=>cP b o xs (I.base.cP b o xs e),fun b ps e=>?_⟩,?_,fun x c e=>?_,?_,fun x c e=>?_,fun p hp=>?_,aD,I.len⟩
 ·exact keep b o (Gk b o e) hb (xm b o e hx) (I.base.keep b o e n hb hx) (I.base.free b o e n hx)
 ·obtain⟨sl,e1⟩:=I.base.slot b o e n hb hx
  obtain⟨mC,e2⟩:=slot b _ (Gk b o e) hb (xm b o e hx) e1 (I.base.free b o e n hx);exact⟨mC,e2⟩
 ·obtain⟨o',e1⟩:=I.base.there b o e hx
  exact free b o' (xm b o e hx) e1 (I.base.free b o e n hx)
 ·obtain⟨o',e1⟩:=I.base.there b o e hx
  exact there b o' (xm b o e hx) e1
 ·obtain⟨m1,e1⟩:=I.base.dq b ps e
  obtain⟨m2,e2⟩:=dq b _ e1;exact⟨m1++m2,by rw[e2,Array.append_assoc]⟩
 ·obtain⟨m,hn,hl⟩:=I.loc
  refine⟨m,ns m hn,fun i x v e1 e2 e3=>?_⟩;obtain⟨u,r,l⟩:=hl i x v e1 e2 e3;refine⟨u,r,?_⟩;rcases l with l|⟨k,c,e,z⟩
  ·exact .inl l
  ·exact .inr ⟨k,c,e,cellK x c e _ z⟩
 ·obtain⟨v,z⟩:=I.cell x c e
  exact⟨v,cellK x c e v z⟩
 ·obtain⟨m,⟨o,_,_,ho,_⟩,_⟩:=I.loc
  exact free _ o (fun z=>(mB _ z).2.1 rfl) ho I.free
 ·obtain⟨v,o,ho,hd⟩:=I.cell x c e
  exact free c o (fun z=>(mB c z).2.2.1 x c e rfl) ho (I.bx x c e)
 ·obtain⟨e,n,ne,nf,d⟩:=I.pin p hp
  have kM:p.1∉ch:=fun z=>(mB p.1 z).2.2.2 p hp rfl;exact⟨keep p.1 p.2 ne nf kM e n,free p.1 p.2 kM e n,ne,nf,d⟩
theorem Inv.un{t':Nat}(I:Inv X pins σ H s)(u:Un X.fs [] H H' s.heap h')(aD:cn X.prog X.w H' h'):Inv X pins σ H' {s with heap:=h',toks:=t'}:=by
 obtain⟨m,⟨o,es,ep,ho,r⟩,_⟩:=id I.loc;obtain⟨sl,hL⟩:=u.any ho I.free (by simp)
 exact I.step (g':=s.gens) (d':=s.drawn) (ch:=[]) (fun _ z=>nomatch z) (fun b o _ hb _ e n=>u.keep b o e n hb (by simp)) (fun b o _ hb _ e n=>u.slot b o e n hb (by simp)) (fun b o _ e n=>u.free b o e n (by simp)) (fun b o _ e=>u.there b o e (by simp)) u.cC u.cP u.dq (fun m' hm=>by
  obtain⟨o',Ae,Af,kK,r'⟩:=hm;rw[ho] at kK;cases kK
  exact⟨_,Ae,Af,hL,r'⟩) aD I.bare
theorem Inv.call{g':Array GenState}{t':Nat}{d':Drawn}{ch:List Addr}(I:Inv X pins σ H s)(u:Un (d5 X.stack) ch H H' s.heap h')(aD:cn X.prog X.w H' h')(hg:AllBare g')
  (mB:∀b∈ch,(b∈X.ex\/X.s₀.heap.objs.size<=b)/\b≠X.env.locals/\(∀x c,X.env.cells.lookup x=some c->c≠b)/\∀p∈X.pn++pins,p.1≠b) :
  Inv X pins σ H' {s with heap:=h',gens:=g',drawn:=d',toks:=t'}:=by
 obtain⟨m,⟨o,es,ep,ho,r⟩,_⟩:=id I.loc;obtain⟨sl,hL⟩:=u.any ho I.free fun z=>(mB _ z).2.1 rfl
 exact I.step (ch:=ch) mB (fun b o hL hb hc e n=>u.keep b o e n (fun z=>(PD.mp (I.gs b z)).elim hL hb) hc) (fun b o _ _ hc e n=>u.any e n hc) (fun b o hc e n=>u.free b o e n hc) (fun b o hc e=>u.there b o e hc) u.cC u.cP u.dq (fun m' hm=>by
  obtain⟨o',Ae,Af,kK,r'⟩:=hm;rw[ho] at kK;cases kK
  exact⟨_,Ae,Af,hL,r'⟩) aD hg
theorem Inv.turned{t':Nat}{it:Addr}(I:Inv X pins σ H s)(k:∀b o,b≠it->s.heap.get? b=some o->h'.get? b=some o)(hn:H it=none)(hL:it≠X.env.locals)
  (h1:it∈X.ex\/X.s₀.heap.objs.size<=it) (h2:∀x c,X.env.cells.lookup x=some c->c≠it) (h3:∀p∈X.pn++pins,p.1≠it):Inv X pins σ H {s with heap:=h',toks:=t'}:=by
 have Gm:∀b u,H b=some u->b≠it:=fun b u e z=>by rw[z,hn] at e;cases e
 refine I.step (g':=s.gens) (d':=s.drawn) (ch:=[it]) (fun b hb=>?_) (fun b o _ _ hc e _=>k b o (fun z=>hc (by simp[z])) e) (fun b o _ _ hc e _=>⟨o.slots,k b o (fun z=>hc (by simp[z])) e⟩) (fun _ _ _ _ n=>n)
  (fun b o hc e=>⟨o,k b o (fun z=>hc (by simp[z])) e⟩) (fun _ _ e=>e) (fun _ _ _ e=>e) (fun b ps e=>⟨#[],by rw[e];simp⟩) (fun m hm=>?_) (fun b u e=>?_) I.bare
 ·have e:b=it:=by simpa using hb
  subst e;exact⟨h1,hL,h2,h3⟩
 ·obtain⟨o,es,ep,ho,r⟩:=hm
  exact⟨o,es,ep,k _ o (q1A hL) ho,r⟩
 ·refine(I.aD b u e).dm (fun c v hc q=>k c v ?_ q) (fun _ q=>q) fun _ _ q=>q
  rcases hc with z|z
  ·rw[z];exact Gm b u e
  ·exact Gm c _ z
theorem Inv.tok(I:Inv X pins σ H s)(t:Nat):Inv X pins σ H {s with toks:=t}:=I.un (h':=s.heap) (t':=t) Un.refl I.aD
theorem Inv.kept{t':Nat}(I:Inv X pins σ H s)(k:∀b u,s.heap.get? b=some u->h'.get? b=some u):Inv X pins σ H {s with heap:=h',toks:=t'}:=I.un (Un.kept k) (I.aD.kept k)
theorem Inv.laid{a:Addr}{o:HO}{t':Nat}(I:Inv X pins σ H s)(k:∀b u,s.heap.get? b=some u->h'.get? b=some u)(hp:s.heap.objs.size<=a)(new:az X.prog X.w (upd H a o) h' a o):
  Inv X pins σ (upd H a o) {s with heap:=h',toks:=t'}:=I.un (Un.laid k hp (I.aD.fresh hp)) (I.aD.laid k hp new)
theorem Inv.write{x e:Addr}{o:HO}{t':Nat}(I:Inv X pins σ H s)(mu:qt (H x))(he:e=x\/H e=some (.own x))(k:∀b u,b≠e->s.heap.get? b=some u->h'.get? b=some u)(mz:∃u,h'.get? e=some u)
  (new:az X.prog X.w (upd H x o) h' x o):Inv X pins σ (upd H x o) {s with heap:=h',toks:=t'}:=I.un (Un.write mu he k mz) (I.aD.write mu he k mz new)
theorem Inv.e_{cq:aq}(I:Inv X pins σ H s)(h:∀p∈cq,s.heap.get? p.1=some p.2/\H p.1=none/\p.1≠X.env.locals/\p.1∉X.fs/\∀v,p.2.data≠.cell v):Inv X cq σ H s :=
 ⟨I.ok,I.os,I.bare,I.base,I.loc,I.cell,I.free,I.bx,fun p hp=>(q04.mp hp).elim (fun z=>I.pin p (q1C _ z)) (h p),I.aD,I.len⟩
theorem Ag{N:List Str}(hN:N.Nodup){i j:Nat}{x:Str}(a:N[i]?=some x)(b:N[j]?=some x):i=j:=by
 obtain⟨h1,e1⟩:=sR.mp a;obtain⟨h2,e2⟩:=sR.mp b;exact(q2J hN).mp (e1.trans e2.symm)
theorem Gn{M:Model}{A:Around}{E:aH}{i:Nat}{x:Str}{v:V}{u:Value}{Q:Unit->Shared->Prop}(I:Inv X pins σ H s)(hN:X.N.Nodup)(hi:X.N[i]?=some x)(hx:Loc X.env.scope x)(r:RelV v u)
  (h:∀s',Inv X pins (σ.set i (some v)) H s'->(∃a,q2N a s.heap s'.heap/\(a=X.env.locals\/X.env.cells.lookup x=some a))->Q () s') (hf:dG X x:=by first|exact .inl rfl|exact .inr rfl|assumption):wpAny M A (storeName X.env x u) Q E s:=by
 obtain⟨m,hn,hl⟩:=id I.loc;have Ah:(X.env.scope.kind==.class||(X.env.scope.kind==.module&&X.env.locals != X.env.globals))=false:=by rw[I.ok.kind];rfl
 have Gp:i<σ.length:=by rw[I.len];exact(sR.mp hi).1
 have nJ:=I.nJ
 have tracked:∀{a:Addr}{h':Heap},(∃o,s.heap.get? a=some o/\H a=none)->q2N a s.heap h'->cn X.prog X.w H h':=fun{a h'} ha hs b ob e=>by
  obtain⟨_,_,pJ⟩:=ha;refine(I.aD b ob e).dm (fun c w' hc q=>(hs.2 c ?_).trans q) (fun _ q=>q) fun _ _ q=>q;rintro rfl;rcases hc with rfl|hc
  ·rw[pJ] at e;cases e
  ·rw[pJ] at hc;cases hc
 rcases hx with hk|hk
 ·refine wpAny_storeName_local hk hn (fun h' kD hs=>?_) Ah
  obtain⟨oL,_,_,nK,_⟩:=id hn;refine h _ ⟨I.ok,I.os,I.bare,⟨fun b o e n hb hx=>?_,fun b o e n hb hx=>?_,I.base.free,fun b o e hx=>?_,I.base.cC,I.base.cP,I.base.dq⟩,⟨_,kD,fun j y v' e1 e2 e3=>?_⟩,fun y c e=>?_,I.free,I.bx,fun p hp=>?_,tracked ⟨oL,nK,I.free⟩ hs,by simpa using I.len⟩ ⟨_,hs,.inl rfl⟩
  ·exact(hs.2 b (q0e (q0l (My e) I.ok.above))).trans (I.base.keep b o e n hb hx)
  ·obtain⟨sl,e1⟩:=I.base.slot b o e n hb hx
   exact⟨sl,(hs.2 b (q0e (q0l (My e) I.ok.above))).trans e1⟩
  ·obtain⟨o',e1⟩:=I.base.there b o e hx
   exact⟨o',(hs.2 b (q0e (q0l (My e) I.ok.above))).trans e1⟩
  ·by_cases hj:j=i
   ·subst hj
    rw[hi] at e1;cases e1;rw[q0Q Gp] at e2;cases e2
    exact⟨u,r,.inl ⟨hk,by simp⟩⟩
   ·rw[q0V (q1A hj)] at e2
    obtain⟨u',r',q⟩:=hl j y v' e1 e2 e3;refine⟨u',r',?_⟩;rcases q with⟨k,e⟩|⟨k,c,e,z⟩
    ·refine .inl ⟨k,?_⟩
     have:y≠x:=fun e=>hj (Ag hN e1 (e▸hi));simp[this,e]
    ·exact .inr ⟨k,c,e,z.sameBut hs (nJ y c e)⟩
  ·obtain⟨w',z⟩:=I.cell y c e
   exact⟨w',z.sameBut hs (nJ y c e)⟩
  ·obtain⟨e,n,ne,nf,d⟩:=I.pin p hp
   exact⟨(hs.2 p.1 ne).trans e,n,ne,nf,d⟩
 ·have iN:X.fn x=true:=by
   rcases hf with z|z
   ·exact z
   ·rw[z] at hk;cases hk
  obtain⟨c,hc⟩:=I.ok.has x (.inl hk);obtain⟨w',z⟩:=I.cell x c hc;refine wpAny_storeName_cell I.ok.kind hk hc z (fun h' jB hs=>?_);obtain⟨oc,sL,Ai⟩:=id z;refine h {s with heap:=h'} ⟨I.ok,I.os,I.bare,⟨fun b o e n hb hx=>?_,fun b o e n hb hx=>?_,I.base.free,fun b o e hx=>?_,I.base.cC,I.base.cP,I.base.dq⟩,⟨m,hn.sameBut hs (q1A (nJ x c hc)),fun j y v' e1 e2 e3=>?_⟩,fun y c' e=>?_,I.free,I.bx,fun p hp=>?_,tracked ⟨oc,sL,I.bx x c hc⟩ hs,by simpa using I.len⟩ ⟨c,hs,.inr hc⟩
  ·exact(hs.2 b (q0e (q0l (My e) (I.ok.pH x c iN hc)))).trans (I.base.keep b o e n hb hx)
  ·obtain⟨sl,e1⟩:=I.base.slot b o e n hb hx
   exact⟨sl,(hs.2 b (q0e (q0l (My e) (I.ok.pH x c iN hc)))).trans e1⟩
  ·obtain⟨o',e1⟩:=I.base.there b o e hx
   exact⟨o',(hs.2 b (q0e (q0l (My e) (I.ok.pH x c iN hc)))).trans e1⟩
  ·by_cases hj:j=i
   ·subst hj
    rw[hi] at e1;cases e1;rw[q0Q Gp] at e2;cases e2
    exact⟨u,r,.inr ⟨.inl hk,c,hc,jB⟩⟩
   ·rw[q0V (q1A hj)] at e2
    obtain⟨u',r',q⟩:=hl j y v' e1 e2 e3;refine⟨u',r',?_⟩;rcases q with q|⟨k,c',e,z'⟩
    ·exact .inl q
    ·refine .inr ⟨k,c',e,z'.sameBut hs ?_⟩
     rintro rfl;exact hj (Ag hN e1 (I.ok.inj _ _ _ e hc▸hi))
  ·by_cases hcc:c'=c
   ·subst hcc;exact⟨_,jB⟩
   ·obtain⟨w2,z2⟩:=I.cell y c' e
    exact⟨w2,z2.sameBut hs hcc⟩
  ·obtain⟨e,n,ne,nf,d⟩:=I.pin p hp
   refine⟨(hs.2 p.1 ?_).trans e,n,ne,nf,d⟩;intro q;rw[q,sL] at e;have q':oc=p.2:=q0E e;exact d w' (by rw[<-q'];exact Ai)
theorem xn{M:Model}{A:Around}{E:aH}{i:Nat}{x:Str}{v:V}{u:Value}{Q:Unit->Shared->Prop}(I:Inv X pins σ H s)(hN:X.N.Nodup)(hi:X.N[i]?=some x)(hx:Loc X.env.scope x)(r:RelV v u)
  (h:∀s',Inv X pins (σ.set i (some v)) H s'->Q () s') (hf:dG X x:=by first|exact .inl rfl|exact .inr rfl|assumption):wpAny M A (storeName X.env x u) Q E s :=
 Gn I hN hi hx r (fun s' I' _=>h s' I') hf
theorem Inv.jf{s':Shared}{ch:List Addr}(I:Inv X pins σ H s)(ho:s'.os=s.os)(u:Un (d5 X.stack) ch H H' s.heap s'.heap)(aD:cn X.prog X.w H' s'.heap)(hg:AllBare s'.gens)
  (mB:∀b∈ch,(b∈X.ex\/X.s₀.heap.objs.size<=b)/\b≠X.env.locals/\(∀x c,X.env.cells.lookup x=some c->c≠b)/\∀p∈X.pn++pins,p.1≠b):Inv X pins σ H' s':=by
 obtain⟨h',g',d',t',o'⟩:=s';have e:o'=s.os:=ho;subst e;exact I.call (g':=g') (t':=t') (d':=d') u aD hg mB
end
abbrev XK:=Value->Option Addr->Hp->Prop
abbrev St:=List (Option V)
abbrev VK:=V->Hp->Prop
abbrev TE:=St->Hp->VK->Prop
abbrev TT:=St->Hp->(Bool->Hp->Prop)->Prop
abbrev TA:=St->Hp->(List V->Hp->Prop)->Prop
structure Ends where
 nx:St->Hp->Prop
 rt:VK
 bk:St->Hp->Prop:=fun _ _=>False
 ct:St->Hp->Prop:=fun _ _=>False
abbrev TS:=Ends->St->Hp->Prop
def EP(X:Cx)(pins:aq)(σ:St)(Q:VK)(u:Value)(s':Shared):Prop:=∃v H',Inv X pins σ H' s'/\RelV v u/\Q v H'
def TP(X:Cx)(pins:aq)(σ:St)(Q:Bool->Hp->Prop)(b:Bool)(s':Shared):Prop:=∃H',Inv X pins σ H' s'/\Q b H'
def AP(X:Cx)(pins:aq)(σ:St)(Q:List V->Hp->Prop)(us:List Value)(s':Shared):Prop:=∃vs H',Inv X pins σ H' s'/\Vals vs us/\Q vs H'
def SP(X:Cx)(pins:aq)(D:Ends)(f:Flow)(s':Shared):Prop :=
 match f with
 |.next=>∃σ' H',Inv X pins σ' H' s'/\D.nx σ' H'
 |.brk=>∃σ' H',Inv X pins σ' H' s'/\D.bk σ' H'
 |.cont=>∃σ' H',Inv X pins σ' H' s'/\D.ct σ' H'
 |.ret u=>∃v σ' H',Inv X pins σ' H' s'/\RelV v u/\D.rt v H'
structure JE(X:Cx)(e:Expr)(t:TE):Prop where
 out:∀(pins:aq)(s:Shared)(σ:St)(H:Hp)(Q:VK),Inv X pins σ H s->t σ H Q->wpAny (model X.prog X.w) X.A (eval e X.env) (EP X pins σ Q) X.xe s
instance {X:Cx} {e:Expr} {t:TE}:CoeFun (JE X e t) (fun _=>∀(pins:aq)(s:Shared)(σ:St)(H:Hp)(Q:VK),Inv X pins σ H s->t σ H Q->wpAny (model X.prog X.w) X.A (eval e X.env) (EP X pins σ Q) X.xe s):=⟨JE.out⟩
structure JT(X:Cx)(e:Expr)(t:TT):Prop where
 out:∀(pins:aq)(s:Shared)(σ:St)(H:Hp)(Q:Bool->Hp->Prop),Inv X pins σ H s->t σ H Q->wpAny (model X.prog X.w) X.A (isTrue e X.env (eval e X.env)) (TP X pins σ Q) X.xe s
instance {X:Cx} {e:Expr} {t:TT}:CoeFun (JT X e t) (fun _=>∀(pins:aq)(s:Shared)(σ:St)(H:Hp)(Q:Bool->Hp->Prop),Inv X pins σ H s->t σ H Q->wpAny (model X.prog X.w) X.A (isTrue e X.env (eval e X.env)) (TP X pins σ Q) X.xe s):=⟨JT.out⟩
structure JW(X:Cx)(e:Expr)(t:TT):Prop where
 out:∀(whole:Sem Value)(pins:aq)(s:Shared)(σ:St)(H:Hp)(Q:Bool->Hp->Prop),Inv X pins σ H s->t σ H Q->wpAny (model X.prog X.w) X.A (isTrue e X.env whole) (TP X pins σ Q) X.xe s
instance {X:Cx} {e:Expr} {t:TT}:CoeFun (JW X e t) (fun _=>∀(whole:Sem Value)(pins:aq)(s:Shared)(σ:St)(H:Hp)(Q:Bool->Hp->Prop),Inv X pins σ H s->t σ H Q->wpAny (model X.prog X.w) X.A (isTrue e X.env whole) (TP X pins σ Q) X.xe s):=⟨JW.out⟩
theorem JW.jt{X:Cx}{e:Expr}{t:TT}(h:JW X e t):JT X e t:=⟨h.out _⟩
structure JA(X:Cx)(es:List Expr)(t:TA):Prop where
 out:∀(pos:Pos)(pins:aq)(s:Shared)(σ:St)(H:Hp)(Q:List V->Hp->Prop),Inv X pins σ H s->t σ H Q->wpAny (model X.prog X.w) X.A (spliced (backTo pos (starEach es X.env))) (AP X pins σ Q) X.xe s
instance {X:Cx} {es:List Expr} {t:TA}:CoeFun (JA X es t) (fun _=>∀(pos:Pos)(pins:aq)(s:Shared)(σ:St)(H:Hp)(Q:List V->Hp->Prop),Inv X pins σ H s->t σ H Q->wpAny (model X.prog X.w) X.A (spliced (backTo pos (starEach es X.env))) (AP X pins σ Q) X.xe s):=⟨JA.out⟩
structure JS(X:Cx)(st:Stmt)(t:TS):Prop where
 out:∀(pins:aq)(s:Shared)(σ:St)(H:Hp)(D:Ends),Inv X pins σ H s->t D σ H->wpAny (model X.prog X.w) X.A (exec st X.env) (SP X pins D) X.xe s
instance {X:Cx} {st:Stmt} {t:TS}:CoeFun (JS X st t) (fun _=>∀(pins:aq)(s:Shared)(σ:St)(H:Hp)(D:Ends),Inv X pins σ H s->t D σ H->wpAny (model X.prog X.w) X.A (exec st X.env) (SP X pins D) X.xe s):=⟨JS.out⟩
structure bz(X:Cx)(st:List Stmt)(t:TS):Prop where
 out:∀(pins:aq)(s:Shared)(σ:St)(H:Hp)(D:Ends),Inv X pins σ H s->t D σ H->wpAny (model X.prog X.w) X.A (execs st X.env) (SP X pins D) X.xe s
instance {X:Cx} {st:List Stmt} {t:TS}:CoeFun (bz X st t) (fun _=>∀(pins:aq)(s:Shared)(σ:St)(H:Hp)(D:Ends),Inv X pins σ H s->t D σ H->wpAny (model X.prog X.w) X.A (execs st X.env) (SP X pins D) X.xe s):=⟨bz.out⟩
theorem aW{α:Type}{t:Sem α}{Q Q':α->Shared->Prop}{M:Model}{A:Around}{E:aH}{s:Shared}(h:wpAny M A t Q E s)(hQ:∀a s,Q a s->Q' a s):wpAny M A t Q' E s:=q1E h hQ fun _ _ x=>x
section
variable{X:Cx}
def cS(i:Nat):TE:=fun σ H Q=>∃v,σ[i]?=some (some v)/\Q v H
def tC(v:V):TE:=fun _ H Q=>Q v H
theorem Gq{i:Nat}{x:Str}{pos:Pos}(hN:X.N[i]?=some x)(hv:sJ X.env.scope x)(hd:bA x:=by decide)(eK:(x==("__classdict__" : Str))=false:=by decide):JE X (.Name x pos) (cS i):=by
 refine⟨?_⟩;intro pins s σ H Q I h;obtain⟨v,e,h⟩:=h;obtain⟨m,hn,hl⟩:=I.loc;obtain⟨u,r,l⟩:=hl i x v hN e hv;have fin:EP X pins σ Q u s:=⟨v,H,I,r,h⟩;rcases l with⟨hk,hm⟩|⟨hk,c,hc,pK⟩
 ·exact q7V (wpAny_loadName_local I.ok.kind hk hn hm fin) hd
 ·rcases hk with hk|hk
  ·exact q7V (wpAny_loadName_cell I.ok.kind hk hc pK fin) hd
  ·exact q7V (wpAny_loadName_free I.ok.kind hk hc pK fin eK) hd
theorem mD{i j pos}:JE X (.Constant (.int i) j pos) (tC (.int i)):=⟨fun _ _ _ H _ I h=>wpAny_Constant_int ⟨.int i,H,I.tok _,⟨_,rfl⟩,h⟩⟩
theorem Aj{b j pos}:JE X (.Constant (.bool b) j pos) (tC (.bl b)):=⟨fun _ _ _ H _ I h=>Constant_bool ⟨.bl b,H,I,rfl,h⟩⟩
theorem N6{j pos}:JE X (.Constant .none j pos) (tC .non):=⟨fun _ _ _ H _ I h=>Constant_none ⟨.non,H,I,rfl,h⟩⟩
theorem xo{x j pos}:JE X (.Constant (.str x) j pos) (tC (.str x)):=⟨fun _ _ _ H _ I h=>Calls.Constant_str ⟨.str x,H,I.tok _,⟨_,rfl⟩,h⟩
⟩
def Gl(X:Cx)(x:Str):Prop:=X.env.kindOf x=some .globalImplicit
theorem xp{E:aH}{pins:aq}{s:Shared}{σ:St}{H:Hp}{x:Str}{u:Value}{pos:Pos}{Q:aH}(I:Inv X pins σ H s)(hg:Gl X x)(hm:X.mg x=some u)(h:Q u s)
  (hd:bA x:=by decide):wpAny (model X.prog X.w) X.A (eval (.Name x pos) X.env) Q E s :=
 q4m I.ok.kind hg (Calls.loadGlobal_global (by rw[I.ok.glob];exact I.mod.glob.keeps I.bk) hm h) hd
theorem nM{E:aH}{pins:aq}{s:Shared}{σ:St}{H:Hp}{x:Str}{u:Value}{pos:Pos}{Q:aH}(I:Inv X pins σ H s)(hg:Gl X x)(hm:X.mg x=none)(hv:bootBuiltins x=some u)(h:Q u s)
  (hn:x≠"__name__" := by decide) (hd:bA x:=by decide):wpAny (model X.prog X.w) X.A (eval (.Name x pos) X.env) Q E s:=by
 obtain⟨mb,h1,h2⟩:=I.mod.blt;exact q4m I.ok.kind hg (Calls.loadGlobal_builtin (by rw[I.ok.glob];exact I.mod.glob.keeps I.bk) hm (by rw[I.ok.blt];exact h1.keeps I.bk) ((h2 x hn).trans hv) h) hd
theorem iO{x:Str}{v:V}{u:Value}{pos:Pos}(hg:Gl X x)(hm:X.mg x=some u)(r:RelV v u)(hd:bA x:=by decide):JE X (.Name x pos) (tC v):=⟨fun _ _ _ H _ I h=>xp I hg hm ⟨v,H,I,r,h⟩ hd⟩
theorem Gr{x:Str}{v:V}{u:Value}{pos:Pos}(hg:Gl X x)(hm:X.mg x=none)(hv:bootBuiltins x=some u)(r:RelV v u)(hn:x≠"__name__" := by decide)(hd:bA x:=by decide):JE X (.Name x pos) (tC v):=⟨fun _ _ _ H _ I h=>nM I hg hm hv ⟨v,H,I,r,h⟩ hn hd
⟩
variable{a b:Expr}{ta tb:TE}{pos:Pos}
structure JC(X:Cx)(op:CmpOp)(a b:Expr)(t:TE):Prop where
 out:∀(pins:aq)(s:Shared)(σ:St)(H:Hp)(Q:VK),Inv X pins σ H s->t σ H Q →
  wpAny (model X.prog X.w) X.A (eval a X.env) (fun v s₁=>wpAny (model X.prog X.w) X.A (eval b X.env) (fun u s₂=>wpAny (model X.prog X.w) X.A (compareOp op v u) (EP X pins σ Q) X.xe s₂) X.xe s₁) X.xe s
instance {X:Cx} {op:CmpOp} {a b:Expr} {t:TE}:CoeFun (JC X op a b t) (fun _=>∀(pins:aq)(s:Shared)(σ:St)(H:Hp)(Q:VK),Inv X pins σ H s->t σ H Q->wpAny (model X.prog X.w) X.A (eval a X.env) (fun v s₁=>wpAny (model X.prog X.w) X.A (eval b X.env) (fun u s₂=>wpAny (model X.prog X.w) X.A (compareOp op v u) (EP X pins σ Q) X.xe s₂) X.xe s₁) X.xe s):=⟨JC.out⟩
theorem N7(b:Expr){op:CmpOp}(h:op≠.In)(h2:op≠.NotIn):behindInMarks op b=false:=by
 have e1:(op==CmpOp.In)=false:=by cases op<;>first|rfl|exact absurd rfl h
 have e2:(op==CmpOp.NotIn)=false:=by cases op<;>first|rfl|exact absurd rfl h2
 cases b<;>simp[behindInMarks,e1,e2]
def uy(ta:TE):TE:=fun σ H Q=>ta σ H fun x H1=>Q (.bl (decide (x=.non))) H1
theorem RelV.kN{x:V}{v:Value}(r:RelV x v):(v==q0v)=decide (x=.non):=by
 cases x with
 |non=>cases r;rfl
 |bl _=>cases r;rfl
 |int _=>obtain⟨t,rfl⟩:=r;rfl
 |str _=>obtain⟨t,rfl⟩:=r;rfl
 |byt _=>obtain⟨t,rfl⟩:=r;rfl
 |flt _=>obtain⟨t,rfl⟩:=r;rfl
 |ref _=>cases r;rfl
 |ty _=>cases r;rfl
theorem N8{j pos'}(ha:JE X a ta):JC X .Is a (.Constant .none j pos') (uy ta):=by
 refine⟨?_⟩;intro pins s σ H Q I h;refine aW (ha pins s σ H _ I h) fun v s1 h0_=>el5 h0_ fun x H1 I1 r1 q1=>?_;exact Constant_none (is_none_gen ⟨.bl _,H1,I1,by rw[r1.kN];rfl,q1⟩)
def tB(t:TE):TT:=fun σ H Q=>t σ H fun x H1=>∃c,x=.bl c/\Q c H1
theorem Gs{op:CmpOp}{t:TE}(h:JC X op a b t)(h1:behindInMarks op b=false:=by first|exact N7 _ (by decide) (by decide)|rfl):JT X (.Compare a [op] [b] pos) (tB t):=by
 refine⟨?_⟩;intro pins s σ H Q I hw;refine q5q (aW (h pins s σ H _ I hw) fun v s1 h1=>aW h1 fun u s2 h2=>aW h2 fun c s3 h0_=>el5 h0_ fun x H1 I1 r1 q1=>?_) h1;obtain⟨d,rfl,q⟩:=q1;cases r1
 exact q19 ⟨H1,I1,q⟩
theorem Ak{e:Expr}{t:TE}(h:JE X e t)(he:∀whole,isTrue e X.env whole=(do let v <- whole;standAt e.pos;holding [v] (truthy v)):=by intro _;rfl):JT X e (tB t):=by
 refine⟨?_⟩;intro pins s σ H Q I hw;refine isTrue_plain (aW (h pins s σ H _ I hw) fun v s1 h0_=>el5 h0_ fun x H1 I1 r1 q1=>?_) (he _);obtain⟨d,rfl,q⟩:=q1;cases r1
 exact q19 ⟨H1,I1,q⟩
variable{tA xq:TT}{rest:List Expr}
def uz(t u:TT):TT:=fun σ H Q=>t σ H fun c H1=>if c=true then u σ H1 Q else Q false H1
def Gu(t u:TT):TT:=fun σ H Q=>t σ H fun c H1=>if c=true then Q true H1 else u σ H1 Q
def Al(t:TT):TT:=fun σ H Q=>t σ H fun c H1=>Q (!c) H1
theorem N9(ha:JT X a tA):JW X (.BoolOp .And [a] pos) tA:=by
 refine⟨?_⟩;intro wh pins s σ H Q I h;refine isTrue_and (aW (ha pins s σ H Q I h) fun c s1 e=>?_)
 cases c with
 |true=>exact isTrue_and_nil e
 |false=>exact e
theorem Gv(ha:JT X a tA):JW X (.BoolOp .Or [a] pos) tA:=by
 refine⟨?_⟩;intro wh pins s σ H Q I h;refine isTrue_or (aW (ha pins s σ H Q I h) fun c s1 e=>?_)
 cases c with
 |false=>exact isTrue_or_nil e
 |true=>exact e
theorem N_(ha:JT X a tA)(hb:JW X (.BoolOp .And (b::rest) pos) xq):JW X (.BoolOp .And (a::b::rest) pos) (uz tA xq):=by
 refine⟨?_⟩;intro wh pins s σ H Q I h;refine isTrue_and (aW (ha pins s σ H _ I h) fun c s1 h0_=>el3 h0_ fun H1 I1 q1=>?_)
 cases c with
 |true=>exact hb wh pins s1 σ H1 Q I1 q1
 |false=>exact⟨H1,I1,q1⟩
theorem Am(ha:JT X a tA)(hb:JW X (.BoolOp .Or (b::rest) pos) xq):JW X (.BoolOp .Or (a::b::rest) pos) (Gu tA xq):=by
 refine⟨?_⟩;intro wh pins s σ H Q I h;refine isTrue_or (aW (ha pins s σ H _ I h) fun c s1 h0_=>el3 h0_ fun H1 I1 q1=>?_)
 cases c with
 |true=>exact⟨H1,I1,q1⟩
 |false=>exact hb wh pins s1 σ H1 Q I1 q1
theorem An(ha:JT X a tA):JT X (.UnaryOp .Not a pos) (Al tA):=by
 refine⟨?_⟩;intro pins s σ H Q I h;exact isTrue_not (ha pins s σ H (fun c H1=>Q (!c) H1) I h)
def Oa(ta tb:TE):TE:=fun σ H Q=>ta σ H fun x H1=>∃c,x=.bl c/\if c=true then tb σ H1 Q else Q (.bl false) H1
def Ob(ta:TE):TE:=fun σ H Q=>ta σ H fun x H1=>∃c,x=.bl c/\Q (.bl (!c)) H1
theorem Oc{op}{t:TE}(h:JE X a t):JE X (.BoolOp op [a] pos) t:=⟨fun pins s σ H Q I hw=>BoolOp_one (h pins s σ H Q I hw)⟩
theorem Od(ha:JE X a ta)(hb:JE X (.BoolOp .And (b::rest) pos) tb):JE X (.BoolOp .And (a::b::rest) pos) (Oa ta tb):=by
 refine⟨?_⟩;intro pins s σ H Q I h;refine BoolOp_and (aW (ha pins s σ H _ I h) fun v s1 h0_=>el5 h0_ fun x H1 I1 r1 q1=>?_);obtain⟨c,rfl,q1⟩:=q1;cases r1
 refine q19 ?_
 cases c with
 |true=>exact hb pins s1 σ H1 Q I1 q1
 |false=>exact⟨.bl false,H1,I1,rfl,q1⟩
theorem Oe(ha:JE X a ta):JE X (.UnaryOp .Not a pos) (Ob ta):=by
 refine⟨?_⟩;intro pins s σ H Q I h;refine UnaryOp_ (aW (ha pins s σ H _ I h) fun v s1 h0_=>el5 h0_ fun x H1 I1 r1 q1=>?_);obtain⟨c,rfl,q1⟩:=q1;cases r1
 exact not_of (q19 ⟨.bl (!c),H1,I1,rfl,q1⟩)
def Gw(t:TT)(ta tb:TE):TE:=fun σ H Q=>t σ H fun c H1=>if c=true then ta σ H1 Q else tb σ H1 Q
theorem Ao{c:Expr}(hc:JT X c tA)(ha:JE X a ta)(hb:JE X b tb):JE X (.IfExp c a b pos) (Gw tA ta tb):=by
 refine⟨?_⟩;intro pins s σ H Q I h;refine wpAny_IfExp (aW (hc pins s σ H _ I h) fun d s1 h0_=>el3 h0_ fun H1 I1 q1=>?_)
 cases d with
 |true=>exact ha pins s1 σ H1 Q I1 q1
 |false=>exact hb pins s1 σ H1 Q I1 q1
end
def aZ(K:xA)(H:Hp)(a:Addr)(xs:List V):Prop :=
 Rd H a (.lst xs) ∨
  ∃(o:Obj)(ah:Array Value)(n:Nat),K.lookup a=some o/\o.cls=.type "list" /\ o.dict=none/\o.data=.seq ah n/\ah.size<=sizeLine/\Vals xs ah.toList
def bw(K:xA)(H:Hp)(a:Addr)(xs:List V):Prop :=
 Rd H a (.tup xs) ∨
  ∃(o:Obj)(ah:Array Value)(n:Nat),K.lookup a=some o/\o.cls=.type "tuple" /\ o.data=.seq ah n/\ah.size<=sizeLine/\Vals xs ah.toList
noncomputable def Ap:Value->Option V
 |.none=>some .non
 |.bool b=>some (.bl b)
 |.int i _=>some (.int i)
 |.str x _=>some (.str x)
 |.bytes b _=>some (.byt b)
 |.float b _=>some (.flt b)
 |.ref a=>some (.ref a)
 |.type n=>some (.ty n)
 |_=>none
theorem RelV.abs{x:V}{u:Value}(r:RelV x u):Ap u=some x:=by
 cases x with
 |non=>cases r;rfl
 |bl _=>cases r;rfl
 |int _=>obtain⟨t,rfl⟩:=r;rfl
 |str _=>obtain⟨t,rfl⟩:=r;rfl
 |byt _=>obtain⟨t,rfl⟩:=r;rfl
 |flt _=>obtain⟨t,rfl⟩:=r;rfl
 |ref _=>cases r;rfl
 |ty _=>cases r;rfl
theorem RelV.inj{x y:V}{u:Value}(r:RelV x u)(q:RelV y u):x=y:=q0E (r.abs.symm.trans q.abs)
theorem Vals.inj:∀{xs ys:List V}{us:List Value},Vals xs us->Vals ys us->xs=ys
 |_,_,_,.nil,.nil=>rfl
 |_,_,_,.cons r t,.cons r' t'=>by rw[r.inj r',Vals.inj t t']
section
variable{X:Cx}{pins:aq}{σ:St}{H:Hp}{s:Shared}{a:Addr}{xs ys:List V}
theorem aZ.of{K:xA}(h:H a=some (.lst xs)):aZ K H a xs:=.inl (.inl h)
theorem bw.of{K:xA}(h:H a=some (.tup xs)):bw K H a xs:=.inl (.inl h)
theorem Inv.list(I:Inv X pins σ H s)(h:aZ X.K H a xs):∃ah:List Value,Vals xs ah/\PlainL s.heap a ah.toArray/\xs.length<=sizeLine:=by
 rcases h with h|⟨o,ah,n,hk,hc,hd,hs,hz,r⟩
 ·obtain⟨z,ah,n,r,e⟩:=h.ok I.aD
  exact⟨ah,r,⟨_,n,e,rfl,rfl,rfl⟩,z⟩
 ·refine⟨ah.toList,r,⟨o,n,I.d6 a o hk,hc,hd,by simpa using hs⟩,?_⟩
  have e:=r.length;simp only[PF] at e;omega
theorem Inv.tuple(I:Inv X pins σ H s)(h:bw X.K H a xs):∃ah:List Value,Vals xs ah/\IsTup s.heap a ah.toArray/\xs.length<=sizeLine:=by
 rcases h with h|⟨o,ah,n,hk,hc,hs,hz,r⟩
 ·obtain⟨z,ah,r,p⟩:=h.ok I.aD
  exact⟨ah,r,p,z⟩
 ·refine⟨ah.toList,r,⟨o,I.d6 a o hk,hc,n,by simpa using hs⟩,?_⟩
  have e:=r.length;simp only[PF] at e;omega
theorem Inv.ft(I:Inv X pins σ H s)(h:aZ X.K H a xs)(h':aZ X.K H a ys):xs=ys:=by
 obtain⟨ah,r,⟨o,n,e,_,_,d⟩,_⟩:=I.list h;obtain⟨its',r',⟨o',n',e',_,_,d'⟩,_⟩:=I.list h';rw[e] at e';cases e';rw[d] at d';injection d' with d1 _;have:ah=its':=by simpa using congrArg q86 d1
 subst this;exact r.inj r'
theorem Inv.d_(I:Inv X pins σ H s)(h:bw X.K H a xs)(h':bw X.K H a ys):xs=ys:=by
 obtain⟨ah,r,⟨o,e,_,n,d⟩,_⟩:=I.tuple h;obtain⟨its',r',⟨o',e',_,n',d'⟩,_⟩:=I.tuple h';rw[e] at e';cases e';rw[d] at d';injection d' with d1 _;have:ah=its':=by simpa using congrArg q86 d1
 subst this;exact r.inj r'
end
noncomputable abbrev Cx.fV(X:Cx)(E:aH):Cx:={X with xe:=E}
noncomputable abbrev Cx.kO(X:Cx):Cx:=X.fV fun _ _=>False
theorem Cx.Ok.fV{X:Cx}(ok:X.Ok)(E:aH):(X.fV E).Ok :=
 ⟨ok.mod,ok.kind,ok.glob,ok.blt,ok.above,ok.inj,ok.has,ok.pH,ok.hd,ok.frames,ok.qv,ok.uw,ok.bs,ok.j7,ok.hJ,ok.iM,ok.cR,ok.kJ⟩
theorem Cx.Ok.cD{X:Cx}{E:aH}(ok:(X.fV E).Ok):X.Ok :=
 ⟨ok.mod,ok.kind,ok.glob,ok.blt,ok.above,ok.inj,ok.has,ok.pH,ok.hd,ok.frames,ok.qv,ok.uw,ok.bs,ok.j7,ok.hJ,ok.iM,ok.cR,ok.kJ⟩
section
variable{X:Cx}{pins:aq}{σ:St}{H:Hp}{s:Shared}{E:aH}
theorem Inv.fV(I:Inv X pins σ H s)(E:aH):Inv (X.fV E) pins σ H s:=⟨I.ok.fV E,I.os,I.bare,I.base,I.loc,I.cell,I.free,I.bx,I.pin,I.aD,I.len⟩
theorem Inv.cD(I:Inv (X.fV E) pins σ H s):Inv X pins σ H s:=⟨I.ok.cD,I.os,I.bare,I.base,I.loc,I.cell,I.free,I.bx,I.pin,I.aD,I.len⟩
theorem SP.cD{D:Ends}{f:Flow}{s':Shared}(h:SP (X.fV E) pins D f s'):SP X pins D f s':=by
 cases f with
 |next=>obtain⟨σ',H',I,q⟩:=h;exact⟨σ',H',I.cD,q⟩
 |brk=>obtain⟨σ',H',I,q⟩:=h;exact⟨σ',H',I.cD,q⟩
 |cont=>obtain⟨σ',H',I,q⟩:=h;exact⟨σ',H',I.cD,q⟩
 |ret u=>obtain⟨v,σ',H',I,r,q⟩:=h;exact⟨v,σ',H',I.cD,r,q⟩
theorem bz.kO{st:List Stmt}{t:TS}(h:bz X.kO st t):bz X st t:=⟨fun pins s σ H D I hw =>
 q1E (h pins s σ H D (I.fV _) hw) (fun _ _ q=>q.cD) fun _ _ z=>q1e z⟩
end
section
variable{X:Cx}{st:Stmt}{rest:List Stmt}{t u:TS}{e:Expr}{te:TE}{pos:Pos}
def Of:TS:=fun D σ H=>D.nx σ H
def kP(t u:TS):TS:=fun D σ H=>t {D with nx:=u D} σ H
theorem jg:bz X [] Of:=⟨fun _ _ σ H _ I h=>q33 ⟨σ,H,I,h⟩⟩
theorem nN(h1:JS X st t)(h2:bz X rest u):bz X (st::rest) (kP t u):=by
 refine⟨?_⟩;intro pins s σ H D I h;refine q67 (aW (h1 pins s σ H {D with nx:=u D} I h) fun f s1 q=>?_)
 cases f with
 |next =>
  obtain⟨σ',H',I',q⟩:=q;exact h2 pins s1 σ' H' D I' q
 |ret v=>exact q
 |brk=>exact q
 |cont=>exact q
theorem mE(h1:JS X st t):bz X [st] t:=by
 refine⟨?_⟩;intro pins s σ H D I h;refine q67 (aW (h1 pins s σ H D I h) fun f s1 q=>?_)
 cases f with
 |next=>exact q33 q
 |ret v=>exact q
 |brk=>exact q
 |cont=>exact q
theorem Inv.quiet{pins:aq}{σ:St}{H:Hp}{s:Shared}(I:Inv X pins σ H s):interactive X.env=false:=by simp[interactive,I.ok.kind]
def Gx(te:TE):TS:=fun D σ H=>te σ H fun _ H1=>D.nx σ H1
theorem Aq(he:JE X e te)(hs:swapsWith e none pos.line X.env=pure false:=by rfl):JS X (.Expr e pos) (Gx te):=by
 refine⟨?_⟩;intro pins s σ H D I h;exact wpAny_Expr_any (aW (he pins s σ H _ I h) fun v s1 h0_=>el5 h0_ fun x H1 I1 r1 q1 =>⟨σ,H1,I1,q1⟩) I.quiet hs
def qw(te:TE):TS:=fun D σ H=>te σ H D.rt
theorem sM(he:JE X e te):JS X (.Return (some e) pos) (qw te):=by
 refine⟨?_⟩;intro pins s σ H D I h;exact wpAny_Return_some (aW (he pins s σ H _ I h) fun v s1 h0_=>el5 h0_ fun x H1 I1 r1 q1 =>⟨x,σ,H1,I1,r1,q1⟩)
def Ar(c:TT)(t u:TS):TS:=fun D σ H=>c σ H fun b H1=>if b=true then t D σ H1 else u D σ H1
theorem Gy{c:Expr}{a b:List Stmt}{tc:TT}(hc:JT X c tc)(ha:bz X a t)(hb:bz X b u):JS X (.If c a b pos) (Ar tc t u):=by
 refine⟨?_⟩;intro pins s σ H D I h;refine wpAny_If (aW (hc pins s σ H _ I h) fun d s1 h0_=>el3 h0_ fun H1 I1 q1=>?_)
 cases d with
 |true=>exact ha pins s1 σ H1 D I1 q1
 |false=>exact hb pins s1 σ H1 D I1 q1
def Og:TS:=fun _ _ _=>False
theorem jC{Oh:List Stmt}:bz X Oh Og:=⟨fun _ _ _ _ _ _ h=>h.elim⟩
end
abbrev TG:=V->St->Hp->(St->Hp->Prop)->Prop
abbrev j8:=List V->St->Hp->(St->Hp->Prop)->Prop
structure JG(X:Cx)(target:Expr)(t:TG):Prop where
 out:∀(pins:aq)(s:Shared)(σ:St)(H:Hp)(v:V)(u:Value)(Q:St->Hp->Prop),Inv X pins σ H s->RelV v u->t v σ H Q →
  wpAny (model X.prog X.w) X.A (assign target X.env u) (fun _ s'=>∃σ' H',Inv X pins σ' H' s'/\Q σ' H') X.xe s
instance {X:Cx} {target:Expr} {t:TG}:CoeFun (JG X target t) (fun _=>∀(pins:aq)(s:Shared)(σ:St)(H:Hp)(v:V)(u:Value)(Q:St->Hp->Prop),Inv X pins σ H s->RelV v u->t v σ H Q->wpAny (model X.prog X.w) X.A (assign target X.env u) (fun _ s'=>∃σ' H',Inv X pins σ' H' s'/\Q σ' H') X.xe s):=⟨JG.out⟩
structure jh(X:Cx)(ts:List Expr)(t:j8):Prop where
 out:∀(pins:aq)(s:Shared)(σ:St)(H:Hp)(vs:List V)(us:List Value)(Q:St->Hp->Prop),Inv X pins σ H s->Vals vs us->t vs σ H Q →
  wpAny (model X.prog X.w) X.A (assignInOrder ((assignEach ts X.env).map (·.2)) us) (fun _ s'=>∃σ' H',Inv X pins σ' H' s'/\Q σ' H') X.xe s
instance {X:Cx} {ts:List Expr} {t:j8}:CoeFun (jh X ts t) (fun _=>∀(pins:aq)(s:Shared)(σ:St)(H:Hp)(vs:List V)(us:List Value)(Q:St->Hp->Prop),Inv X pins σ H s->Vals vs us->t vs σ H Q->wpAny (model X.prog X.w) X.A (assignInOrder ((assignEach ts X.env).map (·.2)) us) (fun _ s'=>∃σ' H',Inv X pins σ' H' s'/\Q σ' H') X.xe s):=⟨jh.out⟩
abbrev qx:=V->V->V->Hp->(Hp->Prop)->Prop
def uA(X:Cx)(t:qx):Prop :=
 ∀(pins:aq)(s:Shared)(σ:St)(H:Hp)(o i v:V)(ov iv u:Value)(Q:Hp->Prop),Inv X pins σ H s->RelV o ov->RelV i iv->RelV v u->t o i v H Q →
  wpAny (model X.prog X.w) X.A (setItem ov iv u) (fun _ s'=>∃H',Inv X pins σ H' s'/\Q H') X.xe s
section
variable{X:Cx}{pos:Pos}
def hU(i:Nat):TG:=fun v σ H Q=>Q (σ.set i (some v)) H
theorem uB{i:Nat}{x:Str}(hN:X.N.Nodup)(hi:X.N[i]?=some x)(hx:Loc X.env.scope x)(hf:dG X x:=by first|exact .inl rfl|exact .inr rfl|assumption):JG X (.Name x pos) (hU i):=by
 refine⟨?_⟩;intro pins s σ H v u Q I r h;exact q6G (xn I hN hi hx r (fun s' I'=>⟨_,H,I',h⟩) hf)
def uC:j8:=fun vs σ H Q=>vs=[]/\Q σ H
def As(t:TG)(u:j8):j8:=fun vs σ H Q=>∃v r,vs=v::r/\t v σ H fun σ' H'=>u r σ' H' Q
theorem gu:jh X [] uC:=by
 refine⟨?_⟩;intro pins s σ H vs us Q I r h;obtain⟨e,h⟩:=h;subst e;cases r
 exact assignInOrder_nil ⟨σ,H,I,h⟩
theorem uD{e:Expr}{es:List Expr}{t:TG}{u:j8}(h1:JG X e t)(h2:jh X es u)
  (hs:(assignEach (e::es) X.env).map (·.2)=assign e X.env::(assignEach es X.env).map (·.2):=by rfl):jh X (e::es) (As t u):=by
 refine⟨?_⟩;intro pins s σ H vs us Q I r h;obtain⟨v,vr,e1,h⟩:=h;subst e1
 cases r with
 |cons r rr =>
  rw[hs];refine assignInOrder_cons (aW (h1 pins s σ H _ _ _ I r h) fun _ s1 ⟨σ1,H1,I1,q1⟩=>?_);exact h2 pins s1 σ1 H1 _ _ Q I1 rr q1
def uE(K:xA)(n:Nat)(t:j8):TG:=fun v σ H Q=>∃a xs,v=.ref a/\bw K H a xs/\xs.length=n/\t xs σ H Q
theorem Au{es:List Expr}{k:Nat}{t:j8}{n:Nat}(hc:X.calm=true)(h:jh X es t)
  (hn:(assignEach es X.env).length=n:=by rfl) (gP:(assignEach es X.env).findIdx? (·.1)=none:=by rfl):JG X (.Tuple es k pos) (uE X.K n t):=by
 refine⟨?_⟩;intro pins s σ H v u Q I r hw;obtain⟨a,xs,e1,hq,hl,hw⟩:=hw;subst e1;cases r
 obtain⟨ah,rv,ht,hz⟩:=I.tuple hq;refine assign_Tuple_tuple (I.ok.hd hc) ht (by simp[hn,<-hl,rv.length]) gP fun h' hx=>?_;have I1:Inv X pins σ H {s with heap:=h'}:=I.kept (t':=s.toks) fun b o e=>hx b o (q0e (My e)) e;exact h pins _ σ H xs _ Q I1 (by simpa using rv) hw
def uF(to ti:TE)(t:qx):TG:=fun v σ H Q=>to σ H fun o H1=>ti σ H1 fun i H2=>t o i v H2 fun H3=>Q σ H3
theorem Gz{o i:Expr}{to ti:TE}{t:qx}(ho:JE X o to)(hi:JE X i ti)(hs:uA X t)
  (ha:∀v,assign (.Subscript o i pos) X.env v=(do
   let ov <- holding [v] (eval o X.env)
   let iv <- holding [v,ov] (eval i X.env)
   standAt pos
   holding [v,ov,iv] (setItem ov iv v)
   release [v,ov,iv] []):=by intro _;rfl):JG X (.Subscript o i pos) (uF to ti t):=by
 refine⟨?_⟩;intro pins s σ H v u Q I r h;rw[ha];refine n_ (q0D (aW (ho pins s σ H _ I h) fun ov s1 h0_=>el5 h0_ fun x H1 I1 r1 q1=>?_));refine n_ (q0D (aW (hi pins s1 σ H1 _ I1 q1) fun iv s2 h0_=>el5 h0_ fun y H2 I2 r2 q2=>?_));refine n_ (q2A (n_ (q0D (aW (hs pins s2 σ H2 x y v ov iv u _ I2 r1 r2 r q2) fun _ s3 h0_=>el3 h0_ fun H3 I3 q3=>?_))));exact wpAny_release ⟨σ,H3,I3,q3⟩
def cU(te:TE)(g:TG):TS:=fun D σ H=>te σ H fun x H1=>g x σ H1 D.nx
theorem Av{tg e:Expr}{te:TE}{g:TG}(he:JE X e te)(hg:JG X tg g)(hs:swapsWithSole [tg] e pos.line X.env=pure false:=by rfl)(hw:swappedStores [tg] e X.env=pure none:=by rfl)
  (h1:(assignEach [tg] X.env).map (·.2)=[assign tg X.env]:=by rfl):JS X (.Assign [tg] e pos) (cU te g):=by
 refine⟨?_⟩;intro pins s σ H D I h;refine wpAny_Assign_stores (aW (he pins s σ H _ I h) fun v s1 h0_=>el5 h0_ fun x H1 I1 r1 q1=>?_) hs hw;rw[h1];exact aW (hg pins s1 σ H1 x v _ I1 r1 q1) fun _ s2 q=>q
theorem nP{i:Nat}{x:Str}{e:Expr}{te:TE}{pos':Pos}(hN:X.N.Nodup)(hi:X.N[i]?=some x)(hx:Loc X.env.scope x)(he:JE X e te)(hs:swapsWith e (some (.Name x pos')) pos.line X.env=pure false:=by rfl)(hf:dG X x:=by first|exact .inl rfl|exact .inr rfl|assumption):
  JS X (.Assign [.Name x pos'] e pos) (cU te (hU i)):=by
 refine⟨?_⟩;intro pins s σ H D I h;refine wpAny_Assign_Name (aW (he pins s σ H _ I h) fun v s1 h0_=>el5 h0_ fun y H1 I1 r1 q1=>?_) hs;exact xn I1 hN hi hx r1 (fun s2 I2=>⟨_,H1,I2,q1⟩) hf
end
structure It where
 go:Nat->Hp->Prop
 sN:Nat->Hp->V->Hp->Prop
 stop:Nat->Hp->Prop
def br(X:Cx)(pins:aq)(H:Hp)(b:Addr):Prop :=
 H b=none/\b≠X.env.locals/\b∉X.fs/\(b∈X.ex\/X.s₀.heap.objs.size<=b)/\(∀x c,X.env.cells.lookup x=some c->c≠b)/\∀p∈X.pn++pins,p.1≠b
theorem Inv.gv{X:Cx}{pins:aq}{σ:St}{H H':Hp}{s:Shared}{b:Addr}(I:Inv X pins σ H s)(hb:s.heap.objs.size<=b)(hn:H' b=none):br X pins H' b:=by
 refine⟨hn,q1L (q0l I.lt hb),I.Ad hb,.inr (q02 I.sz hb),fun x c e z=>?_,fun p hp z=>?_⟩
 ·obtain⟨v,q⟩:=I.cell x c e
  exact absurd (q0l q.lt (by rw[z];exact hb)) (q13 _)
 ·exact absurd (q0l (My (I.pin p hp).1) (by rw[z];exact hb)) (q13 _)
structure Turn(P:Program)(w:World)(K:xA)(tg:Expr)(J:It)(fp:List Addr)(it:Addr)(tn:Nat->Heap->Prop):Prop where
 mem:it∈fp
 obj:∀i h,tn i h->∀b∈fp,∃o,h.get? b=some o/\∀v,o.data≠.cell v
 keep:∀i h h',tn i h->(∀b∈fp,∀o,h.get? b=some o->h'.get? b=some o)->tn i h'
 item:∀(X:Cx),X.prog=P->X.w=w->X.K=K->X.calm=true->∀(i:Nat)(pins:aq)(s:Shared)(σ:St)(H:Hp)(E:aH),Inv X pins σ H s->(∀b∈fp,br X pins H b)->tn i s.heap->J.go i H →
  wpAny (model P w) X.A (pyNext (.ref it)) (fun r s1=>∃u,r=some u ∧
   wpAny (model P w) X.A (letOwnedTupleGo tg (.ref it) u) (fun _ s2=>∃x H',Inv X pins σ H' s2/\RelV x u/\J.sN i H x H'/\tn (i+1) s2.heap/\∀b∈fp,H' b=none) E s1) E s
 done:∀(X:Cx),X.prog=P->X.w=w->X.K=K->X.calm=true->∀(i:Nat)(pins:aq)(s:Shared)(σ:St)(H:Hp)(E:aH),Inv X pins σ H s->(∀b∈fp,br X pins H b)->tn i s.heap->J.stop i H →
  wpAny (model P w) X.A (pyNext (.ref it)) (fun r s1=>r=none/\Inv X pins σ H s1) E s
 self:∀(A:Around)(i:Nat)(s:Shared)(Q:aH)(E:aH),tn i s.heap->Q (.ref it) s->wpAny (model P w) A (pyIter (.ref it)) Q E s
abbrev TI:=St->Hp->(It->Hp->Prop)->Prop
def Aw(X:Cx)(pins:aq)(σ:St)(tg:Expr)(R:It->Hp->Prop)(Ax:Value)(s2:Shared):Prop :=
 ∃(it:Addr)(fp:List Addr)(tn:Nat->Heap->Prop)(J:It)(H':Hp),Ax=.ref it/\Inv X pins σ H' s2/\Turn X.prog X.w X.K tg J fp it tn/\tn 0 s2.heap/\(∀b∈fp,br X pins H' b)/\R J H'
structure JI(X:Cx)(tg iter:Expr)(wi:TI):Prop where
 out:∀(pins:aq)(s:Shared)(σ:St)(H:Hp)(R:It->Hp->Prop),Inv X pins σ H s->wi σ H R →
  wpAny (model X.prog X.w) X.A (eval iter X.env) (fun v s1=>wpAny (model X.prog X.w) X.A (pyIter v) (Aw X pins σ tg R) X.xe s1) X.xe s
instance {X:Cx} {tg iter:Expr} {wi:TI}:CoeFun (JI X tg iter wi) (fun _=>∀(pins:aq)(s:Shared)(σ:St)(H:Hp)(R:It->Hp->Prop),Inv X pins σ H s->wi σ H R->wpAny (model X.prog X.w) X.A (eval iter X.env) (fun v s1=>wpAny (model X.prog X.w) X.A (pyIter v) (Aw X pins σ tg R) X.xe s1) X.xe s):=⟨JI.out⟩
theorem Ay {M:Model} {A:Around} {E:aH} {s:Shared} {tg:Expr} {it:Addr} {u:Value} {o:Obj} {n:String} {vs:Array Value} {Q:Unit->Shared->Prop} (ho:s.heap.get? it=some o) (hc:o.cls = .type n) (hd:o.data = .fields vs)
  (hn:["enumerate", "zip", "dict_itemiterator", "dict_reverseitemiterator", "odict_iterator", "itertools.zip_longest", "itertools.pairwise"].contains n=false) (hQ:Q () s):wpAny M A (letOwnedTupleGo tg (.ref it) u) Q E s:=by
 unfold letOwnedTupleGo
 cases tg<;>first
  | exact uX hQ
  | (cases u<;>first
    | exact uX hQ
    | (refine n_ (q7T ho ?_)
       rw[hc,hd];show wpAny M A (if (["enumerate", "zip", "dict_itemiterator", "dict_reverseitemiterator", "odict_iterator", "itertools.zip_longest", "itertools.pairwise"].contains n && vs[0]? == some (rawInt _))=true then _ else _) Q E s;rw[q0a (by intro h;rw[hn,q5B] at h;cases h)]
       exact uX hQ))
noncomputable def GA(K:xA)(a:Addr):It :=
 ⟨fun i H=>∃xs x,aZ K H a xs/\xs[i]?=some x,fun i H x H'=>H'=H/\∀xs,aZ K H a xs->xs[i]?=some x,fun i H=>∃xs,aZ K H a xs/\xs.length<=i⟩
noncomputable def GB(K:xA)(a:Addr):It :=
 ⟨fun i H=>∃xs x,bw K H a xs/\xs[i]?=some x,fun i H x H'=>H'=H/\∀xs,bw K H a xs->xs[i]?=some x,fun i H=>∃xs,bw K H a xs/\xs.length<=i⟩
noncomputable def uG(lo:Int)(n:Nat):It:=⟨fun i _=>i<n,fun i H x H'=>H'=H/\x=.int (lo+i),fun i _=>n<=i⟩
theorem Oi{P:Program}{w:World}{K:xA}{tg:Expr}(a it:Addr):Turn P w K tg (GA K a) [it] it (fun i h=>h.IsListIter it a i) where
 mem:=by simp
 obj:=fun i h st b hb=>by
  have e:b=it:=by simpa using hb
  subst e;obtain⟨o,e,c,d⟩:=st;exact⟨o,e,fun v z=>by rw[d] at z;cases z⟩
 keep:=fun i h h' st k=>st.at fun o e=>k it (by simp) o e
 item:=by
  intro X hP hw hK hc i pins s σ H E I hf st hg;subst hP hw hK;obtain⟨xs,x,hq,hx⟩:=hg;obtain⟨ah,rv,p,hz⟩:=I.list hq;obtain⟨u,hu,ru⟩:=rv.get hx;obtain⟨f0,f1,f2,f3,f4,f5⟩:=hf it (by simp);refine wpAny_pyNext_list_item st p.isList (x:=u) (by simpa using hu) fun h' fH sb=>?_;have I1:Inv X pins σ H {s with heap:=h'}:=I.turned (t':=s.toks) (fun b o hb e=>(sb.2 b hb).trans e) f0 f1 f3 f4 f5;obtain⟨o,e,c,d⟩:=id fH;exact⟨u,rfl,Ay (s:={s with heap:=h'}) e c d (by decide) ⟨x,H,I1,ru,⟨rfl,fun ys hy=>by rw[I.ft hy hq];exact hx⟩,fH,fun b hb=>(hf b hb).1⟩⟩
 done:=by
  intro X hP hw hK hc i pins s σ H E I hf st hg;subst hP hw hK;obtain⟨xs,hq,hx⟩:=hg;obtain⟨ah,rv,p,hz⟩:=I.list hq;obtain⟨f0,f1,f2,f3,f4,f5⟩:=hf it (by simp);have hl:=rv.length;exact wpAny_pyNext_list_end (I.ok.hd hc) st p.isList (by simp;omega) fun h' eb=>⟨rfl,I.turned (t':=s.toks) (fun b o hb e=>eb b o hb e) f0 f1 f3 f4 f5⟩
 self:=fun _ _ _ _ _ st h=>wpAny_pyIter_listiter st h
theorem Oj{P:Program}{w:World}{K:xA}{tg:Expr}(a it:Addr):Turn P w K tg (GB K a) [it] it (fun i h=>h.IsTupleIter it a i) where
 mem:=by simp
 obj:=fun i h st b hb=>by
  have e:b=it:=by simpa using hb
  subst e;obtain⟨o,e,c,d⟩:=st;exact⟨o,e,fun v z=>by rw[d] at z;cases z⟩
 keep:=fun i h h' st k=>st.at fun o e=>k it (by simp) o e
 item:=by
  intro X hP hw hK hc i pins s σ H E I hf st hg;subst hP hw hK;obtain⟨xs,x,hq,hx⟩:=hg;obtain⟨ah,rv,p,hz⟩:=I.tuple hq;obtain⟨u,hu,ru⟩:=rv.get hx;obtain⟨f0,f1,f2,f3,f4,f5⟩:=hf it (by simp);refine wpAny_pyNext_tuple_item st (show s.heap.IsTuple a ah.toArray from p) (x:=u) (by simpa using hu) fun h' fH sb=>?_;have I1:Inv X pins σ H {s with heap:=h'}:=I.turned (t':=s.toks) (fun b o hb e=>(sb.2 b hb).trans e) f0 f1 f3 f4 f5;obtain⟨o,e,c,d⟩:=id fH;exact⟨u,rfl,Ay (s:={s with heap:=h'}) e c d (by decide) ⟨x,H,I1,ru,⟨rfl,fun ys hy=>by rw[I.d_ hy hq];exact hx⟩,fH,fun b hb=>(hf b hb).1⟩⟩
 done:=by
  intro X hP hw hK hc i pins s σ H E I hf st hg;subst hP hw hK;obtain⟨xs,hq,hx⟩:=hg;obtain⟨ah,rv,p,hz⟩:=I.tuple hq;obtain⟨f0,f1,f2,f3,f4,f5⟩:=hf it (by simp);have hl:=rv.length;exact wpAny_pyNext_tuple_end (I.ok.hd hc) st (show s.heap.IsTuple a ah.toArray from p) (by simp;omega) fun h' eb=>⟨rfl,I.turned (t':=s.toks) (fun b o hb e=>eb b o hb e) f0 f1 f3 f4 f5⟩
 self:=fun _ _ _ _ _ st h=>wpAny_pyIter_tupleiter st h
theorem Ol{P:Program}{w:World}{K:xA}{tg:Expr}(it:Addr)(lo:Int)(n:Nat):Turn P w K tg (uG lo n) [it] it (fun i h=>IsRangeIter h it (lo+(i:Nat)*1) ((n:Int)-(i:Nat)) 1) where
 mem:=by simp
 obj:=fun i h st b hb=>by
  have e:b=it:=by simpa using hb
  subst e
  exact⟨_,st,fun v z=>by
   have z':Data.fields _=Data.cell v:=z
   cases z'⟩
 keep:=fun i h h' st k=>k it (by simp) _ st
 item:=by
  intro X hP hw hK hc i pins s σ H E I hf st hg;subst hP hw hK;obtain⟨f0,f1,f2,f3,f4,f5⟩:=hf it (by simp);have W:=Walks.range (prog:=X.prog) (w:=X.w) (I.ok.hd hc) it lo 1 n;refine W.item i s _ _ hg st fun v h' tk hv fH kk=>?_;obtain⟨t,rfl⟩:=hv;have I1:Inv X pins σ H {s with heap:=h',toks:=tk}:=I.turned (fun b o hb e=>kk b o (by simpa using hb) e) f0 f1 f3 f4 f5;refine⟨_,rfl,Ay (s:={s with heap:=h',toks:=tk}) (n:="range_iterator") fH rfl rfl (by decide) ⟨.int (lo+i),H,I1,⟨t,?_⟩,⟨rfl,rfl⟩,fH,fun b hb=>(hf b hb).1⟩⟩;rw[x0d]
 done:=by
  intro X hP hw hK hc i pins s σ H E I hf st hg;subst hP hw hK;obtain⟨f0,f1,f2,f3,f4,f5⟩:=hf it (by simp);exact wpAny_pyNext_range_end (I.ok.hd hc) st (by have:n<=i:=hg;omega) fun h' eb=>⟨rfl,I.turned (t':=s.toks) (fun b o hb e=>eb b o hb e) f0 f1 f3 f4 f5⟩
 self:=fun _ _ _ _ _ st h=>wpAny_pyIter_rangeiter st h
section
variable{X:Cx}{tg:Expr}
theorem GC{pins:aq}{σ:St}{H:Hp}{s:Shared}{R:It->Hp->Prop}{E:aH}{lo hi:Int}{t u v:Tok}{tk:Nat}(I:Inv X pins σ H s)(h1 : -(2 ^ 62)<=lo)(h2:lo<2 ^ 62)(h3 : -(2 ^ 62)<=hi)(h4:hi<2 ^ 62)
  (q:R (uG lo (hi-lo).toNat) H):wpAny (model X.prog X.w) X.A (pyIter (.ref s.heap.objs.size)) (Aw X pins σ tg R) E {s with heap:=s.heap.push {cls:=.type "range",data:=.fields #[.int lo t,.int hi u,.int 1 v]},toks:=tk}:=by
 refine wpAny_pyIter_range (IsRange.new ..) (small_one h1 h2 h3 h4) ?_;have I1:Inv X pins σ H {s with heap:=s.heap.push {cls:=.type "range",data:=.fields #[.int lo t,.int hi u,.int 1 v]},toks:=tk}:=I.kept fun b o e=>qT _ e
 refine⟨(s.heap.push {cls:=.type "range",data:=.fields #[.int lo t,.int hi u,.int 1 v]}).objs.size,[(s.heap.push {cls:=.type "range",data:=.fields #[.int lo t,.int hi u,.int 1 v]}).objs.size],_,_,H,rfl,
  I1.kept (t':=tk) fun b o e=>qT _ e,Ol _ lo (hi-lo).toNat,?_,fun b hb=>?_,q⟩
 ·have e1:lo+((0:Nat):Int)*1=lo:=by simp
  have e2:(((hi-lo).toNat:Nat):Int)-((0:Nat):Int)=q4X lo hi 1:=by rw[q8q];split<;>omega
  show IsRangeIter _ _ (lo+((0:Nat):Int)*1) ((((hi-lo).toNat:Nat):Int)-((0:Nat):Int)) 1;rw[e1,e2];exact PG _ rfl
 ·have e:b=(s.heap.push {cls:=.type "range",data:=.fields #[.int lo t,.int hi u,.int 1 v]}).objs.size:=by simpa using hb
  subst e;exact I1.gv (Bi _) (I1.aD.fresh (Bi _))
def Om(ta:TA):TI:=fun σ H R=>ta σ H fun vs H1=>∃j:Int,vs=[.int j] /\ -(2 ^ 62)<=j/\j<2 ^ 62/\R (uG 0 j.toNat) H1
def Oo(ta:TA):TI:=fun σ H R=>ta σ H fun vs H1=>∃i j:Int,vs=[.int i,.int j]/\(-(2 ^ 62)<=i/\i<2 ^ 62 /\ -(2 ^ 62)<=j/\j<2 ^ 62)/\R (uG i (j-i).toNat) H1
theorem Oq{a:Expr}{ta:TA}{p pos:Pos}(hg:Gl X "range")(hm:X.mg "range" = none)(ha:JA X [a] ta)(hs:starEach [a] X.env=[(false,eval a X.env)]:=by rfl):JI X tg (.Call (.Name "range" p) [a] [] pos) (Om ta):=by
 refine⟨?_⟩;intro pins s σ H R I h;refine Call_ (nM I hg hm boot_range (q1B (aW (ha pos pins s σ H _ I h) fun us s1 h0_=>el5 h0_ fun vs H1 I1 r1 q1=>?_) hs rfl));obtain⟨j,e,q1,q2,q⟩:=q1;subst e
 cases r1 with
 |cons r rr =>
  cases rr
  obtain⟨t,rfl⟩:=r;exact call_range_1 (GC I1 (by omega) (by omega) q1 q2 (by simpa using q))
theorem Ot{a b:Expr}{ta:TA}{p pos:Pos}(hg:Gl X "range")(hm:X.mg "range" = none)(ha:JA X [a,b] ta)(hs:starEach [a,b] X.env=[(false,eval a X.env),(false,eval b X.env)]:=by rfl)(dJ:starEach [b] X.env=[(false,eval b X.env)]:=by rfl):
  JI X tg (.Call (.Name "range" p) [a,b] [] pos) (Oo ta):=by
 refine⟨?_⟩;intro pins s σ H R I h;refine Call_ (nM I hg hm boot_range (q1B (aW (ha pos pins s σ H _ I h) fun us s1 h0_=>el5 h0_ fun vs H1 I1 r1 q1=>?_) (by rw[hs,dJ]) (by rw[dJ];rfl)));obtain⟨i,j,e,⟨q1,q2,q3,q4⟩,q⟩:=q1;subst e
 cases r1 with
 |cons r rr =>
  cases rr with
  |cons r' rr =>
   cases rr
   obtain⟨t,rfl⟩:=r;obtain⟨t',rfl⟩:=r';exact call_range_2 (GC I1 q1 q2 q3 q4 q)
def uH(wi:TI)(g:TG)(tb:TS):TS:=fun D σ H=>wi σ H fun J H1=>∃W:Nat->Nat->St->Hp->Prop,(∃m,W 0 m σ H1)/\∀i m σ H,W i m σ H →
 (J.stop i H/\D.nx σ H)\/(J.go i H/\∃N:St->Hp->Prop,(∀σ' H',N σ' H'->∃m',m'<m/\W (i+1) m' σ' H')/\∀x H',J.sN i H x H'->g x σ H' fun σ2 H2=>tb {D with nx:=N,ct:=N,bk:=D.nx} σ2 H2)
noncomputable def uI(fp:List Addr)(h:Heap):List (Addr×Obj):=fp.filterMap fun b=>(h.get? b).map fun o=>(b,o)
theorem xr{fp:List Addr}{h:Heap}{b:Addr}{o:Obj}(hb:b∈fp)(e:h.get? b=some o):(b,o)∈uI fp h:=q3r.mpr ⟨b,hb,by rw[e];rfl⟩
theorem Ou{fp:List Addr}{h:Heap}{p:Addr×Obj}(hp:p∈uI fp h):p.1∈fp/\h.get? p.1=some p.2:=by
 obtain⟨b,hb,e⟩:=q3r.mp hp
 cases q:h.get? b with
 |none=>rw[q] at e;cases e
 |some o =>
  rw[q] at e;have e':(b,o)=p:=q0E e;subst e';exact⟨hb,q⟩
theorem Inv.pinned{pins:aq}{σ:St}{H:Hp}{s:Shared}{fp:List Addr}(I:Inv X pins σ H s)(hf:∀b∈fp,br X pins H b)(ho:∀b∈fp,∃o,s.heap.get? b=some o/\∀v,o.data≠.cell v):Inv X (pins++uI fp s.heap) σ H s :=
 I.e_ fun p hp=>(q04.mp hp).elim (fun z=>I.pin p (q0n _ z)) fun z=>by
  obtain⟨hb,e⟩:=Ou z;obtain⟨f0,f1,f2,_⟩:=hf p.1 hb;obtain⟨o,e',d⟩:=ho p.1 hb;rw[e] at e';cases e';exact⟨e,f0,f1,f2,d⟩
theorem Inv.dM{pins pl:aq}{σ:St}{H:Hp}{s:Shared}(I:Inv X (pins++pl) σ H s):Inv X pins σ H s:=I.e_ fun p hp=>I.pin p (q0n _ (q1C _ hp))
theorem Az{iter:Expr}{body:List Stmt}{wi:TI}{g:TG}{tb:TS}{pos:Pos}(hp:PassesOwn (model X.prog X.w) X.A X.env X.xe)(hc:X.calm=true)(hi:JI X tg iter wi)(hg:JG X tg g)(hb:bz X body tb)
  (hs:∀x,foldedSetIterable iter X.env x=pure x:=by intro _;rfl):JS X (.For tg iter body [] pos) (uH wi g tb):=by
 refine⟨?_⟩;intro pins s σ H D I h;refine wpAny_For (aW (hi pins s σ H _ I h) fun v s1 h1=>aW h1 fun Ax s2 h2=>?_) hs;obtain⟨it,fp,tn,J,H2,e,I2,T,iL,f2,W,⟨m0,w0⟩,turn⟩:=h2;subst e;have iP:∀{H':Hp},(∀b∈fp,H' b=none)->∀b∈fp,br X pins H' b:=fun hn b hb=>⟨hn b hb,(f2 b hb).2⟩;refine codeAny_forLoop_any (fun n s'=>∃i σ' H',Inv X pins σ' H' s'/\tn i s'.heap/\(∀b∈fp,H' b=none)/\W i n σ' H') ?_ m0 ⟨0,σ,H2,I2,iL,fun b hb=>(f2 b hb).1,w0⟩;rintro n s3 ⟨i,σ3,H3,I3,pL,uJ,w3⟩;rcases turn i n σ3 H3 w3 with⟨stop,qn⟩|⟨go,N,hN,step⟩
 ·refine q3p hp (aW (T.done X rfl rfl rfl hc i pins s3 σ3 H3 X.xe I3 (iP uJ) pL stop) fun r s4 ⟨hr,I4⟩=>?_)
  subst hr;exact q33 ⟨σ3,H3,I4,qn⟩
 ·refine q3p hp (aW (T.item X rfl rfl rfl hc i pins s3 σ3 H3 X.xe I3 (iP uJ) pL go) fun r s4 ⟨u,hr,h4⟩=>?_)
  subst hr;refine q3p hp (aW h4 fun _ s5 ⟨x,H5,I5,r5,y5,qy,AA⟩=>?_);have AB:=I5.pinned (iP AA) (T.obj _ _ qy);refine q3p hp (aW (hg _ s5 σ3 H5 x u _ AB r5 (step x H5 y5)) fun _ s6 ⟨σ6,H6,I6,q6⟩=>?_);refine q3p hp (aW (hb _ s6 σ6 H6 _ I6 q6) fun f s7 q7=>?_)
  have again:∀{σ7:St}{H7:Hp},Inv X (pins++uI fp s5.heap) σ7 H7 s7->N σ7 H7->∃m,m<n/\∃i σ' H',Inv X pins σ' H' s7/\tn i s7.heap/\(∀b∈fp,H' b=none)/\W i m σ' H':=fun{σ7 H7} I7 n7=>by
   obtain⟨m',hm,w7⟩:=hN σ7 H7 n7;refine⟨m',hm,i+1,σ7,H7,I7.dM,T.keep _ _ _ qy fun b hb o e=>(I7.pin (b,o) (q0n _ (q0n _ (xr hb e)))).1,fun b hb=>?_,w7⟩;obtain⟨o,e,d⟩:=T.obj _ _ qy b hb;exact(I7.pin (b,o) (q0n _ (q0n _ (xr hb e)))).2.1
  cases f with
  |next=>obtain⟨σ7,H7,I7,n7⟩:=q7;exact again I7 n7
  |cont=>obtain⟨σ7,H7,I7,n7⟩:=q7;exact again I7 n7
  |brk=>obtain⟨σ7,H7,I7,q7⟩:=q7;exact⟨σ7,H7,I7.dM,q7⟩
  |ret v=>obtain⟨x7,σ7,H7,I7,r7,q7⟩:=q7;exact⟨x7,σ7,H7,I7.dM,r7,q7⟩
end
abbrev R2:=V->V->Hp->VK->Prop
def dg(X:Cx)(f:Value->Value->Sem Value)(r:R2):Prop :=
 ∀(pins:aq)(s:Shared)(σ:St)(H:Hp)(x y:V)(v u:Value)(Q:VK),Inv X pins σ H s->RelV x v->RelV y u->r x y H Q →
  wpAny (model X.prog X.w) X.A (f v u) (EP X pins σ Q) X.xe s
def AD(X:Cx)(f:Value->Sem Value)(r:V->Hp->VK->Prop):Prop :=
 ∀(pins:aq)(s:Shared)(σ:St)(H:Hp)(x:V)(v:Value)(Q:VK),Inv X pins σ H s->RelV x v->r x H Q →
  wpAny (model X.prog X.w) X.A (f v) (EP X pins σ Q) X.xe s
def gb(X:Cx)(f:Value)(r:List V->Hp->VK->Prop):Prop :=
 ∀(pins:aq)(s:Shared)(σ:St)(H:Hp)(xs:List V)(us:List Value)(Q:VK),Inv X pins σ H s->Vals xs us->r xs H Q →
  wpAny (model X.prog X.w) X.A (call f us) (EP X pins σ Q) X.xe s
def uK(r:R2)(ta tb:TE):TE:=fun σ H Q=>ta σ H fun x H1=>tb σ H1 fun y H2=>r x y H2 Q
def Ov(r:V->Hp->VK->Prop)(ta:TE):TE:=fun σ H Q=>ta σ H fun x H1=>r x H1 Q
def rI(C:Int->Int->Prop)(g:Int->Int->V):R2:=fun x y H Q=>∃i j,x=.int i/\y=.int j/\C i j/\Q (g i j) H
def nQ(g:Int->Int->V):R2:=fun x y H Q=>∃i j,x=.int i/\y=.int j/\Q (g i j) H
def rU(g:Int->V):V->Hp->VK->Prop:=fun x H Q=>∃i,x=.int i/\Q (g i) H
section
variable{X:Cx}{a b c:Expr}{ta tb tc:TE}{pos:Pos}
theorem qz(ha:JE X a ta)(hb:JE X b tb){pins:aq}{s:Shared}{σ:St}{H:Hp}{R:V->V->Hp->Prop}(I:Inv X pins σ H s)
  (h:ta σ H fun x H1=>tb σ H1 fun y H2=>R x y H2) {Q:aH} {f:Value->Value->Sem Value}
  (hf:∀v u s2 x y H2,Inv X pins σ H2 s2->RelV x v->RelV y u->R x y H2->wpAny (model X.prog X.w) X.A (f v u) Q X.xe s2) :
  wpAny (model X.prog X.w) X.A (eval a X.env) (fun v s₁=>wpAny (model X.prog X.w) X.A (eval b X.env) (fun u s₂=>wpAny (model X.prog X.w) X.A (f v u) Q X.xe s₂) X.xe s₁) X.xe s:=by
 refine aW (ha pins s σ H _ I h) fun v s1 h0_=>el5 h0_ fun x H1 I1 r1 q1=>?_;refine aW (hb pins s1 σ H1 _ I1 q1) fun u s2 h0_=>el5 h0_ fun y H2 I2 r2 q2=>?_;exact hf v u s2 x y H2 I2 r1 r2 q2
theorem qA{op:Operator}{r:R2}(ho:dg X (binaryOp op) r)(ha:JE X a ta)(hb:JE X b tb):JE X (.BinOp a op b pos) (uK r ta tb):=by
 refine⟨?_⟩;intro pins s σ H Q I h;exact wpAny_BinOp (qz ha hb I h fun v u s2 x y H2 I2 rx ry q=>ho pins s2 σ H2 x y v u Q I2 rx ry q)
theorem Ox{op:UnaryOp}{r:V->Hp->VK->Prop}(ho:AD X (unaryOp op) r)(ha:JE X a ta):JE X (.UnaryOp op a pos) (Ov r ta):=by
 refine⟨?_⟩;intro pins s σ H Q I h;exact UnaryOp_ (aW (ha pins s σ H _ I h) fun v s1 h0_=>el5 h0_ fun x H1 I1 r1 q1 =>ho pins s1 σ H1 x v Q I1 r1 q1)
theorem xt{f:Value->Value->Sem Value}{C:Int->Int->Prop}{g:Int->Int->Int}
  (rule:∀(i j:Int)(t u:Tok)(s:Shared)(Q:aH)(E:aH),C i j->Q (.int (g i j) s.toks) {s with toks:=s.toks+1}->wpAny (model X.prog X.w) X.A (f (.int i t) (.int j u)) Q E s) :
  dg X f (rI C fun i j=>.int (g i j)):=by
 intro pins s σ H x y v u Q I rx ry h;obtain⟨i,j,rfl,rfl,hc,q⟩:=h;obtain⟨t,rfl⟩:=rx;obtain⟨t',rfl⟩:=ry;exact rule i j t t' s _ _ hc ⟨.int (g i j),H,I.tok _,⟨_,rfl⟩,q⟩
theorem uL{f:Value->Value->Sem Value}{g:Int->Int->Int}
  (rule:∀(i j:Int)(t u:Tok)(s:Shared)(Q:aH)(E:aH),Q (.int (g i j) s.toks) {s with toks:=s.toks+1}->wpAny (model X.prog X.w) X.A (f (.int i t) (.int j u)) Q E s) :
  dg X f (nQ fun i j=>.int (g i j)):=by
 intro pins s σ H x y v u Q I rx ry h;obtain⟨i,j,rfl,rfl,q⟩:=h;obtain⟨t,rfl⟩:=rx;obtain⟨t',rfl⟩:=ry;exact rule i j t t' s _ _ ⟨.int (g i j),H,I.tok _,⟨_,rfl⟩,q⟩
theorem nR{f:Value->Value->Sem Value}{g:Int->Int->Bool}
  (rule:∀(i j:Int)(t u:Tok)(s:Shared)(Q:aH)(E:aH),Q (.bool (g i j)) s->wpAny (model X.prog X.w) X.A (f (.int i t) (.int j u)) Q E s) :
  dg X f (nQ fun i j=>.bl (g i j)):=by
 intro pins s σ H x y v u Q I rx ry h;obtain⟨i,j,rfl,rfl,q⟩:=h;obtain⟨t,rfl⟩:=rx;obtain⟨t',rfl⟩:=ry;exact rule i j t t' s _ _ ⟨.bl (g i j),H,I,rfl,q⟩
def uM(i j:Int):Prop:=j≠0/\j.natAbs<1073741824
def eN(i j:Int):Prop:=0<=j/\j<=1000000/\i.natAbs<2 ^ 64
def nU(i j:Int):Prop:=(-(2 ^ 64)<i/\i<2 ^ 64)\/(-(2 ^ 64)<j/\j<2 ^ 64)
theorem nU.ok{i j:Int}(h:nU i j):IntMulOk i j:=by
 rcases h with⟨h1,h2⟩|⟨h1,h2⟩
 ·exact .of_left (q8r h1 h2)
 ·exact .of_right (q8r h1 h2)
theorem GG:dg X (binaryOp .Add) (nQ fun i j=>.int (i+j)):=uL fun _ _ _ _ _ _ _ q=>add_int q
theorem Oy:dg X (binaryOp .Sub) (nQ fun i j=>.int (i-j)):=uL fun _ _ _ _ _ _ _ q=>sub_int q
theorem Oz:dg X (binaryOp .Mult) (rI nU fun i j=>.int (i*j)):=xt fun _ _ _ _ _ _ _ hc q=>mul_int q hc.ok
theorem OA:dg X (binaryOp .FloorDiv) (rI uM fun i j=>.int (i.fdiv j)):=xt fun _ _ _ _ _ _ _ hc q=>floordiv_int hc.1 q (.inl (PyProof.noPylong_small hc.2))
theorem AE:dg X (binaryOp .Mod) (rI (fun _ j=>0<j) fun i j=>.int (i%j)):=xt fun i j _ _ _ _ _ hc q=>by
 have h1:(0:Int)<j:=hc;exact mod_int' (by omega) (by rw[Int.fmod_eq_emod_of_nonneg i (by omega)];exact q)
theorem OB:dg X (binaryOp .Pow) (rI eN fun i j=>.int (i ^ j.toNat)):=xt fun _ _ _ _ _ _ _ hc q=>pow_int_small hc.1 hc.2.1 hc.2.2 q
theorem OC{f:Value->Sem Value}{g:Int->Int}
  (rule:∀(i:Int)(t:Tok)(s:Shared)(Q:aH)(E:aH),Q (.int (g i) s.toks) {s with toks:=s.toks+1}->wpAny (model X.prog X.w) X.A (f (.int i t)) Q E s) :
  AD X f (rU fun i=>.int (g i)):=by
 intro pins s σ H x v Q I rx h;obtain⟨i,rfl,q⟩:=h;obtain⟨t,rfl⟩:=rx;exact rule i t s _ _ ⟨.int (g i),H,I.tok _,⟨_,rfl⟩,q⟩
theorem OD:AD X (unaryOp .USub) (rU fun i=>.int (-i)):=OC fun _ _ _ _ _ q=>neg_int q
end
noncomputable def AF:V->V->Bool
 |.non,.non=>true|.non,.int _=>true|.int _,.non=>true|.non,.bl _=>true|.bl _,.non=>true|.non,.str _=>true|.str _,.non=>true
 |.int _,.int _=>true|.bl _,.bl _=>true|.str _,.str _=>true|.byt _,.byt _=>true
 |.int _,.str _=>true|.str _,.int _=>true|.bl _,.str _=>true|.str _,.bl _=>true
 |_,_=>false
def OE:R2:=fun x y H Q=>AF x y=true/\Q (.bl (!decide (x=y))) H
theorem OF{i j:Int}:decide (V.int i=V.int j)=(i==j):=by
 rw[q3q];simp
theorem OG{i j:Bool}:decide (V.bl i=V.bl j)=(i==j):=by
 rw[q3q];simp
theorem OH{i j:Str}:decide (V.str i=V.str j)=(i==j):=by
 rw[q3q];simp
theorem OI{i j:Array UInt8}:decide (V.byt i=V.byt j)=(i.toList==j.toList):=by
 rw[q3q];cases i
 cases j
 simp
section
variable{X:Cx}{a b c:Expr}{ta tb tc:TE}{pos:Pos}
theorem hV{pins:aq}{σ:St}{H:Hp}{s:Shared}{Q:VK}{k k':Bool}(I:Inv X pins σ H s)(q:Q (.bl k) H)(e:k=k'):EP X pins σ Q (.bool k') s:=by
 subst e;exact⟨.bl k,H,I,rfl,q⟩
theorem OJ:dg X (compareOp .NotEq) OE:=by
 intro pins s σ H x y v u Q I rx ry h;obtain⟨hs,q⟩:=h
 cases x with
 |non =>
  cases rx
  cases y with
  |non=>cases ry;exact PySem.EqNone.ne_none_none (hV I q (by simp))
  |bl j=>cases ry;exact PySem.EqNone.ne_none_bool (hV I q (by simp))
  |int j=>obtain⟨t',rfl⟩:=ry;exact PySem.EqNone.ne_none_int (hV I q (by simp))
  |str j=>obtain⟨t',rfl⟩:=ry;exact PySem.EqNone.ne_none_str (hV I q (by simp))
  |_=>exact absurd (show false=true from hs) PH
 |bl i =>
  cases rx
  cases y with
  |non=>cases ry;exact PySem.EqNone.ne_bool_none (hV I q (by simp))
  |bl j=>cases ry;exact ne_bool (hV I q (congrArg not OG))
  |str j=>obtain⟨t',rfl⟩:=ry;exact PySem.EqMixed.ne_bool_str (hV I q (by simp))
  |_=>exact absurd (show false=true from hs) PH
 |int i =>
  obtain⟨t,rfl⟩:=rx
  cases y with
  |non=>cases ry;exact PySem.EqNone.ne_int_none (hV I q (by simp))
  |int j=>obtain⟨t',rfl⟩:=ry;exact ne_int (hV I q (congrArg not OF))
  |str j=>obtain⟨t',rfl⟩:=ry;exact PySem.EqMixed.ne_int_str (hV I q (by simp))
  |_=>exact absurd (show false=true from hs) PH
 |str i =>
  obtain⟨t,rfl⟩:=rx
  cases y with
  |non=>cases ry;exact PySem.EqNone.ne_str_none (hV I q (by simp))
  |bl j=>cases ry;exact PySem.EqMixed.ne_str_bool (hV I q (by simp))
  |int j=>obtain⟨t',rfl⟩:=ry;exact PySem.EqMixed.ne_str_int (hV I q (by simp))
  |str j=>obtain⟨t',rfl⟩:=ry;exact ne_str (hV I q (congrArg not OH))
  |_=>exact absurd (show false=true from hs) PH
 |byt i =>
  obtain⟨t,rfl⟩:=rx
  cases y with
  |byt j=>obtain⟨t',rfl⟩:=ry;exact PySem.W.ne_bytes (hV I q (congrArg not OI))
  |_=>exact absurd (show false=true from hs) PH
 |_=>cases y<;>exact absurd (show false=true from hs) PH
theorem GH:dg X (compareOp .Lt) (nQ fun i j=>.bl (decide (i<j))):=nR fun _ _ _ _ _ _ _ q=>lt_int q
theorem OK:dg X (compareOp .LtE) (nQ fun i j=>.bl (decide (i<=j))):=nR fun _ _ _ _ _ _ _ q=>le_int q
theorem OL:dg X (compareOp .Gt) (nQ fun i j=>.bl (decide (j<i))):=nR fun _ _ _ _ _ _ _ q=>gt_int q
theorem OM:dg X (compareOp .GtE) (nQ fun i j=>.bl (decide (j<=i))):=nR fun _ _ _ _ _ _ _ q=>ge_int q
theorem ON:dg X (compareOp .Is) (fun x y H Q=>y=.non/\Q (.bl (decide (x=.non))) H):=by
 intro pins s σ H x y v u Q I rx ry h;obtain⟨rfl,q⟩:=h;cases ry
 refine is_none_gen (hV I q ?_)
 cases x<;>first
  |(cases rx;rfl)
  |(obtain⟨t,rfl⟩:=rx;rfl)
theorem OO:dg X (compareOp .IsNot) (fun x y H Q=>y=.non/\Q (.bl (!decide (x=.non))) H):=by
 intro pins s σ H x y v u Q I rx ry h;obtain⟨rfl,q⟩:=h;cases ry
 refine isnot_none_gen (hV I q ?_)
 cases x<;>first
  |(cases rx;rfl)
  |(obtain⟨t,rfl⟩:=rx;rfl)
theorem GI(b:Expr){op:CmpOp}(h:op≠.In:=by decide)(h2:op≠.NotIn:=by decide):behindInMarks op b=false:=by
 have e1:(op==CmpOp.In)=false:=by cases op<;>first|rfl|exact absurd rfl h
 have e2:(op==CmpOp.NotIn)=false:=by cases op<;>first|rfl|exact absurd rfl h2
 cases b<;>simp[behindInMarks,e1,e2]
theorem OP{op:CmpOp}{r:R2}(ho:dg X (compareOp op) r)(ha:JE X a ta)(hb:JE X b tb)(hm:behindInMarks op b=false):JE X (.Compare a [op] [b] pos) (uK r ta tb):=by
 refine⟨?_⟩;intro pins s σ H Q I h;exact wpAny_Compare1 (qz ha hb I h fun v u s2 x y H2 I2 rx ry q=>ho pins s2 σ H2 x y v u Q I2 rx ry q) hm
def OQ(t:TE):TT:=fun σ H Q=>t σ H fun x H'=>∃k,x=.bl k/\Q k H'
theorem AG{op:CmpOp}{r:R2}(ho:dg X (compareOp op) r)(ha:JE X a ta)(hb:JE X b tb)(hm:behindInMarks op b=false):JT X (.Compare a [op] [b] pos) (OQ (uK r ta tb)):=by
 refine⟨?_⟩;intro pins s σ H Q I h
 refine q5q (aW (ha pins s σ H _ I h) fun v s1 h0_=>el5 h0_ fun x H1 I1 r1 q1 =>aW (hb pins s1 σ H1 _ I1 q1) fun u s2 h0_=>el5 h0_ fun y H2 I2 r2 q2 =>
  aW (ho pins s2 σ H2 x y v u _ I2 r1 r2 q2) fun c s3 ⟨z,H3,I3,r3,k,e,q3⟩=>?_) hm
 subst e;cases r3
 exact q19 ⟨H3,I3,q3⟩
def OR(r r':R2)(ta tb tc:TE):TE:=fun σ H Q=>ta σ H fun x H1=>tb σ H1 fun y H2=>r x y H2 fun z H3=>∃k,z=.bl k ∧
 (if k=true then tc σ H3 fun w' H4=>r' y w' H4 Q else Q (.bl false) H3)
theorem OS{op qB:CmpOp}{r r':R2}(ho:dg X (compareOp op) r)(kK:dg X (compareOp qB) r')(ha:JE X a ta)(hb:JE X b tb)(hc:JE X c tc)
  (hm:lastMarks [op,qB] [b,c]=false:=by with_unfolding_all rfl):JE X (.Compare a [op,qB] [b,c] pos) (OR r r' ta tb tc):=by
 refine⟨?_⟩;intro pins s σ H Q I h
 refine Compare_chain (aW (ha pins s σ H _ I h) fun v s1 h0_=>el5 h0_ fun x H1 I1 r1 q1 =>chain_link (aW (hb pins s1 σ H1 _ I1 q1) fun u s2 h0_=>el5 h0_ fun y H2 I2 r2 q2 =>
  aW (ho pins s2 σ H2 x y v u _ I2 r1 r2 q2) fun d s3 ⟨z,H3,I3,r3,k,e,q3⟩=>?_)) hm
 subst e;cases r3
 refine q19 ?_
 cases k with
 |false=>exact ite_ff ⟨.bl false,H3,I3,rfl,q3⟩
 |true=>exact ite_tt (chain_last (aW (hc pins s3 σ H3 _ I3 q3) fun w' s4 ⟨z',H4,I4,r4,q4⟩=>kK pins s4 σ H4 y z' u w' Q I4 r2 r4 q4))
theorem qC:(sizeLine:Nat)<2 ^ 63:=by rw[q2c];decide
theorem OT:dg X (binaryOp .Add) (fun x y H Q=>∃i j,x=.str i/\y=.str j/\i.length+j.length<=sizeLine/\Q (.str (i++j)) H):=by
 intro pins s σ H x y v u Q I rx ry h;obtain⟨i,j,rfl,rfl,hz,q⟩:=h;obtain⟨t,rfl⟩:=rx;obtain⟨t',rfl⟩:=ry;exact add_str (fun t' tk=>⟨.str (i++j),H,I.tok _,⟨_,rfl⟩,q⟩) hz
theorem vals1{x:V}{us:List Value}(r:Vals [x] us):∃u,us=[u]/\RelV x u:=by
 cases r with
 |cons r1 r2=>cases r2;exact⟨_,rfl,r1⟩
theorem vals2{x y:V}{us:List Value}(r:Vals [x,y] us):∃u w',us=[u,w']/\RelV x u/\RelV y w':=by
 cases r with
 |cons r1 r2 =>
  cases r2 with
  |cons r3 r4=>cases r4;exact⟨_,_,rfl,r1,r3⟩
theorem OU(hc:X.calm=true):gb X (.builtin "max") (fun xs H Q=>∃i j,xs=[.int i,.int j]/\Q (.int (if j>i then j else i)) H):=by
 intro pins s σ H xs us Q I r h;obtain⟨i,j,rfl,q⟩:=h;obtain⟨u,w',rfl,⟨t,rfl⟩,⟨t',rfl⟩⟩:=vals2 r;refine max_two_ints (I.ok.hd hc) fun h' tk k=>⟨_,H,I.kept k,?_,q⟩
 by_cases hj:j>i
 ·rw[q0f hj,q0f hj];exact⟨_,rfl⟩
 ·rw[q0a hj,q0a hj];exact⟨_,rfl⟩
theorem OW(hc:X.calm=true):gb X (.builtin "min") (fun xs H Q=>∃i j,xs=[.int i,.int j]/\Q (.int (if j<i then j else i)) H):=by
 intro pins s σ H xs us Q I r h;obtain⟨i,j,rfl,q⟩:=h;obtain⟨u,w',rfl,⟨t,rfl⟩,⟨t',rfl⟩⟩:=vals2 r;refine min_two_ints (I.ok.hd hc) fun h' tk k=>⟨_,H,I.kept k,?_,q⟩
 by_cases hj:j<i
 ·rw[q0f hj,q0f hj];exact⟨_,rfl⟩
 ·rw[q0a hj,q0a hj];exact⟨_,rfl⟩
end
structure qD(h:Heap)(x dx C:Addr)(mA:Str->Option Value):Prop where
 obj:h.get? x=some (q5h C dx)
 ns:h.Ns1 dx mA
 ne:dx≠x
theorem AH{h:Heap}{dx:Addr}{mA:Str->Option Value}(n:h.Ns1 dx mA):∃od,h.get? dx=some od/\∀name,q5C name od=some (mA name):=by
 obtain⟨o,es,ep,ho,hd,hk,_,hm⟩:=n;refine⟨o,ho,fun name=>?_⟩;have e:=hm name;unfold nsFind findBy at e;rw[<-Array.find?_toList] at e;unfold q5C;rw[hd];dsimp only;split
 ·rename_i y q
  rw[q] at e;exact congrArg some e
 ·rename_i q
  rw[q] at e
  have a:es.toList.any (·.refKey)=false:=by
   rw[q2l];intro y hy;obtain⟨z,t,AI⟩:=hk y (Array.mem_toList_iff.mp hy);simp[DictEntry.refKey,AI]
  have a':¬ es.toList.any (·.refKey)=true:=by rw[a];exact PH
  rw[q0a a'];exact congrArg some e
theorem qD.look{h:Heap}{x dx C:Addr}{mA:Str->Option Value}(I:qD h x dx C mA):∃od,q7W h x (q5h C dx) C (some od)/\∀name,q5C name od=some (mA name) :=
 let⟨od,ho,hl⟩:=AH I.ns
 ⟨od,⟨I.obj,rfl,rfl,ho⟩,hl⟩
section
variable{prog:Program}{w:World}{A:Around}{E:aH}{s:Shared}{K:xA}{x dx C f:Addr}{mA:Str->Option Value}{name:Str}{v:Value}
end
theorem fq.some_of{v:V}{o:Option Value}(r:fq (some v) o):∃u,o=some u/\RelV v u:=by
 cases o with
 |none=>exact(show False from r).elim
 |some u=>exact⟨u,rfl,r⟩
theorem OX{v:V}{u:Value}(r:RelV v u):PySem.W.handedIn u=true:=by
 cases v with
 |non=>cases(show u=q0v from r);rfl
 |bl b=>cases(show u=q2Q b from r);rfl
 |int i=>obtain⟨t,e⟩:=(show ∃t,u=q1i i t from r);cases e;rfl
 |str x=>obtain⟨t,e⟩:=(show ∃t,u=q5L x t from r);cases e;rfl
 |byt b=>obtain⟨t,e⟩:=(show ∃t,u=Value.bytes b t from r);cases e;rfl
 |flt b=>obtain⟨t,e⟩:=(show ∃t,u=q7p b t from r);cases e;rfl
 |ref a=>cases(show u=q0C a from r);rfl
 |ty n=>cases(show u=q2q n from r);rfl
section
variable{P:Program}{w:World}{H H':Hp}{h h':Heap}{a C dx:Addr}{fs NZ:List (Str×V)}
theorem OY(aD:cn P w H h)(e:H a=some (.ins C dx fs)):∃mA,qD h a dx C mA/\(∀f,fq (fs.lookup f) (mA f))/\q85 mA (fs.map (·.1))/\fs.length<=1000/\H dx=some (.own a):=by
 obtain⟨d,z,ne,ob,mA,n,r,q⟩:=(show az P w H h a (.ins C dx fs) from aD a _ e);exact⟨mA,⟨ob,n,ne⟩,r,q,z,d⟩
end
structure AJ(K:xA)(C:Addr):Prop where
 pg:q68 K C Str.empty=true
 hd:q6H K C=true
 po:PySem.W.plainOver K C=true
 sa:q2i K (.ref C) "__setattr__" = some (some (.builtin "object.__setattr__"))
theorem AJ.get{K:xA}{C:Addr}(c:AJ K C)(f:Str):q68 K C f=true:=c.pg
def uN(K:xA)(C:Addr)(f:Str):Prop:=q2i K (.ref C) f=some none
section
variable{X:Cx}{pins:aq}{σ:St}{H:Hp}{s:Shared}{a C dx:Addr}{fs:List (Str×V)}{f:Str}{v:V}{A:Around}{E:aH}
theorem OZ{prog:Program}{w:World}{env:Env}{e:Expr}{f:Str}{pos:Pos}{s:Shared}{Q:aH}(hb:attributeBase e f env (eval e env)=eval e env)
  (h:wpAny (model prog w) A (eval e env) (fun o s₁=>wpAny (model prog w) A (getAttr o f true) Q E s₁) E s):wpAny (model prog w) A (eval (.Attribute e f pos) env) Q E s :=
 Attribute_any_ h (by rw[arm_eval_Attribute,hb])
end
section
variable{X:Cx}{o e value:Expr}{f:Str}{pos pos' AK:Pos}{ta tv:TE}
end
section
variable{X:Cx}{pins:aq}{σ:St}{H:Hp}{s:Shared}{A:Around}{E:aH}{Q:aH}{c:Value}{b:Bool}
inductive dO (K:xA) (H:Hp):V->Value->Prop where
 |non:dO K H .non (.type "NoneType")
 |bl (x:Bool):dO K H (.bl x) (.type "bool")
 |int (i:Int):dO K H (.int i) (.type "int")
 |str (x:Str):dO K H (.str x) (.type "str")
 |flt (x:UInt64):dO K H (.flt x) (.type "float")
 |lst {a:Addr} {xs:List V} (e:H a=some (.lst xs)):dO K H (.ref a) (.type "list")
 |frz {a:Addr} {o:Obj} {xs:List V} (e:H a=some (.frz o (.lst xs))):dO K H (.ref a) (.type "list")
 |tup {a:Addr} {xs:List V} (e:H a=some (.tup xs)):dO K H (.ref a) (.type "tuple")
 |dK {a:Addr} {kvs:List (Key×V)} (e:H a=some (.dK kvs)):dO K H (.ref a) (.type "dict")
 |dT {a:Addr} {kvs:List (List Key×V)} (e:H a=some (.dT kvs)):dO K H (.ref a) (.type "dict")
 |ins {a C dx:Addr} {fs:List (Str×V)} (e:H a=some (.ins C dx fs)) (cl:AJ K C) (ha:q2i K (.ref C) "__class__" = some (some (.builtin "object.__class__")))
   (hn:q6I K (.builtin "object.__class__") "__get__" = some (some (.builtin "getset_descriptor.__get__"))) (xu:q7z K (.builtin "object.__class__")=some true)
   (hm:PySem.W.mroIn K C (.type "object")=some true):dO K H (.ref a) (.ref C)
theorem O0{x:V}{u t:Value}(I:Inv X pins σ H s)(rx:RelV x u)(ty:dO X.K H x t)(e:q0q X.K t c=some b)(h:∀tk,Q (.bool b) {s with toks:=tk}):
  wpAny (model X.prog X.w) A (call (.builtin "isinstance") [u,c]) Q E s:=by
 cases ty with
 |non=>cases(show u=q0v from rx);exact q1t PySem.W.kitx_none I.d6 q2R e (fun z=>nomatch z) h
 |bl y=>cases(show u=q2Q y from rx);exact q1t PySem.W.kitx_bool I.d6 q2R e (fun z=>nomatch z) h
 |int i=>obtain⟨t,q⟩:=(show ∃t,u=q1i i t from rx);cases q;exact q1t PySem.W.kitx_int I.d6 q2R e (fun z=>nomatch z) h
 |str y=>obtain⟨t,q⟩:=(show ∃t,u=q5L y t from rx);cases q;exact q1t PySem.W.kitx_str I.d6 q2R e (fun z=>nomatch z) h
 |flt y=>obtain⟨t,q⟩:=(show ∃t,u=q7p y t from rx);cases q;exact q1t PySem.W.kitx_float I.d6 q2R e (fun z=>nomatch z) h
 | @lst a xs ea =>
  cases(show u=q0C a from rx)
  obtain⟨_,_,n,_,h1⟩:=(show az X.prog X.w H s.heap a (.lst xs) from I.aD a _ ea);exact q1t q6J I.d6 ⟨_,h1,rfl⟩ e (fun z=>nomatch z) h
 | @frz a ob xs ea =>
  cases(show u=q0C a from rx)
  obtain⟨_,_,_,n,_,h1⟩:=(show az X.prog X.w H s.heap a (.frz ob (.lst xs)) from I.aD a _ ea);exact q1t q6J I.d6 ⟨_,h1,rfl⟩ e (fun z=>nomatch z) h
 | @tup a xs ea =>
  cases(show u=q0C a from rx)
  obtain⟨_,_,_,p⟩:=(show az X.prog X.w H s.heap a (.tup xs) from I.aD a _ ea);obtain⟨o,h1,h2,_⟩:=p;exact q1t PySem.W.kitx_tuple I.d6 ⟨o,h1,h2⟩ e (fun z=>nomatch z) h
 | @dK a kvs ea =>
  cases(show u=q0C a from rx)
  obtain⟨_,_,vs,_,p⟩:=(show az X.prog X.w H s.heap a (.dK kvs) from I.aD a _ ea);obtain⟨o,es,ep,h1,h2,_⟩:=p;exact q1t q6K I.d6 ⟨o,h1,h2.1⟩ e (fun z=>nomatch z) h
 | @dT a kvs ea =>
  cases(show u=q0C a from rx)
  obtain⟨_,_,xs,_,o,es,ep,h1,h2,_⟩:=(show az X.prog X.w H s.heap a (.dT kvs) from I.aD a _ ea);exact q1t q6K I.d6 ⟨o,h1,h2.1⟩ e (fun z=>nomatch z) h
 | @ins a C dx fs ea cl ha hn xu hm =>
  cases(show u=q0C a from rx)
  obtain⟨mA,O,_⟩:=OY I.aD ea;obtain⟨od,J,_⟩:=O.look;exact q1t (PySem.W.kitx_own (cl.get _) cl.hd ha hn xu hm) I.d6 J e (fun z=>nomatch z) h
end
structure aS(k:Nat)(A:Around):Prop where
 hd:A.handled=none
 dp:A.depth+3*k+5<recursionLimit
 un:A.units+16*k+200<cLine
theorem aS.mono{j k:Nat}{A:Around}(r:aS k A)(h:j<=k):aS j A:=⟨r.hd,by have:=r.dp;omega,by have:=r.un;omega⟩
theorem aS.deeper{k:Nat}{A:Around}(r:aS (k+1) A)(env:Env):aS k (A.deeper env) :=
 ⟨r.hd,by have:=r.dp;show A.depth+1+3*k+5<_;omega,by have:=r.un;show A.units+3+16*k+200<_;omega⟩
theorem aS.in1{k:Nat}{A:Around}(r:aS (k+1) A):aS k A.in1 :=
 ⟨r.hd,by have:=r.dp;show A.depth+3*k+5<_;omega,by have:=r.un;show A.units+1+16*k+200<_;omega⟩
theorem O1{A:Around}{C:Addr}{us:List Value}{kw:List (Str×Value)}:(A.under (.builtin "type.__call__" ⟨.ref C::us,kw⟩)).depth=A.depth+1:=by
 first|rfl|simp[q6L,Code.weight,Code.isCreation,Code.isGuard,Code.isCaller,Code.frames,q6M,guardIds]
theorem O3{A:Around}{C:Addr}{us:List Value}{kw:List (Str×Value)}:(A.under (.builtin "type.__call__" ⟨.ref C::us,kw⟩)).units=A.units+1:=by
 first|rfl|simp[q6L,Code.cUnits,Code.frames,q6M]
theorem aS.make{k:Nat}{A:Around}(r:aS (k+1) A)(C:Addr)(us:List Value)(kw:List (Str×Value)):aS k (A.under (.builtin "type.__call__" ⟨.ref C::us,kw⟩)) :=
 ⟨r.hd,by have:=r.dp;rw[O1];omega,by have:=r.un;rw[O3];omega⟩
theorem aS.depth{k:Nat}{A:Around}(r:aS k A):A.depth<recursionLimit:=by have:=r.dp;omega
theorem aS.units{k:Nat}{A:Around}(r:aS k A):A.units+64<cLine:=by have:=r.un;omega
def fW:TA:=fun _ H Q=>Q [] H
def gw(ta:TE)(tr:TA):TA:=fun σ H Q=>ta σ H fun x H1=>tr σ H1 fun xs H2=>Q (x::xs) H2
section
variable{X:Cx}{e:Expr}{es:List Expr}{te:TE}{t:TA}{pos:Pos}
theorem aI:JA X [] fW:=⟨fun _ _ _ _ H Q I h=>Calls.spliced_nil ⟨[],H,I,.nil,h⟩⟩
theorem ji(ha:JE X e te)(hr:JA X es t)(hs:cQ X e es:=by rfl):JA X (e::es) (gw te t):=by
 refine⟨?_⟩;intro pos pins s σ H Q I h;rw[hs];show wpAny _ _ (spliced ((false,eval e X.env)::backTo pos (starEach es X.env))) _ _ s;refine Calls.spliced_cons (aW (ha pins s σ H _ I h) fun u s1 h0_=>el5 h0_ fun x H1 I1 r1 q1=>?_);exact aW (hr pos pins s1 σ H1 _ I1 q1) fun us s2 h0_=>el5 h0_ fun xs H2 I2 r2 q2 =>⟨x::xs,H2,I2,.cons r1 r2,q2⟩
def AL(t:TA):TE:=fun σ H Q=>t σ H fun xs H1=>xs.length<=sizeLine/\∀p,H1 p=none->Q (.ref p) (upd H1 p (.tup xs))
def uO(t:TA):TE:=fun σ H Q=>t σ H fun xs H1=>xs.length<=sizeLine/\∀p,H1 p=none->Q (.ref p) (upd H1 p (.lst xs))
theorem O4{x1}(h:JA X es t):JE X (.Tuple es x1 pos) (AL t):=by
 refine⟨?_⟩;intro pins s σ H Q I hq;refine wpAny_Tuple_spliced (aW (h pos pins s σ H _ I hq) fun us s1 ⟨xs,H1,I1,r,z,q⟩=>⟨by rw[<-r.length];exact z,?_⟩);have hf:H1 s1.heap.objs.size=none:=I1.aD.fresh (Bi _);refine⟨.ref s1.heap.objs.size,upd H1 s1.heap.objs.size (.tup xs),I1.laid (t':=s1.toks) (fun b u e=>qT _ e) (Bi _) ?_,rfl,q _ hf⟩;exact⟨z,us,r,⟨_,PG _ rfl,rfl,_,rfl⟩⟩
theorem mF(h:JA X es t):JE X (.List es pos) (uO t):=by
 refine⟨?_⟩;intro pins s σ H Q I hq;refine wpAny_List_spliced (aW (h pos pins s σ H _ I hq) fun us s1 ⟨xs,H1,I1,r,z,q⟩=>⟨by rw[<-r.length];exact z,?_⟩);have hf:H1 s1.heap.objs.size=none:=I1.aD.fresh (Bi _);refine⟨.ref s1.heap.objs.size,upd H1 s1.heap.objs.size (.lst xs),I1.laid (t':=s1.toks) (fun b u e=>qT _ e) (Bi _) ?_,rfl,q _ hf⟩;exact⟨z,us,0,r,PG _ rfl⟩
end
abbrev Sp:=List V->Hp->VK->XK->Prop
abbrev jD:=List Env->Hp->Shared->XK->Value->Shared->Prop
structure iQ(P:Program)(w:World)(K:xA)(mg:Str->Option Value)(base:Heap)(A:Around)(outer:List Env)(s:Shared)(H:Hp):Prop where
 frames:A.frames=some outer
 mod:Mod K mg base
 bs:∀b o,base.get? b=some o->s.heap.get? b=some o/\H b=none
 j7:base.objs.size<=s.heap.objs.size
 cR:s.heap.FunFrames base outer
 kJ:∀b∈d5 outer,H b=none
 aD:cn P w H s.heap
 bare:AllBare s.gens
def CE(outer:List Env)(P:Program)(w:World)(H:Hp)(s:Shared)(Q:VK)(u:Value)(s':Shared):Prop :=
 ∃v H',s'.os=s.os/\AllBare s'.gens/\Un (d5 outer) [] H H' s.heap s'.heap/\cn P w H' s'.heap/\RelV v u/\Q v H'
def CR(CX:jD)(outer:List Env)(P:Program)(w:World)(H:Hp)(s:Shared)(Q:VK)(E:XK)(r:Result)(s':Shared):Prop :=
 match r with
 |.ok (.ret u)=>CE outer P w H s Q u s'
 |.ok _=>False
 |.error e=>CX outer H s E e s'
structure bP(P:Program)(w:World)(K:xA)(mg:Str->Option Value)(base:Heap)(CX:jD)(k:Nat)(f:Addr)(fd:FuncData)(ps:List Str)(sp:Sp):Prop where
 len:∀vs H Q E,sp vs H Q E->vs.length=ps.length
 run:∀(A:Around)(outer:List Env)(s:Shared)(H:Hp)(args:Args)(us:List Value)(vs:List V)(Q:VK)(E:XK),aS k A->iQ P w K mg base A outer s H->BindsTo s fd args (ps.zip us)->Vals vs us->sp vs H Q E →
  codeAny (model P w) A (.call (.ref f) args) (CR CX outer P w H s Q E) s
theorem iQ.make{P:Program}{w:World}{K:xA}{mg:Str->Option Value}{base:Heap}{A:Around}{outer:List Env}{s:Shared}{H:Hp}(e:iQ P w K mg base A outer s H)(C:Addr)(us:List Value)(kw:List (Str×Value)):
  iQ P w K mg base (A.under (.builtin "type.__call__" ⟨.ref C::us,kw⟩)) outer s H:=⟨by first|exact e.frames|(simpa[q6L,Code.envs,q6M,pushEnvs] using e.frames),e.mod,e.bs,e.j7,e.cR,e.kJ,e.aD,e.bare⟩
section
variable{X:Cx}{pins:aq}{σ:St}{H:Hp}{s s':Shared}
theorem Inv.qE(I:Inv X pins σ H s):iQ X.prog X.w X.K X.mg X.base X.A X.stack s H :=
 ⟨I.ok.frames,I.ok.mod,I.bs,q02 I.ok.j7 I.sz,I.stack,I.dI,I.aD,I.bare⟩
theorem Inv.after{Q:VK}{u:Value}(I:Inv X pins σ H s)(h:CE X.stack X.prog X.w H s Q u s'):EP X pins σ Q u s':=by
 obtain⟨v,H',os,bare,un,aD,r,q⟩:=h;obtain⟨hh,g,d,t,uq⟩:=s';obtain rfl:uq=s.os:=os;exact⟨v,H',I.call (h':=hh) (g':=g) (d':=d) (t':=t) (ch:=[]) un aD bare (fun b z=>absurd z (by simp)),r,q⟩
end
def qF(sp:Sp)(pM:List V)(E:XK)(t:TA):TE:=fun σ H Q=>t σ H fun vs H1=>sp (vs++pM) H1 Q E
def Binds(K:xA)(fd:FuncData)(ps:List Str)(ds:List Value):Prop :=
 ∀(s:Shared)(us:List Value),K.In s.heap->(us++ds).length=ps.length->BindsTo s fd ⟨us,[]⟩ (ps.zip (us++ds))
theorem Binds.all{K:xA}{fd:FuncData}{ps:List Str}(h:∀us:List Value,us.length=ps.length->bindArgs fd ⟨us,[]⟩=pure (ps.zip us)):Binds K fd ps []:=fun s us _ hl=>by
 rw[q1S] at hl ⊢;exact .of_eq (h us hl)
def mG(CX:jD)(X:Cx)(E:XK):Prop:=∀(pins:aq)(σ:St)(H:Hp)(s:Shared)(e:Value)(s':Shared),Inv X pins σ H s->CX X.stack H s E e s'->X.xe e s'
section
variable{X:Cx}{CX:jD}{k:Nat}{f C:Addr}{fd:FuncData}{ps:List Str}{sp:Sp}{pM:List V}{ds:List Value}{E:XK}{x m:Str}{p pos apos:Pos}{e o:Expr}{es:List Expr}{ta:TE}{t:TA}
theorem O5{pins:aq}{σ:St}{H:Hp}{s:Shared}{Q:VK}{us:List Value}{vs:List V}(F:bP X.prog X.w X.K X.mg X.base CX k f fd ps sp)(hr:aS k X.A)(hb:Binds X.K fd ps ds)(hd:Vals pM ds)(hx:mG CX X E)
  (I:Inv X pins σ H s) (r:Vals vs us) (h:sp (vs++pM) H Q E):wpAny (model X.prog X.w) X.A (call (.ref f) us) (EP X pins σ Q) X.xe s:=by
 have r2:Vals (vs++pM) (us++ds):=r.append hd;have hl:(us++ds).length=ps.length:=by rw[<-r2.length];exact F.len _ _ _ _ h
 refine q3t (q2P (F.run X.A X.stack s H ⟨us,[]⟩ (us++ds) (vs++pM) Q E hr I.qE (hb s us I.d6 hl) r2 h) fun r s' hq=>?_)
 cases r with
 |error e=>exact hx pins σ H s e s' I hq
 |ok fl =>
  cases fl with
  |ret u=>exact I.after hq
  |next=>exact q1e hq
  |brk=>exact q1e hq
  |cont=>exact q1e hq
theorem pN(F:bP X.prog X.w X.K X.mg X.base CX k f fd ps sp)(hr:aS k X.A)(hg:Gl X x)(hm:X.mg x=some (.ref f))(hk:q1u X.K (.ref f)=true)(hb:Binds X.K fd ps ds)(hd:Vals pM ds)(hx:mG CX X E)
  (ha:JA X (e::es) t) (cV:bA x:=by decide) (he:cQ X e es:=by rfl) (cW:dH X pos es:=by rfl) :
  JE X (.Call (.Name x p) (e::es) [] pos) (qF sp pM E t):=by
 refine⟨?_⟩;intro pins s σ H Q I h;refine q2S (xp I hg hm ?_ cV);refine q6n (h₀:=X.base) I.ok.mod.nH hk (aW (ha pos pins s σ H _ I h) fun us s1 h0_=>el5 h0_ fun vs H1 I1 r q =>⟨I1.d6,?_⟩) he cW;exact O5 F hr hb hd hx I1 r q
end
section
variable{X:Cx}{CX:jD}{k:Nat}{f C:Addr}{fd:FuncData}{ps ks:List Str}{sp:Sp}{E:XK}{x m:Str}{p pos apos jE:Pos}{e o:Expr}{es:List Expr}{kws:List Keyword}{te ta:TE}{t tk:TA}{nm:Option Str}
variable{g:List Value->List Value->List Value}{gV:List V->List V->List V}
end
structure kQ(N P:List Str)(sc:Scope):Prop where
 kind:sc.kind=.function
 co:sc.isCoroutine=false
 gen:sc.isGenerator=false
 nd:N.Nodup
 pre:N.take P.length=P
 par:∀x∈P,sc.names.lookup x=some .local\/sc.names.lookup x=some .cell
 qG:∀y∈sc.names,y.2≠.free
theorem GJ{kindOf:Str->Option NameKind}{x:Str}:∀{binds:List (Str×Value)}{m:Str->Option Value},(∀v,(x,v)∉binds)->bindL kindOf binds m x=m x
 |[],_,_=>rfl
 |(n,v)::r,m,h=>by
  unfold bindL;rw[GJ fun w hw=>h w (q0c _ hw)];split
  ·have:x≠n:=by rintro rfl;exact h v PE
   simp[this]
  ·rfl
theorem GK{kindOf:Str->Option NameKind}{x:Str}:∀{binds:List (Str×Value)}{m:Str->Option Value},(∀v,(x,v)∉binds)->bindC kindOf binds m x=m x
 |[],_,_=>rfl
 |(n,v)::r,m,h=>by
  unfold bindC;rw[GK fun w hw=>h w (q0c _ hw)];split
  ·rfl
  ·have:x≠n:=by rintro rfl;exact h v PE
   simp[this]
theorem GL{kindOf:Str->Option NameKind}{x:Str}{v:Value}:∀{P:List Str}{vs:List Value}{i:Nat}{m:Str->Option Value},P.Nodup->P[i]?=some x->vs[i]?=some v->kindOf x=some .local →
  bindL kindOf (P.zip vs) m x=some v
 |[],_,_,_,_,h,_,_=>by simp at h
 |_::_,[],_,_,_,_,h,_=>by simp at h
 |p::P,w::vs,0,m,nd,h1,h2,hk=>by
  simp at h1 h2;subst h1;subst h2;show bindL kindOf ((p,w)::P.zip vs) m p=_;unfold bindL;rw[GJ fun v hv=>(q2w.mp nd).1 (q5i hv).1,q0f hk];simp
 |p::P,w::vs,i+1,m,nd,h1,h2,hk=>by
  show bindL kindOf ((p,w)::P.zip vs) m x=_;unfold bindL;exact GL (i:=i) (q2w.mp nd).2 (by simpa using h1) (by simpa using h2) hk
theorem GN{kindOf:Str->Option NameKind}{x:Str}{v:Value}:∀{P:List Str}{vs:List Value}{i:Nat}{m:Str->Option Value},P.Nodup->P[i]?=some x->vs[i]?=some v->kindOf x≠some .local →
  bindC kindOf (P.zip vs) m x=some v
 |[],_,_,_,_,h,_,_=>by simp at h
 |_::_,[],_,_,_,_,h,_=>by simp at h
 |p::P,w::vs,0,m,nd,h1,h2,hk=>by
  simp at h1 h2;subst h1;subst h2;show bindC kindOf ((p,w)::P.zip vs) m p=_;unfold bindC;rw[GK fun v hv=>(q2w.mp nd).1 (q5i hv).1,q0a hk];simp
 |p::P,w::vs,i+1,m,nd,h1,h2,hk=>by
  show bindC kindOf ((p,w)::P.zip vs) m x=_;unfold bindC;exact GN (i:=i) (q2w.mp nd).2 (by simpa using h1) (by simpa using h2) hk
noncomputable def start(N:List Str)(vs:List V):St:=vs.map some++q0h (N.length-vs.length) none
noncomputable def bq(CX:jD)(P:Program)(w:World)(K:xA)(mg:Str->Option Value)(base:Heap)(N:List Str)(qual:Str)(scope:Scope)(f:Addr)(cd:Value)(A:Around)(outer:List Env)(s:Shared)(H:Hp)(E:XK):Cx where
 prog:=P
 w:=w
 K:=K
 mg:=mg
 base:=base
 A:=A.deeper (envOfC qual scope s.heap.objs.size f cd)
 N:=N
 s₀:=s
 H₀:=H
 env:=envOfC qual scope s.heap.objs.size f cd
 outer:=outer
 stack:=envOfC qual scope s.heap.objs.size f cd::outer
 ex:=[]
 calm:=true
 fn:=fun _=>true
 pn:=[]
 xe:=fun e s'=>wpAny (model P w) (A.deeper (envOfC qual scope s.heap.objs.size f cd)) (leaving (envOfC qual scope s.heap.objs.size f cd) e) (fun _ iR=>CX outer H s E e iR) (fun e' iR=>CX outer H s E e' iR) s'
theorem GP{sc:Scope}{n:Nat}{x:Str}(h:sc.names.lookup x=some .cell):∃c,(cellsFrom n sc.names []).lookup x=some c:=by
 have q:=q3F sc.names n [] (.inl h);exact q4I.mp q
theorem O6{CX:jD}{P:Program}{w:World}{K:xA}{mg:Str->Option Value}{base:Heap}{N ps:List Str}{qual:Str}{scope:Scope}{f:Addr}{cd:Value}{A:Around}{outer:List Env}{s s1:Shared}{H:Hp}{E:XK}{us:List Value}{vs:List V}
  (S:kQ N ps scope) (hd:A.handled=none) (e0:iQ P w K mg base A outer s H) (hl:vs.length=ps.length) (r:Vals vs us)
  (x:InCallC s s.heap.objs.size (bindL (envOfC qual scope s.heap.objs.size f cd).kindOf (ps.zip us) fun _=>none) (cellsFrom (s.heap.objs.size+1) scope.names []) (bindC (envOfC qual scope s.heap.objs.size f cd).kindOf (ps.zip us) fun _=>none) s1) :
  Inv (bq CX P w K mg base N qual scope f cd A outer s H E) [] (start N vs) H s1:=by
 have cW:ps.length<=N.length:=by have:=congrArg List.length S.pre;rw[q0L] at this;omega
 obtain⟨h1,tk,rfl,hk⟩:=x.done;have nW:∀b:Addr,b∉(bq CX P w K mg base N qual scope f cd A outer s H E).ex:=fun b z=>absurd (show b∈([]:List Addr) from z) (by simp)
 refine⟨⟨e0.mod,S.kind,rfl,rfl,Bi _,fun y z c h1 h2=>?_,fun y hy=>?_,fun y c _ h=>?_,fun _=>hd,q5D e0.frames,.inr ⟨rfl,rfl⟩,fun b z=>absurd z (nW b),e0.bs,e0.j7,fun b _ _=>nW b,fun b z=>absurd z (nW b),e0.cR,e0.kJ⟩,
  rfl,e0.bare,Un.kept hk,⟨_,x.toInCall.ns,fun i y v h1 h2 h3=>?_⟩,fun y c h=>⟨_,x.cell y c h⟩,e0.aD.fresh (Bi _),fun y c h=>?_,fun p hp=>absurd (show p∈([]:aq) from hp) (by simp),e0.aD.kept hk,?_⟩
 ·exact name_of_addr x.apart (q1w h1) (q1w h2)
 ·have hy:scope.names.lookup y=some .cell\/scope.names.lookup y=some .free:=hy
  rcases hy with hy|hy
  ·exact GP hy
  ·exact absurd rfl (S.qG _ (q1w hy))
 ·exact q1z (x.above y c (q1w h))
 ·have hi:i<vs.length:=by
   unfold start at h2
   by_cases hi:i<vs.length
   ·exact hi
   ·rw[q0k (by simpa using hi)] at h2
    rw[q2K] at h2;split at h2<;>cases h2
  have ha:vs[i]?=some v:=by
   unfold start at h2;rw[q0j (by simpa using hi),q0b] at h2
   cases e:vs[i]? with
   |none=>rw[e] at h2;cases h2
   |some a=>rw[e] at h2;cases h2;rfl
  obtain⟨u,hu,rv⟩:=r.get ha
  have hp:ps[i]?=some y:=by
   rw[<-S.pre,q1f (by omega)];exact h1
  have GQ:ps.Nodup:=by rw[<-S.pre];exact S.nd.sublist (q6z _ _)
  refine⟨u,rv,?_⟩;rcases S.par y (q0M hp) with k|k
  ·exact .inl ⟨k,GL GQ hp hu k⟩
  ·obtain⟨c,e⟩:=GP (n:=s.heap.objs.size+1) k
   refine .inr ⟨.inl k,c,e,?_⟩;have q:=x.cell y c e;rw[GN GQ hp hu (by show scope.names.lookup y≠_;rw[k];decide)] at q;exact q
 ·exact e0.aD.fresh (q1z (x.above y c (q1w h)))
 ·unfold start
  show _=N.length;rw[Hd,qU,q1N];omega
theorem AM{CX:jD}{P:Program}{w:World}{K:xA}{mg:Str->Option Value}{base:Heap}{k:Nat}{f:Addr}{name qual:Str}{params:Arguments}{body:List Stmt}{scope:Scope}{dV kV doc pm aF ct oc:Value}{an od:Option Addr}
  {mH:Array (Option Value)} {N ps:List Str} {sp:Sp} (lk:K.lookup f=some ⟨oc,od,.func (q1T name qual params body scope dV kV doc pm an aF ct),mH⟩) (eK:q28 K aF qual=true) (S:kQ N ps scope)
  (len:∀vs H Q E,sp vs H Q E->vs.length=ps.length)
  (dP:∀(A:Around)(outer:List Env)(s:Shared)(H:Hp)(vs:List V)(Q:VK)(E:XK),aS k (A.deeper (envOfC qual scope s.heap.objs.size f aF))->sp vs H Q E →
   ∃t,bz (bq CX P w K mg base N qual scope f aF A outer s H E) body t/\t {nx:=fun _ H'=>Q .non H',rt:=Q} (start N vs) H) :
  bP P w K mg base CX (k+1) f (q1T name qual params body scope dV kV doc pm an aF ct) ps sp:=by
 refine⟨len,fun A outer s H args us vs Q E hr e0 hb r mI=>?_⟩;have hl:=len _ _ _ _ mI;have KX:K.In s.heap:=e0.mod.nH.keeps fun b o e=>(e0.bs b o e).1;have lim:s.heap.NoLimit:=e0.mod.nolimit.keeps fun b o e=>(e0.bs b o e).1
 have uP:∀y∈ps.zip us,scope.names.lookup y.1=some .local\/(scope.names.lookup y.1=some .cell/\((cellsFrom (s.heap.objs.size+1) scope.names []).lookup y.1).isSome=true):=fun⟨n,v⟩ hy=>by
  rcases S.par n (q5i hy).1 with q|q
  ·exact .inl q
  ·exact .inr ⟨q,q3F _ _ _ (.inl q)⟩
 refine codeAny_call_function hr.depth (KX _ _ lk) rfl S.co S.gen rfl (PySem.W.codeRec_of KX eK) (hb _ _ _ _ ?_);refine wpAny_newFunctionEnv_cells S.kind uP fun env he s1 x=>?_;subst he;refine⟨lim.keeps x.toInCall.keep,codeAny_func ?_⟩;obtain⟨t,ht,hq⟩:=dP A outer s H vs Q E (hr.deeper _) mI;have I:Inv (bq CX P w K mg base N qual scope f aF A outer s H E) [] (start N vs) H s1:=O6 S hr.hd e0 hl r x;refine q1E (ht [] s1 (start N vs) H _ I hq) (fun fl s' hs=>?_) fun e s' hs=>hs
 have fin:∀{σ':St}{H':Hp}{v:V}{u:Value},Inv (bq CX P w K mg base N qual scope f aF A outer s H E) [] σ' H' s'->RelV v u->Q v H'->CE outer P w H s Q u s' :=
  fun{σ' H' v u} J rv q=>⟨v,H',J.os,J.bare,J.base,J.aD,rv,q⟩
 cases fl with
 |ret u =>
  obtain⟨v,σ',H',J,rv,q⟩:=hs;exact fin J rv q
 |next =>
  obtain⟨σ',H',J,q⟩:=hs;exact fin (v:=V.non) (u:=q0v) J rfl q
 |brk =>
  obtain⟨_,_,_,q⟩:=hs;exact q1e q
 |cont =>
  obtain⟨_,_,_,q⟩:=hs;exact q1e q
section
variable{X:Cx}{x:Str}{p pos:Pos}{e:Expr}{es:List Expr}{t:TA}{id T:String}{r:List V->Hp->VK->Prop}
def uQ(r:List V->Hp->VK->Prop)(t:TA):TE:=fun σ H Q=>t σ H fun vs H1=>r vs H1 Q
theorem uR(hc:gb X (.builtin id) r)(hg:Gl X x)(hm:X.mg x=none)(hv:bootBuiltins x=some (.builtin id))(ha:JA X (e::es) t)(hn:x≠"__name__" := by decide)(cV:bA x:=by decide)
  (he:cQ X e es:=by rfl) (cW:dH X pos es:=by rfl):JE X (.Call (.Name x p) (e::es) [] pos) (uQ r t):=by
 refine⟨?_⟩;intro pins s σ H Q I h;refine q2S (nM I hg hm hv ?_ hn cV);exact PyProof.Rows.callWith_builtin1 (aW (ha pos pins s σ H _ I h) fun us s1 h0_=>el5 h0_ fun vs H1 I1 r1 q1 =>hc pins s1 σ H1 vs us Q I1 r1 q1) he cW
theorem mJ(hc:gb X (.type T) r)(hg:Gl X x)(hm:X.mg x=none)(hv:bootBuiltins x=some (.type T))(ha:JA X (e::es) t)(hn:x≠"__name__" := by decide)(cV:bA x:=by decide)
  (he:cQ X e es:=by rfl) (cW:dH X pos es:=by rfl):JE X (.Call (.Name x p) (e::es) [] pos) (uQ r t):=by
 refine⟨?_⟩;intro pins s σ H Q I h;refine q2S (nM I hg hm hv ?_ hn cV);exact q1B (aW (ha pos pins s σ H _ I h) fun us s1 h0_=>el5 h0_ fun vs H1 I1 r1 q1 =>hc pins s1 σ H1 vs us Q I1 r1 q1) he cW
end
end L2
namespace HT
open PySem PyProof.Rows
noncomputable def lexLt:List Int->List Int->Bool
 |[],[]=>false
 |[],_::_=>true
 |_::_,[]=>false
 |x::xs,y::ys=>if x=y then lexLt xs ys else decide (x<y)
theorem mK(x y:Int)(xs ys:List Int):lexLt (x::xs) (y::ys)=if x=y then lexLt xs ys else decide (x<y):=rfl
theorem GS:lexLt [] []=false:=rfl
theorem GU(y:Int)(ys:List Int):lexLt [] (y::ys)=true:=rfl
theorem GV(x:Int)(xs:List Int):lexLt (x::xs) []=false:=rfl
theorem GW(A:Around)(s:Shared)(a:Int)(t:Tok)(c:Int)(u:Tok):∃e,q3T A s (.int a t) (.int c u) e/\(e=true↔a=c) :=
 ⟨(a==c),q4n a t c u,by simp⟩
theorem O7(A:Around)(s:Shared)(a:Int)(t:Tok)(c:Int)(u:Tok)(prog:Program)(w:World)(E:aH)(Q:aH)(h:Q (.bool (decide (a<c))) s):
  wpAny (model prog w) A (richCompare .Lt (.int a t) (.int c u)) Q E s :=
 (q3_ h:wpAny (model prog w) A (compareOp .Lt (.int a t) (.int c u)) Q E s)
section
open PySem.SeqAt
open PySem.AutoSeq1 (wpAny_loadPart')
open PySem.MeetsSeq PySem.MeetsSeq2 PySem.MeetsSeq3
theorem O8(l b:Addr)(items aP:Array Value)(n n2:Nat)(dd j9:Option Addr)(sl j_:Array (Option Value))(ns ms:List Int)(hi:IntsAre items.toList ns)(hj:IntsAre aP.toList ms):
  Meets (Builtin.«tuple.__lt__» ⟨[.ref l,.ref b],[]⟩)
   (fun _ R s=>s.heap.get? l=some {cls:=.type "tuple",dict:=dd,data:=.seq items n,slots:=sl}/\s.heap.get? b=some {cls:=.type "tuple",dict:=j9,data:=.seq aP n2,slots:=j_} ∧
    R (.ok (.ret (.bool (lexLt ns ms)))) s) :=
 .of_wp fun prog w A R s h=>by
  obtain⟨hp,g,d,tk,os⟩:=s;obtain⟨hl,hb,h⟩:=h;have f2:=q4J;have z1:items.size=ns.length:=by rw[<-hi.length];simp
  have z2:aP.size=ms.length:=by rw[<-hj.length];simp
  wp_walk using q1v hl,q1v hb,q4U _ (fun rest b s'=>b.1=none/\s'=⟨hp,g,d,tk,os⟩/\∃(vs ws:List Value)(cE jF:List Int),rest=vs.zip ws ∧
   IntsAre vs cE/\IntsAre ws jF/\cE.length+aP.size=jF.length+items.size/\R (.ok (.ret (.bool (lexLt cE jF)))) ⟨hp,g,d,tk,os⟩) _
  case turn =>
   rintro⟨y,x⟩ rest b s' ⟨hb',rfl,vs,ws,cE,jF,hz,qH,nX,hlen,hR⟩
   cases qH with
   |nil=>rw[q21] at hz;cases hz
   |cons a t qJ =>
    cases nX with
    |nil=>rw[q4o] at hz;cases hz
    |cons c u qK =>
     rw[q2g] at hz;injection hz with AN hrest;injection AN with hy hx;subst hy hx;rw[mK] at hR;simp only[Hc] at hlen;obtain⟨e,he,kR⟩:=GW A.in1 ⟨hp,g,d,tk,os⟩ a t c u;refine n_ (he prog w _ _ ?_)
     cases e with
     |true =>
      rw[q0f (kR.mp rfl)] at hR
      wp_walk
      exact⟨rfl,rfl,_,_,_,_,hrest,qJ,qK,by omega,hR⟩
     |false =>
      rw[q0a (fun q=>absurd (kR.mpr q) PH)] at hR;have AO:=O7 A.in1 ⟨hp,g,d,tk,os⟩ a t c u prog w
      wp_walk using AO
      exact⟨_,rfl,by simpa using hR⟩
  case fin =>
   rintro⟨b1,b2⟩ s' ⟨hb',rfl,vs,ws,cE,jF,hz,qH,nX,hlen,hR⟩;simp only at hb';subst hb'
   have hv:lexLt cE jF=decide (items.size<aP.size):=by
    cases qH with
    |nil =>
     cases nX with
     |nil =>
      simp only[q09] at hlen;rw[GS];exact(q0r (by omega)).symm
     |cons c u hw =>
      simp only[q09,Hc] at hlen;rw[GU];exact(q0x (by omega)).symm
    |cons a t hv =>
     cases nX with
     |nil =>
      simp only[q09,Hc] at hlen;rw[GV];exact(q0r (by omega)).symm
     |cons c u hw =>
      rw[q2g] at hz;cases hz
   rw[hv] at hR
   wp_walk
   exact⟨_,rfl,by simpa[q3L] using hR⟩
  case h =>
   exact⟨rfl,rfl,items.toList,aP.toList,ns,ms,rfl,hi,hj,by omega,h⟩
end
section
variable{prog:Program}{w:World}{A:Around}{E:aH}{s:Shared}
theorem AQ{l b:Addr}{items aP:Array Value}{ns ms:List Int}{Q:aH}(hl:IsTup s.heap l items)(hb:IsTup s.heap b aP)(hi:IntsAre items.toList ns)(hj:IntsAre aP.toList ms)
  (hu:A.units<cLine) (h:Q (.bool (lexLt ns ms)) s):wpAny (model prog w) A (compareOp .Lt (.ref l) (.ref b)) Q E s:=by
 obtain⟨⟨cls,dd,data,sl⟩,ho,hc,n,hd⟩:=id hl;obtain⟨⟨qL,j9,data2,j_⟩,eZ,iS,n2,hd2⟩:=id hb;simp only at hc hd iS hd2;subst hc hd iS hd2
 exact q48 (op:=.Lt) ⟨_,ho,rfl⟩ ⟨_,eZ,rfl⟩ PySem.F.slot_tuple_lt PySem.F.entry_tuple_lt (PySem.F.args_tuple_lt_2 _ _) (O8 l b items aP n n2 dd j9 sl j_ ns ms hi hj)
  ⟨ho,eZ,show q2Q (lexLt ns ms)≠q5E/\Q (.bool (lexLt ns ms)) s from⟨(fun x=>nomatch x),h⟩⟩ hu
theorem O9{t b:Addr}{vs ws:List Value}{Q:aH}(ht:IsTup s.heap t vs.toArray)(hb:IsTup s.heap b ws.toArray)(hv:vs≠[])
  (h1:ws=[]->Q (.ref t) s) (h2:ws≠[]->Q (.ref s.heap.objs.size) {s with heap:=s.heap.push {cls:=.type "tuple",data:=.seq (vs++ws).toArray}})
  (hsz:vs.length+ws.length<=sizeLine):wpAny (model prog w) A (binaryOp .Add (.ref t) (.ref b)) Q E s:=by
 obtain⟨⟨cls,dd,data,sl⟩,ho,hc,n,hd⟩:=id ht;obtain⟨⟨qL,j9,data2,j_⟩,eZ,iS,n2,hd2⟩:=id hb;simp only at hc hd iS hd2;subst hc hd iS hd2;have e:vs.toArray++ws.toArray=(vs++ws).toArray:=by simp
 by_cases hw:ws=[]
 ·exact q6N ⟨_,ho,rfl⟩ ⟨_,eZ,rfl⟩ q4Y q6c q3G q3w (q3k _ _)
   (tuple_addW1 t b vs.toArray ws.toArray n n2 dd j9 sl j_ (by simpa using hv) (by simp[hw])) ⟨ho,eZ,h1 hw⟩
 ·refine q6N ⟨_,ho,rfl⟩ ⟨_,eZ,rfl⟩ q4Y q6c q3G q3w (q3k _ _)
   (tuple_addW2 t b vs.toArray ws.toArray n n2 dd j9 sl j_ (by simpa using hv) (by simpa using hw) (by rw[Hb,Hb];exact hsz)) ⟨ho,eZ,?_⟩
  rw[e];exact h2 hw
noncomputable def aU(n d:Nat):Option Int->Nat
 |none=>d
 |some v=>if v<0 then(v+(n:Int)).toNat else min v.toNat n
theorem AR(n d:Nat):aU n d none=d:=rfl
theorem uS(n d k:Nat):aU n d (some (k:Int))=min k n:=by
 show(if(k:Int)<0 then((k:Int)+(n:Int)).toNat else min (k:Int).toNat n)=min k n;rw[q0a (by omega),q0u]
theorem O_(n d:Nat)(hd:d<=n)(o:Option Int):aU n d o<=n:=by
 cases o with
 |none=>exact hd
 |some v =>
  show(if v<0 then(v+(n:Int)).toNat else min v.toNat n)<=n
  by_cases hv:v<0
  ·rw[q0f hv];omega
  ·rw[q0a hv];exact Nat.min_le_right _ _
theorem GX(v:Int)(n d:Nat):(if v<0 then max (v+(n:Int)) 0 else min v (n:Int))=((aU n d (some v):Nat):Int):=by
 show(if v<0 then max (v+(n:Int)) 0 else min v (n:Int))=(((if v<0 then(v+(n:Int)).toNat else min v.toNat n):Nat):Int)
 by_cases hv:v<0
 ·simp only[q0f hv];omega
 ·simp only[q0a hv];omega
theorem Pa(lo hi:Option Int)(n:Nat):q3e lo hi 1 (n:Int)=(((aU n 0 lo:Nat):Int),((aU n n hi:Nat):Int)):=by
 have h1:¬ ((1:Int)<0):=by omega
 unfold q3e;simp only[h1,q1X];refine Prod.ext ?_ ?_
 ·cases lo with
  |none=>rfl
  |some v=>exact GX v n 0
 ·cases hi with
  |none=>rfl
  |some v=>exact GX v n n
theorem Pb(i j:Nat):q2v (i:Int) (j:Int) 1=j-i:=by
 unfold q2v;have h1:(1:Int)>0:=by omega
 simp only[h1,q2x,Int.ediv_one];split<;>omega
theorem GY{v:Value}{o:Option Int}{Q:Option Int->Shared->Prop}(p:IsPart v o)(h:Q o s):wpAny (model prog w) A (Builtin.Slice.slicePartIndex v) Q E s:=by
 cases p with
 |none=>exact slicePart_none h
 |int i t=>exact slicePart_int h
theorem GZ{sl:Addr}{vl vu:Value}{lo hi:Option Int}{n:Nat}{Q:Int×Int×Nat->Shared->Prop}(hs:s.heap.IsSliceOf sl vl vu .none)(pl:IsPart vl lo)(pu:IsPart vu hi)
  (h:Q (((aU n 0 lo:Nat):Int),1,aU n n hi-aU n 0 lo) s):wpAny (model prog w) A (q4p (.ref sl) (pure (n:Int))) Q E s:=by
 obtain⟨os,qM,sO,uT⟩:=id hs;unfold q4p Builtin.Slice.sliceFields;refine n_ (n_ (q1x qM uT (x:=vl) rfl (n_ (q1x qM uT (x:=vu) rfl (n_ (q1x qM uT (x:=.none) rfl (uX ?_)))))));refine n_ (slicePart_none ?_);show wpAny _ _ (if((1:Int)==0)=true then _ else _) _ _ s;rw[q0a (by decide)];refine n_ (GY pl (n_ (GY pu (n_ (uX ?_)))))
 show wpAny _ _ (match q3e lo hi 1 (n:Int) with|(lo,hi)=>pure (lo,(1:Int),q2v lo hi 1)) _ _ s;rw[Pa lo hi n];show wpAny _ _ (pure (((aU n 0 lo:Nat):Int),(1:Int),q2v ((aU n 0 lo:Nat):Int) ((aU n n hi:Nat):Int) 1)) _ _ s;rw[Pb];exact uX h
theorem Pc(xs:Array Value)(i k:Nat):((q0A k).filterMap fun(m:Nat)=>xs[((i:Int)+(m:Int)*1).toNat]?).toArray=((xs.toList.drop i).take k).toArray:=by
 have e:(fun(m:Nat)=>xs[((i:Int)+(m:Int)*1).toNat]?)=fun m=>xs[i+m]?:=by
  funext m;have:((i:Int)+(m:Int)*1).toNat=i+m:=by omega
  rw[this]
 rw[e];have:=pick_run xs i k;rw[q6j] at this;have e2:((fun x=>xs[x]?)∘fun x=>i+x)=fun m=>xs[i+m]?:=rfl;rw[e2] at this;rw[this]
theorem Pd{t sl:Addr}{items:Array Value}{vl vu:Value}{lo hi:Option Int}{Q:aH}(ht:IsTup s.heap t items)(hs:s.heap.IsSliceOf sl vl vu .none)(pl:IsPart vl lo)(pu:IsPart vu hi)
  (hw:¬ (aU items.size 0 lo=0/\aU items.size items.size hi=items.size))
  (h:Q (.ref s.heap.objs.size) {s with heap:=s.heap.push {cls:=.type "tuple",data:=.seq ((items.toList.drop (aU items.size 0 lo)).take (aU items.size items.size hi-aU items.size 0 lo)).toArray}})
  (hsz:items.size<=sizeLine):wpAny (model prog w) A (getItem (.ref t) (.ref sl)) Q E s:=by
 have jj:sizeOk (.seq ((items.toList.drop (aU items.size 0 lo)).take (aU items.size items.size hi-aU items.size 0 lo)).toArray):=by
  show((items.toList.drop (aU items.size 0 lo)).take (aU items.size items.size hi-aU items.size 0 lo)).toArray.size<=sizeLine;rw[Hb,q0L,q1V,PF];omega
 have hj:aU items.size items.size hi<=items.size:=O_ _ _ (Bi _) hi;obtain⟨os,qM,sO,uT⟩:=id hs;have AS:s.TypeIs (.ref sl) "slice" := ⟨os,qM,sO⟩;unfold getItem
 try with_reducible refine q0D ?_
 first|refine n_ (uX ?_)|skip
 refine n_ (q6O ht.typeIs (by decide) ?_)
 refine n_ (q1j (name:=q0X "__getitem__") ht.typeIs q1g
  (q1k q1g ht.typeIs q5P ?_ (q6o _ _)))
 show wpAny _ _ (q4q (.ref t) >>= _) _ _ s;refine n_ (tupleItemsOf_ ht ?_);refine n_ (q3E AS ?_);rw[q0f (by decide)];refine n_ (GZ hs pl pu ?_)
 have Pe:¬ ((((aU items.size 0 lo:Nat):Int)==0&&(1:Int)==1&&(aU items.size items.size hi-aU items.size 0 lo)==items.size)=true):=by
  intro q;rw[q0y,q0y] at q;have q1:((aU items.size 0 lo:Nat):Int)=0:=q0m q.1.1;have q2:aU items.size items.size hi-aU items.size 0 lo=items.size:=q0m q.2;exact hw ⟨by omega,by omega⟩
 show wpAny _ _ (if(((aU items.size 0 lo:Nat):Int)==0&&(1:Int)==1&&(aU items.size items.size hi-aU items.size 0 lo)==items.size)=true then _ else _) _ _ s;rw[q0a Pe,Pc]
 first
  |exact n_ (m:=q2B _) (q1c (uX ⟨_,rfl,uX h⟩) jj)
  |exact n_ (m:=q2B _) (q1c (n_ (uX (uX ⟨_,rfl,uX h⟩))) jj)
  |exact n_ (n_ (m:=q2B _) (q1c (uX (uX ⟨_,rfl,uX h⟩)) jj))
  |exact n_ (n_ (m:=q2B _) (q1c (uX ⟨_,rfl,uX h⟩) jj))
end
end HT
namespace L2
open PySem PySem.Spec PyProof.Rows
abbrev TO:=St->Hp->(Option Int->Hp->Prop)->Prop
def PO(X:Cx)(e:Option Expr)(t:TO):Prop :=
 ∀(pins:aq)(s:Shared)(σ:St)(H:Hp)(Q:Option Int->Hp->Prop),Inv X pins σ H s->t σ H Q →
  wpAny (model X.prog X.w) X.A (evalPart e X.env) (fun u s'=>∃o H',Inv X pins σ H' s'/\IsPart u o/\Q o H') X.xe s
def Pf:TO:=fun _ H Q=>Q none H
def Pg(t:TE):TO:=fun σ H Q=>t σ H fun x H1=>∃i,x=.int i/\Q (some i) H1
theorem intsAre_of{ns:List Int}:∀{us:List Value},Vals (ns.map V.int) us->IntsAre us ns:=by
 induction ns with
 |nil=>intro us r;rw[q1_] at r;cases r;exact .nil
 |cons n ns ih =>
  intro us r;rw[q0p] at r
  cases r with
  |cons r1 r2 =>
   obtain⟨t,e⟩:=r1;subst e;exact .cons n t (ih r2)
section
variable{X:Cx}{e:Expr}{te:TE}{lo hi:Option Expr}{tl th:TO}{pos p2:Pos}
theorem G0:PO X none Pf:=by
 intro pins s σ H Q I h;rw[q8z];exact uX ⟨none,H,I,.none,h⟩
theorem xv(h:JE X e te):PO X (some e) (Pg te):=by
 intro pins s σ H Q I hw;rw[evalPart_some];refine aW (h pins s σ H _ I hw) fun u s1 h0_=>el5 h0_ fun x H1 I1 r1 q1=>?_;obtain⟨i,rfl,q⟩:=q1;obtain⟨t,rfl⟩:=r1;exact⟨some i,H1,I1,.int i t,q⟩
def pO(X:Cx)(r:V->Option Int->Option Int->Hp->VK->Prop):Prop :=
 ∀(pins:aq)(s:Shared)(σ:St)(H:Hp)(x:V)(v vl vu:Value)(lo hi:Option Int)(sl:Addr)(Q:VK),Inv X pins σ H s->RelV x v->s.heap.IsSliceOf sl vl vu .none->IsPart vl lo->IsPart vu hi->r x lo hi H Q →
  ∃T id,typeLookup (.type T) "__getitem__" = pure (some (.builtin id))/\s.TypeIs v T/\wpAny (model X.prog X.w) X.A (getItem v (.ref sl)) (EP X pins σ Q) X.xe s
theorem pO.or{r r':V->Option Int->Option Int->Hp->VK->Prop}(h:pO X r)(h':pO X r'):pO X (fun x lo hi H Q=>r x lo hi H Q\/r' x lo hi H Q):=by
 intro pins s σ H x v vl vu lo hi sl Q I rx hs pl pu q;rcases q with q|q
 ·exact h pins s σ H x v vl vu lo hi sl Q I rx hs pl pu q
 ·exact h' pins s σ H x v vl vu lo hi sl Q I rx hs pl pu q
def Ph(r:V->Option Int->Option Int->Hp->VK->Prop)(te:TE)(tl th:TO):TE:=fun σ H Q=>te σ H fun x H1=>tl σ H1 fun l H2=>th σ H2 fun u H3=>r x l u H3 Q
theorem AU{r:V->Option Int->Option Int->Hp->VK->Prop}(hr:pO X r)(he:JE X e te)(hl:PO X lo tl)(hu:PO X hi th):JE X (.Subscript e (.Slice lo hi none p2) pos) (Ph r te tl th):=by
 refine⟨?_⟩;intro pins s σ H Q I h;refine Subscript_ (aW (he pins s σ H _ I h) fun v s1 h0_=>el5 h0_ fun x H1 I1 r1 q1=>?_);refine wpAny_Slice (aW (hl pins s1 σ H1 _ I1 q1) fun vl s2 h0_=>el5 h0_ fun l H2 I2 pl q2 =>aW (hu pins s2 σ H2 _ I2 q2) fun vu s3 h0_=>el5 h0_ fun u H3 I3 pu q3=>?_);rw[q8z];refine uX ?_;have I4:Inv X pins σ H3 {s3 with heap:=s3.heap.push {cls:=.type "slice",data:=.fields #[vl,vu,.none]}}:=I3.kept (t':=s3.toks) fun b ob q=>qT _ q;obtain⟨T,id,hT,ht,hg⟩:=hr pins {s3 with heap:=s3.heap.push {cls:=.type "slice",data:=.fields #[vl,vu,.none]}} σ H3 x v vl vu l u s3.heap.objs.size Q I4 r1 (Heap.IsSliceOf.new ..) pl pu q3
 show wpAny (model X.prog X.w) X.A (subscriptTail e (.Slice lo hi none p2) v (.ref s3.heap.objs.size)) (EP X pins σ Q) X.xe {s3 with heap:=s3.heap.push {cls:=.type "slice",data:=.fields #[vl,vu,.none]}};exact tail_any (ops:=[.ref s3.heap.objs.size,v]) ht hT hg (by with_unfolding_all rfl)
noncomputable def cF(xs:List V)(lo hi:Option Int):List V:=(xs.drop (HT.aU xs.length 0 lo)).take (HT.aU xs.length xs.length hi-HT.aU xs.length 0 lo)
theorem G1(xs:List V)(lo hi:Option Int):(cF xs lo hi).length<=xs.length:=by
 unfold cF;rw[q0L,q1V];omega
def AV(K:xA):V->Option Int->Option Int->Hp->VK->Prop:=fun x lo hi H Q=>∃a xs,x=.ref a/\bw K H a xs ∧
 ¬ (HT.aU xs.length 0 lo=0/\HT.aU xs.length xs.length hi=xs.length)/\∀p,H p=none->Q (.ref p) (upd H p (.tup (cF xs lo hi)))
theorem Pj:pO X (AV X.K):=by
 intro pins s σ H x v vl vu lo hi sl Q I rx hs pl pu h;obtain⟨a,xs,rfl,hx,hw,q⟩:=h;cases rx
 obtain⟨ah,r,ht,hz⟩:=I.tuple hx;have hlen:ah.toArray.size=xs.length:=by rw[Hb];exact r.length.symm
 refine⟨"tuple",_,q1g.lookup,ht.typeIs,?_⟩;refine HT.Pd ht hs pl pu (by rw[hlen];exact hw) ?_ (by rw[hlen];exact hz);rw[hlen];refine⟨.ref s.heap.objs.size,_,I.laid (t':=s.toks) (o:=.tup (cF xs lo hi)) (fun b ob q=>qT _ q) (Bi _) ?_,rfl,q _ (I.aD.fresh (Bi _))⟩;exact⟨q02 (G1 xs lo hi) hz,_,(r.drop (HT.aU xs.length 0 lo)).take (HT.aU xs.length xs.length hi-HT.aU xs.length 0 lo),IsTup.new _ _⟩
def AW(K:xA):R2:=fun x y H Q=>∃a b ns ms,x=.ref a/\y=.ref b/\bw K H a (ns.map V.int)/\bw K H b (ms.map V.int)/\Q (.bl (HT.lexLt ns ms)) H
theorem Pk(hu:X.A.units<cLine):dg X (compareOp .Lt) (AW X.K):=by
 intro pins s σ H x y v u Q I rx ry h;obtain⟨a,b,ns,ms,rfl,rfl,ha,hb,q⟩:=h;cases rx
 cases ry
 obtain⟨ah,r1,p1,_⟩:=I.tuple ha;obtain⟨aY,r2,p2,_⟩:=I.tuple hb;have i1:IntsAre ah.toArray.toList ns:=intsAre_of r1;have i2:IntsAre aY.toArray.toList ms:=intsAre_of r2;exact HT.AQ p1 p2 i1 i2 hu ⟨.bl (HT.lexLt ns ms),H,I,rfl,q⟩
def Pl(K:xA):R2:=fun x y H Q=>∃a b xs ys,x=.ref a/\y=.ref b/\bw K H a xs/\bw K H b ys/\xs≠[]/\xs.length+ys.length<=sizeLine ∧
 (ys=[]->Q (.ref a) H)/\(ys≠[]->∀p,H p=none->Q (.ref p) (upd H p (.tup (xs++ys))))
theorem Vals.fg{xs:List V}{us:List Value}(r:Vals xs us):us=[]↔xs=[]:=by
 cases r with
 |nil=>simp
 |cons _ _=>simp
theorem Pn:dg X (binaryOp .Add) (Pl X.K):=by
 intro pins s σ H x y v u Q I rx ry h;obtain⟨a,b,xs,ys,rfl,rfl,ha,hb,hx,hz,q1,q2⟩:=h;cases rx
 cases ry
 obtain⟨ah,r1,p1,_⟩:=I.tuple ha;obtain⟨aY,r2,p2,_⟩:=I.tuple hb;refine HT.O9 p1 p2 (fun z=>hx (r1.fg.mp z)) (fun z=>⟨.ref a,H,I,rfl,q1 (r2.fg.mp z)⟩) (fun z=>?_) (by rw[<-r1.length,<-r2.length];exact hz);refine⟨.ref s.heap.objs.size,_,I.laid (t':=s.toks) (o:=.tup (xs++ys)) (fun b ob q=>qT _ q) (Bi _) ?_,rfl,q2 (fun w=>z (r2.fg.mpr w)) _ (I.aD.fresh (Bi _))⟩;exact⟨by rw[Hd];exact hz,_,r1.append r2,IsTup.new _ _⟩
end
noncomputable def jG(n:Nat)(i:Int):Option Nat:=if 0<=i then(if i<n then some i.toNat else none) else if -(n:Int)<=i then some (i+n).toNat else none
noncomputable def eO{α:Type}(xs:List α)(i:Int):Option α:=(jG xs.length i).bind fun j=>xs[j]?
theorem G2{n:Nat}{i:Int}{j:Nat}(h:jG n i=some j):seqIndex? i n=some j/\j<n /\ -(n:Int)<=i/\i<n:=by
 unfold jG at h
 by_cases h0:0<=i
 ·rw[q0f h0] at h
  by_cases h1:i<n
  ·rw[q0f h1] at h
   have e:i.toNat=j:=q0E h;exact⟨by rw[q7q h0 h1,e],by omega,by omega,h1⟩
  ·rw[q0a h1] at h;cases h
 ·rw[q0a h0] at h
  by_cases h1 : -(n:Int)<=i
  ·rw[q0f h1] at h
   have e:(i+n).toNat=j:=q0E h;exact⟨by rw[q6P (by omega) h1,e],by omega,h1,by omega⟩
  ·rw[q0a h1] at h;cases h
theorem AX{α:Type}{xs:List α}{i:Int}{v:α}(h:eO xs i=some v):∃j,seqIndex? i xs.length=some j/\xs[j]?=some v/\j<xs.length /\ -(xs.length:Int)<=i/\i<xs.length:=by
 unfold eO at h
 cases e:jG xs.length i with
 |none=>rw[e] at h;cases h
 |some j =>
  rw[e] at h;obtain⟨h1,h2,h3,h4⟩:=G2 e;exact⟨j,h1,h,h2,h3,h4⟩
theorem kS{α:Type}{xs:List α}{j:Nat}{v:α}(h:xs[j]?=some v):eO xs (j:Int)=some v:=by
 have hj:j<xs.length:=(sR.mp h).1
 have e:jG xs.length (j:Int)=some j:=by
  unfold jG;rw[q0f (by omega),q0f (by omega)];simp
 unfold eO;rw[e];exact h
def G3(b:Expr):Prop:=∀o i,subscripted b false o i=operate [o,i] (getItem o i)
def uU(X:Cx)(r:R2):Prop :=
 ∀(value slice:Expr)(pins:aq)(s:Shared)(σ:St)(H:Hp)(x y:V)(v u:Value)(Q:VK),Inv X pins σ H s->RelV x v->RelV y u->r x y H Q →
  subscripted slice false v u=operate [v,u] (getItem v u)->wpAny (model X.prog X.w) X.A (subscriptTail value slice v u) (EP X pins σ Q) X.xe s
def AY(X:Cx)(id:String)(r:V->List V->Hp->VK->Prop):Prop :=
 ∀(pins:aq)(s:Shared)(σ:St)(H:Hp)(x:V)(xs:List V)(v:Value)(us:List Value)(Q:VK),Inv X pins σ H s->RelV x v->Vals xs us->r x xs H Q →
  wpAny (model X.prog X.w) X.A (call (.builtin id) (v::us)) (EP X pins σ Q) X.xe s
section
variable{X:Cx}{a b:Expr}{ta tb:TE}{pos:Pos}
theorem xw{r:R2}(hr:uU X r)(ha:JE X a ta)(hb:JE X b tb)(hs:G3 b):JE X (.Subscript a b pos) (uK r ta tb):=by
 refine⟨?_⟩;intro pins s σ H Q I h;exact Subscript_ (qz ha hb I h fun v u s2 x y H2 I2 rx ry q=>hr a b pins s2 σ H2 x y v u Q I2 rx ry q (hs _ _))
def AZ(K:xA):R2:=fun x y H Q=>∃p xs i v,x=.ref p/\y=.int i/\aZ K H p xs/\eO xs i=some v/\Q v H
def A0(K:xA):R2:=fun x y H Q=>∃p xs i v,x=.ref p/\y=.int i/\bw K H p xs/\eO xs i=some v/\Q v H
def A2:R2:=fun x y H Q=>∃z i c,x=.str z/\y=.int i/\z.length<=sizeLine/\eO z.cps.toList i=some c/\Q (.str ⟨#[c]⟩) H
theorem xx:uU X (AZ X.K):=by
 intro value slice pins s σ H x y v u Q I rx ry h hs;obtain⟨p,xs,i,z,rfl,rfl,hq,he,q⟩:=h;cases rx
 obtain⟨t,rfl⟩:=ry;obtain⟨ah,r,pl,hz⟩:=I.list hq;obtain⟨j,h1,h2,h3,h4,h5⟩:=AX he;obtain⟨w,ew,uV⟩:=r.get h2;have hl:=r.length;have hn:=qC;have fin:EP X pins σ Q w s:=⟨z,H,I,uV,q⟩
 by_cases h0:0<=i
 ·have hj:i.toNat=j:=by
   rw[q7q h0 h5] at h1;exact q0E h1
  exact item_listR pl.isList h0 (by omega) (by rw[hj];simpa using ew) fin hs
 ·have hj:(i+(ah.toArray.size:Int)).toNat=j:=by
   rw[q6P (by omega) h4] at h1;rw[Hb,<-hl];exact q0E h1
  exact q49 (x:=w) pl.isList.typeIs q6Q.lookup
   (wpAny_getItem_list_neg (Q:=fun r s'=>r=w/\EP X pins σ Q r s') pl.isList (by omega) (by rw[Hb]<;>omega) (by omega) (by rw[hj];simpa using ew) ⟨rfl,fin⟩) hs
theorem Po:uU X (A0 X.K):=by
 intro value slice pins s σ H x y v u Q I rx ry h hs;obtain⟨p,xs,i,z,rfl,rfl,hq,he,q⟩:=h;cases rx
 obtain⟨t,rfl⟩:=ry;obtain⟨ah,r,pl,hz⟩:=I.tuple hq;obtain⟨j,h1,h2,h3,h4,h5⟩:=AX he;obtain⟨w,ew,uV⟩:=r.get h2;have hl:=r.length;have hn:=qC;have fin:EP X pins σ Q w s:=⟨z,H,I,uV,q⟩
 exact q49 (x:=w) pl.typeIs slot_tuple_getitem.lookup
  (getItem_tuple (j:=j) (Q:=fun r s'=>r=w/\EP X pins σ Q r s') pl (by omega) (by omega) (by rw[Hb,<-hl];exact h1) (by simpa using ew) ⟨rfl,fin⟩) hs
theorem Pp:uU X A2:=by
 intro value slice pins s σ H x y v u Q I rx ry h hs;obtain⟨z,i,c,rfl,rfl,hz,he,q⟩:=h;obtain⟨t,rfl⟩:=rx;obtain⟨t',rfl⟩:=ry;obtain⟨j,h1,h2,h3,h4,h5⟩:=AX he;have hl:z.cps.toList.length=z.length:=by simp[Str.length]
 rw[hl] at h1 h4 h5;have hn:=qC
 exact tail_any (typeIs_str s z t) slot_str_getitem.lookup (getItem_str (c:=c) (by
  have e1:decide (i < -(2 ^ 63:Int))=false:=q0r (by omega);have e2:decide (i ≥ 2 ^ 63)=false:=q0r (by omega)
  rw[e1,e2,q6a]) (by rw[h1];simpa using h2) ⟨.str ⟨#[c]⟩,H,I.tok _,⟨_,rfl⟩,q⟩) hs
theorem Pq(ah:List Value)(n j:Nat)(u:Value):q1d (·.setIfInBounds j u) {cls:=.type "list",data:=.seq ah.toArray n}={cls:=.type "list",data:=.seq (ah.set j u).toArray n}:=by
 simp[q1d]
theorem Inv.lst{pins:aq}{σ:St}{H:Hp}{s:Shared}{p:Addr}{xs:List V}(I:Inv X pins σ H s)(h:H p=some (.lst xs)):
  ∃(ah:List Value)(n:Nat),Vals xs ah/\s.heap.get? p=some {cls:=.type "list",data:=.seq ah.toArray n}/\xs.length<=sizeLine:=by
 obtain⟨z,ah,n,r,e⟩:=I.aD p _ h;exact⟨ah,n,r,e,z⟩
theorem Inv.qN{pins:aq}{σ:St}{H:Hp}{s:Shared}{p:Addr}{xs ys:List V}{ah its':List Value}{n n':Nat}{f:Obj->Obj}(I:Inv X pins σ H s)(h:H p=some (.lst xs))
  (ho:s.heap.get? p=some {cls:=.type "list",data:=.seq ah.toArray n}) (hf:f {cls:=.type "list",data:=.seq ah.toArray n}={cls:=.type "list",data:=.seq its'.toArray n'}) (r:Vals ys its') (hz:ys.length<=sizeLine) (t:Nat) :
  Inv X pins σ (upd H p (.lst ys)) {s with heap:=s.heap.update p f,toks:=t}:=by
 have e:(s.heap.update p f).get? p=some {cls:=.type "list",data:=.seq its'.toArray n'}:=by
  rw[q0J f ho (by rw[hf]<;>rfl),hf]
 refine I.write (x:=p) (e:=p) (by rw[h];trivial) (.inl rfl) (fun b u hb q=>(q0P _ _ (q1A hb)).trans q) ⟨_,e⟩ ?_;exact⟨hz,its',n',r,e⟩
def G4:V->V->V->Hp->(Hp->Prop)->Prop:=fun o i v H Q=>∃p xs k j,o=.ref p/\i=.int k/\H p=some (.lst xs)/\jG xs.length k=some j/\Q (upd H p (.lst (xs.set j v)))
theorem set_list:uA X G4:=by
 intro pins s σ H o i v ov iv u Q I ro ri rv h;obtain⟨p,xs,k,j,rfl,rfl,hp,hj,q⟩:=h;cases ro
 obtain⟨t,rfl⟩:=ri;obtain⟨ah,n,r,ho,hz⟩:=I.lst hp;obtain⟨h1,h2,h3,h4⟩:=G2 hj;have hl:=r.length;have hn:=qC
 have I':Inv X pins σ (upd H p (.lst (xs.set j v))) {s with heap:=s.heap.update p (q1d (·.setIfInBounds j u))} :=
  I.qN hp ho (Pq ah n j u) (r.set rv j) (by rw[q1H];exact hz) s.toks
 by_cases h0:0<=k
 ·have hk:k.toNat=j:=by
   rw[q7q h0 h4] at h1;exact q0E h1
  exact PySem.W.ki_setAt ho h0 (by omega) (by rw[Hb,<-hl];exact h4) (by rw[hk];exact⟨_,I',q⟩)
 ·have hk:(k+(ah.toArray.size:Int)).toNat=j:=by
   rw[q6P (by omega) h3] at h1;rw[Hb,<-hl];exact q0E h1
  exact PySem.W.ki_setBack ho (by omega) (by rw[Hb,<-hl];exact h3) (by omega) (by rw[hk];exact⟨_,I',q⟩)
theorem Pr(lo hi:Option Int)(n:Nat):(sliceBounds lo hi none n).1=((HT.aU n 0 lo:Nat):Int)/\(sliceBounds lo hi none n).2.1=((HT.aU n n hi:Nat):Int)/\(sliceBounds lo hi none n).2.2=1:=by
 refine⟨?_,?_,rfl⟩
 ·cases lo with
  |none=>simp[sliceBounds,HT.aU]
  |some i =>
   simp only[sliceBounds,HT.aU,q4T,show(1:Int)>0 by decide,q2x]
   by_cases h:i<0
   ·simp only[h,q2x]<;>omega
   ·simp only[h,q1X]<;>omega
 ·cases hi with
  |none=>simp[sliceBounds,HT.aU]
  |some i =>
   simp only[sliceBounds,HT.aU,q4T,show(1:Int)>0 by decide,q2x]
   by_cases h:i<0
   ·simp only[h,q2x]<;>omega
   ·simp only[h,q1X]<;>omega
theorem Pt(ah:List Value)(lo hi:Option Int):slicePick ah.toArray lo hi none=((ah.drop (HT.aU ah.length 0 lo)).take (HT.aU ah.length ah.length hi-HT.aU ah.length 0 lo)).toArray:=by
 obtain⟨h1,h2,h3⟩:=Pr lo hi ah.toArray.size;unfold slicePick;rw[h1,h2,h3];simp only[sliceRange_one,pick_run,Hb]<;>rfl
def A3(K:xA):V->Option Int->Option Int->Hp->VK->Prop:=fun x lo hi H Q=>∃a xs,x=.ref a/\aZ K H a xs/\∀p,H p=none->Q (.ref p) (upd H p (.lst (cF xs lo hi)))
theorem gx:pO X (A3 X.K):=by
 intro pins s σ H x v vl vu lo hi sl Q I rx hs pl pu h;obtain⟨a,xs,rfl,hx,q⟩:=h;cases rx
 obtain⟨ah,r,ht,hz⟩:=I.list hx;have hlen:=r.length;refine⟨"list",_,q6Q.lookup,ht.isList.typeIs,?_⟩;refine wpAny_getItem_list_slice ht.isList hs pl pu .none (by simp) ?_ (by rw[Hb]<;>omega);rw[Pt,<-hlen];refine⟨.ref s.heap.objs.size,_,I.laid (t':=s.toks) (o:=.lst (cF xs lo hi)) (fun b ob q=>qT _ q) (Bi _) ?_,rfl,q _ (I.aD.fresh (Bi _))⟩;exact⟨q02 (G1 xs lo hi) hz,_,0,(r.drop (HT.aU xs.length 0 lo)).take (HT.aU xs.length xs.length hi-HT.aU xs.length 0 lo),PG _ rfl⟩
noncomputable def ka:V->Bool
 |.non=>true
 |.bl _=>true
 |.int _=>true
 |.str _=>true
 |_=>false
noncomputable def gf:V->V->Bool
 |.non,.non=>true
 |.bl a,.bl b=>a==b
 |.bl a,.int b=>(if a then 1 else 0)==b
 |.int a,.bl b=>a==(if b then 1 else 0)
 |.int a,.int b=>a==b
 |.str a,.str b=>a==b
 |_,_=>false
theorem Pu{A:Around}{s:Shared}{y x:V}{u v:Value}(ry:RelV y u)(rx:RelV x v)(fy:ka y=true)(fx:ka x=true):q3T A s u v (gf y x):=by
 cases y with
 |non =>
  cases ry
  cases x with
  |non=>cases rx;exact q34 _
  |bl b=>cases rx;exact q5F b
  |int b=>obtain⟨t,rfl⟩:=rx;exact q5Q b t
  |str b=>obtain⟨t,rfl⟩:=rx;exact q5R b t
  |_=>exact absurd (show false=true from fx) PH
 |bl a =>
  cases ry
  cases x with
  |non=>cases rx;exact q5G a
  |bl b=>cases rx;exact q5H a b
  |int b=>obtain⟨t,rfl⟩:=rx;exact q5S a b t
  |str b=>obtain⟨t,rfl⟩:=rx;exact q5T a b t
  |_=>exact absurd (show false=true from fx) PH
 |int a =>
  obtain⟨t',rfl⟩:=ry
  cases x with
  |non=>cases rx;exact q5U a t'
  |bl b=>cases rx;exact q5V a t' b
  |int b=>obtain⟨t,rfl⟩:=rx;exact q4n a t' b t
  |str b=>obtain⟨t,rfl⟩:=rx;exact q4k a t' b t
  |_=>exact absurd (show false=true from fx) PH
 |str a =>
  obtain⟨t',rfl⟩:=ry
  cases x with
  |non=>cases rx;exact q5W a t'
  |bl b=>cases rx;exact q5X a t' b
  |int b=>obtain⟨t,rfl⟩:=rx;exact q4l a t' b t
  |str b=>obtain⟨t,rfl⟩:=rx;exact q6p a t' b t
  |_=>exact absurd (show false=true from fx) PH
 |_=>exact absurd (show false=true from fy) PH
noncomputable def pP(x:V)(u:Value):Bool:=match u with
 |.none=>gf .non x
 |.bool b=>gf (.bl b) x
 |.int i _=>gf (.int i) x
 |.str z _=>gf (.str z) x
 |_=>false
theorem A4{x y:V}{u:Value}(r:RelV y u)(f:ka y=true):pP x u=gf y x:=by
 cases y with
 |non=>cases r;rfl
 |bl b=>cases r;rfl
 |int i=>obtain⟨t,rfl⟩:=r;rfl
 |str z=>obtain⟨t,rfl⟩:=r;rfl
 |_=>exact absurd (show false=true from f) PH
theorem A5{A:Around}{s:Shared}{x:V}{v:Value}(rx:RelV x v)(fx:ka x=true):∀{xs:List V}{us:List Value},Vals xs us->xs.all ka=true->∀u∈us,q3T A s u v (pP x u)
 |_,_,.nil,_=>fun u hu=>by cases hu
 |y::xs,u::us,.cons r t,f=>fun u' hu=>by
  rw[q4K,q0y] at f;rcases PD.mp hu with rfl|hu
  ·rw[A4 r f.1];exact Pu r rx f.1 fx
  ·exact A5 rx fx t f.2 u' hu
theorem G5:gb X (.builtin "len") (fun xs H Q=>∃p ys,xs=[.ref p]/\(aZ X.K H p ys\/bw X.K H p ys)/\Q (.int ys.length) H):=by
 intro pins s σ H xs us Q I r h;obtain⟨p,ys,rfl,hq,q⟩:=h;obtain⟨u,rfl,rx⟩:=vals1 r;cases rx
 have hn:=qC;rcases hq with hq|hq
 ·obtain⟨ah,r',pl,hz⟩:=I.list hq
  have hlen:=r'.length;exact Calls.call_len_list pl.isList (by simp only[Hb]<;>omega) ⟨.int ys.length,H,I.tok _,⟨s.toks+1,by rw[Hb,hlen]⟩,q⟩
 ·obtain⟨ah,r',pl,hz⟩:=I.tuple hq
  have hlen:=r'.length;exact len_tuple pl (by simp only[Hb]<;>omega) ⟨.int ys.length,H,I.tok _,⟨s.toks+1,by rw[Hb,hlen]⟩,q⟩
theorem Pw:gb X (.builtin "len") (fun xs H Q=>∃z,xs=[.str z]/\z.length<=sizeLine/\Q (.int z.length) H):=by
 intro pins s σ H xs us Q I r h;obtain⟨z,rfl,hz,q⟩:=h;obtain⟨u,rfl,t,rfl⟩:=vals1 r;have hn:=qC;exact len_str (by omega) ⟨.int z.length,H,I.tok _,⟨_,rfl⟩,q⟩
theorem A6:gb X (.type "list") (fun xs H Q=>∃p ys,xs=[.ref p]/\(aZ X.K H p ys\/bw X.K H p ys)/\∀l,H l=none->Q (.ref l) (upd H l (.lst ys))):=by
 intro pins s σ H xs us Q I r h;obtain⟨p,ys,rfl,hq,q⟩:=h;obtain⟨u,rfl,rx⟩:=vals1 r;cases rx
 have fin:∀(ah:List Value),Vals ys ah->ys.length<=sizeLine->∀(h':Heap)(c':Nat),(∀b o',s.heap.get? b=some o'->h'.get? b=some o') →
   h'.get? s.heap.objs.size=some {cls:=.type "list",dict:=none,data:=.seq ah.toArray c',slots := #[]}->EP X pins σ Q (.ref s.heap.objs.size) {s with heap:=h'}:=fun ah r' hz h' c' kp e =>
  ⟨.ref s.heap.objs.size,_,I.laid (t':=s.toks) kp (Bi _) (show az X.prog X.w _ h' _ (.lst ys) from⟨hz,ah,c',r',e⟩),rfl,q _ (I.aD.fresh (Bi _))⟩
 rcases hq with hq|hq
 ·obtain⟨ah,r',pl,hz⟩:=I.list hq
  have hlen:=r'.length;obtain⟨o,ho,hc,n,hd⟩:=pl.isList;exact q8A p (.inl rfl) ho hc hd (fun h' c' kp e=>fin ah r' hz h' c' kp e) (by simp only[Hb]<;>omega)
 ·obtain⟨ah,r',pl,hz⟩:=I.tuple hq
  have hlen:=r'.length;obtain⟨o,ho,hc,n,hd⟩:=pl;exact q8A p (.inr rfl) ho hc hd (fun h' c' kp e=>fin ah r' hz h' c' kp e) (by simp only[Hb]<;>omega)
theorem A7:gb X (.type "tuple") (fun xs H Q=>∃p ys,xs=[.ref p]/\((aZ X.K H p ys/\∀l,H l=none->Q (.ref l) (upd H l (.tup ys)))\/(bw X.K H p ys/\Q (.ref p) H))):=by
 intro pins s σ H xs us Q I r h;obtain⟨p,ys,rfl,h⟩:=h;obtain⟨u,rfl,rx⟩:=vals1 r;cases rx
 rcases h with⟨hq,q⟩|⟨hq,q⟩
 ·obtain⟨ah,r',pl,hz⟩:=I.list hq
  have hlen:=r'.length;refine call_tuple_list pl.isList (fun h' kp=>?_) (by simp only[Hb]<;>omega);have I1:Inv X pins σ H {s with heap:=h'}:=I.kept (t':=s.toks) kp
  have I2:Inv X pins σ (upd H h'.objs.size (.tup ys)) {s with heap:=h'.push {cls:=.type "tuple",data:=.seq ah.toArray}} :=
   I1.laid (t':=s.toks) (fun b o e=>qT _ e) (Bi _) (show az X.prog X.w _ _ _ (.tup ys) from⟨hz,ah,r',IsTup.new _ _⟩)
  exact⟨.ref h'.objs.size,_,I2,rfl,q _ (I1.aD.fresh (Bi _))⟩
 ·obtain⟨ah,r',pl,hz⟩:=I.tuple hq
  exact call_tuple_same pl ⟨.ref p,H,I,rfl,q⟩
def A8(K:xA)(T:String)(x:V)(H:Hp):Prop:=match x with
 |.str _=>T="str"
 |.int _=>T="int"
 |.ref p=>(T="list" /\ ∃xs,aZ K H p xs)\/(T="tuple" /\ ∃o,K.lookup p=some o/\o.cls=.type "tuple" /\ o.dict=none) ∨
   (T="dict" /\ ((∃kvs,H p=some (.dK kvs))\/∃kvs,H p=some (.dT kvs)))\/(T="set" /\ ∃S n,H p=some (.set S n))
 |_=>False
theorem G6{pins:aq}{σ:St}{H:Hp}{s:Shared}{T:String}{x:V}{v:Value}(I:Inv X pins σ H s)(r:RelV x v)(ty:A8 X.K T x H):
  s.TypeIs v T/\∀a,v=.ref a->∃ob,s.heap.get? a=some ob/\ob.dict=none:=by
 cases x with
 |str z =>
  obtain⟨t,rfl⟩:=r;cases(show T="str" from ty)
  exact⟨typeIs_str s z t,fun _ e=>nomatch e⟩
 |int i =>
  obtain⟨t,rfl⟩:=r;cases(show T="int" from ty)
  exact⟨q7Y s i t,fun _ e=>nomatch e⟩
 |ref p =>
  cases r
  rcases ty with⟨rfl,xs,hq⟩|⟨rfl,o,hk,hc,hd⟩|⟨rfl,hk⟩|⟨rfl,S,n,hk⟩
  ·obtain⟨ah,_,pl,_⟩:=I.list hq
   refine⟨pl.isList.typeIs,fun a e=>?_⟩;cases e
   obtain⟨o,n,e,c,hd,_⟩:=pl;exact⟨o,e,hd⟩
  ·refine⟨⟨o,I.d6 p o hk,hc⟩,fun a e=>?_⟩
   cases e
   exact⟨o,I.d6 _ o hk,hd⟩
  ·have z:∃o,s.heap.get? p=some o/\o.ExactDict:=by
    rcases hk with⟨kvs,hk⟩|⟨kvs,hk⟩
    ·obtain⟨_,_,_,_,o,_,_,e,ex,_⟩:=I.aD p _ hk
     exact⟨o,e,ex⟩
    ·obtain⟨_,_,_,_,o,_,_,e,ex,_⟩:=I.aD p _ hk
     exact⟨o,e,ex⟩
   obtain⟨o,e,ex⟩:=z;refine⟨⟨o,e,ex.1⟩,fun a e2=>?_⟩;cases e2
   exact⟨o,e,ex.2.1⟩
  ·obtain⟨o,_,_,_,e,ex,_⟩:=I.aD p _ hk
   refine⟨⟨o,e,ex.1⟩,fun a e2=>?_⟩;cases e2
   exact⟨o,e,ex.2.1⟩
 |_=>exact q1e ty
def uW(K:xA)(T:String)(r:V->List V->Hp->VK->Prop)(to:TE):TE:=fun σ H Q=>to σ H fun x H1=>A8 K T x H1/\r x [] H1 Q
def sP(K:xA)(T:String)(r:V->List V->Hp->VK->Prop)(to:TE)(t:TA):TE:=fun σ H Q=>to σ H fun x H1=>A8 K T x H1/\t σ H1 fun xs H2=>r x xs H2 Q
variable{o e:Expr}{es:List Expr}{to:TE}{t:TA}{name:Str}{apos fX:Pos}{T id:String}{r:V->List V->Hp->VK->Prop}
theorem Px(pa:PlainAttrs T)(slot:Slot T name id)(A9:typeOf (.builtin id)=pure (.type "method_descriptor"))(hm:AY X id r)(ho:JE X o to)
  (kU:attributeBase o name X.env (eval o X.env)=eval o X.env:=by rfl) (kW:(apos.endLine==fX.line)=true:=by rfl):JE X (.Call (.Attribute o name apos) [] [] fX) (uW X.K T r to):=by
 refine⟨?_⟩;intro pins s σ H Q I h;refine wpAny_Call_method0_late kU kW (aW (ho pins s σ H _ I h) fun v s1 ⟨x,H1,I1,r1,ty,q1⟩=>?_);obtain⟨h1,h2⟩:=G6 I1 r1 ty;exact⟨T,id,pa,slot,A9,h1,h2,q4_ rfl (PySem.evalArgs_none (hm pins s1 σ H1 x [] v [] Q I1 r1 .nil q1))⟩
theorem qO(pa:PlainAttrs T)(slot:Slot T name id)(A9:typeOf (.builtin id)=pure (.type "method_descriptor"))(hm:AY X id r)(ho:JE X o to)(ha:JA X (e::es) t)
  (kU:attributeBase o name X.env (eval o X.env)=eval o X.env:=by rfl)
  (A_:((backTo fX (starEach (e::es) X.env)).all (fun x => !x.1)&&(backToKw fX (keywordEach [] X.env)).all (fun x=>x.1.isSome)
   && decide ((e::es).length+([]:List Keyword).length+(if([]:List Keyword).isEmpty then 0 else 1)<30))=true:=by rfl)
  (kW:(apos.endLine==fX.line)=true:=by rfl) (hs:cQ X e es:=by rfl) (hplain:dH X fX es:=by rfl) :
  JE X (.Call (.Attribute o name apos) (e::es) [] fX) (sP X.K T r to t):=by
 refine⟨?_⟩;intro pins s σ H Q I h;refine wpAny_Call_method_late kU A_ kW rfl (aW (ho pins s σ H _ I h) fun v s1 ⟨x,H1,I1,r1,ty,q1⟩=>?_);obtain⟨h1,h2⟩:=G6 I1 r1 ty;refine⟨T,id,pa,slot,A9,h1,h2,?_⟩;have hA:=ha fX pins s1 σ H1 _ I1 q1;rw[hs] at hA ⊢;refine q4_ (by show(false||(backTo fX (starEach es X.env)).any (·.1))=false;rw[hplain]<;>rfl) (Calls.evalArgs_plain ?_);exact aW hA fun us s2 h0_=>el5 h0_ fun vs H2 I2 r2 q2 =>hm pins s2 σ H2 x vs v us Q I2 r1 r2 q2
end
def qP(X:Cx)(id:String)(r:V->List V->Hp->VK->Prop):Prop :=
 ∀(pins:aq)(s:Shared)(σ:St)(H:Hp)(x:V)(xs:List V)(v:Value)(us:List Value)(Q:VK),Inv X pins σ H s->RelV x v->Vals xs us->r x xs H Q →
  wpAny (model X.prog X.w) X.A (call (.builtin id) (v::us)) (EP X pins σ Q) X.xe s
theorem Vals.one:∀{x:V}{us:List Value},Vals [x] us->∃u,us=[u]/\RelV x u:=by
 intro x us h
 cases h with
 |cons r h=>cases h;exact⟨_,rfl,r⟩
theorem Vals.two:∀{x y:V}{us:List Value},Vals [x,y] us->∃u v,us=[u,v]/\RelV x u/\RelV y v:=by
 intro x y us h
 cases h with
 |cons r h =>
  obtain⟨v,rfl,q⟩:=Vals.one h;exact⟨_,_,rfl,r,q⟩
theorem Vals.eraseIdx:∀{xs:List V}{us:List Value}(i:Nat),Vals xs us->Vals (xs.eraseIdx i) (us.eraseIdx i)
 |_,_,_,.nil=>.nil
 |_,_,0,.cons _ t=>t
 |_,_,i+1,.cons r t=>.cons r (Vals.eraseIdx i t)
theorem Vals.rep{xs:List V}{us:List Value}(h:Vals xs us):∀k:Nat,Vals (q0h k xs).flatten (q0h k us).flatten
 |0=>.nil
 |k+1=>by
  rw[q1y,q1y,q2a,q2a];exact Vals.append h (Vals.rep h k)
theorem G7{α:Type}:∀(l:List α)(i:Nat),(l.eraseIdx i).length<=l.length
 |[],_=>Bi _
 |_::_,0=>q3Y _
 |_::r,i+1=>Nat.succ_le_succ (G7 r i)
theorem foldl_rep(ah:List Value):∀(k:Nat)(acc:List Value),
  q7Z (fun x1 x2=>x1++x2) acc.toArray (q0h k ah.toArray)=(acc++(q0h k ah).flatten).toArray
 |0,acc=>by simp
 |k+1,acc=>by
  have e:acc.toArray++ah.toArray=(acc++ah).toArray:=by simp
  have e2:(acc++ah)++(q0h k ah).flatten=acc++(q0h (k+1) ah).flatten:=by
   rw[q1y,q2a,q18]
  rw[<-e2,<-foldl_rep ah k (acc++ah),<-e,q1y,q5e]
section
variable{X:Cx}{pins:aq}{σ:St}{H:Hp}{s:Shared}{l b:Addr}{xs ys zs:List V}
theorem Inv.qQ{ah its':List Value}{n:Nat}{f:Array Value->Array Value}{t':Nat}(I:Inv X pins σ H s)(hH:H l=some (.lst xs))
  (e:s.heap.get? l=some {cls:=.type "list",data:=.seq ah.toArray n}) (hf:f ah.toArray=its'.toArray) (hv:Vals ys its') (hz:ys.length<=sizeLine) :
  Inv X pins σ (upd H l (.lst ys)) {s with heap:=s.heap.update l (q1d f),toks:=t'}:=by
 have q:=PySem.IsL.update e f;rw[hf] at q;refine I.write (x:=l) (e:=l) (by rw[hH];exact trivial) (.inl rfl) (fun b' u hb hu=>(q0P s.heap (q1d f) (q1A hb)).trans hu) ⟨_,q⟩ ?_;exact⟨hz,its',_,hv,q⟩
theorem Inv.bV{ah:List Value}{t':Nat}(I:Inv X pins σ H s)(hv:Vals ys ah)(hz:ys.length<=sizeLine):
  Inv X pins σ (upd H s.heap.objs.size (.lst ys)) {s with heap:=s.heap.push {cls:=.type "list",data:=.seq ah.toArray},toks:=t'} :=
 I.laid (fun _ _ q=>qT _ q) (Bi _) ⟨hz,ah,0,hv,PG _ rfl⟩
theorem Inv.fresh(I:Inv X pins σ H s):H s.heap.objs.size=none:=I.aD.fresh (Bi _)
theorem Inv.iT(I:Inv X pins σ H s)(hH:H l=some (.lst xs)):xs.length<=sizeLine/\∃(ah:List Value)(n:Nat),Vals xs ah/\xs.length=ah.length/\s.heap.get? l=some {cls:=.type "list",data:=.seq ah.toArray n}:=by
 obtain⟨z,ah,n,r,e⟩:=I.aD l _ hH;exact⟨z,ah,n,r,r.length,e⟩
theorem G8{n:Nat}(h:n<=sizeLine):q2C n=false:=by
 unfold q2C;exact q0r (by omega)
end
section
variable{X:Cx}
def Ba:V->List V->Hp->VK->Prop:=fun x vs H Q=>∃l xs y,x=.ref l/\vs=[y]/\H l=some (.lst xs)/\xs.length<sizeLine/\Q .non (upd H l (.lst (xs++[y])))
theorem Bb:qP X "list.append" Ba:=by
 intro pins s σ H x vs v us Q I rx rv h;obtain⟨l,xs,y,rfl,rfl,hH,hz,q⟩:=h;cases rx
 obtain⟨u,rfl,ru⟩:=rv.one;obtain⟨z,ah,n,r,hl,e⟩:=I.iT hH;refine q3U F.slot_list_append ⟨_,e,rfl⟩ F.entry_list_append (F.args_list_append_2 _ _) (PySem.list_append l ah.toArray n u (by rw[Hb];omega)) ⟨e,?_⟩;refine⟨.non,_,I.qQ (its':=ah++[u]) hH e (by simp) (r.append (.cons ru .nil)) ?_,rfl,q⟩;rw[Hd,q0O];omega
def G9:V->List V->Hp->VK->Prop:=fun x vs H Q=>∃l b xs zs,x=.ref l/\vs=[.ref b]/\H l=some (.lst xs)/\H b=some (.lst zs)/\xs.length+zs.length<=sizeLine/\Q .non (upd H l (.lst (xs++zs)))
theorem Py:qP X "list.extend" G9:=by
 intro pins s σ H x vs v us Q I rx rv h;obtain⟨l,b,xs,zs,rfl,rfl,hH,hB,hz,q⟩:=h;cases rx
 obtain⟨u,rfl,ru⟩:=rv.one;cases ru
 obtain⟨z,ah,n,r,hl,e⟩:=I.iT hH;obtain⟨z2,aY,n2,r2,sQ,e2⟩:=I.iT hB;have hsz:ah.toArray.size+aY.toArray.size<=sizeLine:=by rw[Hb,Hb];omega
 have kX:¬ (!ah.toArray.isEmpty&&q2C (ah.toArray.size+aY.toArray.size))=true:=by
  rw[G8 hsz,q70];exact PH
 refine q3U F.slot_list_extend ⟨_,e,rfl⟩ F.entry_list_extend (F.args_list_extend_2 _ _)
  (AutoSeq1.list_extend_list_list_0 l ah.toArray n b aY.toArray n2 kX (by rw[Hb];omega) (by omega)) ⟨e,e2,?_⟩
 refine⟨.non,_,I.qQ (its':=ah++aY) hH e (by simp) (r.append r2) ?_,rfl,q⟩;rw[Hd];omega
def G_:V->List V->Hp->VK->Prop:=fun x vs H Q=>∃l xs i k y,x=.ref l/\vs=[.int i]/\H l=some (.lst xs) /\ -(2 ^ 63)<=i/\i<2 ^ 63/\seqIndex? i xs.length=some k/\xs[k]?=some y/\Q y (upd H l (.lst (xs.eraseIdx k)))
theorem Pz:qP X "list.pop" G_:=by
 intro pins s σ H x vs v us Q I rx rv h;obtain⟨l,xs,i,k,y,rfl,rfl,hH,h1,h2,hk,hy,q⟩:=h;cases rx
 obtain⟨u,rfl,ru⟩:=rv.one;obtain⟨t,rfl⟩:=ru;obtain⟨z,ah,n,r,hl,e⟩:=I.iT hH;obtain⟨w,hw,uV⟩:=r.get hy
 refine q3U F.slot_list_pop ⟨_,e,rfl⟩ F.entry_list_pop (F.args_list_pop_2 _ _)
  (MeetsSeq.list_pop_at l ah.toArray n i t k w (q71 h1 h2) (by rw[Hb,<-hl];exact hk) (by rw[<-q0F];exact hw) (by rw[Hb];omega)) ⟨e,?_⟩
 refine⟨y,_,I.qQ (its':=ah.eraseIdx k) hH e ?_ (r.eraseIdx k) ?_,uV,q⟩
 ·show ah.toArray.eraseIdxIfInBounds k=(ah.eraseIdx k).toArray
  rw[List.eraseIdxIfInBounds_toArray]
 ·have:=G7 xs k
  omega
def Bc:R2:=fun x y H Q=>∃l b xs zs,x=.ref l/\y=.ref b/\H l=some (.lst xs)/\H b=some (.lst zs)/\xs.length+zs.length<=sizeLine/\∀p,H p=none->Q (.ref p) (upd H p (.lst (xs++zs)))
theorem xy:dg X (binaryOp .Add) Bc:=by
 intro pins s σ H x y v u Q I rx ry h;obtain⟨l,b,xs,zs,rfl,rfl,hH,hB,hz,q⟩:=h;cases rx
 cases ry
 obtain⟨z,ah,n,r,hl,e⟩:=I.iT hH;obtain⟨z2,aY,n2,r2,sQ,e2⟩:=I.iT hB;refine PySem.P.add_list e e2 ?_ (by rw[Hb,Hb];omega);have ea:ah.toArray++aY.toArray=(ah++aY).toArray:=by simp
 rw[ea];exact⟨.ref _,_,I.bV (t':=s.toks) (r.append r2) (by rw[Hd];omega),rfl,q _ I.fresh⟩
def Bd:R2:=fun x y H Q=>∃l k xs,x=.ref l/\y=.int k/\H l=some (.lst xs) /\ -(2 ^ 63)<=k/\k<2 ^ 63/\xs.length*k.toNat<=sizeLine ∧
 ∀p,H p=none->Q (.ref p) (upd H p (.lst (q0h k.toNat xs).flatten))
theorem len_rep{α:Type}(xs:List α)(k:Nat):(q0h k xs).flatten.length=k*xs.length:=by
 induction k with
 |zero=>simp
 |succ k ih=>rw[q1y,q2a,Hd,ih,Nat.succ_mul,Nat.add_comm]
theorem PA:dg X (binaryOp .Mult) Bd:=by
 intro pins s σ H x y v u Q I rx ry h;obtain⟨l,k,xs,rfl,rfl,hH,h1,h2,hz,q⟩:=h;cases rx
 obtain⟨t,rfl⟩:=ry;obtain⟨z,ah,n,r,hl,e⟩:=I.iT hH;have hlen:ah.toArray.size*k.toNat<=sizeLine:=by rw[Hb,<-hl];exact hz
 have Be:¬ ah.toArray.size*k.toNat>(2 ^ 63-1) / 8:=by
  have:(sizeLine:Nat)<=(2 ^ 63-1) / 8:=by decide
  omega
 have Bf:¬ (!Builtin.List.listFitsIndex k)=true:=by
  rw[q71 h1 h2];exact PH
 have kX:¬ q2C (ah.toArray.size*k.toNat)=true:=by
  rw[G8 hlen];exact PH
 have Bg:q7Z (fun x1 x2=>x1++x2) #[] (q0h (if ah.toArray.isEmpty=true then 0 else k.toNat) ah.toArray)=(q0h k.toNat ah).flatten.toArray:=by
  have f0:∀m:Nat,q7Z (fun x1 x2=>x1++x2) #[] (q0h m ah.toArray)=(q0h m ah).flatten.toArray:=fun m=>by
   have:=foldl_rep ah m [];rw[q5j] at this;exact this
  rw[f0]
  cases ah with
  |nil=>simp
  |cons a r'=>rw[q0a (by simp)]
 refine wpAny_binaryOp_repeat_ref (T:="list") (U:="int") (by decide) ⟨_,e,rfl⟩ (fun s'=>q7Y s' k t) noFill_list_mul F.fills_int_mul q7B repeat_list F.slot_int_index.lookup
  (q3U q7B (q7Y s k t) F.entry_int_rmul (F.args_int_rmul_2 _ _) (int___rmul___int_list k t l ah.toArray n)
   ⟨e,rfl,⟨_,e,rfl⟩,q3U F.slot_list_mul ⟨_,e,rfl⟩ F.entry_list_mul (F.args_list_mul_2 _ _) (AutoListH.list___mul___list_int_3 l ah.toArray n k t Bf Be kX) ⟨e,?_⟩⟩)
 rw[Bg];exact⟨.ref _,_,I.bV (t':=s.toks) (r.rep k.toNat) (by rw[len_rep,q81];exact hz),rfl,q _ I.fresh⟩
end
section
variable{prog:Program}{w:World}{A:Around}{E:aH}{s:Shared}
end
section
variable{X:Cx}
end
end L2
namespace Att
open PySem PySem.W PySem.Calls PyProof.Rows
theorem eQ{P:Params}{h:Heap}:∀(ns:List Int)(vs:List Value),WellAll P h vs (ns.map WData.int)->IntsAre vs ns:=by
 intro ns
 induction ns with
 |nil =>
  intro vs w;rw[q1_] at w;cases w
  exact .nil
 |cons n ns ih =>
  intro vs w;rw[q0p] at w
  cases w with
  |cons a b =>
   cases a
   exact .cons _ _ (ih _ b)
theorem jH{l:OpenLaw}{n:Nat}(hn:l.most=some n){P:Params}{h:Heap}{args:List WData}{vals:List Value}
  (nY:l.row.toRowW.claim.pre args=true) (Bh:WellAll P h vals args) :
  ∃a vs ns,vals=[q0C a]/\args=[WData.list (ns.map WData.int)]/\h.get? a=some {cls:=.type "list",data:=.seq vs.toArray}/\IntsAre vs ns/\ns.length<=n:=by
 have PB:WShape.hasAll [] args [.list .int]=true:=(pre_splitW nY).1;have hc:l.pre.holds [] {args:=args}=true:=(pre_splitW nY).2;obtain⟨d,r,rfl,h1,h2⟩:=hasAllW_cons PB;obtain rfl:=hasAllW_nil h2;obtain⟨xs,rfl,h3⟩:=hasW_list h1;obtain⟨ns,rfl⟩:=items_int h3
 have hlen:ns.length<=n:=by
  unfold OpenLaw.pre at hc
  have h4:(WTm.not (.lt (.lit (.int (n:Int))) (.len (.arg 0)))).holds [] {args:=[.list (ns.map .int)]}=true:=by
   have h4:=(holds_andW hc).1;rw[hn] at h4;exact h4
  have h5:=condW_of h4 (w_not (w_lt w_lit (w_len_list (w_arg rfl))));rw[qU] at h5;refine q3Q fun q=>?_;have q':(n:Int)<((ns.length:Nat):Int):=by omega
  first
   |(rw[q0x q'] at h5;exact absurd h5 (by decide))
   |(simp at h5;omega)
 cases Bh with
 |cons w1 w2 =>
  cases w2
  cases w1 with
  |list ho nD=>exact⟨_,_,ns,rfl,rfl,ho,eQ ns _ nD,hlen⟩
theorem jI(l:OpenLaw)(args:List WData):l.row.toRowW.claim.post args (.bool true) args=true :=
 postW_of (r:=l.row.toRowW) (X:=(true==true))
  (show WShape.has [] (.bool true) .bool=true by first|rfl|decide|simp[WShape.has,WShape.arms,WShape.armsAll])
  (show(WTm.eq .res (.lit (.bool true))).value [] {args:=args,res:=some (.bool true),after:=args}=some (.bool (true==true)) from w_eq_bool (w_res rfl) w_lit) rfl
theorem hW{l:OpenLaw}{n:Nat}{q:Program}{loose:List Str}{XP:(Str->Option Value)->Heap->Prop}{YP:World->Heap->Prop}{d:DefRec}
  (hn:l.most=some n) (uY:d.params.defaults=[])
  (call:∀(w:World)(s₀ s₁:Shared)(mg mb:Str->Option Value)(fa:Addr)(o:Obj)(pm cd doc:Value)(a:Addr)(vs:List Value)(ns:List Int),
   Ground q loose [] XP w s₀ mg mb s₁.heap->YP w s₁.heap →
   s₁.heap.get? fa=some o->o.data=.func (docDef d.name d.params d.body d.scope pm cd doc)->s₁.heap.CodeRec cd d.name->mg d.name=some (.ref fa) →
   s₁.heap.get? a=some {cls:=.type "list",data:=.seq vs.toArray}->IntsAre vs ns->ns.length<=n->s₁.gens = #[] →
   codeAny (model l.prog w) callerA (.call (.ref fa) ⟨[.ref a],[]⟩) (fun r s'=>r=.ok (.ret (.bool true))/\OldK s₁.heap s'.heap/\s'.os=s₁.os/\AllBare s'.gens) s₁) :
  WalkO q loose XP YP l.row.toRowW d [] (fun f vs=>q73 f vs):=by
 intro w s₀ s₁ mg mb G Y fa o pm cd doc dV kV ho hd eK hD nZ hg args vals as nY PC hrd Bh hlo;obtain rfl:dV=.none:=Dflts.none hD uY;obtain rfl:kV=.none:=Dflts.noKw hD;obtain⟨a,vs,ns,rfl,rfl,qR,hints,hlen⟩:=jH hn nY Bh;refine enter_call (q2P (call w s₀ s₁ mg mb fa o pm cd doc a vs ns G Y ho (fd_plain hd) eK nZ qR hints hlen hg) fun r s' hq=>?_);obtain⟨rfl,h2,h3,h4⟩:=hq;exact⟨.inl ⟨.bool true,.bool true,[],rfl,fun _=>rfl,.bool true,jI l _,fun _=>⟨q6C,fun _ hm=>(nomatch hm)⟩⟩,h2,h3,h4⟩
section
variable{prog:Program}{w:World}{A:Around}{E:aH}{s:Shared}{K:Frag}
end
end Att
namespace L2
open PySem PySem.Spec PyProof.Rows
theorem Ha:∀{vs:List Value}{ns:List Int},IntsAre vs ns->Vals (ns.map V.int) vs
 |_,_,.nil=>.nil
 |_,_,.cons n t h=>.cons ⟨t,rfl⟩ (Ha h)
noncomputable def inClass(s:Stmt)(j:Nat):Stmt:=match s with
 |.ClassDef _ _ _ body _ _ _ _ _ _ _=>body.getD j (.Pass ⟨0,0,0,0⟩)
 |_=>.Pass ⟨0,0,0,0⟩
noncomputable def kY(s:Stmt):Arguments:=match s with
 |.FunctionDef _ a _ _ _ _ _ _ _ _=>a
 |_=>{posonlyargs:=[],args:=[],vararg:=none,kwonlyargs:=[],kw_defaults:=[],kwarg:=none,defaults:=[]}
noncomputable def cx(s:Stmt):List Stmt:=match s with
 |.FunctionDef _ _ b _ _ _ _ _ _ _=>b
 |_=>[]
noncomputable def bZ(s:Stmt):Scope:=match s with
 |.FunctionDef _ _ _ _ _ _ sc _ _ _=>sc
 |_=>{kind:=.function,names:=[],isGenerator:=false,isCoroutine:=false}
abbrev fu:jD:=fun _ _ _ _ _ _=>False
abbrev E0:XK:=fun _ _ _=>False
theorem sS{X:Cx}:mG fu X E0:=fun _ _ _ _ _ _ _ h=>h.elim
structure gg(K:xA)(x qual:Str)(st:Stmt)(f:Addr)(fd:FuncData):Prop where
 ex:∃(oc:Value)(od:Option Addr)(kV doc pm:Value)(an:Option Addr)(aF ct:Value)(mH:Array (Option Value)),
  fd=q1T x qual (kY st) (cx st) (bZ st) .none kV doc pm an aF ct/\K.lookup f=some ⟨oc,od,.func fd,mH⟩/\q28 K aF qual=true
 kp:q1u K (.ref f)=true
section
variable{P:Program}{w:World}{K:xA}{mg:Str->Option Value}{base:Heap}
theorem gg.sT{x qual:Str}{st:Stmt}{f:Addr}{fd:FuncData}{N ps:List Str}{k:Nat}{sp:Sp}(F:gg K x qual st f fd)(S:kQ N ps (bZ st))(len:∀vs H Q E,sp vs H Q E->vs.length=ps.length)
  (dP:∀(aF:Value)(A:Around)(outer:List Env)(s:Shared)(H:Hp)(vs:List V)(Q:VK)(E:XK),aS k (A.deeper (envOfC qual (bZ st) s.heap.objs.size f aF))->sp vs H Q E →
   ∃t,bz (bq fu P w K mg base N qual (bZ st) f aF A outer s H E).kO (cx st) t/\t {nx:=fun _ H'=>Q .non H',rt:=Q} (start N vs) H):bP P w K mg base fu (k+1) f fd ps sp:=by
 obtain⟨oc,od,kV,doc,pm,an,aF,ct,mH,rfl,lk,eK⟩:=F.ex;refine AM lk eK S len fun A outer s H vs Q E hr mI=>?_;obtain⟨t,h,q⟩:=dP aF A outer s H vs Q E hr mI;exact⟨t,h.kO,q⟩
theorem gg.binds{x qual:Str}{st:Stmt}{f:Addr}{fd:FuncData}{ps:List Str}(F:gg K x qual st f fd)
  (h:∀(kV doc pm:Value)(an:Option Addr)(aF ct:Value)(us:List Value),us.length=ps.length->bindArgs (q1T x qual (kY st) (cx st) (bZ st) .none kV doc pm an aF ct) ⟨us,[]⟩=pure (ps.zip us)):Binds K fd ps []:=by
 obtain⟨oc,od,kV,doc,pm,an,aF,ct,mH,rfl,lk,eK⟩:=F.ex;exact .all (h kV doc pm an aF ct)
theorem Bj{x qual:Str}{st:Stmt}{f:Addr}{oc:Value}{od an:Option Addr}{mH:Array (Option Value)}{kV doc pm aF ct:Value}(l:K.lookup f=some ⟨oc,od,.func (q1T x qual (kY st) (cx st) (bZ st) .none kV doc pm an aF ct),mH⟩)
  (c:q28 K aF qual=true) (k:q1u K (.ref f)=true):gg K x qual st f (q1T x qual (kY st) (cx st) (bZ st) .none kV doc pm an aF ct):=⟨⟨oc,od,kV,doc,pm,an,aF,ct,mH,rfl,l,c⟩,k⟩
end
theorem kZ{n:Nat}(h:n<=1000):n<sizeLine:=q3s h (by decide)
section
variable{X:Cx}
theorem jv(i:Nat){x:Str}{pos:Pos}(hN:X.N[i]?=some x:=by rfl)(hv:sJ X.env.scope x:=by first|exact q23 rfl|exact q63 (q23 rfl)|exact q63 (q63 rfl))(hd:bA x:=by decide)
  (eK:(x==("__classdict__" : Str))=false:=by decide):JE X (.Name x pos) (cS i):=Gq hN hv hd eK
end
theorem qW{A B:Prop}(h:B):if false=true then A else B:=by
 rw[q0a PH];exact h
theorem Bk{A B:Prop}(h:A):if true=true then A else B:=by
 rw[q0f rfl];exact h
theorem Bl{c A B:Prop}[Decidable c](h1:c->A)(h2:¬ c->B):if c then A else B:=by
 by_cases h:c
 ·rw[q0f h]
  exact h1 h
 ·rw[q0a h]
  exact h2 h
theorem PJ{c A B:Prop}[Decidable c](hc:c)(h:B):if(!decide c)=true then A else B:=by
 rw[q0x hc];exact qW h
def ar(H H':Hp):Prop:=∀b o,H b=some o->H' b=some o
theorem ar.trans{H H1 H2:Hp}(a:ar H H1)(b:ar H1 H2):ar H H2:=fun c o h=>b c o (a c o h)
theorem ar.free{H H':Hp}(e:ar H H'){l:Addr}(h:H' l=x0g):H l=x0g:=by
 cases q:H l with
 |none=>rfl
 |some o =>
  rw[e l o q] at h;cases h
theorem ar.seq{K:xA}{H H':Hp}{a:Addr}{xs:List V}(e:ar H H')(h:aZ K H a xs):aZ K H' a xs:=by
 rcases h with(h|⟨o,h⟩)|h
 ·exact .inl (.inl (e _ _ h))
 ·exact .inl (.inr ⟨o,e _ _ h⟩)
 ·exact .inr h
theorem PK{prog:Program}{w:World}{A:Around}{R:Result->Shared->Prop}{s:Shared}{elt target iter:Expr}{ifs:List Expr}{scope:Scope}{pos:Pos}{it acc:Value}{env:Env}(I:Nat->Shared->Prop)
  (turn:∀n s,I n s->wpAny (model prog w) A (pyNext it) (fun r s₁=>match r with
   |none=>R (.ok .next) s₁
   |some v=>wpAny (model prog w) A (letOwnedTupleGo target it v) (fun _ s₂=>wpAny (model prog w) A (assign target env v) (fun _ s₃ =>
     wpAny (model prog w) A (forIn ifs true fun c r=>if r=true then do let ok <- isTrue c env (eval c env);pure (q1U ok) else pure (q1U r)) (fun ok s₄ =>
      if ok=true then wpAny (model prog w) A (eval elt env) (fun x s₅ =>
       wpAny (model prog w) A (call (.builtin "list.append") [acc,x]) (fun _ s₆=>∃m,m<n/\I m s₆) (fun _ _=>False) s₅) (fun _ _=>False) s₄
      else ∃m,m<n/\I m s₄) (fun _ _=>False) s₃) (fun _ _=>False) s₂) (fun _ _=>False) s₁) (fun _ _=>False) s)
  (n:Nat) (h:I n s) :
  codeAny (model prog w) A (.compLoop (.ListComp elt [⟨target,iter,ifs,0⟩] scope pos) 0 it acc env) R s:=by
 refine codeAny_loop rfl I (fun n s hI=>?_) n h;show wpAny _ A ((compTurn (.ListComp elt [⟨target,iter,ifs,0⟩] scope pos) 0 it acc env).onRaise (fun x=>do noteFrame x env;theTreesLotGoes x)) _ _ s;refine wpAny_noted ?_;rw[compTurn_list];refine n_ (q2A (n_ (q1E (turn n s hI) (fun r s₁ h₁=>?_) fun _ _ h'=>q1e h')))
 cases r with
 |none=>exact uX h₁
 |some v =>
  refine n_ (q1E h₁ (fun _ s₂ h₂=>?_) fun _ _ h'=>q1e h');refine n_ (q1E h₂ (fun _ s₃ h₃=>n_ (q1E h₃ (fun ok s₄ h₄=>?_) fun _ _ h'=>q1e h')) fun _ _ h'=>q1e h')
  cases ok with
  |false=>exact uX ⟨rfl,h₄⟩
  |true =>
   exact n_ (n_ (q1E h₄ (fun x s₄ h₄=>n_ (q1E h₄ (fun _ s₅ h₅=>uX (uX ⟨rfl,h₅⟩)) fun _ _ h'=>q1e h')) fun _ _ h'=>q1e h'))
theorem Bm{env:Env}:∀(names:List (Str×NameKind))(acc:List (Str×Addr)),(∀y∈names,y.2=.free->∃c,env.cells.lookup y.1=some c)->(∀x c,acc.lookup x=some c->env.cells.lookup x=some c) →
  ∃cl,(forIn names acc (fun(x:Str×NameKind) (cs:List (Str×Addr))=>if x.2==q14 then cellOf env x.1 >>= fun a=>pure (q1U ((x.1,a)::cs)) else pure (q1U cs)):Sem (List (Str×Addr)))=pure cl ∧
   (∀x c,cl.lookup x=some c->env.cells.lookup x=some c)/\(∀y∈names,y.2=.free->∃c,cl.lookup y.1=some c)/\(∀x c,acc.lookup x=some c->∃c,cl.lookup x=some c)
 |[],acc,_,h2=>⟨acc,rfl,h2,fun _ hy=>absurd hy (by simp),fun x c e=>⟨c,e⟩⟩
 |(n,k)::r,acc,h1,h2=>by
  rw[q5k]
  by_cases hk:k=.free
  ·subst hk
   obtain⟨c,hc⟩:=h1 (n,.free) PE rfl;have jB:env.cells.lookup n=some c:=hc;have ec:cellOf env n=pure c:=by unfold cellOf;rw[jB]
   have fm:∀x d,((n,c)::acc).lookup x=some d->env.cells.lookup x=some d:=fun x d e=>by
    rw[q0z] at e
    cases q:x==n with
    |true =>
     rw[q] at e;cases e
     rw[q0m q];exact jB
    |false =>
     rw[q] at e;exact h2 x d e
   obtain⟨cl,e,p1,p2,p3⟩:=Bm r ((n,c)::acc) (fun y hy=>h1 y (q0c _ hy)) fm;refine⟨cl,?_,p1,fun y hy hf=>?_,fun x d e=>?_⟩
   ·dsimp only
    rw[q0f (by decide),ec];exact e
   ·rcases PD.mp hy with rfl|hy
    ·exact p3 n c (by simp)
    ·exact p2 y hy hf
   ·cases q:x==n with
    |true=>exact p3 x c (by rw[q0z,q])
    |false=>exact p3 x d (by rw[q0z,q];exact e)
  ·obtain⟨cl,e,p1,p2,p3⟩:=Bm r acc (fun y hy=>h1 y (q0c _ hy)) h2
   refine⟨cl,?_,p1,fun y hy hf=>?_,p3⟩
   ·dsimp only
    rw[q0a (by simpa using hk)];exact e
   ·rcases PD.mp hy with rfl|hy
    ·exact absurd hf hk
    ·exact p2 y hy hf
theorem Hf{scope:Scope}{env:Env}(h:∀y∈scope.names,y.2=.free->∃c,env.cells.lookup y.1=some c):
  ∃cl,closureFor scope env=pure cl/\(∀x c,cl.lookup x=some c->env.cells.lookup x=some c)/\∀y∈scope.names,y.2=.free->∃c,cl.lookup y.1=some c:=by
 obtain⟨cl,e,p1,p2,_⟩:=Bm scope.names [] h (fun x c e=>by simp at e);refine⟨cl,?_,p1,p2⟩;have e':closureFor scope env=(forIn scope.names ([]:List (Str×Addr)) (fun(x:Str×NameKind) (cs:List (Str×Addr))=>if x.2==q14 then cellOf env x.1 >>= fun a=>pure (q1U ((x.1,a)::cs)) else pure (q1U cs)):Sem (List (Str×Addr))) >>= pure:=rfl;rw[e',e];rfl
structure BD where
 cl:List (Str×Addr)
 C:Addr
 s:Shared
 H:Hp
 fp:List Addr
@[reducible] noncomputable def bQ (X:Cx) (scope:Scope) (Nb:List Str) (d:BD):Cx where
 prog:=X.prog
 w:=X.w
 K:=X.K
 mg:=X.mg
 base:=X.base
 A:=X.A
 N:=Nb
 s₀:=d.s
 H₀:=d.H
 env:=compEnvC scope d.cl d.C X.env
 outer:=X.stack
 stack:=X.stack
 ex:=d.fp
 fn:=fun x=>decide (scope.names.lookup x=some .cell)
 calm:=X.calm
 pn:=[]
 xe:=fun _ _=>False
noncomputable def iD(cp:List (Option Nat))(σ:St):St:=cp.map fun o=>match o with
 |some i=>(σ[i]?).join
 |none=>none
noncomputable def kh(N:List Str)(xB scope:Scope)(Nb:List Str)(cp:List (Option Nat)):Bool :=
 (scope.names.all fun y=>(decide (y.2≠.cell)||decide (scope.names.lookup y.1=some .cell))&&(decide (y.2≠.local)||decide (scope.names.lookup y.1=some .local))&&(decide (y.2≠.free)||decide (xB.names.lookup y.1=some .cell)||decide (xB.names.lookup y.1=some .free))) &&
 decide (cp.length=Nb.length)&&(cp.zip Nb).all fun z=>match z.1 with
  |none=>true
  |some i=>decide (N[i]?=some z.2)&&decide (scope.names.lookup z.2=some .free)
structure xC(X:Cx)(scope:Scope)(Nb:List Str)(cp:List (Option Nat)):Prop where
 kind:scope.kind=.function
 cell:∀y∈scope.names,y.2=.cell->scope.names.lookup y.1=some .cell
 names:∀y∈scope.names,y.2=.local->scope.names.lookup y.1=some .local
 free:∀y∈scope.names,y.2=.free->(X.env.kindOf y.1=some .cell\/X.env.kindOf y.1=some .free)
 len:cp.length=Nb.length
 uZ:∀(j i:Nat)(x:Str),cp[j]?=some (some i)->Nb[j]?=some x->X.N[i]?=some x/\scope.names.lookup x=some .free
theorem x1N{X:Cx}{scope:Scope}{Nb:List Str}{cp:List (Option Nat)}(hk:scope.kind=.function)(h:kh X.N X.env.scope scope Nb cp=true):xC X scope Nb cp:=by
 unfold kh at h;simp only[q0y,q03,Bool.or_eq_true,q0I] at h;obtain⟨⟨h1,h2⟩,h3⟩:=h;refine⟨hk,fun y hy e=>(h1 y hy).1.1.resolve_left (fun z=>z e),fun y hy e=>?_,fun y hy e=>?_,h2,fun j i x e1 e2=>?_⟩
 ·rcases(h1 y hy).1.2 with z|z
  ·exact absurd e z
  ·exact z
 ·rcases(h1 y hy).2 with(z|z)|z
  ·exact absurd e z
  ·exact .inl z
  ·exact .inr z
 ·have hm:(some i,x)∈cp.zip Nb:=by
   have:(cp.zip Nb)[j]?=some (some i,x):=by
    rw[List.getElem?_zip_eq_some];exact⟨e1,e2⟩
   exact q0M this
  have:=h3 _ hm;simpa using this
theorem Bn{env:Env}{x:Str}:∀{names:List (Str×NameKind)}{k:NameKind},names.lookup x=some k →
  (names.map fun(n,k)=>if(k==q14&&env.scope.kind==.function&&env.kindOf n==some .cell) then(n,q1P) else(n,k)).lookup x =
   some (if(k==q14&&env.scope.kind==.function&&env.kindOf x==some .cell) then q1P else k)
 |[],k,h=>by simp at h
 |(n,k')::r,k,h=>by
  have ih:=@Bn env x r k;show q7r x ((if(k'==q14&&env.scope.kind==.function&&env.kindOf n==some .cell)=true then(n,q1P) else(n,k'))::_)=_
  cases hx:x==n with
  |true =>
   simp only[q0z,hx] at h;cases h
   have e:x=n:=q0m hx;subst e
   by_cases hc:(k'==q14&&env.scope.kind==.function&&env.kindOf x==some .cell)=true
   ·rw[q0f hc,q0f hc];simp[q0z]
   ·rw[q0a hc,q0a hc];simp[q0z]
  |false =>
   simp only[q0z,hx] at h
   by_cases hc:(k'==q14&&env.scope.kind==.function&&env.kindOf n==some .cell)=true
   ·rw[q0f hc];simp only[q0z,hx];exact ih h
   ·rw[q0a hc];simp only[q0z,hx];exact ih h
theorem Hg{env:Env}{x:Str}:∀{names:List (Str×NameKind)},names.lookup x=none →
  (names.map fun(n,k)=>if(k==q14&&env.scope.kind==.function&&env.kindOf n==some .cell) then(n,q1P) else(n,k)).lookup x=none
 |[],h=>by simp
 |(n,k')::r,h=>by
  have ih:=@Hg env x r;show q7r x ((if(k'==q14&&env.scope.kind==.function&&env.kindOf n==some .cell)=true then(n,q1P) else(n,k'))::_)=_
  cases hx:x==n with
  |true=>simp only[q0z,hx] at h;cases h
  |false =>
   simp only[q0z,hx] at h
   by_cases hc:(k'==q14&&env.scope.kind==.function&&env.kindOf n==some .cell)=true
   ·rw[q0f hc];simp only[q0z,hx];exact ih h
   ·rw[q0a hc];simp only[q0z,hx];exact ih h
structure JF(X:Cx)(ifs:List Expr)(t:TT):Prop where
 out:∀(pins:aq)(s:Shared)(σ:St)(H:Hp)(Q:Bool->Hp->Prop),Inv X pins σ H s->t σ H Q →
  wpAny (model X.prog X.w) X.A (forIn ifs true fun c r=>if r=true then do let ok <- isTrue c X.env (eval c X.env);pure (q1U ok) else pure (q1U r)) (TP X pins σ Q) X.xe s
instance {X:Cx} {ifs:List Expr} {t:TT}:CoeFun (JF X ifs t) (fun _=>∀(pins:aq)(s:Shared)(σ:St)(H:Hp)(Q:Bool->Hp->Prop),Inv X pins σ H s->t σ H Q->wpAny (model X.prog X.w) X.A (forIn ifs true fun c r=>if r=true then do let ok <- isTrue c X.env (eval c X.env);pure (q1U ok) else pure (q1U r)) (TP X pins σ Q) X.xe s):=⟨JF.out⟩
def Bo:TT:=fun _ H Q=>Q true H
theorem qX{X:Cx}:JF X [] Bo:=⟨fun _ _ _ H _ I h=>wpAny_tests_nil ⟨H,I,h⟩⟩
theorem PL{X:Cx}{c:Expr}{t:TT}(h:JT X c t):JF X [c] t:=⟨fun pins s σ H Q I hw=>wpAny_tests_one (h pins s σ H Q I hw)
⟩
def PM(g:TG)(tf:TT)(te:TE)(l:Addr)(x:V)(τ:St)(H:Hp)(N:St->Hp->Prop):Prop :=
 g x τ H fun τ2 H2=>tf τ2 H2 fun b H3=>if b=true then te τ2 H3 fun y H4=>∃ys,H4 l=some (.lst ys)/\ys.length<sizeLine/\N τ2 (upd H4 l (.lst (ys++[y]))) else N τ2 H3
def Hh(J:It)(g:TG)(tf:TT)(te:TE)(l:Addr)(τ0:St)(H0:Hp)(Q:VK):Prop :=
 ∃W:Nat->Nat->St->Hp->Prop,(∃m,W 0 m τ0 H0)/\∀i m τ H,W i m τ H →
  (J.stop i H/\Q (.ref l) H)\/(J.go i H/\∃N:St->Hp->Prop,(∀τ' H',N τ' H'->∃m',m'<m/\W (i+1) m' τ' H')/\∀x H',J.sN i H x H'->PM g tf te l x τ H' N)
def u3(wi:TI)(cp:List (Option Nat))(g:BD->TG)(tf:BD->TT)(te:BD->TE):TE:=fun σ H Q=>wi σ H fun J H1=>∀(d:BD)(l:Addr),H1 l=none->Hh J (g d) (tf d) (te d) l (iD cp σ) (upd H1 l (.lst [])) Q
theorem sU:∀{names:List (Str×NameKind)}{n:Nat}{acc:List (Str×Addr)}{x:Str}{c:Addr},(cellsFrom n names acc).lookup x=some c->acc.lookup x=some c\/(n<=c/\(x,q1P)∈names)
 |[],n,acc,x,c,h=>.inl h
 |(y,k)::r,n,acc,x,c,h=>by
  unfold cellsFrom at h;split at h
  ·rename_i hk
   have ek:k=.cell:=q0m hk;subst ek;rcases sU h with h|⟨h,m⟩
   ·rw[q0z] at h
    cases q:x==y with
    |true=>rw[q] at h;cases h;rw[q0m q];exact .inr ⟨Bi _,PE ..⟩
    |false=>rw[q] at h;exact .inl h
   ·exact .inr ⟨by omega,q0c _ m⟩
  ·rcases sU h with h|⟨h,m⟩
   ·exact .inl h
   ·exact .inr ⟨h,q0c _ m⟩
theorem Bp:∀{names:List (Str×NameKind)}{n:Nat}{acc:List (Str×Addr)}{x:Str}{c:Addr},(x,q1P)∈names->(cellsFrom n names acc).lookup x=some c->n<=c
 |[],n,acc,x,c,m,h=>by cases m
 |(y,k)::r,n,acc,x,c,m,h=>by
  unfold cellsFrom at h
  by_cases mr:(x,q1P)∈r
  ·split at h
   ·have:=Bp mr h;omega
   ·exact Bp mr h
  ·have e:(x,q1P)=(y,k):=by
    rcases PD.mp m with e|e
    ·exact e
    ·exact absurd e mr
   cases e
   rw[q0f (by decide)] at h;rcases sU h with h|⟨h,_⟩
   ·rw[q0z,q4Z] at h
    cases h;exact Bi _
   ·omega
theorem Bq:∀{names:List (Str×NameKind)}{n:Nat}{acc:List (Str×Addr)}{x y:Str}{c:Addr},(∀u v c,acc.lookup u=some c->acc.lookup v=some c->u=v)->(∀u c,acc.lookup u=some c->c<n)->(cellsFrom n names acc).lookup x=some c->(cellsFrom n names acc).lookup y=some c->x=y
 |[],n,acc,x,y,c,hi,_,h1,h2=>hi x y c h1 h2
 |(z,k)::r,n,acc,x,y,c,hi,hb,h1,h2=>by
  unfold cellsFrom at h1 h2;split at h1
  ·rename_i hk
   rw[q0f hk] at h2;refine Bq (fun u v c q1 q2=>?_) (fun u c q=>?_) h1 h2
   ·rw[q0z] at q1 q2
    cases e1:u==z with
    |true =>
     rw[e1] at q1;cases q1
     cases e2:v==z with
     |true=>rw[q0m e1,q0m e2]
     |false=>rw[e2] at q2;exact absurd (hb v _ q2) (q13 _)
    |false =>
     rw[e1] at q1
     cases e2:v==z with
     |true=>rw[e2] at q2;cases q2;exact absurd (hb u _ q1) (q13 _)
     |false=>rw[e2] at q2;exact hi u v c q1 q2
   ·rw[q0z] at q
    cases e1:u==z with
    |true=>rw[e1] at q;cases q;exact q1h _
    |false=>rw[e1] at q;exact q0W (hb u c q)
  ·rename_i hk
   rw[q0a hk] at h2;exact Bq hi hb h1 h2
theorem Br:∀{names:List (Str×NameKind)}{n:Nat}{acc:List (Str×Addr)}{x:Str},(x,q1P)∉names->(cellsFrom n names acc).lookup x=acc.lookup x
 |[],n,acc,x,_=>rfl
 |(y,k)::r,n,acc,x,m=>by
  unfold cellsFrom;split
  ·rename_i hk
   have ek:k=.cell:=q0m hk;subst ek;rw[Br fun z=>m (q0c _ z),q0z]
   cases q:x==y with
   |true=>exact absurd (by rw[q0m q];exact PE ..) m
   |false=>rfl
  ·exact Br fun z=>m (q0c _ z)
theorem Bs:∀{names:List (Str×NameKind)}{h:Heap}{acc:List (Str×Addr)}{x:Str}{c:Addr},(∀u c,acc.lookup u=some c->∃v,h.IsCell c v)->(cellsFrom h.objs.size names acc).lookup x=some c->∃v,(pushCells h names).IsCell c v
 |[],h,acc,x,c,hc,e=>hc x c e
 |(y,k)::r,h,acc,x,c,hc,e=>by
  unfold cellsFrom at e;unfold pushCells;split at e
  ·rename_i hk
   rw[q0f hk];have hz:(h.push {cls:=.type "cell",data:=.cell none}).objs.size=h.objs.size+1:=q1s ..;rw[<-hz] at e;refine Bs (fun u c q=>?_) e;rw[q0z] at q
   cases e1:u==y with
   |true=>rw[e1] at q;cases q;exact⟨none,_,PG _ rfl,rfl⟩
   |false =>
    rw[e1] at q;obtain⟨v,o,g1,g2⟩:=hc u c q;exact⟨v,o,qT _ g1,g2⟩
  ·rename_i hk
   rw[q0a hk];exact Bs hc e
theorem PN{M:Model}{A:Around}{E:aH}{s:Shared}{scope:Scope}{g:Addr}{cl:List (Str×Addr)}{qual:Str}{env:Env}{Q:Env->Shared->Prop}
  (h:Q (newEnv scope s.heap.objs.size g (cellsFrom (s.heap.objs.size+1) scope.names cl) qual none .none (some env) builtinsNs) {s with heap:=pushCells (s.heap.push {cls:=.type "dict",data:=.dict #[]}) scope.names}) :
  wpAny M A (newFunctionEnv scope g cl [] qual none .none (some env)) Q E s:=by
 simp only[newFunctionEnv,q6q,q2x];refine n_ (wpAny_alloc ?_);refine n_ (wpAny_layCells _ (fun name kind cells=>by cases PQ:kind==q1P<;>simp[PQ]) _ _ _ _ ?_);rw[show({s with heap:=s.heap.push {cls:=.type "dict",data:=.dict #[]}}:Shared).heap.objs.size=s.heap.objs.size+1 from q1s ..];refine n_ ?_;rw[q5I];exact uX (uX h)
section
variable{X:Cx}{elt tg iter:Expr}{ifs:List Expr}{scope:Scope}{pos:Pos}{Nb:List Str}{cp:List (Option Nat)}{wi:TI}{g:BD->TG}{tf:BD->TT}{te:BD->TE}
variable{pins:aq}{σ:St}{H:Hp}{s:Shared}
noncomputable abbrev u4(scope:Scope)(s:Shared)(cl:List (Str×Addr)):List (Str×Addr):=cellsFrom (s.heap.objs.size+1) scope.names cl
theorem PR{fp:List Addr}{cl:List (Str×Addr)}(S:xC X scope Nb cp)(I:Inv X pins σ H s)(hf:∀b∈fp,br X pins H b)(ho:∀b∈fp,∃o,s.heap.get? b=some o)
  (c1:∀x c,cl.lookup x=some c->X.env.cells.lookup x=some c) (c2:∀y∈scope.names,y.2=.free->∃c,cl.lookup y.1=some c):(bQ X scope Nb ⟨u4 scope s cl,s.heap.objs.size,s,H,fp⟩).Ok:=by
 have PS:∀b∈fp,b∉d5 X.stack:=fun b hb z=>by
  obtain⟨_,f1,f2,_⟩:=hf b hb;rcases PD.mp (I.gs b z) with e|e
  ·exact f1 e
  ·exact f2 e
 have lt:∀u c,cl.lookup u=some c->c<s.heap.objs.size:=fun u c e=>by
  obtain⟨v,q⟩:=I.cell u c (c1 _ _ e);exact q.lt
 refine⟨I.ok.mod,?_,I.ok.glob,I.ok.blt,Bi _,fun x y c h1 h2=>?_,fun x hx=>?_,fun x c h hc=>?_,I.ok.hd,I.ok.frames,.inl rfl,fun b hb=>⟨?_,fun x c e=>?_⟩,I.bs,q02 I.ok.j7 I.sz,fun b o e hb=>?_,PS,I.stack,I.dI⟩
 ·exact S.kind
 ·exact Bq (fun u v c q1 q2=>I.ok.inj u v c (c1 _ _ q1) (c1 _ _ q2)) (fun u c e=>q0W (lt u c e)) h1 h2
 ·cases q:scope.names.lookup x with
  |none =>
   have z:(relabel scope X.env).names.lookup x=none:=Hg q;have gQ:(relabel scope X.env).names.lookup x=some .cell\/(relabel scope X.env).names.lookup x=some .free:=hx;rw[z] at gQ;rcases gQ with h|h<;>cases h
  |some k =>
   have hm:=q1w q;have z:(relabel scope X.env).names.lookup x=_:=Bn (env:=X.env) q;have gQ:(relabel scope X.env).names.lookup x=some .cell\/(relabel scope X.env).names.lookup x=some .free:=hx;rw[z] at gQ
   have kf:k=.free\/k=.cell:=by
    by_cases hk:k=.free
    ·exact .inl hk
    ·have:(k==q14)=false:=by simpa using hk
     simp only[this,q5B,q0G,q1X] at gQ;rcases gQ with h|h
     ·exact .inr (q0E h)
     ·exact absurd (q0E h) hk
   refine q4I.mp (q3F scope.names _ cl ?_);rcases kf with rfl|rfl
   ·obtain⟨c,e⟩:=c2 (x,.free) hm rfl
    exact .inr (by rw[show cl.lookup x=some c from e];rfl)
   ·exact .inl q
 ·have hl:scope.names.lookup x=some .cell:=q05 h
  have:=Bp (q1w hl) hc;exact q6S this
 ·obtain⟨o,e⟩:=ho b hb
  exact q0e (My e)
 ·rcases sU e with e|⟨e,_⟩
  ·exact(hf b hb).2.2.2.2.1 x c (c1 _ _ e)
  ·obtain⟨o,eo⟩:=ho b hb
   have Bt:=My eo;intro z;subst z;exact absurd (q6T e) (x1p.mpr (q1z Bt))
 ·rcases(hf b hb).2.2.2.1 with z|z
  ·exact I.ok.hJ b o e z
  ·exact absurd (q0l (My (I.ok.bs b o e).1) z) (q13 _)
theorem PT{cp:List (Option Nat)}{σ:St}{j:Nat}{v:V}(h:(iD cp σ)[j]?=some (some v)):∃i,cp[j]?=some (some i)/\σ[i]?=some (some v):=by
 unfold iD at h;rw[q0b] at h
 cases e:cp[j]? with
 |none=>rw[e] at h;cases h
 |some o =>
  rw[e] at h
  cases o with
  |none=>cases h
  |some i =>
   refine⟨i,rfl,?_⟩;have h':(σ[i]?).join=some v:=q0E h
   cases q:σ[i]? with
   |none=>rw[q] at h';cases h'
   |some z =>
    rw[q] at h';have:z=some v:=h';rw[this]
theorem PU{fp:List Addr}{cl:List (Str×Addr)}{h1:Heap}{tk:Nat}(S:xC X scope Nb cp)(I:Inv X pins σ H s)(hf:∀b∈fp,br X pins H b)(ho:∀b∈fp,∃o,s.heap.get? b=some o)
  (c1:∀x c,cl.lookup x=some c->X.env.cells.lookup x=some c) (c2:∀y∈scope.names,y.2=.free->∃c,cl.lookup y.1=some c)
  (hn:h1.Ns s.heap.objs.size (fun x=>([]:List (Str×Value)).reverse.lookup x)) (hk:∀b o,s.heap.get? b=some o->h1.get? b=some o) (sO:∀x c,(u4 scope s cl).lookup x=some c->∃v,h1.IsCell c v) :
  Inv (bQ X scope Nb ⟨u4 scope s cl,s.heap.objs.size,s,H,fp⟩) [] (iD cp σ) H {s with heap:=h1,toks:=tk}:=by
 refine⟨PR S I hf ho c1 c2,rfl,I.bare,Un.kept hk,⟨_,hn,fun j x v e1 e2 e3=>?_⟩,sO,I.aD.fresh (Bi _),fun x c e=>?_,fun p hp=>absurd (show p∈([]:aq) from hp) (by simp),I.aD.kept hk,?_⟩
 ·obtain⟨i,q1,q2⟩:=PT e2
  obtain⟨q3,q4⟩:=S.uZ j i x q1 e1;have hm:=q1w q4;have pQ:=S.free _ hm rfl;obtain⟨m,_,hl⟩:=I.loc
  have PV:sJ X.env.scope x:=by
   rcases pQ with h|h
   ·exact .inr (.inl h)
   ·exact .inr (.inr h)
  obtain⟨u,ru,lk⟩:=hl i x v q3 q2 PV;refine⟨u,ru,?_⟩
  have nl:X.env.kindOf x≠some .local:=by
   rcases pQ with h|h
   ·intro z;rw[h] at z;cases z
   ·intro z;rw[h] at z;cases z
  rcases lk with⟨k,_⟩|⟨_,c,ec,hc⟩
  ·exact absurd k nl
  ·obtain⟨c',Hi⟩:=c2 (x,.free) hm rfl
   have Hj:=c1 _ _ Hi;rw[ec] at Hj;cases Hj;have nc:(x,q1P)∉scope.names:=fun z=>by have:=S.cell _ z rfl;rw[show scope.names.lookup x=some .free from q4] at this;cases this
   refine .inr ⟨?_,c,(Br nc).trans Hi,?_⟩
   ·have z:(relabel scope X.env).names.lookup x=_:=Bn (env:=X.env) q4
    show(relabel scope X.env).names.lookup x=some .cell\/(relabel scope X.env).names.lookup x=some .free;rw[z];split
    ·exact .inl rfl
    ·exact .inr rfl
   ·obtain⟨o,e,d⟩:=hc
    exact⟨o,hk _ _ e,d⟩
 ·rcases sU e with e|⟨e,_⟩
  ·exact I.bx x c (c1 _ _ e)
  ·exact I.aD.fresh (q6S e)
 ·unfold iD
  rw[qU];exact S.len
theorem PW{fp:List Addr}{d:BD}{it l:Addr}{tn:Nat->Heap->Prop}{J:It}{R:Result->Shared->Prop}{Q:VK}{H1:Hp}{s1:Shared}{τ:St}(hc:X.calm=true)
  (hg:JG (bQ X scope Nb d) tg (g d)) (hf:JF (bQ X scope Nb d) ifs (tf d)) (he:JE (bQ X scope Nb d) elt (te d)) (T:Turn X.prog X.w X.K tg J fp it tn)
  (dfp:d.fp=fp) (I1:Inv (bQ X scope Nb d) [] τ H1 s1) (gP:tn 0 s1.heap) (Hk:∀b∈fp,br (bQ X scope Nb d) [] H1 b)
  (W:Nat->Nat->St->Hp->Prop) (w0:∃m,W 0 m τ H1)
  (turn:∀i m τ H,W i m τ H->(J.stop i H/\Q (.ref l) H)\/(J.go i H/\∃N:St->Hp->Prop,(∀τ' H',N τ' H'->∃m',m'<m/\W (i+1) m' τ' H')/\∀x H',J.sN i H x H'->g d x τ H' fun τ2 H2=>tf d τ2 H2 fun b H3 =>
   if b=true then te d τ2 H3 fun y H4=>∃ys,H4 l=some (.lst ys)/\ys.length<sizeLine/\N τ2 (upd H4 l (.lst (ys++[y]))) else N τ2 H3))
  (fin:∀τ' H' s',Inv (bQ X scope Nb d) [] τ' H' s'->Q (.ref l) H'->R (.ok .next) s') :
  codeAny (model X.prog X.w) X.A (.compStart (.ListComp elt [⟨tg,iter,ifs,0⟩] scope pos) 0 (.ref it) (.ref l) (compEnvC scope d.cl d.C X.env)) R s1:=by
 have iP:∀{H':Hp},(∀b∈fp,H' b=none)->∀b∈fp,br (bQ X scope Nb d) [] H' b:=fun hn b hb=>⟨hn b hb,(Hk b hb).2⟩
 have loop:codeAny (model X.prog X.w) X.A (.compLoop (.ListComp elt [⟨tg,iter,ifs,0⟩] scope pos) 0 (.ref it) (.ref l) (compEnvC scope d.cl d.C X.env)) R s1:=by
  obtain⟨m0,w0⟩:=w0;refine PK (fun n s'=>∃i τ' H',Inv (bQ X scope Nb d) [] τ' H' s'/\tn i s'.heap/\(∀b∈fp,H' b=none)/\W i n τ' H') ?_ m0 ⟨0,τ,H1,I1,gP,fun b hb=>(Hk b hb).1,w0⟩;rintro n s3 ⟨i,σ3,H3,I3,pL,uJ,w3⟩;rcases turn i n σ3 H3 w3 with⟨stop,qn⟩|⟨go,N,hN,step⟩
  ·refine aW (T.done (bQ X scope Nb d) rfl rfl rfl hc i [] s3 σ3 H3 (fun _ _=>False) I3 (iP uJ) pL stop) fun r s4 ⟨hr,I4⟩=>?_
   subst hr;exact fin σ3 H3 s4 I4 qn
  ·refine aW (T.item (bQ X scope Nb d) rfl rfl rfl hc i [] s3 σ3 H3 (fun _ _=>False) I3 (iP uJ) pL go) fun r s4 ⟨u,hr,h4⟩=>?_
   subst hr;refine aW h4 fun _ s5 ⟨x,H5,I5,r5,y5,qy,AA⟩=>?_;have AB:=I5.pinned (iP AA) (T.obj _ _ qy);refine aW (hg _ s5 σ3 H5 x u _ AB r5 (step x H5 y5)) fun _ s6 ⟨σ6,H6,I6,q6⟩=>?_
   have again:∀{σ7:St}{H7:Hp}{s7:Shared}{m':Nat},Inv (bQ X scope Nb d) ([]++uI fp s5.heap) σ7 H7 s7->m'<n->W (i+1) m' σ7 H7->∃m,m<n/\∃i σ' H',Inv (bQ X scope Nb d) [] σ' H' s7/\tn i s7.heap/\(∀b∈fp,H' b=none)/\W i m σ' H':=fun{σ7 H7 s7 m'} I7 hm w7=>by
    refine⟨m',hm,i+1,σ7,H7,I7.dM,T.keep _ _ _ qy fun b hb o e=>(I7.pin (b,o) (q0n _ (q0n _ (xr hb e)))).1,fun b hb=>?_,w7⟩;obtain⟨o,e,d⟩:=T.obj _ _ qy b hb;exact(I7.pin (b,o) (q0n _ (q0n _ (xr hb e)))).2.1
   refine aW (hf _ s6 σ6 H6 _ I6 q6) fun ok s7 h0_=>el3 h0_ fun H7 I7 q7=>?_
   cases ok with
   |false =>
    rw[q0a PH] at q7 ⊢;obtain⟨m',hm,w7⟩:=hN _ _ q7;exact again I7 hm w7
   |true =>
    rw[q0f rfl] at q7 ⊢;refine aW (he _ s7 σ6 H7 _ I7 q7) fun y s8 ⟨yv,H8,I8,r8,ys,hy,hz,q8⟩=>?_;obtain⟨m',hm,w8⟩:=hN _ _ q8;refine aW (Bb _ s8 σ6 H8 (.ref l) [yv] (.ref l) [y] (fun _ H9=>H9=upd H8 l (.lst (ys++[yv]))) I8 rfl (.cons r8 .nil) ⟨l,ys,yv,rfl,rfl,hy,hz,rfl⟩) fun _ s9 h0_=>el5 h0_ fun _ H9 I9 _ e9=>?_;subst e9;exact again I9 hm w8
 exact codeAny_compStart_list loop (T.self _ 0 s1 _ _ gP loop)
theorem PX{fp:List Addr}{d:BD}{τ:St}{H1 H':Hp}{s1 s':Shared}(I1:Inv X pins σ H1 s1)(hs:d.s=s1)(hH:d.H=H1)(hd:d.fp=fp)(hf:∀b∈fp,br X pins H1 b)(J:Inv (bQ X scope Nb d) [] τ H' s'):Inv X pins σ H' s':=by
 subst hs hH hd;exact I1.jf (ch:=d.fp) J.os J.base J.aD J.bare fun b hb=>⟨(hf b hb).2.2.2.1,(hf b hb).2.1,(hf b hb).2.2.2.2.1,(hf b hb).2.2.2.2.2⟩
theorem Hl{use:Option (Value->Sem Unit)}{P:aH}{Q:VK}(hc:X.calm=true)(S:xC X scope Nb cp)(hi:JI X tg iter wi)(hg:∀d,JG (bQ X scope Nb d) tg (g d))(hf:∀d,JF (bQ X scope Nb d) ifs (tf d))(he:∀d,JE (bQ X scope Nb d) elt (te d))
  (hs:∀x,foldedSetIterable iter X.env x=pure x) (I:Inv X pins σ H s) (h:u3 wi cp g tf te σ H Q)
  (fin:∀(l C:Addr)(H':Hp)(s':Shared)(m:Str->Option Value),Inv X pins σ H' s'->br X pins H' C->(∀p c,X.env.cells.lookup p=some c->c≠C)->s'.heap.Ns C m->Q (.ref l) H'->compPost (model X.prog X.w) X.A X.xe use P (.ref l) C (.ok .next) s') :
  wpAny (model X.prog X.w) X.A (comprehension (.ListComp elt [⟨tg,iter,ifs,0⟩] scope pos) scope X.env (firstIterPos [⟨tg,iter,ifs,0⟩] pos) (newList []) false (eval iter X.env) use) P X.xe s:=by
 obtain⟨cl,PY,c1,c2⟩:=Hf (scope:=scope) (env:=X.env) fun y hy ki=>by
  rcases S.free y hy ki with z|z
  ·exact I.ok.has _ (.inl z)
  ·exact I.ok.has _ (.inr z)
 refine wpAny_comprehension_free (cl:=cl) rfl hs PY S.kind S.names (aW (hi pins s σ H _ I h) fun v s1 h1=>aW h1 fun Ax s2 h2=>?_);obtain⟨it,fp,tn,J,H2,e,I2,T,iL,f2,q2⟩:=h2;subst e;refine q1c ?_;have hl:H2 s2.heap.objs.size=none:=I2.fresh;have I3:Inv X pins σ (upd H2 s2.heap.objs.size (.lst [])) {s2 with heap:=s2.heap.push {cls:=.type "list",data:=.seq ([]:List Value).toArray}}:=I2.bV (t':=s2.toks) (ys:=[]) .nil (q06 _);have k3:∀b o,s2.heap.get? b=some o->(s2.heap.push {cls:=.type "list",data:=.seq ([]:List Value).toArray}).get? b=some o:=fun b o e=>qT _ e
 have f3:∀b∈fp,br X pins (upd H2 s2.heap.objs.size (.lst [])) b:=fun b hb=>by
  obtain⟨o,e,_⟩:=T.obj _ _ iL b hb;refine⟨?_,(f2 b hb).2⟩;rw[av (q0e (My e))];exact(f2 b hb).1
 generalize PZ:upd H2 s2.heap.objs.size (.lst [])=H3 at I3 f3;generalize P0:({s2 with heap:=s2.heap.push {cls:=.type "list",data:=.seq ([]:List Value).toArray}}:Shared)=s3 at I3;have Hm:∀b o,s2.heap.get? b=some o->s3.heap.get? b=some o:=by rw[<-P0];exact k3
 have o3:∀b∈fp,∃o,s3.heap.get? b=some o:=fun b hb=>let⟨o,e,_⟩:=T.obj _ _ iL b hb;⟨o,Hm b o e⟩;refine PN ?_;have k4:∀b o,s3.heap.get? b=some o->(pushCells (s3.heap.push {cls:=.type "dict",data:=.dict #[]}) scope.names).get? b=some o:=fun b o e=>q7C _ _ _ _ (qT _ e);have u5:(pushCells (s3.heap.push {cls:=.type "dict",data:=.dict #[]}) scope.names).Ns s3.heap.objs.size (fun x=>([]:List (Str×Value)).reverse.lookup x):=(Heap.Ns.new s3.heap (.type "dict")).keeps (q7C _ _)
 have I4:=PU (Nb:=Nb) (tk:=s3.toks) S I3 f3 o3 c1 c2 u5 k4 fun x c e=>by
  have hz:(s3.heap.push {cls:=.type "dict",data:=.dict #[]}).objs.size=s3.heap.objs.size+1:=q1s ..;have e':(cellsFrom (s3.heap.push {cls:=.type "dict",data:=.dict #[]}).objs.size scope.names cl).lookup x=some c:=by rw[hz];exact e
  refine Bs (fun u c q=>?_) e';obtain⟨v,o,g1,g2⟩:=I3.cell u c (c1 _ _ q);exact⟨v,o,qT _ g1,g2⟩
 generalize hh1:pushCells (s3.heap.push {cls:=.type "dict",data:=.dict #[]}) scope.names=h₁ at k4 u5 I4 ⊢;obtain⟨W,w0,turn⟩:=q2 ⟨u4 scope s3 cl,s3.heap.objs.size,s3,H3,fp⟩ s2.heap.objs.size hl;rw[PZ] at w0;refine PW (d:=⟨u4 scope s3 cl,s3.heap.objs.size,s3,H3,fp⟩) (fp:=fp) (tn:=tn) (J:=J) (Q:=Q) hc (hg _) (hf _) (he _) T rfl I4 (T.keep _ _ _ iL fun b hb o e=>k4 b o (Hm b o e)) (fun b hb=>?_) W w0 turn fun τ' H' s' I5 q5=>?_
 ·obtain⟨o,e⟩:=o3 b hb
  refine⟨(f3 b hb).1,q0e (My e),fun z=>?_,.inl hb,fun x c ec=>?_,fun p hp=>absurd (show p∈([]:aq) from hp) (by simp)⟩
  ·rcases PD.mp (I3.gs b z) with r|r
   ·exact(f3 b hb).2.1 r
   ·exact(f3 b hb).2.2.1 r
  ·rcases sU ec with q|⟨q,_⟩
   ·exact(f3 b hb).2.2.2.2.1 x c (c1 _ _ q)
   ·have Bt:=My e
    intro z;subst z;exact absurd (q6T q) (x1p.mpr (q1z Bt))
 ·have I6:Inv X pins σ H' s':=PX I3 rfl rfl rfl f3 I5
  obtain⟨m,hn,_⟩:=I5.loc;have fC:br X pins H' s3.heap.objs.size:=I3.gv (Bi _) I5.free;exact fin _ _ _ _ m I6 fC (fun p c e=>fC.2.2.2.2.1 p c e) hn q5
theorem Hn(cp:List (Option Nat))(Nb:List Str)(hc:X.calm=true)(hi:JI X tg iter wi)(hg:∀d,JG (bQ X scope Nb d) tg (g d))(hf:∀d,JF (bQ X scope Nb d) ifs (tf d))(he:∀d,JE (bQ X scope Nb d) elt (te d))
  (hk:scope.kind=.function:=by rfl) (ho:kh X.N X.env.scope scope Nb cp=true:=by first|rfl|kernel_rfl) (hs:∀x,foldedSetIterable iter X.env x=pure x:=by intro _;rfl) :
  JE X (.ListComp elt [⟨tg,iter,ifs,0⟩] scope pos) (u3 wi cp g tf te):=by
 refine⟨?_⟩;intro pins s σ H Q I h;rw[eval_ListComp];refine Hl (use:=none) hc (x1N hk ho) hi hg hf he hs I h fun l C H' s' m I' fC hcc hn q=>⟨m,hn,fun h' u7=>⟨.ref l,H',?_,rfl,q⟩⟩;exact I'.turned (t':=s'.toks) (fun b o hb e=>(u7.2 b hb).trans e) fC.1 fC.2.1 fC.2.2.2.1 fC.2.2.2.2.1 fC.2.2.2.2.2
theorem Ho(cp:List (Option Nat))(Nb:List Str){i:Nat}{x:Str}{pos' fw:Pos}(hN:X.N.Nodup)(hi:X.N[i]?=some x)(hx:Loc X.env.scope x)(hc:X.calm=true)(hit:JI X tg iter wi)(hg:∀d,JG (bQ X scope Nb d) tg (g d))(hf:∀d,JF (bQ X scope Nb d) ifs (tf d))(he:∀d,JE (bQ X scope Nb d) elt (te d))
  (hk:scope.kind=.function:=by rfl) (ho:kh X.N X.env.scope scope Nb cp=true:=by first|rfl|kernel_rfl) (hs:∀x,foldedSetIterable iter X.env x=pure x:=by intro _;rfl)
  (qY:swapsWith (.ListComp elt [⟨tg,iter,ifs,0⟩] scope pos) (some (.Name x pos')) fw.line X.env=pure true:=by rfl)
  (iN:dG X x:=by first|exact .inl rfl|exact .inr rfl|assumption) :
  JS X (.Assign [.Name x pos'] (.ListComp elt [⟨tg,iter,ifs,0⟩] scope pos) fw) (cU (u3 wi cp g tf te) (hU i)):=by
 refine⟨?_⟩;intro pins s σ H D I h;rw[exec_Assign_Name_used _ _ _ _ qY];refine n_ (q2A (n_ ?_));show wpAny _ X.A (do let _ <- comprehension (.ListComp elt [⟨tg,iter,ifs,0⟩] scope pos) scope X.env _ (newList []) false (eval iter X.env) (some (assign (.Name x pos') X.env))) _ _ s;refine n_ (aW (Hl (use:=some (assign (.Name x pos') X.env)) (P:=fun _ s'=>SP X pins D .next s') hc (x1N hk ho) hit hg hf he hs I h fun l C H' s' m I' fC hcc hn q=>?_) fun _ s' hq=>uX (uX hq));show wpAny _ X.A (assign (.Name x pos') X.env (.ref l)) _ _ s';refine q6G (Gn I' hN hi hx (v:=.ref l) rfl (fun iR P6 ⟨a,sb,ha⟩=>?_) iN)
 have nC:C≠a:=by
  rcases ha with e|e
  ·rw[e];exact fC.2.1
  ·exact q1A (hcc _ _ e)
 refine⟨m,hn.sameBut sb nC,fun h' u7=>⟨_,H',?_,q⟩⟩;exact P6.turned (t':=iR.toks) (fun b o hb e=>(u7.2 b hb).trans e) fC.1 fC.2.1 fC.2.2.2.1 fC.2.2.2.2.1 fC.2.2.2.2.2
end
section
variable{g:TG}{tf:TT}{te:TE}
end
section
variable{X:Cx}{pins:aq}{σ:St}{H:Hp}{s:Shared}{h':Heap}{T:Addr}{o:HO}{ch:List Addr}{t':Nat}
theorem Inv.fA(I:Inv X pins σ H s)(hf:∀b∈ch,br X pins H b)(k:∀b u,b∉ch->s.heap.get? b=some u->h'.get? b=some u)(hT:s.heap.objs.size<=T)(new:az X.prog X.w (upd H T o) h' T o):
  Inv X pins σ (upd H T o) {s with heap:=h',toks:=t'}:=by
 have hn:H T=none:=I.aD.fresh hT;have kM:∀b u,H b=some u->b∉ch:=fun b u e hb=>by rw[(hf b hb).1] at e;cases e
 refine I.step (g':=s.gens) (d':=s.drawn) (ch:=ch) (fun b hb=>⟨(hf b hb).2.2.2.1,(hf b hb).2.1,(hf b hb).2.2.2.2.1,(hf b hb).2.2.2.2.2⟩) (fun b u _ _ hc e _=>k b u hc e) (fun b u _ _ hc e _=>⟨u.slots,k b u hc e⟩)
  (fun b u _ e n=>by rw[av (q0e (q0l (My e) hT))];exact n) (fun b u hc e=>⟨u,k b u hc e⟩) (fun b xs e=>by rw[av (bH e hn)];exact e)
  (fun b u xs e=>by rw[av (bH e hn)];exact e) (fun b ps e=>⟨#[],by rw[av (bH e hn),e];simp⟩) (fun m hm=>?_) (fun b u e=>?_) I.bare
 ·obtain⟨u,es,ep,ho,r⟩:=hm
  exact⟨u,es,ep,k _ u (fun hb=>(hf _ hb).2.1 rfl) ho,r⟩
 ·by_cases hb:b=T
  ·subst hb;rw[a_] at e;cases e;exact new
  ·rw[av hb] at e
   refine(I.aD b u e).dm (fun c v hc q=>k c v ?_ q) (fun c q=>by rw[av (bH q hn)];exact q) fun c xs q=>by rw[av (bH q hn)];exact q
   rcases hc with z|z
   ·rw[z];exact kM b u e
   ·exact kM c _ z
theorem Inv.jJ(I:Inv X pins σ H s)(hf:∀b∈ch,br X pins H b)(k:∀b u,b∉ch->s.heap.get? b=some u->h'.get? b=some u):Inv X pins σ H {s with heap:=h',toks:=t'}:=by
 have kM:∀b u,H b=some u->b∉ch:=fun b u e hb=>by rw[(hf b hb).1] at e;cases e
 refine I.step (g':=s.gens) (d':=s.drawn) (ch:=ch) (fun b hb=>⟨(hf b hb).2.2.2.1,(hf b hb).2.1,(hf b hb).2.2.2.2.1,(hf b hb).2.2.2.2.2⟩) (fun b u _ _ hc e _=>k b u hc e) (fun b u _ _ hc e _=>⟨u.slots,k b u hc e⟩)
  (fun b u _ e n=>n) (fun b u hc e=>⟨u,k b u hc e⟩) (fun b xs e=>e)
  (fun b u xs e=>e) (fun b ps e=>⟨#[],by rw[e];simp⟩) (fun m hm=>?_) (fun b u e=>?_) I.bare
 ·obtain⟨u,es,ep,ho,r⟩:=hm
  exact⟨u,es,ep,k _ u (fun hb=>(hf _ hb).2.1 rfl) ho,r⟩
 ·refine(I.aD b u e).dm (fun c v hc q=>k c v ?_ q) (fun c q=>q) fun c xs q=>q
  rcases hc with z|z
  ·rw[z];exact kM b u e
  ·exact kM c _ z
end
noncomputable def sV(K:xA)(a:Addr):It :=
 ⟨fun i H=>∃xs x,aZ K H a xs/\xs[i]?=some x,fun i H x H'=>∃T v,x=.ref T/\H T=none/\H'=upd H T (.tup [.int (i:Nat),v])/\∀xs,aZ K H a xs->xs[i]?=some v,fun i H=>∃xs,aZ K H a xs/\xs.length<=i⟩
theorem Hq{P:Program}{w:World}{K:xA}{elts:List Expr}{x1}{tp:Pos}(a e it:Addr)(fj:e≠it):
  Turn P w K (.Tuple elts x1 tp) (sV K a) [e,it] e (fun i h=>(∃old,IsEnum h e it (i:Nat) old)/\h.IsListIter it a i) where
 mem:=by simp
 obj:=fun i h st b hb=>by
  obtain⟨⟨old,he⟩,o,hi,hc,hd⟩:=st;rcases PD.mp hb with rfl|hb
  ·exact⟨_,he,fun v z=>by cases z⟩
  ·have z:b=it:=by simpa using hb
   subst z;exact⟨o,hi,fun v z=>by rw[hd] at z;cases z⟩
 keep:=fun i h h' st k=>by
  obtain⟨⟨old,he⟩,hi⟩:=st;exact⟨⟨old,k e (by simp) _ he⟩,hi.at fun o q=>k it (by simp) o q⟩
 item:=by
  intro X hP hw hK hc i pins s σ H E I hf st hg;subst hP hw hK;obtain⟨⟨old,he⟩,hi⟩:=st;obtain⟨xs,x,hq,hx⟩:=hg;obtain⟨ah,rv,p,hz⟩:=I.list hq;obtain⟨u,hu,ru⟩:=rv.get hx;refine wpAny_pyNext_enum_item he hi p.isList (x:=u) (by simpa using hu) fj fun h1 mz u9 u_ hsz hk=>⟨_,rfl,?_⟩;refine q4r mz fun h2 va dJ=>?_;have hT:s.heap.objs.size≠e:=q1L (My he);have kE:h2.get? s.heap.objs.size=some {cls:=.type "tuple",data:=.seq #[.int i s.toks,u]}:=(dJ.2 _ hT).trans u_
  have k2:∀b o,b∉[e,it]->s.heap.get? b=some o->h2.get? b=some o:=fun b o hb q=>by
   have oa:b≠e:=fun z=>hb (by simp[z]);have fm:b≠it:=fun z=>hb (by simp[z]);exact(dJ.2 _ oa).trans (hk b o oa fm q)
  have hn:H s.heap.objs.size=none:=I.aD.fresh (Bi _);refine⟨.ref s.heap.objs.size,upd H s.heap.objs.size (.tup [.int i,x]),I.fA (ch:=[e,it]) (t':=s.toks+1) hf k2 (Bi _) ?_,rfl,⟨_,x,rfl,hn,rfl,fun ys hy=>by rw[I.ft hy hq];exact hx⟩,⟨⟨u,?_⟩,?_⟩,fun b hb=>?_⟩
  ·exact⟨by show 2<=sizeLine;decide,[.int i s.toks,u],.cons ⟨_,rfl⟩ (.cons ru .nil),_,kE,rfl,_,rfl⟩
  ·have e3:((i:Int)+1)=(((i+1:Nat)):Int):=by omega
   rw[e3] at va;exact va
  ·exact u9.at fun o q=>(dJ.2 _ (q1A fj)).trans q
  ·have:b<s.heap.objs.size:=by
    obtain⟨o,q,_⟩:=hi;rcases PD.mp hb with rfl|hb
    ·exact My he
    ·have z:b=it:=by simpa using hb
     subst z;exact My q
   rw[av (q0e this)];exact(hf b hb).1
 done:=by
  intro X hP hw hK hc i pins s σ H E I hf st hg;subst hP hw hK;obtain⟨⟨old,he⟩,hi⟩:=st;obtain⟨xs,hq,hx⟩:=hg;obtain⟨ah,rv,p,hz⟩:=I.list hq;have hl:=rv.length;refine wpAny_pyNext_enum_end (I.ok.hd hc) he hi p.isList (by simp;omega) fun h1 eb=>⟨rfl,?_⟩;obtain⟨f0,f1,f2,f3,f4,f5⟩:=hf it (by simp);exact I.turned (t':=s.toks) (fun b o hb q=>eb b o hb q) f0 f1 f3 f4 f5
 self:=fun A i s Q E st h=>by
  obtain⟨⟨old,he⟩,hi⟩:=st;have hT:s.TypeIs (.ref e) "enumerate" := ⟨_,he,rfl⟩;exact q2m he h
section
variable{X:Cx}{elts:List Expr}{x1:Nat}{tp:Pos}
def Hr(K:xA)(ta:TA):TI:=fun σ H R=>ta σ H fun vs H1=>∃a,vs=[.ref a]/\(∃xs,aZ K H1 a xs)/\R (sV K a) H1
theorem Hs:bootBuiltins "enumerate" = some (.type "enumerate"):=by decide +kernel
theorem P7:bootBuiltins "zip" = some (.type "zip"):=by decide +kernel
theorem Ht{a:Expr}{ta:TA}{p pos:Pos}(hg:Gl X "enumerate")(hm:X.mg "enumerate" = none)(ha:JA X [a] ta)(hs:starEach [a] X.env=[(false,eval a X.env)]:=by rfl):
  JI X (.Tuple elts x1 tp) (.Call (.Name "enumerate" p) [a] [] pos) (Hr X.K ta):=by
 refine⟨?_⟩;intro pins s σ H R I h;refine Call_ (nM I hg hm Hs (q1B (aW (ha pos pins s σ H _ I h) fun us s1 h0_=>el5 h0_ fun vs H1 I1 r1 q1=>?_) hs rfl));obtain⟨l,e,⟨xs,hq⟩,q⟩:=q1;subst e
 cases r1 with
 |cons r rr =>
  cases rr
  cases r
  obtain⟨ah,rv,p,hz⟩:=I1.list hq;refine q5Y p.isList fun h' he hi hsz hk=>?_;have I2:Inv X pins σ H1 {s1 with heap:=h'}:=I1.kept (t':=s1.toks) hk;refine q2m he ?_;refine⟨_,_,_,_,H1,rfl,I2,Hq l (s1.heap.objs.size+1) s1.heap.objs.size (q40 _),⟨⟨_,he⟩,hi⟩,fun b hb=>?_,q⟩
  have hb':s1.heap.objs.size<=b:=by
   rcases PD.mp hb with rfl|hb
   ·exact q3Y _
   ·have z:b=s1.heap.objs.size:=by simpa using hb
    rw[z];exact Bi _
  exact I1.gv hb' (I1.aD.fresh hb')
end
section
variable{X:Cx}{nm:Str}{tp:Pos}
end
end L2
namespace L2
open PySem PySem.Spec PyProof.Rows PySem.W
open Builtin Builtin.ObjectAttr
section
variable{prog:Program}{w:World}{A:Around}{E:aH}{s:Shared}{K:Frag}{x D:Addr}{ox:Obj}{mL:Option Obj}{name:Str}
theorem P8:builtinKind "BaseException.__getattribute__" = some .slot:=by decide +kernel
theorem P9:splitId "BaseException.__getattribute__" = some ("BaseException", "__getattribute__"):=by decide +kernel
theorem P_:plainId "BaseException.__getattribute__" = true:=q41.ga.plain
theorem Qa{tk:Tok}{Q:Unit->Shared->Prop}(X:K.In s.heap)(I:InstAt s.heap x ox D mL)(hb:mroIn K D (.type "BaseException")=some true)(q:Q () s):
  wpAny (model prog w) A (checkBuiltinCall "BaseException.__getattribute__" ⟨[.ref x,.str name tk],[]⟩) Q E s:=by
 have sub:Looks (model prog w) s.heap (isInstance (.ref x) (.type "BaseException")) true:=(I.type (M:=model prog w)).andThen (looks_mroIn X hb);exact @check_slot (model prog w) A E s "BaseException.__getattribute__" "BaseException" "__getattribute__" (.ref x) [.str name tk] [] Q P8 P9 sub (PySem.F.args_bexc_ga (.ref x) (.str name tk)) q
theorem Qb{tk:Tok}{Q:aH}(X:K.In s.heap)(I:InstAt s.heap x ox D mL)(hb:mroIn K D (.type "BaseException")=some true)
  (h:wpAny (model prog w) A.in1 (Builtin.«object.__getattribute__» ⟨[.ref x,.str name tk],[]⟩) (fun fin s'=>∃v,fin=.done (.ret v)/\Q v s') E s) :
  wpAny (model prog w) A (call (.builtin "BaseException.__getattribute__") [.ref x,.str name tk]) Q E s:=by
 refine q3t (q26 P_ PySem.F.entry_bexc_ga ?_);refine Qa X I hb ?_;refine q1E h (fun fin s' hf=>?_) fun _ _ z=>z;obtain⟨v,rfl,q⟩:=hf;exact q
theorem Hu{fill expr:Bool}{tk:Tok}{Q:aH}(X:K.In s.heap)(I:InstAt s.heap x ox D mL)(vc:findIn K (.ref D) "__getattribute__" = some (some (.builtin "BaseException.__getattribute__")))
  (vd:findIn K (.ref D) "__getattr__" = some none) (hb:mroIn K D (.type "BaseException")=some true)
  (h:wpAny (model prog w) A.in1 (Builtin.«object.__getattribute__» ⟨[.ref x,.str name tk],[]⟩) (fun fin s'=>∃v,fin=.done (.ret v)/\handedIn v=true/\Q v s') (fun _ _=>False) s) :
  wpAny (model prog w) A (getAttrBy (.ref x) (.str name tk) fill expr) Q E s:=by
 have L0:=I.type (M:=model prog w);have L1:=looks_findIn (M:=model prog w) X vc;have L2:=looks_findIn (M:=model prog w) X vd
 have zF:(onTheHeap (q0C D)&&(q3l "BaseException.__getattribute__" == q3l "object.__getattribute__"))=false:=by
  rw[show(q3l "BaseException.__getattribute__" == q3l "object.__getattribute__")=false by decide +kernel];rfl
 have Qc:(expr&&onTheHeap (q3l "BaseException.__getattribute__"))=false:=by cases expr<;>rfl
 have Qd:=q41.ga.bind (.ref x)
 have main:wpAny (model prog w) A (callGetattribute (.ref x) (.str name tk) (.builtin "BaseException.__getattribute__") expr) (fun v s'=>handedIn v=true/\Q v s') (fun _ _=>False) s:=by
  unfold callGetattribute;rw[Qc,q0a PH];unfold boundAndCalled;rw[Qd];refine n_ (uX ?_);exact Qb (Q:=fun v s'=>handedIn v=true/\Q v s') X I hb h
 unfold getAttrBy;refine q0D (n_ (L0.here (n_ (L1.here ?_))));dsimp only;rw[zF,q0a PH];unfold getAttrByItsOwn;refine n_ (L2.here (n_ (q3j (q0D (q1E main (fun v s' hf=>?_) fun _ _ z=>z.elim)))));dsimp only;rw[handedOut_of hf.1];exact uX hf.2
theorem Qe{tk:Tok}{v:Value}{Q:Fin->Shared->Prop}(X:K.In s.heap)(I:InstAt s.heap x ox D mL)(hf:findObj K D mL name=some (.value v))(h:Q (.done (.ret v)) s):
  wpAny (model prog w) A (Builtin.«object.__getattribute__» ⟨[.ref x,.str name tk],[]⟩) Q E s:=by
 have L0:=I.type (M:=model prog w);have L1:=looks_find (M:=model prog w) X I hf;refine n_ (uX ?_);dsimp only;refine n_ (uX (n_ (L0.here (n_ (L1.here ?_)))));exact uX h
theorem Qf{expr:Bool}{v:Value}{Q:aH}(X:K.In s.heap)(I:InstAt s.heap x ox D mL)(vc:findIn K (.ref D) "__getattribute__" = some (some (.builtin "BaseException.__getattribute__")))
  (vd:findIn K (.ref D) "__getattr__" = some none) (hb:mroIn K D (.type "BaseException")=some true) (hf:findObj K D mL name=some (.value v)) (hv:handedIn v=true) (h:Q v {s with toks:=s.toks+1}) :
  wpAny (model prog w) A (getAttr (.ref x) name expr) Q E s:=by
 unfold getAttr;refine n_ (wpAny_mkText ?_);exact Hu (s:={s with toks:=s.toks+1}) X I vc vd hb (Qe (s:={s with toks:=s.toks+1}) X I hf ⟨v,rfl,hv,h⟩)
theorem Qg{Q:Option Value->Shared->Prop}(X:K.In s.heap)(I:InstAt s.heap x ox D mL)(vc:findIn K (.ref D) "__getattribute__" = some (some (.builtin "BaseException.__getattribute__")))
  (vd:findIn K (.ref D) "__getattr__" = some none) (hb:mroIn K D (.type "BaseException")=some true) (hm:mroIn K D (.type "object")=some true)
  (hf:findObj K D mL "__class__" = some (.bind (.builtin "getset_descriptor.__get__") (.builtin "object.__class__"))) (h:Q (some (.ref D)) {s with toks:=s.toks+1}) :
  wpAny (model prog w) A (getAttr? (.ref x) "__class__") Q E s:=by
 unfold getAttr? getAttrBy?;refine n_ (wpAny_mkText (n_ (q3j ?_)));refine Hu (s:={s with toks:=s.toks+1}) X I vc vd hb ?_;have L0:=I.type (M:=model prog w);have L1:=looks_find (M:=model prog w) X I hf;refine n_ (uX ?_);dsimp only;refine n_ (uX (n_ (Looks.here (s:={s with toks:=s.toks+1}) L0 (n_ (Looks.here (s:={s with toks:=s.toks+1}) L1 ?_)))));show wpAny _ _ (holding [q3l "object.__class__"] (call (.builtin "getset_descriptor.__get__") [.builtin "object.__class__",.ref x,.ref D]) >>= ret) _ _ _;refine n_ (q0D (q3t (class_get (s:={s with toks:=s.toks+1}) (ox:=ox) (od:=mL) X I hm ?_)))
 exact uX ⟨.ref D,rfl,rfl,uX h⟩
noncomputable def dQ:List Value->Bool
 |.ref _::r=>dQ r
 |l=>l==[.type "ValueError",.type "Exception",.type "BaseException",.type "object"]
theorem Hv(self:Value):∀{l:List Value},dQ l=true->refuseLoop self "__setattr__" l=pure ()
 |.ref c::r,e=>by rw[refuseLoop_ref];exact Hv self (l:=r) (by unfold dQ at e;exact e)
 |[],e=>by
  unfold dQ at e;rw[q0m e];exact q4L.passes self
 |.type n::r,e=>by
  unfold dQ at e;rw[q0m e];exact q4L.passes self
 |.none::r,e=>by unfold dQ at e;cases q0m e
 |.bool _::r,e=>by unfold dQ at e;cases q0m e
 |.int _ _::r,e=>by unfold dQ at e;cases q0m e
 |.float _ _::r,e=>by unfold dQ at e;cases q0m e
 |.str _ _::r,e=>by unfold dQ at e;cases q0m e
 |.bytes _ _::r,e=>by unfold dQ at e;cases q0m e
 |.builtin _::r,e=>by unfold dQ at e;cases q0m e
 |.notImplemented::r,e=>by unfold dQ at e;cases q0m e
 |.ellipsis::r,e=>by unfold dQ at e;cases q0m e
theorem vf:∀{l:List Value},dQ l=true->l.contains (.type "object")=true/\l.contains (.type "BaseException")=true/\l.isEmpty=false
 |.ref c::r,e=>by
  have ih:=vf (l:=r) (by unfold dQ at e;exact e);exact⟨by rw[q3v,ih.1,q5a],by rw[q3v,ih.2.1,q5a],rfl⟩
 |[],e=>by
  unfold dQ at e;rw[q0m e];decide +kernel
 |.type n::r,e=>by
  unfold dQ at e;rw[q0m e];decide +kernel
 |.none::r,e=>by unfold dQ at e;cases q0m e
 |.bool _::r,e=>by unfold dQ at e;cases q0m e
 |.int _ _::r,e=>by unfold dQ at e;cases q0m e
 |.float _ _::r,e=>by unfold dQ at e;cases q0m e
 |.str _ _::r,e=>by unfold dQ at e;cases q0m e
 |.bytes _ _::r,e=>by unfold dQ at e;cases q0m e
 |.builtin _::r,e=>by unfold dQ at e;cases q0m e
 |.notImplemented::r,e=>by unfold dQ at e;cases q0m e
 |.ellipsis::r,e=>by unfold dQ at e;cases q0m e
structure bo(K:Frag)(C:Addr):Prop where
 cd:∃cd,clsIn K C=some cd/\dQ cd.mro=true/\cd.hasDict=true
 ga:findIn K (.ref C) "__getattribute__" = some (some (.builtin "BaseException.__getattribute__"))
 gh:findIn K (.ref C) "__getattr__" = some none
 sa:findIn K (.ref C) "__setattr__" = some (some (.builtin "object.__setattr__"))
 cl:findIn K (.ref C) "__class__" = some (some (.builtin "object.__class__"))
 hn:specialIn K (.builtin "object.__class__") "__get__" = some (some (.builtin "getset_descriptor.__get__"))
 tk:takesIn K (.builtin "object.__class__")=some true
theorem bo.base{C:Addr}(c:bo K C):mroIn K C (.type "BaseException")=some true:=by
 obtain⟨cd,h1,h2,_⟩:=c.cd;unfold mroIn;rw[h1,q2L,q0a (by rw[(vf h2).2.2];decide),(vf h2).2.1]
theorem bo.obj{C:Addr}(c:bo K C):mroIn K C (.type "object")=some true:=by
 obtain⟨cd,h1,h2,_⟩:=c.cd;unfold mroIn;rw[h1,q2L,q0a (by rw[(vf h2).2.2];decide),(vf h2).1]
theorem Qh{C:Addr}{v:Value}{vs:Array Value}{Q:Unit->Shared->Prop}(X:K.In s.heap)(hx:s.heap.get? x=some ⟨.ref C,none,.fields vs,#[]⟩)(c:bo K C)(Qi:findIn K (.ref C) name=some none)
  (h:∀h' je,h'.get? x=some ⟨.ref C,some s.heap.objs.size,.fields vs,#[]⟩->h'.Ns1 s.heap.objs.size (fun y=>if y=name then some v else none)->(∀b o,b≠x->s.heap.get? b=some o->h'.get? b=some o)->Q () {s with heap:=h',toks:=je}) :
  wpAny (model prog w) A (setAttr (.ref x) name v) Q E s:=by
 have I:InstAt s.heap x ⟨.ref C,none,.fields vs,#[]⟩ C none:=⟨hx,rfl,rfl,trivial⟩;obtain⟨cd,eK,hm,eR⟩:=c.cd;refine set_plain X I c.sa ?_;have SF:=PySem.F.store_object;have sub:Looks (model prog w) s.heap (isInstance (.ref x) (.type "object")) true:=I.type.andThen (looks_mroIn X c.obj);refine q26 SF.slot.plain SF.entry (@check_slot (model prog w) _ _ {s with toks:=s.toks+1} "object.__setattr__" "object" "__setattr__" (.ref x) [.str name s.toks,v] [] _ SF.kind SF.split sub (SF.args (.ref x) (.str name s.toks) v) ?_);have Qj:Looks (model prog w) s.heap (mroOf (.ref C)) cd.mro:=(looks_clsIn X eK).andThen .now
 rw[osa_eq,refuse_eq];refine n_ (n_ (Looks.here (s:={s with toks:=s.toks+1}) I.type (n_ (Looks.here (s:={s with toks:=s.toks+1}) Qj ?_))));rw[Hv _ hm];refine uX (n_ (Looks.here (s:={s with toks:=s.toks+1}) I.type (n_ (Looks.here (s:={s with toks:=s.toks+1}) (looks_findIn X Qi) (n_ (uX ?_))))));show wpAny _ _ (storeInOwnDict (.ref x) (.ref C) (.str name s.toks) name v false) _ _ _;unfold storeInOwnDict;refine n_ (uX (n_ ?_));show wpAny _ _ (instanceDict x true) _ _ _;unfold instanceDict;refine n_ (q74 (s:={s with toks:=s.toks+1}) hx ?_);refine n_ (Looks.here (s:={s with toks:=s.toks+1}) (looks_clsIn X eK) ?_)
 rw[eR];show wpAny _ _ (alloc {cls:=.type "dict",data:=.dict #[]} >>= fun d=>update x (fun o=>{o with dict:=some d}) >>= fun _=>dictMade (.ref C) x d) _ _ _;have Hw:(s.heap.push {cls:=.type "dict",data:=.dict #[]}).get? x=some ⟨.ref C,none,.fields vs,#[]⟩:=qT _ hx;have Hx:x≠s.heap.objs.size:=q0e (My hx);refine n_ (wpAny_alloc' ?_);refine n_ (wpAny_update' Hw ?_);refine uX ?_
 have Qk:((s.heap.push {cls:=.type "dict",data:=.dict #[]}).update x fun o=>{cls:=o.cls,dict:=some s.heap.objs.size,data:=o.data,slots:=o.slots}).get? s.heap.objs.size
   = some {cls:=.type "dict",data:=.dict #[]}:=(q5Z _ _ _ _ Hx.symm).trans (q6U rfl rfl)
 have Ql:((s.heap.push {cls:=.type "dict",data:=.dict #[]}).update x fun o=>{cls:=o.cls,dict:=some s.heap.objs.size,data:=o.data,slots:=o.slots}).Ns s.heap.objs.size (fun _=>none) :=
  ⟨_,#[],_,Qk,rfl,fun e he=>absurd he (by simp),fun _=>rfl⟩
 show wpAny _ _ (storeInDict s.heap.objs.size (.str name s.toks) name v) _ _ _;unfold storeInDict newKeyGuard;refine n_ (uX (n_ (wpAny_nsSet1 (Heap.Ns1.of_empty Ql) fun h' kD hs=>?_)));obtain⟨oD,esD,epD,Qm,Qn,k6⟩:=kD.count (Within.cons name v Within.nil);refine n_ (wpAny_lookBehind Qm (by rw[Qn];exact pastItsLine_dict (q02 k6 (by rw[Hc,q09,q2c];omega))) ?_);have gQ:h'.get? x=some ⟨.ref C,some s.heap.objs.size,.fields vs,#[]⟩:=(hs.2 x Hx).trans (q0J _ Hw rfl);exact uX (h h' _ gQ kD fun b ob Qo hb=>(hs.2 b (q0e (My hb))).trans ((q5Z _ _ _ _ Qo).trans (qT _ hb)))
theorem Qp{C:Addr}{cd:ClassData}{od:Option Obj}{nm:Str}{g a:Value}(hc:clsIn K C=some cd)(ha:findIn K (.ref C) nm=some (some a))(hn:specialIn K a "__get__" = some (some g))(xu:takesIn K a=some true):
  findObj K C od nm=some (.bind g a):=by
 unfold findObj;rw[hc,q2L,ha,q2L];dsimp only;rw[hn,q2L];dsimp only;rw[xu,q2L]
theorem Qq{C:Addr}(c:bo K C):KitX K (.ref x) (.ref C) (fun h=>∃ox od,InstAt h x ox C od) where
 ty:=fun _ _ _ I=>by obtain⟨_,_,I⟩:=I;exact I.type
 it:=fun _ _ X _=>by
  obtain⟨Hy,k6,_⟩:=c.cd;unfold clsIn at k6;split at k6
  ·rename_i c' d' Qr mC ho
   intro A' Q' E' s' k q;unfold isType loadHead;exact n_ (q74 (k _ _ (X _ _ ho)) (uX q))
  ·cases k6
 ne:=fun h tp dd ah n sl X Qs=>by
  obtain⟨Hy,k6,_⟩:=c.cd;refine q6V.mpr fun q=>?_;have e:C=tp:=Value.ref.inj (beq_iff_eq.mp q);subst e;unfold clsIn at k6;split at k6
  ·rename_i c' d' Qr mC ho
   have z:=(X _ _ ho).symm.trans Qs;cases z
  ·cases k6
 ca:=fun X I k=>by
  obtain⟨ox,od,I⟩:=I;obtain⟨Hy,k6,_⟩:=c.cd;exact Qg X I c.ga c.gh c.base c.obj (Qp k6 c.cl c.hn c.tk) k
variable{h:Heap}{g:Array GenState}{d:Drawn}{t:Nat}{os:OsState}{nm q:Str}{C N:Addr}{bs bm xD:List Value}{eR:Bool}{sn:List Str}{sub:List Value}{ab:Bool}{col:Option Bool}{dd:Option Addr}{k0 k1 k2 k3 k5:Option Value}{B newId k9:String}
theorem Qt(F:ExcBaseFacts B newId k9 xD)(T:OwnTail h xD bm){mN:Str->Option Value}{rest:List Value}{fI:Addr}{oI:Obj}{Q:Fin->Shared->Prop}
  (hC:h.get? C=some (excClassObj nm q C N bs bm eR sn sub ab col dd k0 k1 k2 k3 k5 newId)) (hn:h.Ns N mN) (hi:mN "__init__" = some (.ref fI))
  (Bu:h.get? fI=some oI) (Bv:oI.cls=.type "function")
  (hq:∀h' e,q5J h h' e (.ref C) rest →
   wpAny (model prog w) A (call (.ref fI) (.ref e::rest)) (fun r s'=>r=.none/\Q (.done (.ret (.ref e))) s') E ⟨h',g,d,t,os⟩) (hrest:rest.length<=sizeLine:=by size_fits) :
  wpAny (model prog w) A (Builtin.«type.__call__» ⟨.ref C::rest,[]⟩) Q E ⟨h,g,d,t,os⟩:=by
 repeat(first|with_reducible refine q22 hC ?_|with_reducible refine wpAny_madeBy_exc hC ?_|wp_step)
 refine codeAny_call_builtin_code (q3u _ F.quiet) (wpAny_check_new_subT F T hC ?_);refine codeAny_exc_new_subT F T hC ?_ hrest;show wpAny _ _ _ _ _ _
 have Hz:=qT {cls:=.ref C,data:=.fields #[.ref h.objs.size,.none,.none,.none,.bool false,.none]}
  (qT {cls:=.type "tuple",data:=.seq rest.toArray} hC)
 have Bw:=qT {cls:=.ref C,data:=.fields #[.ref h.objs.size,.none,.none,.none,.bool false,.none]}
  (qT {cls:=.type "tuple",data:=.seq rest.toArray} Bu)
 have Qu:((h.push {cls:=.type "tuple",data:=.seq rest.toArray}).push {cls:=.ref C,data:=.fields #[.ref h.objs.size,.none,.none,.none,.bool false,.none]}).Ns N mN :=
  let⟨o,es,ep,e,r⟩:=hn;⟨o,es,ep,qT _ (qT _ e),r⟩
 have vg:((h.push {cls:=.type "tuple",data:=.seq rest.toArray}).push
   {cls:=.ref C,data:=.fields #[.ref h.objs.size,.none,.none,.none,.bool false,.none]}).get? (h.objs.size+1)=some
   {cls:=.ref C,data:=.fields #[.ref h.objs.size,.none,.none,.none,.bool false,.none]}:=by heap_get
 have Qv:(q0C C::bm).contains (.ref C)=true:=by simp
 have T₁:=T.keeps (h':=(h.push {cls:=.type "tuple",data:=.seq rest.toArray}).push {cls:=.ref C,data:=.fields #[.ref h.objs.size,.none,.none,.none,.bool false,.none]})
  fun b o e=>qT _ (qT _ e)
 unfold isInstance
 repeat(first|with_reducible refine q22 vg ?_|(with_reducible refine q50 Hz ?_;rw[Qv])|wp_step)
 show wpAny _ _ (typeLookup (.ref C) _) _ _ _;refine wpAny_typeLookup_tail Hz Qu T₁ F.mroIs F.init.lookup ?_;rw[hi];refine q0D (n_ ?_);unfold bindSpecial;refine n_ (q3E (T:="function") ⟨_,Bw,Bv⟩ ?_);rw[q0f (by decide)];refine uX (n_ (q1E (hq _ (h.objs.size+1) ⟨fun b o hb=>qT _ (qT _ hb),q27 (q3Y _),h.objs.size,vg,q27 (Bi _),?_⟩) (fun r s' hr=>?_) fun _ _ x=>x))
 ·exact qT _ (q6U rfl rfl)
 ·obtain⟨rfl,hQ⟩:=hr
  wp_walk
  exact hQ
theorem Qw(F:ExcBaseFacts B newId k9 xD)(T:OwnTail h xD bm){mN:Str->Option Value}{rest:List Value}{fI:Addr}{oI:Obj}{Q:aH}
  (hC:h.get? C=some (excClassObj nm q C N bs bm eR sn sub ab col dd k0 k1 k2 k3 k5 newId)) (hn:h.Ns N mN) (hi:mN "__init__" = some (.ref fI))
  (Bu:h.get? fI=some oI) (Bv:oI.cls=.type "function")
  (hq:∀h' e,q5J h h' e (.ref C) rest →
   wpAny (model prog w) (A.under (.builtin "type.__call__" ⟨.ref C::rest,[]⟩)) (call (.ref fI) (.ref e::rest)) (fun r s'=>r=.none/\Q (.ref e) s') E ⟨h',g,d,t,os⟩) (hrest:rest.length<=sizeLine:=by size_fits) :
  wpAny (model prog w) A (call (.ref C) rest) Q E ⟨h,g,d,t,os⟩:=by
 have f1:=tc_lookup;have f2:=tc_bind (.ref C);have hT:(⟨h,g,d,t,os⟩:Shared).TypeIs (.ref C) "type" := ⟨_,hC,rfl⟩;refine q3t (q31 ?_);show wpAny _ _ (callAny (.ref C) _) _ _ _
 repeat(any_goals (first|assumption|with_reducible refine q22 hC ?_|wp_step))
 refine⟨rfl,?_⟩;refine codeAny_call_builtin_at (q3u _ (by decide +kernel)) entry_typeCall (wpAny_check_type_call_sub hC (Qt (hrest:=hrest) F T hC hn hi Bu Bv fun h' e hm=>?_));exact hq h' e hm
end
end L2
namespace L2
open PySem PySem.Spec PyProof.Rows
noncomputable def bW(a C:Addr)(dx:Option Addr):HO:=.ext fun h=>∃t,h.get? a=some ⟨.ref C,dx,.fields #[.ref t,.none,.none,.none,.bool false,.none],#[]⟩
theorem HA{P:Program}{w:World}{H:Hp}{h:Heap}{a C t:Addr}{dx:Option Addr}(e:h.get? a=some ⟨.ref C,dx,.fields #[.ref t,.none,.none,.none,.bool false,.none],#[]⟩):az P w H h a (bW a C dx) :=
 ⟨⟨t,e⟩,⟨_,e⟩,fun h1 h2 ⟨t',e1⟩ k=>⟨t',k _ e1⟩⟩
theorem HB{P:Program}{w:World}{H:Hp}{h:Heap}{a C:Addr}{dx:Option Addr}(x:az P w H h a (bW a C dx)):∃t,h.get? a=some ⟨.ref C,dx,.fields #[.ref t,.none,.none,.none,.bool false,.none],#[]⟩:=x.1
def vh(K:xA)(N:Addr)(name:Str)(r:Option Value):Prop:=∃oc od es ep sl,K.lookup N=some ⟨oc,od,.dict es ep,sl⟩/\(es.all fun e=>match e.key with|.str _ _=>true|_=>false)=true/\nsFind es name=r
theorem vh.ns{K:xA}{N:Addr}{name:Str}{r:Option Value}(x:vh K N name r){h:Heap}(k:K.In h):∃m,h.Ns N m/\m name=r:=by
 obtain⟨oc,od,es,ep,sl,l,hk,e⟩:=x;refine⟨fun n=>nsFind es n,⟨_,es,ep,k _ _ l,rfl,fun en xE=>?_,fun _=>rfl⟩,e⟩;have:=(Array.all_eq_true'.mp hk) en xE;split at this
 ·rename_i s t q;exact⟨s,t,q⟩
 ·cases this
noncomputable abbrev qZ:List Value:=[.type "ValueError",.type "Exception",.type "BaseException",.type "object"]
inductive bX (K:xA):List Value->Prop
 |base:bX K qZ
 |own {A:Addr} {c0:Value} {dd:Option Addr} {cd:ClassData} {sl:Array (Option Value)} {tl:List Value}:K.lookup A=some ⟨c0,dd,.cls cd,sl⟩->vh K cd.ns "__init__" none->bX K tl->bX K (.ref A::tl)
theorem bX.tail{K:xA}{l:List Value}(x:bX K l){h:Heap}(k:K.In h):OwnTail h qZ l:=by
 induction x with
 |base=>exact .base
 |own l n _ ih =>
  obtain⟨m,hn,e⟩:=n.ns k;exact .own (k _ _ l) hn e ih
structure vi(K:xA)(C:Addr)(k_:Option Value):Prop where
 HC:∃(nm q:Str)(N:Addr)(bs bm:List Value)(eR:Bool)(sn:List Str)(sub:List Value)(ab:Bool)(col:Option Bool)(dd:Option Addr)(k0 k1 k2 k3 k5:Option Value),
  K.lookup C=some (excClassObj nm q C N bs bm eR sn sub ab col dd k0 k1 k2 k3 k5 "ValueError.__new__")/\bX K bm/\vh K N "__init__" k_
 kp:q1u K (.ref C)=true
section
variable{X:Cx}{pins:aq}{σ:St}{H:Hp}{s:Shared}{C f:Addr}{CX:jD}{k:Nat}{fd:FuncData}{ps:List Str}{sp:Sp}{E:XK}{x:Str}{p pos pos':Pos}{e o value:Expr}{es:List Expr}{ta tv:TE}{t:TA}
theorem HD{P:Program}{w:World}{H:Hp}{h:Heap}{a:Addr}{o:HO}(x:az P w H h a o):∃ob,h.get? a=some ob:=by
 cases o with
 |lst xs=>obtain⟨_,_,_,_,e⟩:=x;exact⟨_,e⟩
 |tup xs=>obtain⟨_,_,_,p⟩:=x;obtain⟨o,e,_⟩:=p;exact⟨_,e⟩
 |dK kvs=>obtain⟨_,_,_,_,o,_,_,e,_⟩:=x;exact⟨_,e⟩
 |dT kvs=>obtain⟨_,_,_,_,o,_,_,e,_⟩:=x;exact⟨_,e⟩
 |set S n=>obtain⟨o,_,_,_,e,_⟩:=x;exact⟨_,e⟩
 |ins C dx fs=>obtain⟨_,_,_,e,_⟩:=x;exact⟨_,e⟩
 |own y=>exact x
 |xd fs=>obtain⟨_,⟨_,_,_,e,_⟩,_⟩:=x;exact⟨_,e⟩
 |rng lo hi=>obtain⟨_,_,_,e⟩:=x;exact⟨_,e⟩
 |frz ob u=>obtain⟨e,_⟩:=x;exact⟨_,e⟩
 |tbl ps=>exact⟨_,(show h.get? a=some _ from x)⟩
 |met f y=>exact⟨_,(show h.get? a=some _ from x)⟩
 |ext φ=>obtain⟨_,e,_⟩:=x;exact e
theorem Inv.pR{a:Addr}(I:Inv X pins σ H s)(hn:s.heap.get? a=none):H a=none:=by
 cases q:H a with
 |none=>rfl
 |some u =>
  obtain⟨o,ho⟩:=HD (I.aD a u q);rw[hn] at ho;cases ho
theorem Inv.vj{h':Heap}{a:Addr}{u:HO}{t':Nat}(I:Inv X pins σ H s)(k:∀b u,s.heap.get? b=some u->h'.get? b=some u)(hn:s.heap.get? a=none)(new:az X.prog X.w (upd H a u) h' a u):
  Inv X pins σ (upd H a u) {s with heap:=h',toks:=t'}:=by
 have hf:=I.pR hn;have ne:∀b ob,s.heap.get? b=some ob->b≠a:=fun b ob e z=>by rw[z,hn] at e;cases e
 refine I.un ⟨fun b o q _ _ _=>k b o q,fun b o q _ _ _=>⟨o.slots,k b o q⟩,fun b o q n _=>by rw[av (ne b o q)];exact n,fun b o q _=>⟨o,k b o q⟩,fun b xs q=>by rw[av (bH q hf)];exact q,fun b o xs q=>by rw[av (bH q hf)];exact q,fun b ps q=>⟨#[],by rw[av (bH q hf),q];simp⟩⟩ fun b o q=>?_
 by_cases hb:b=a
 ·subst hb;rw[a_] at q;cases q;exact new
 ·rw[av hb] at q
  exact(I.aD b o q).dm (fun c v _ z=>k c v z) (fun c z=>by rw[av (bH z hf)];exact z) fun c xs z=>by rw[av (bH z hf)];exact z
theorem Inv.og{h':Heap}{a:Addr}{us:List Value}(I:Inv X pins σ H s)(m:q5J s.heap h' a (.ref C) us):H a=none/\Inv X pins σ (upd H a (bW a C none)) {s with heap:=h'}:=by
 obtain⟨t,ht,_,_⟩:=m.there;exact⟨I.pR m.new,I.vj (t':=s.toks) m.keeps m.new (HA ht)⟩
def Qx(C:Addr)(sp:Sp)(E:XK)(t:TA):TE:=fun σ H Q=>t σ H fun vs H1=>vs.length<=sizeLine/\∀a,H1 a=none->sp (.ref a::vs) (upd H1 a (bW a C none)) (fun v H2=>v=.non/\Q (.ref a) H2) E
theorem Qy(M:vi X.K C (some (.ref f)))(iN:q6W X.K (.ref f)=true)(F:bP X.prog X.w X.K X.mg X.base CX k f fd ps sp)(hr:aS (k+1) X.A)(hb:Binds X.K fd ps [])(hx:mG CX X E)(hg:Gl X x)(hm:X.mg x=some (.ref C))(ha:JA X (e::es) t)(cV:bA x:=by decide)
  (he:cQ X e es:=by rfl) (cW:dH X pos es:=by rfl) :
  JE X (.Call (.Name x p) (e::es) [] pos) (Qx C sp E t):=by
 refine⟨?_⟩;intro pins s σ H Q I h;refine q2S (xp I hg hm ?_ cV);refine q6n (h₀:=X.base) I.ok.mod.nH M.kp (aW (ha pos pins s σ H _ I h) fun us s1 ⟨vs,H1,I1,r,hz,q⟩=>⟨I1.d6,?_⟩) he cW;obtain⟨nm,q',N,bs,bm,eR,sn,sub,ab,col,dd,k0,k1,k2,k3,k5,l,T,n⟩:=M.HC;obtain⟨mN,hN,hi⟩:=n.ns I1.d6;obtain⟨oI,lI,hc⟩:=q0g.mp (beq_iff_eq.mp iN);obtain⟨hp,g,d,tk,os⟩:=s1;refine Qw PySem.F.excBase_ValueError (T.tail I1.d6) (I1.d6 _ _ l) hN hi (I1.d6 _ _ lI) hc (fun h' a hm=>?_) (by rw[q5j,<-r.length];exact hz);obtain⟨hf,I2⟩:=I1.og hm;have hq:=q a hf;have r2:Vals (V.ref a::vs) (q0C a::us):=.cons rfl r
 have hl:(q0C a::us++[]).length=ps.length:=by
  rw[q1S];have e:=r2.length;rw[F.len _ _ _ _ hq] at e;exact e.symm
 have bd:=hb _ (q0C a::us) I2.d6 hl;rw[q1S] at bd;refine q3t (q2P (F.run _ X.stack _ _ ⟨q0C a::us,[]⟩ (q0C a::us) _ _ E (hr.make C us []) (I2.qE.make C us []) bd r2 hq) fun r s' pT=>?_)
 cases r with
 |error e=>exact hx pins σ _ _ e s' I2 pT
 |ok fl =>
  cases fl with
  |ret u =>
   obtain⟨v,H',I3,rv,ev,q3⟩:=I2.after pT;subst ev;exact⟨rv,⟨V.ref a,H',I3,rfl,q3⟩⟩
  |next=>exact q1e pT
  |brk=>exact q1e pT
  |cont=>exact q1e pT
def Qz(K:xA)(ta tv:TE)(f:Str):TS:=fun D σ H=>tv σ H fun y H1=>ta σ H1 fun x H2=>∃a C,x=.ref a/\H2 a=some (bW a C none)/\bo K C/\uN K C f ∧
 ∀d,H2 d=none->D.nx σ (upd (upd H2 d (.xd [(f,y)])) a (bW a C (some d)))
theorem QA{fn:Str}(ha:JE X o ta)(hv:JE X value tv)(hs:swapsWith value (some (.Attribute o fn pos')) pos.line X.env=pure false):JS X (.Assign [.Attribute o fn pos'] value pos) (Qz X.K ta tv fn):=by
 refine⟨?_⟩;intro pins s σ H D I h;refine plainObj_wpAny_Assign_Attribute (aW (hv pins s σ H _ I h) fun u s1 h0_=>el5 h0_ fun y H1 I1 ry q =>aW (ha pins s1 σ H1 _ I1 q) fun ov s2 ⟨x,H2,I2,rx,a,C,ex,ea,c,n,q2⟩=>?_) hs;subst ex;obtain rfl:ov=q0C a:=rx;obtain⟨t,ht⟩:=HB (I2.aD a _ ea);have q_:H2 s2.heap.objs.size=none:=I2.fresh;have had:a≠s2.heap.objs.size:=bH ea q_;refine Qh I2.d6 ht c n fun h' je gQ kD hk=>?_
 have new:∀H':Hp,az X.prog X.w H' h' s2.heap.objs.size (.xd [(fn,y)]):=fun H'=>⟨_,kD,fun g=>by
  by_cases e:g=fn
  ·subst e
   rw[q0f rfl];simp only[q0z,q4Z];exact ry
  ·rw[q0a e]
   have:(g==fn)=false:=by simpa using e
   simp only[q0z,this,List.lookup_nil]
   trivial⟩
 have nm:¬ qt (some (HO.tup [])):=fun z=>z;have Bx:qt (H2 a):=by rw[ea];exact trivial
 have k2:∀b ob,b≠a->s2.heap.get? b=some ob->h'.get? b=some ob:=hk;refine⟨σ,_,I2.un (h':=h') (t':=je) ⟨fun b ob q n' _ _=>k2 b ob (fun z=>by rw[z,ea] at n';cases n') q,fun b ob q n' _ _=>⟨ob.slots,k2 b ob (fun z=>by rw[z,ea] at n';cases n') q⟩,fun b ob q n' _=>?_,fun b ob q _=>?_,fun b xs q=>?_,fun b ob xs q=>?_,fun b pps q=>⟨#[],?_⟩⟩ fun b ob q=>?_,q2 _ q_⟩
 ·have h1:b≠a:=fun z=>by rw[z,ea] at n';cases n'
  have h2:b≠s2.heap.objs.size:=q0e (My q);rw[av h1,av h2];exact n'
 ·by_cases z:b=a
  ·subst z;exact⟨_,gQ⟩
  ·exact⟨ob,k2 b ob z q⟩
 ·rw[av (pG q ea (by unfold bW;intro z;cases z)),av (bH q q_)];exact q
 ·rw[av (pG q ea (by unfold bW;intro z;cases z)),av (bH q q_)];exact q
 ·rw[av (pG q ea (by unfold bW;intro z;cases z)),av (bH q q_),q];simp
 ·by_cases hb:b=a
  ·subst hb;rw[a_] at q;cases q;exact HA gQ
  ·rw[av hb] at q
   by_cases HE:b=s2.heap.objs.size
   ·subst HE;rw[a_] at q;cases q;exact new _
   ·rw[av HE] at q
    have own:∀c,H2 c=some (.own b)->c≠a:=fun c z e=>by rw[e,ea] at z;unfold bW at z;cases z
    refine(I2.aD b ob q).dm (fun c v hc z=>k2 c v ?_ z) (fun c z=>by rw[av (own c z),av (bH z q_)];exact z) fun c xs z=>by rw[av (pG z ea (by unfold bW;intro y;cases y)),av (bH z q_)];exact z
    rcases hc with e|e
    ·rw[e];exact hb
    ·exact own c e
end
section
variable{X:Cx}
noncomputable def oh:V->Option Value
 |.ty n=>some (.type n)
 |.ref a=>some (.ref a)
 |_=>none
theorem HF{y:V}{u c:Value}(r:RelV y u)(e:oh y=some c):u=c:=by
 cases y with
 |ty n=>cases e;exact r
 |ref a=>cases e;exact r
 |_=>cases e
theorem QB:gb X (.builtin "isinstance") (fun xs H Q=>∃x y c t b,xs=[x,y]/\oh y=some c/\dO X.K H x t/\q0q X.K t c=some b/\Q (.bl b) H):=by
 intro pins s σ H xs us Q I rv h;obtain⟨x,y,c,t,b,rfl,hc,ty,e,q⟩:=h;obtain⟨u,w',rfl,rx,ry⟩:=rv.two;rw[HF ry hc];exact O0 I rx ty e fun tk=>⟨.bl b,H,I.tok tk,rfl,q⟩
theorem HG{x:V}:∀{xs:List V}{us:List Value},Vals xs us->xs.all ka=true->us.countP (pP x)=xs.countP fun y=>gf y x
 |_,_,.nil,_=>rfl
 |y::xs,u::us,.cons r t,f=>by
  rw[q4K,q0y] at f;rw[q2E,q2E,HG t f.2,A4 r f.1]
theorem IsList.parts{h:Heap}{l:Addr}{items:Array Value}(x:h.IsList l items):∃dd n sl,h.get? l=some {cls:=.type "list",dict:=dd,data:=.seq items n,slots:=sl}:=by
 obtain⟨⟨cls,dd,data,sl⟩,ho,hc,n,hd⟩:=x;simp only at hc hd;subst hc hd;exact⟨dd,n,sl,ho⟩
def QC(K:xA):V->List V->Hp->VK->Prop:=fun x vs H Q=>∃l xs y,x=.ref l/\vs=[y]/\aZ K H l xs/\ka y=true/\xs.all ka=true/\Q (.int (xs.countP fun z=>gf z y:Nat)) H
theorem QD:qP X "list.count" (QC X.K):=by
 intro pins s σ H x vs v us Q I rx rv h;obtain⟨l,xs,y,rfl,rfl,hq,fy,fs,q⟩:=h;cases rx
 obtain⟨u,rfl,ru⟩:=rv.one;obtain⟨ah,r,pl,hz⟩:=I.list hq;obtain⟨dd,n,sl,e⟩:=IsList.parts pl.isList;refine q3U F.slot_list_count ⟨_,e,rfl⟩ F.entry_list_count (F.args_list_count_2 _ _) (SeqAt.list_countAt l ah.toArray n dd sl u (pP y)) ⟨e,fun w hw=>A5 ru fy r fs w (by simpa using hw),?_⟩;refine⟨.int _,H,I.tok _,⟨_,rfl⟩,?_⟩;have e2:ah.toArray.toList.countP (pP y)=xs.countP fun z=>gf z y:=by rw[List.toList_toArray];exact HG r fs
 rw[e2];exact q
def QE(K:xA):V->List V->Hp->VK->Prop:=fun x vs H Q=>∃l xs y j,x=.ref l/\vs=[y]/\aZ K H l xs/\ka y=true/\xs.all ka=true/\j<xs.length/\(∀z,xs[j]?=some z->gf z y=true)/\(∀m z,m<j->xs[m]?=some z->gf z y=false)/\Q (.int (j:Nat)) H
theorem QF{x:V}{xs:List V}{us:List Value}(r:Vals xs us)(f:xs.all ka=true){j:Nat}{u:Value}(hu:us[j]?=some u):∃z,xs[j]?=some z/\pP x u=gf z x:=by
 have hl:=r.length;have hj:j<us.length:=(sR.mp hu).1;have hz:xs[j]?=some (xs[j]'(by omega)):=qV _;obtain⟨u',e,ru⟩:=r.get hz;rw[hu] at e;cases e;exact⟨_,hz,A4 ru ((q03.mp f) _ (q1K _))⟩
theorem QG:qP X "list.index" (QE X.K):=by
 intro pins s σ H x vs v us Q I rx rv h;obtain⟨l,xs,y,j,rfl,rfl,hq,fy,fs,hj,h1,h2,q⟩:=h;cases rx
 obtain⟨u,rfl,ru⟩:=rv.one;obtain⟨ah,r,pl,hz⟩:=I.list hq;obtain⟨dd,n,sl,e⟩:=IsList.parts pl.isList;have hl:=r.length;have line:=qC;have at_:∀(m:Nat)(hm:m<ah.toArray.size),∃z,xs[m]?=some z/\pP y ah.toArray[m]=gf z y:=fun m hm=>QF r fs (by simp[qV (show m<ah.length by simpa using hm)]);refine q3U F.slot_list_index ⟨_,e,rfl⟩ F.entry_list_index (F.args_list_index_2 _ _) (SeqAt.list_indexAt l ah.toArray n dd sl u (pP y) j (by simp;omega) (by omega) ?_ ?_) ⟨e,fun w hw=>A5 ru fy r fs w (by simpa using hw),?_⟩
 ·obtain⟨z,e1,e2⟩:=at_ j (by simp;omega)
  rw[e2];exact h1 z e1
 ·intro m hm QH
  obtain⟨z,e1,e2⟩:=at_ m hm;rw[e2];exact h2 m z QH e1
 ·exact⟨.int _,H,I.tok _,⟨_,rfl⟩,q⟩
end
theorem HH{K:xA}{a:Addr}{xs:List V}{g:TG}{tb:TS}{D:Ends}{σ:St}{H:Hp}(Pv:Nat->St->Hp->Prop)(h0:Pv 0 σ H)(hl:∀i σ H,i<=xs.length->Pv i σ H->aZ K H a xs)
  (hs:∀i x T σ H,xs[i]?=some x->Pv i σ H->H T=none->g (.ref T) σ (upd H T (.tup [.int (i:Nat),x])) fun σ2 H2=>tb {D with nx:=Pv (i+1),ct:=Pv (i+1),bk:=D.nx} σ2 H2) (hd:∀σ H,Pv xs.length σ H->D.nx σ H) :
  ∃W:Nat->Nat->St->Hp->Prop,(∃m,W 0 m σ H)/\∀i m σ H,W i m σ H →
   ((sV K a).stop i H/\D.nx σ H)\/((sV K a).go i H/\∃N:St->Hp->Prop,(∀σ' H',N σ' H'->∃m',m'<m/\W (i+1) m' σ' H')/\∀x H',(sV K a).sN i H x H'->g x σ H' fun σ2 H2=>tb {D with nx:=N,ct:=N,bk:=D.nx} σ2 H2):=by
 refine⟨fun i m σ H=>m=xs.length-i/\i<=xs.length/\Pv i σ H,⟨xs.length,by simp,q06 _,h0⟩,?_⟩;rintro i m σ H ⟨rfl,hi,p⟩;have q:=hl i σ H hi p
 by_cases cB:i<xs.length
 ·refine .inr ⟨⟨xs,xs[i],q,by simp[cB]⟩,Pv (i+1),fun σ' H' p'=>⟨xs.length-(i+1),by omega,rfl,cB,p'⟩,fun x H' y=>?_⟩
  obtain⟨T,v,rfl,hT,rfl,y⟩:=y;exact hs i v T σ H (y xs q) p hT
 ·have e:i=xs.length:=by omega
  subst e;exact .inl ⟨⟨xs,q,Bi _⟩,hd σ H p⟩
section
variable{g:TG}{tf:TT}{te:TE}{l:Addr}{τ0:St}{H0:Hp}{Q:VK}
end
section
variable{X:Cx}{es:List Expr}{te:TE}{t:TA}
theorem jK{c j p}(ha:JE X (.Constant c j p) te)(hr:JA X es t):JA X (.Constant c j p::es) (gw te t):=ji ha hr rfl
theorem fY{x p}(ha:JE X (.Name x p) te)(hr:JA X es t):JA X (.Name x p::es) (gw te t):=ji ha hr rfl
theorem gy{f a k p}(ha:JE X (.Call f a k p) te)(hr:JA X es t):JA X (.Call f a k p::es) (gw te t):=ji ha hr rfl
theorem vk{a p}(ha:JE X (.List a p) te)(hr:JA X es t):JA X (.List a p::es) (gw te t):=ji ha hr rfl
theorem By{a k p}(ha:JE X (.Tuple a k p) te)(hr:JA X es t):JA X (.Tuple a k p::es) (gw te t):=ji ha hr rfl
theorem rh{a k p}(ha:JE X (.Subscript a k p) te)(hr:JA X es t):JA X (.Subscript a k p::es) (gw te t):=ji ha hr rfl
theorem Bz{a k p}(ha:JE X (.Attribute a k p) te)(hr:JA X es t):JA X (.Attribute a k p::es) (gw te t):=ji ha hr rfl
end
inductive D where
 |non|bl (b:Bool)|int (i:Int)|str (x:Str)|tup (xs:List D)|lst (xs:List D)
mutual
def Is (H:Hp):D->V->Prop
 |.non,v=>v=.non
 |.bl b,v=>v=.bl b
 |.int i,v=>v=.int i
 |.str x,v=>v=.str x
 |.tup ds,v=>∃a vs,v=.ref a/\H a=some (.tup vs)/\ae H ds vs
 |.lst ds,v=>∃a vs,v=.ref a/\H a=some (.lst vs)/\ae H ds vs
def ae (H:Hp):List D->List V->Prop
 |[],vs=>vs=[]
 |d::ds,vs=>∃v r,vs=v::r/\Is H d v/\ae H ds r
end
mutual
theorem Is.same {H H':Hp} (s:ar H H'):∀{d:D}{v:V},Is H d v->Is H' d v
 |.non,_,h=>h
 |.bl _,_,h=>h
 |.int _,_,h=>h
 |.str _,_,h=>h
 |.tup _,_,h=>by
  simp only[Is] at h ⊢;obtain⟨a,vs,e,h1,h2⟩:=h;exact⟨a,vs,e,s _ _ h1,ae.same s h2⟩
 |.lst _,_,h=>by
  simp only[Is] at h ⊢;obtain⟨a,vs,e,h1,h2⟩:=h;exact⟨a,vs,e,s _ _ h1,ae.same s h2⟩
theorem ae.same {H H':Hp} (s:ar H H'):∀{d:List D}{v:List V},ae H d v->ae H' d v
 |[],_,h=>h
 |_::_,_,h=>by
  simp only[ae] at h ⊢;obtain⟨v,r,e,h1,h2⟩:=h;exact⟨v,r,e,Is.same s h1,ae.same s h2⟩
end
theorem ae.length{H:Hp}:∀{ds:List D}{vs:List V},ae H ds vs->vs.length=ds.length
 |[],_,h=>by simp only[ae] at h;rw[h];rfl
 |_::_,_,h=>by
  simp only[ae] at h;obtain⟨v,r,rfl,_,h2⟩:=h;rw[Hc,Hc,ae.length h2]
theorem ae.get{H:Hp}:∀{ds:List D}{vs:List V}{i:Nat}{v:V},ae H ds vs->vs[i]?=some v->∃d,ds[i]?=some d/\Is H d v
 |[],_,i,v,h,e=>by simp only[ae] at h;rw[h] at e;simp at e
 |d::ds,_,i,v,h,e=>by
  simp only[ae] at h;obtain⟨v',r,rfl,h1,h2⟩:=h
  cases i with
  |zero=>simp at e;subst e;exact⟨d,rfl,h1⟩
  |succ i=>simp at e;simpa using ae.get h2 e
theorem ae.nil{H:Hp}:ae H [] []:=by simp only[ae]
theorem ae.cons{H:Hp}{d:D}{ds:List D}{v:V}{vs:List V}(h:Is H d v)(r:ae H ds vs):ae H (d::ds) (v::vs):=by
 simp only[ae];exact⟨v,vs,rfl,h,r⟩
theorem ae.snoc{H:Hp}{d:D}{v:V}:∀{ds:List D}{vs:List V},ae H ds vs->Is H d v->ae H (ds++[d]) (vs++[v])
 |[],_,h,q=>by simp only[ae] at h;subst h;exact .cons q .nil
 |_::_,_,h,q=>by
  simp only[ae] at h;obtain⟨v',r,rfl,h1,h2⟩:=h;exact .cons h1 (ae.snoc h2 q)
mutual
noncomputable def dep:D->Nat
 |.tup ds=>aQ ds+1
 |.lst ds=>aQ ds+1
 |_=>0
noncomputable def aQ:List D->Nat
 |[]=>0
 |d::ds=>max (dep d) (aQ ds)
end
theorem BA:∀{ds:List D}{i:Nat}{d:D},ds[i]?=some d->dep d<=aQ ds
 |[],i,d,e=>by simp at e
 |d'::ds,0,d,e=>by simp at e;subst e;simp only[aQ];exact Nat.le_max_left _ _
 |d'::ds,i+1,d,e=>by simp at e;simp only[aQ];exact q02 (BA e) (Nat.le_max_right _ _)
noncomputable def bG:D->String
 |.non=>"NoneType" | .bl _=>"bool" | .int _=>"int" | .str _=>"str" | .tup _=>"tuple" | .lst _=>"list"
theorem Is.ty{K:xA}{H:Hp}:∀{d:D}{v:V},Is H d v->dO K H v (.type (bG d))
 |.non,_,h=>by cases(show _=_ from h);exact .non
 |.bl b,_,h=>by cases(show _=_ from h);exact .bl b
 |.int i,_,h=>by cases(show _=_ from h);exact .int i
 |.str x,_,h=>by cases(show _=_ from h);exact .str x
 |.tup _,_,h=>by
  simp only[Is] at h;obtain⟨a,vs,rfl,h1,_⟩:=h;exact .tup h1
 |.lst _,_,h=>by
  simp only[Is] at h;obtain⟨a,vs,rfl,h1,_⟩:=h;exact .lst h1
noncomputable def aJ(T c:String):Bool:=T==c||(T=="bool" && c=="int")
section
variable{K:xA}
theorem QI:∀T∈["NoneType", "bool", "int", "str", "tuple", "list"],q0q K (.type T) (.type "bool")=some (aJ T "bool"):=by
 intro T hT;simp only[PD,q0s,q1Z] at hT;rcases hT with rfl|rfl|rfl|rfl|rfl|rfl<;>kernel_rfl
theorem QJ:∀T∈["NoneType", "bool", "int", "str", "tuple", "list"],q0q K (.type T) (.type "int")=some (aJ T "int"):=by
 intro T hT;simp only[PD,q0s,q1Z] at hT;rcases hT with rfl|rfl|rfl|rfl|rfl|rfl<;>kernel_rfl
theorem QK:∀T∈["NoneType", "bool", "int", "str", "tuple", "list"],q0q K (.type T) (.type "str")=some (aJ T "str"):=by
 intro T hT;simp only[PD,q0s,q1Z] at hT;rcases hT with rfl|rfl|rfl|rfl|rfl|rfl<;>kernel_rfl
theorem kit_tuple:∀T∈["NoneType", "bool", "int", "str", "tuple", "list"],q0q K (.type T) (.type "tuple")=some (aJ T "tuple"):=by
 intro T hT;simp only[PD,q0s,q1Z] at hT;rcases hT with rfl|rfl|rfl|rfl|rfl|rfl<;>kernel_rfl
theorem QL:∀T∈["NoneType", "bool", "int", "str", "tuple", "list"],q0q K (.type T) (.type "list")=some (aJ T "list"):=by
 intro T hT;simp only[PD,q0s,q1Z] at hT;rcases hT with rfl|rfl|rfl|rfl|rfl|rfl<;>kernel_rfl
theorem vm(d:D):bG d∈["NoneType", "bool", "int", "str", "tuple", "list"]:=by cases d<;>simp[bG]
end
section
variable{X:Cx}
noncomputable def strsOf:List Expr->Option (List Str)
 |[]=>some []
 |.Constant (.str x) _ _::r=>(strsOf r).map (x :: ·)
 |_=>none
theorem HI:∀{es:List Expr}{ss:List Str},strsOf es=some ss->JA X es (fun _ H Q=>Q (ss.map V.str) H)
 |[],ss,h=>by
  cases h
  exact⟨fun pos pins s σ H Q I h=>aI pos pins s σ H Q I h⟩
 |.Constant (.str x) j p::r,ss,h=>by
  obtain⟨s2,h2,rfl⟩:=q0g.mp (show(strsOf r).map (x :: ·)=some ss from h);have ih:=HI h2;exact⟨fun pos pins s σ H Q I h=>jK (xo (j:=j) (pos:=p)) ih pos pins s σ H Q I h⟩
 |.Constant (.int _) _ _::_,_,h=>by cases h
 |.Constant (.bool _) _ _::_,_,h=>by cases h
 |.Constant .none _ _::_,_,h=>by cases h
 |.Name _ _::_,_,h=>by cases h
theorem QM{es:List Expr}{ss:List Str}{pos:Pos}(h:strsOf es=some ss)(hz:ss.length<=sizeLine):JE X (.List es pos) (fun _ H Q=>∀p,H p=none->Q (.ref p) (upd H p (.lst (ss.map V.str)))):=by
 refine⟨?_⟩;intro pins s σ H Q I hq;exact mF (HI h) pins s σ H Q I ⟨by rw[qU];exact hz,hq⟩
theorem JE.weak{e:Expr}{t t':TE}(h:JE X e t)(k:∀σ H Q,t' σ H Q->t σ H Q):JE X e t':=⟨fun pins s σ H Q I q=>h pins s σ H Q I (k σ H Q q)⟩
theorem JT.weak{e:Expr}{t t':TT}(h:JT X e t)(k:∀σ H Q,t' σ H Q->t σ H Q):JT X e t':=⟨fun pins s σ H Q I q=>h pins s σ H Q I (k σ H Q q)⟩
theorem JA.weak{es:List Expr}{t t':TA}(h:JA X es t)(k:∀σ H Q,t' σ H Q->t σ H Q):JA X es t':=⟨fun pos pins s σ H Q I q=>h pos pins s σ H Q I (k σ H Q q)⟩
theorem JS.weak{st:Stmt}{t t':TS}(h:JS X st t)(k:∀D σ H,t' D σ H->t D σ H):JS X st t':=⟨fun pins s σ H D I q=>h pins s σ H D I (k D σ H q)⟩
theorem bz.weak{st:List Stmt}{t t':TS}(h:bz X st t)(k:∀D σ H,t' D σ H->t D σ H):bz X st t':=⟨fun pins s σ H D I q=>h pins s σ H D I (k D σ H q)⟩
theorem HJ{i:Nat}{x:Str}{es:List Expr}{te:TE}{pos' p pos:Pos}(hN:X.N.Nodup)(hi:X.N[i]?=some x)(hx:Loc X.env.scope x)(he:JE X (.List es p) te)(hf:dG X x):JS X (.Assign [.Name x pos'] (.List es p) pos) (cU te (hU i)):=nP hN hi hx he rfl hf
theorem xF{i:Nat}{x:Str}{a b:Expr}{op:Operator}{te:TE}{pos' p pos:Pos}(hN:X.N.Nodup)(hi:X.N[i]?=some x)(hx:Loc X.env.scope x)(he:JE X (.BinOp a op b p) te)(hf:dG X x):JS X (.Assign [.Name x pos'] (.BinOp a op b p) pos) (cU te (hU i)):=nP hN hi hx he rfl hf
theorem QN{i:Nat}{x:Str}{f:Expr}{as:List Expr}{ks:List Keyword}{te:TE}{pos' p pos:Pos}(hN:X.N.Nodup)(hi:X.N[i]?=some x)(hx:Loc X.env.scope x)(he:JE X (.Call f as ks p) te)(hf:dG X x):JS X (.Assign [.Name x pos'] (.Call f as ks p) pos) (cU te (hU i)):=nP hN hi hx he rfl hf
theorem QO{c A B:Prop}[Decidable c](hc:¬ c)(h:A):if(!decide c)=true then A else B:=by
 rw[q0r hc];exact h
theorem pU{L:List Stmt}{k:Nat}{d:Stmt}{t u:TS}(hk:k<L.length)(h:JS X (L.getD k d) t)(r:bz X (L.drop (k+1)) u):bz X (L.drop k) (kP t u):=by
 have e:L.drop k=L.getD k d::L.drop (k+1):=by
  rw[q07 hk,He,qV hk];rfl
 rw[e];exact nN h r
theorem QP{L:List Stmt}{k:Nat}{d:Stmt}{t:TS}(hk:L.length=k+1)(h:JS X (L.getD k d) t):bz X (L.drop k) t:=by
 have gR:k<L.length:=by omega
 have e:L.drop k=[L.getD k d]:=by
  rw[q07 gR,He,qV gR,q3H (by omega)];rfl
 rw[e];exact mE h
theorem QQ{L:List Stmt}{t:TS}(h:bz X (L.drop 0) t):bz X L t:=h
theorem hZ{n:Nat}(h:n<=20):n<=sizeLine:=q1z (kZ (q02 h (by decide)))
end
section
variable{κ:Type}[DecidableEq κ]
noncomputable def bR(kvs:List (κ×V))(k:κ):Option V:=(kvs.find? fun kv=>decide (kv.1=k)).map (·.2)
noncomputable def putK(kvs:List (κ×V))(k:κ)(v:V):List (κ×V) :=
 if(kvs.any fun kv=>decide (kv.1=k))=true then kvs.map (fun kv=>if kv.1=k then(kv.1,v) else kv) else kvs++[(k,v)]
theorem vo{p:κ×V}{r:List (κ×V)}{k:κ}(e:p.1=k):bR (p::r) k=some p.2:=by simp[bR,q2W,e]
theorem vp{p:κ×V}{r:List (κ×V)}{k:κ}(e:¬ p.1=k):bR (p::r) k=bR r k:=by simp[bR,q2W,e]
theorem BB(k:κ):∀kvs:List (κ×V),(kvs.any fun kv=>decide (kv.1=k))=(bR kvs k).isSome
 |[]=>rfl
 |p::r=>by
  rw[q2p]
  by_cases e:p.1=k
  ·simp only[vo e,q0x e,q4c,q6q]
  ·rw[vp e,q0r e,Bool.false_or];exact BB k r
theorem BC(kvs:List (κ×V))(k:κ)(v:V):(putK kvs k v).length<=kvs.length+1:=by
 unfold putK;split
 ·rw[qU];omega
 ·rw[Hd,Hc,q09];omega
theorem QR{kvs:List (κ×V)}{k:κ}(v:V)(h:bR kvs k=none):putK kvs k v=kvs++[(k,v)]:=by
 unfold putK;rw[BB,h];exact q0a (by decide)
theorem fq.eg{o:Option V}{u:Option Value}(r:fq o u):o.isSome=u.isSome:=by
 cases o with
 |none=>cases u with
  |none=>rfl
  |some _=>exact(show False from r).elim
 |some _=>cases u with
  |none=>exact(show False from r).elim
  |some _=>rfl
theorem KV.val{kvs:List (κ×V)}{vs:List (κ×Value)}(r:KV kvs vs)(k:κ):fq (bR kvs k) (valueAt vs k):=by
 unfold KV at r
 induction r with
 |nil=>exact q2R
 | @cons p q ps qs h t ih =>
  obtain⟨h1,h2⟩:=h
  by_cases e:p.1=k
  ·have e':q.1=k:=h1.symm.trans e
   have b:valueAt (q::qs) k=some q.2:=by simp[valueAt,q2W,e']
   rw[vo e,b];exact h2
  ·have e':¬ q.1=k:=fun z=>e (h1.trans z)
   have b:valueAt (q::qs) k=valueAt qs k:=by simp[valueAt,q2W,e']
   rw[vp e,b];exact ih
theorem KV.any{kvs:List (κ×V)}{vs:List (κ×Value)}(r:KV kvs vs)(k:κ):(kvs.any fun kv=>decide (kv.1=k))=vs.any fun kv=>decide (kv.1=k):=by
 unfold KV at r
 induction r with
 |nil=>rfl
 |cons h t ih=>rw[q2p,q2p,ih,h.1]
theorem KV.iU{kvs:List (κ×V)}{vs:List (κ×Value)}(r:KV kvs vs)(k:κ){y:V}{u:Value}(ry:RelV y u):
  KV (kvs.map fun kv=>if kv.1=k then(kv.1,y) else kv) (vs.map fun kv=>if kv.1=k then(kv.1,u) else kv):=by
 unfold KV at r ⊢
 induction r with
 |nil=>exact .nil
 | @cons p q ps qs h t ih =>
  rw[q0p,q0p];refine .cons ?_ ih;obtain⟨h1,h2⟩:=h
  by_cases e:p.1=k
  ·rw[q0f e,q0f (h1.symm.trans e)];exact⟨h1,ry⟩
  ·rw[q0a e,q0a (fun z=>e (h1.trans z))];exact⟨h1,h2⟩
theorem KV.put{kvs:List (κ×V)}{vs:List (κ×Value)}(r:KV kvs vs)(k:κ){y:V}{u:Value}(ry:RelV y u):KV (putK kvs k y) (stored vs k u):=by
 unfold putK stored;rw[r.any k]
 by_cases e:(vs.any fun kv=>decide (kv.1=k))=true
 ·rw[q0f e,q0f e];exact r.iU k ry
 ·rw[q0a e,q0a e];exact Paired.snoc r ⟨rfl,ry⟩
theorem KV.length{kvs:List (κ×V)}{vs:List (κ×Value)}(r:KV kvs vs):kvs.length=vs.length:=q6b r
end
theorem xG{P:Program}{w:World}{k:Key}{u:Value}(r:RelV (kV k) u):(g_ P w).is k u=true:=by
 cases k with
 |inl i=>obtain⟨t,e⟩:=(show ∃t,u=q1i i t from r);subst e;exact NX P w i t
 |inr x=>obtain⟨t,e⟩:=(show ∃t,u=q5L x t from r);subst e;exact NY P w x t
theorem HK{P:Program}{w:World}:∀{ks:List Key}{us:List Value},Vals (ks.map kV) us->ItemsAre (g_ P w) ks us
 |[],_,r=>by rw[q1_] at r;cases r;exact .nil
 |k::ks,_,r=>by
  rw[q0p] at r
  cases r with
  |cons h t=>exact .cons (xG h) (HK t)
abbrev KT(H:Hp):List (List Key×V)->List (List Key×Addr×Value)->Prop:=Paired fun p q=>p.1=q.1/\H q.2.1=some (.tup (p.1.map kV))/\RelV p.2 q.2.2
theorem KT.val{H:Hp}{kvs:List (List Key×V)}{xs:List (List Key×Addr×Value)}(r:KT H kvs xs)(k:List Key):fq (bR kvs k) ((atKey xs k).map (·.2)):=by
 induction r with
 |nil=>exact q2R
 | @cons p q ps qs h t ih =>
  obtain⟨h1,_,h2⟩:=h
  by_cases e:p.1=k
  ·have e':q.1=k:=h1.symm.trans e
   have b:atKey (q::qs) k=some q.2:=by simp[atKey,q2W,e']
   rw[vo e,b];exact h2
  ·have e':¬ q.1=k:=fun z=>e (h1.trans z)
   have b:atKey (q::qs) k=atKey qs k:=by simp[atKey,q2W,e']
   rw[vp e,b];exact ih
theorem KT.iU{H:Hp}{kvs:List (List Key×V)}{xs:List (List Key×Addr×Value)}(r:KT H kvs xs)(k:List Key){y:V}{u:Value}(ry:RelV y u):
  KT H (kvs.map fun kv=>if kv.1=k then(kv.1,y) else kv) (xs.map (putAt k u)):=by
 induction r with
 |nil=>exact .nil
 | @cons p q ps qs h t ih =>
  rw[q0p,q0p];refine .cons ?_ ih;obtain⟨h1,h2,h3⟩:=h;unfold putAt
  by_cases e:p.1=k
  ·rw[q0f e,q0f (h1.symm.trans e)];exact⟨h1,h2,ry⟩
  ·rw[q0a e,q0a (fun z=>e (h1.trans z))];exact⟨h1,h2,h3⟩
theorem KT.put{H:Hp}{kvs:List (List Key×V)}{xs:List (List Key×Addr×Value)}(r:KT H kvs xs)(k:List Key){b:Addr}{y:V}{u:Value}(hb:H b=some (.tup (k.map kV)))(ry:RelV y u):
  KT H (putK kvs k y) (storedH xs k b u):=by
 have e:(kvs.any fun kv=>decide (kv.1=k))=(atKey xs k).isSome:=by
  rw[BB,(r.val k).eg,q6X]
 unfold putK storedH;rw[e]
 by_cases q:(atKey xs k).isSome=true
 ·rw[q0f q,q0f q];exact r.iU k ry
 ·rw[q0a q,q0a q];exact Paired.snoc r ⟨rfl,hb,ry⟩
theorem KT.keeps{H H':Hp}{kvs:List (List Key×V)}{xs:List (List Key×Addr×Value)}(r:KT H kvs xs)(ht:∀b ys,H b=some (.tup ys)->H' b=some (.tup ys)):KT H' kvs xs :=
 Paired.qr r fun _ _ z=>⟨z.1,ht _ _ z.2.1,z.2.2⟩
section
variable{P:Program}{w:World}{H:Hp}{h:Heap}{a:Addr}
theorem HL{u:HO}(ok:cn P w H h)(e:Rd H a u):az P w H h a u:=e.ok ok
theorem HM{kvs:List (Key×V)}(ok:cn P w H h)(e:Rd H a (.dK kvs)):kvs.length<=sizeLine/\(a==sysModules)=false/\∃vs,KV kvs vs/\h.DictOf (g_ P w) a vs :=
 show az P w H h a (.dK kvs) from HL ok e
theorem xH{kvs:List (Key×V)}(ok:cn P w H h)(e:H a=some (.dK kvs)):kvs.length<=sizeLine/\(a==sysModules)=false/\∃vs,KV kvs vs/\h.DictOf (g_ P w) a vs:=HM ok (.inl e)
theorem BE{ks:List Key}(ok:cn P w H h)(e:H a=some (.tup (ks.map kV))):(tupleKind (g_ P w)).is h ks a:=by
 obtain⟨_,ah,r,o,h1,h2,n,h3⟩:=(show az P w H h a (.tup (ks.map kV)) from ok a _ e);exact⟨o,ah.toArray,n,h1,h2,h3,by simpa using HK r⟩
theorem HN{kvs:List (List Key×V)}(ok:cn P w H h)(e:Rd H a (.dT kvs)):kvs.length<=sizeLine/\(a==sysModules)=false ∧
  ∃xs,KT H kvs xs/\h.DictOfH (tupleKind (g_ P w)) a xs:=by
 obtain⟨z,y,xs,r,o,es,ep,h1,h2,h3,h4,h5⟩:=(show az P w H h a (.dT kvs) from HL ok e);refine⟨z,y,xs,r,o,es,ep,h1,h2,h3,h4,fun x hx=>?_,h5⟩
 have all:∀{l:List (List Key×V)}{m:List (List Key×Addr×Value)},KT H l m->∀x∈m,(tupleKind (g_ P w)).is h x.1 x.2.1:=by
  intro l m q
  induction q with
  |nil=>intro x hx;exact nomatch hx
  | @cons p q ps qs hq t ih =>
   intro x hx;rcases PD.mp hx with e|hx
   ·subst e
    exact BE ok (by rw[<-hq.1];exact hq.2.1)
   ·exact ih x hx
 exact all r x hx
theorem QS{kvs:List (List Key×V)}(ok:cn P w H h)(e:H a=some (.dT kvs)):kvs.length<=sizeLine/\(a==sysModules)=false ∧
  ∃xs,KT H kvs xs/\h.DictOfH (tupleKind (g_ P w)) a xs:=HN ok (.inl e)
end
def jL(H:Hp)(a:Addr)(y:V)(r:Option V):Prop :=
 (∃kvs k,Rd H a (.dK kvs)/\y=kV k/\r=bR kvs k)\/∃kvs k b,Rd H a (.dT kvs)/\y=.ref b/\H b=some (.tup (k.map kV))/\r=bR kvs k
def lg(H:Hp)(a:Addr)(y v:V)(H':Hp):Prop :=
 (∃kvs k,H a=some (.dK kvs)/\y=kV k/\kvs.length<sizeLine/\H'=upd H a (.dK (putK kvs k v))) ∨
 ∃kvs k b,H a=some (.dT kvs)/\y=.ref b/\H b=some (.tup (k.map kV))/\kvs.length<sizeLine/\H'=upd H a (.dT (putK kvs k v))
theorem jL.k{H:Hp}{a:Addr}{kvs:List (Key×V)}{k:Key}(e:H a=some (.dK kvs)):jL H a (kV k) (bR kvs k):=.inl ⟨kvs,k,.inl e,rfl,rfl⟩
theorem lg.k{H:Hp}{a:Addr}{kvs:List (Key×V)}{k:Key}{v:V}(e:H a=some (.dK kvs))(hl:kvs.length<sizeLine):lg H a (kV k) v (upd H a (.dK (putK kvs k v))):=.inl ⟨kvs,k,e,rfl,hl,rfl⟩
section
variable{X:Cx}{pins:aq}{σ:St}{H:Hp}{s:Shared}{a:Addr}{y v:V}{u r:Value}{o:Option V}{A:Around}{E:aH}
theorem Inv.big(I:Inv X pins σ H s):sysModules<s.heap.objs.size:=by
 have h:mainGlobals<s.heap.objs.size:=(I.mod.glob.keeps I.bk).lt;exact q46 (by decide) h
theorem BF{Q:aH}(hu:A.units+1<cLine)(I:Inv X pins σ H s)(g:jL H a y o)(ry:RelV y u)(h:∀s',Inv X pins σ H s'->Q (.bool o.isSome) s'):
  wpAny (model X.prog X.w) A (compareOp .In u (.ref a)) Q E s:=by
 rcases g with⟨kvs,k,e,ey,l⟩|⟨kvs,k,b,e,ey,eb,l⟩
 ·subst ey
  obtain⟨z,hd,vs,rel,dd⟩:=HM I.aD e;refine wpAny_in_of (xG ry) hd dd.mapOf ?_;rw[<-(rel.val k).eg,<-l];exact h _ (I.tok _)
 ·subst ey
  cases(show u=q0C b from ry)
  obtain⟨z,hd,xs,rel,dd⟩:=HN I.aD e;refine wpAny_in_heap (q6r hu) (BE I.aD eb) hd dd ?_;have q:=(rel.val k).eg;rw[q6X] at q;rw[<-q,<-l];exact h _ (I.tok _)
theorem BG{h':Heap}{t':Nat}{ob:HO}(I:Inv X pins σ H s)(mu:qt (H a))(hs:q2N a s.heap h')(he:∃q,h'.get? a=some q)(new:az X.prog X.w (upd H a ob) h' a ob):
  Inv X pins σ (upd H a ob) {s with heap:=h',toks:=t'} :=
 I.write (x:=a) (e:=a) mu (.inl rfl) (fun b q hb z=>(hs.2 b hb).trans z) he new
theorem HP{P:Program}{w:World}{H':Hp}{h':Heap}{kvs:List (Key×V)}{vs:List (Key×Value)}(z:kvs.length<=sizeLine)(hd:(a==sysModules)=false)(rel:KV kvs vs)(dd:h'.DictOf (g_ P w) a vs):
  az P w H' h' a (.dK kvs):=⟨z,hd,vs,rel,dd⟩
theorem QT{H':Hp}{Q:Unit->Shared->Prop}(hu:A.units+1<cLine)(I:Inv X pins σ H s)(g:lg H a y v H')(ry:RelV y u)(rv:RelV v r)(h:∀s',Inv X pins σ H' s'->Q () s'):
  wpAny (model X.prog X.w) A (setItem (.ref a) u r) Q E s:=by
 rcases g with⟨kvs,k,e,ey,l,eH⟩|⟨kvs,k,b,e,ey,eb,l,eH⟩
 ·subst ey eH
  obtain⟨z,hd,vs,rel,dd⟩:=xH I.aD e;have hz:vs.length<=sizeLine:=by rw[<-rel.length];exact z
  have hl:(putK kvs k v).length<=sizeLine:=by have:=BC kvs k v;omega
  refine wpAny_setItem_pairs (hsz:=hz) (xG ry) dd fun h' rj hs=>h _ ?_;have he:∃q,h'.get? a=some q:=let⟨q,_,_,hq,_⟩:=rj;⟨q,hq⟩;exact BG I (by rw[e];exact q2R) hs he (HP hl hd (rel.put k rv) rj)
 ·subst ey eH
  cases(show u=q0C b from ry)
  obtain⟨z,hd,xs,rel,dd⟩:=QS I.aD e;have hz:xs.length<=sizeLine:=by rw[<-q6b rel];exact z
  have hl:(putK kvs k v).length<=sizeLine:=by have:=BC kvs k v;omega
  refine wpAny_setItem_heap (hsz:=hz) (q6r hu) (BE I.aD eb) dd fun h' rj hs=>h _ ?_;obtain⟨q,es,ep,hq,h2,h3,h4,_,h5⟩:=rj;refine BG I (by rw[e];exact q2R) hs ⟨q,hq⟩ ⟨hl,hd,_,(rel.put k eb rv).keeps fun c ys ec=>?_,q,es,ep,hq,h2,h3,h4,h5⟩;rw[av (pG ec e (fun z=>nomatch z))];exact ec
end
section
variable{X:Cx}{pins:aq}{σ:St}{H:Hp}{s:Shared}{a:Addr}{kvs:List (Key×V)}{k:Key}{u:Value}{A:Around}{E:aH}
end
def vq(ty td:TE):TE:=fun σ H Q=>ty σ H fun y H1=>td σ H1 fun x H2=>∃a o,x=.ref a/\jL H2 a y o/\Q (.bl o.isSome) H2
def QU(td ty tv:TE):TS:=fun D σ H=>tv σ H fun v H1=>td σ H1 fun x H2=>ty σ H2 fun y H3=>∃a H4,x=.ref a/\lg H3 a y v H4/\D.nx σ H4
section
variable{X:Cx}{o i e value:Expr}{pos pos' AK:Pos}{td ty tv:TE}
theorem QV(hu:X.A.units+1<cLine)(hi:JE X i ty)(ho:JE X o td):JC X .In i o (vq ty td):=by
 refine⟨?_⟩;intro pins s σ H Q I h;refine aW (hi pins s σ H _ I h) fun iv s1 h0_=>el5 h0_ fun y H1 I1 ry q1 =>aW (ho pins s1 σ H1 _ I1 q1) fun u s2 ⟨x,H2,I2,rx,a,ov,ex,g,q2⟩=>?_;subst ex;obtain rfl:u=q0C a:=rx;exact BF hu I2 g ry fun s3 I3=>⟨.bl ov.isSome,H2,I3,rfl,q2⟩
theorem QW(hu:X.A.units+1<cLine)(ho:JE X o td)(hi:JE X i ty)(hv:JE X value tv)(hs:swapsWith value (some (.Subscript o i pos')) pos.line X.env=pure false):
  JS X (.Assign [.Subscript o i pos'] value pos) (QU td ty tv):=by
 refine⟨?_⟩;intro pins s σ H D I h;refine wpAny_Assign_Subscript (aW (hv pins s σ H _ I h) fun r s1 h0_=>el5 h0_ fun v H1 I1 rv q1 =>aW (ho pins s1 σ H1 _ I1 q1) fun u s2 h0_=>el5 h0_ fun x H2 I2 rx q2 =>aW (hi pins s2 σ H2 _ I2 q2) fun iv s3 ⟨y,H3,I3,ry,a,H4,ex,g,q3⟩=>?_) hs;subst ex;obtain rfl:u=q0C a:=rx;exact QT hu I3 g ry rv fun s4 I4=>⟨σ,H4,I4,q3⟩
end
theorem QX{P:Program}{w:World}{H:Hp}(h:Heap)(hb:sysModules<h.objs.size):az P w H (h.push {cls:=.type "dict",data:=.dict #[]}) h.objs.size (.dK []) :=
 ⟨q06 _,beq_eq_false_iff_ne.mpr (q1A (q0e hb)),[],.nil,Heap.DictOf.new h⟩
def HQ:TE:=fun _ H Q=>∀p,H p=none->Q (.ref p) (upd H p (.dK []))
section
variable{X:Cx}{pos:Pos}
theorem h9:JE X (.Dict [] [] pos) HQ:=⟨fun pins s σ H Q I h =>
 wpAny_Dict_empty ⟨.ref s.heap.objs.size,_,I.laid (a:=s.heap.objs.size) (o:=.dK []) (t':=s.toks) (fun _ _ q=>qT _ q) (Bi _) (QX s.heap I.big),rfl,h _ (I.aD.fresh (Bi _))⟩⟩
end
section
variable{X:Cx}{pins:aq}{σ:St}{H:Hp}{s:Shared}{a:Addr}{y d:V}{u r:Value}{o:Option V}{A:Around}{E:aH}
end
section
variable{X:Cx}{o e f:Expr}{apos fX:Pos}{td ty tx:TE}
end
section
variable{X:Cx}{pins:aq}{σ:St}{H:Hp}{s:Shared}{a:Addr}{kvs:List (Key×V)}{A:Around}{E:aH}
end
section
variable{X:Cx}{pins:aq}{σ:St}{H:Hp}{s:Shared}{a:Addr}{y:V}{u:Value}{A:Around}{E:aH}
end
end L2
namespace L2
section
variable{κ:Type}[DecidableEq κ]
end
end L2
namespace L2
open PySem PySem.Spec PyProof.Rows
end L2
namespace LJS
open PySem
noncomputable def hp(i j:Int):Int:=reduceHash (Builtin.Tuple.tupleHashOf [hashInt i,hashInt j])
theorem HR{prog:Program}{w:World}(i j:Int):hT prog w [i,j]=hp i j:=rfl
noncomputable def xI:List (Int×Int):=(q0A 12).flatMap fun j=>(q0A j).map fun i:Nat=>(q6_ i,q6_ j)
theorem QY:∀a∈xI,∀b∈xI,hp a.1 a.2=hp b.1 b.2->a=b:=by decide +kernel
theorem HS{i j:Int}(h0:0<=i)(h1:i<j)(h2:j<12):(i,j)∈xI:=by
 obtain⟨a,rfl⟩:∃a:Nat,i=a:=⟨i.toNat,by omega⟩;obtain⟨b,rfl⟩:∃b:Nat,j=b:=⟨j.toNat,by omega⟩;unfold xI;exact List.mem_flatMap.mpr ⟨b,q0B.mpr (by omega),q0d.mpr ⟨a,q0B.mpr (by omega),rfl⟩⟩
end LJS
namespace L2
open PySem PySem.Spec PyProof.Rows
noncomputable def lh(S:Addr)(n:Nat):HO:=.ext fun h=>∃hs:List Int,hs.length=n/\LJS.fh h S hs
theorem QZ{P:Program}{w:World}{H:Hp}{h:Heap}{S:Addr}{hs:List Int}{n:Nat}(e:LJS.fh h S hs)(hn:hs.length=n):az P w H h S (lh S n) :=
 ⟨⟨hs,hn,e⟩,let⟨o,_,_,_,ho,_⟩:=e;⟨o,ho⟩,fun h1 h2 ⟨sW,en,e1⟩ k=>⟨sW,en,LJS.zN e1 fun o eo=>k o eo⟩⟩
section
variable{X:Cx}
theorem HU:∀{ps:List Addr}{ah:List Value},Vals (ps.map V.ref) ah->ah=ps.map q0C
 |[],_,.nil=>rfl
 |_::_,_,.cons r rs=>by cases r;rw[HU rs];rfl
theorem Q0(hc:X.calm=true)(hu:X.A.units+64<cLine):gb X (.type "set") (fun xs H Q=>∃(l:Addr)(ps:List Addr)(ks:List (Int×Int)),xs=[.ref l]/\aZ X.K H l (ps.map V.ref)/\ps.length=ks.length ∧
  (∀(i:Nat)(a:Addr)(k:Int×Int),ps[i]?=some a->ks[i]?=some k->H a=some (.tup [.int k.1,.int k.2]))/\(∀k∈ks,0<=k.1/\k.1<k.2/\k.2<12)/\ks.Nodup/\ks.length<=30/\∀p,H p=none->Q (.ref p) (upd H p (lh p ks.length))):=by
 intro pins s σ H xs us Q I r h;obtain⟨l,ps,ks,rfl,hq,hl,cC,bd,kF,gN,q⟩:=h;obtain⟨u,rfl,rx⟩:=vals1 r;cases rx
 obtain⟨ah,r',pl,_⟩:=I.list hq;obtain rfl:=HU r';have sz:(ps.map q0C).toArray.size=ks.length:=by rw[Hb,qU,hl]
 have rm:∀i,i<ks.length->∃k,ks[i]?=some k/\ks.getD i (0,0)=k:=fun i hi=>⟨ks[i],qV hi,by rw[He,qV hi];rfl⟩;have BH:∀i,i<ks.length->∃a,ps[i]?=some a/\ps.getD i 0=a:=fun i hi=>⟨ps[i]'(by rw[hl];exact hi),qV (by rw[hl];exact hi),by rw[He,qV (by rw[hl];exact hi)];rfl⟩;refine LJS.Nx (fun i=>ps.getD i 0) (fun i=>[(ks.getD i (0,0)).1,(ks.getD i (0,0)).2]) (I.ok.hd hc) (by omega) pl.isList (fun i v hv=>?_) (fun i hi=>?_) (fun i j hi hj=>?_) (by rw[sz];exact gN) fun h' tk se kp=>?_
 ·rw[q2Z,q0b] at hv
  obtain⟨a,ea,rfl⟩:=q0g.mp hv;rw[He,ea];rfl
 ·rw[sz] at hi
  obtain⟨k,ek,dk⟩:=rm i hi;obtain⟨a,ea,da⟩:=BH i hi;show IsTupleKey _ _ [(ks.getD i (0,0)).1,(ks.getD i (0,0)).2] (ps.getD i 0);rw[dk,da];obtain⟨_,aY,r2,o,ho,pV,n,hd⟩:=I.aD a _ (cC i a k ea ek)
  cases r2 with
  |cons ra rr =>
   cases rr with
   |cons rb rn =>
    cases rn
    obtain⟨t1,rfl⟩:=ra;obtain⟨t2,rfl⟩:=rb;exact⟨o,_,n,ho,pV,hd,.cons (q3R ..) (.cons (q3R ..) .nil)⟩
 ·rw[sz] at hi
  obtain⟨k,ek,dk⟩:=rm i hi;obtain⟨k',BI,Q1⟩:=rm j (by omega);show LJS.hT _ _ [(ks.getD j (0,0)).1,(ks.getD j (0,0)).2]≠LJS.hT _ _ [(ks.getD i (0,0)).1,(ks.getD i (0,0)).2];rw[dk,Q1,LJS.HR,LJS.HR];intro z;have b1:=bd k (q0i.mpr ⟨i,ek⟩);have b2:=bd k' (q0i.mpr ⟨j,BI⟩);have e:=LJS.QY (k'.1,k'.2) (LJS.HS b2.1 b2.2.1 b2.2.2) (k.1,k.2) (LJS.HS b1.1 b1.2.1 b1.2.2) z;have e':k'=k:=e;rw[e'] at BI;obtain⟨vt,Q2⟩:=sR.mp BI;obtain⟨cz,zH⟩:=sR.mp ek;have:=(q2J (h₀:=vt) (h₁:=cz) kF).mp (by rw[Q2,zH]);omega
 ·refine⟨.ref s.heap.objs.size,upd H s.heap.objs.size (lh s.heap.objs.size ks.length),I.laid (t':=tk) (fun b o e=>kp b o (My e) e) (Bi _) (QZ se (by rw[qU,q0_,sz])),rfl,q _ (I.aD.fresh (Bi _))⟩
theorem Q3:gb X (.builtin "len") (fun xs H Q=>∃(p:Addr)(n:Nat),xs=[.ref p]/\H p=some (lh p n)/\n<1000/\Q (.int n) H):=by
 intro pins s σ H xs us Q I r h;obtain⟨p,n,rfl,hp,hn,q⟩:=h;obtain⟨u,rfl,rx⟩:=vals1 r;cases rx
 obtain⟨⟨hs,hl,o,es,ep,t,ho,hex,hd,T⟩,_⟩:=I.aD p _ hp;have e:es.size=n:=by rw[T.num,hl]
 refine call_len_set ho hex hd T.fits (by omega) ⟨.int n,H,I.tok _,⟨_,by rw[e]⟩,q⟩
theorem HV:∀{bs:List Bool}{ah:List Value},Vals (bs.map V.bl) ah->ah=bs.map q2Q
 |[],_,.nil=>rfl
 |_::_,_,.cons r rs=>by cases r;rw[HV rs];rfl
theorem all_range(bs:List Bool):(q0A bs.length).all (fun i=>bs.getD i true)=bs.all id:=by
 rw[q3q,q03,q03]
 constructor
 ·intro h b hb
  obtain⟨i,hi⟩:=q0i.mp hb;have hl:=(sR.mp hi).1;have:=h i (q0B.mpr hl);rw[He,hi] at this;exact this
 ·intro h i hi
  have hl:=q0B.mp hi;rw[He,qV hl];exact h _ (q1K hl)
theorem Q4(hc:X.calm=true):gb X (.builtin "all") (fun xs H Q=>∃(l:Addr)(bs:List Bool),xs=[.ref l]/\aZ X.K H l (bs.map V.bl)/\Q (.bl (bs.all id)) H):=by
 intro pins s σ H xs us Q I r h;obtain⟨l,bs,rfl,hq,q⟩:=h;obtain⟨u,rfl,rx⟩:=vals1 r;cases rx
 obtain⟨ah,r',pl,_⟩:=I.list hq;obtain rfl:=HV r';have hL:=pl.isList;have ll:l<s.heap.objs.size:=by obtain⟨o,e,_⟩:=hL;exact My e
 have nI:l≠s.heap.objs.size:=q0e ll;refine call_all_walk (q2k hL ?_);refine⟨s.heap.objs.size,_,_,_,_,_,fun i=>bs.getD i true,rfl,q4j (by rw[q2T];exact I.ok.hd hc) s.heap.objs.size l nI _,⟨⟨_,PG _ rfl,rfl,rfl⟩,hL.push _⟩,fun i v s' Q' E' hv xJ=>?_,fun h' tk kp=>?_⟩
 ·have hv:(bs.map q2Q).toArray[i]?=some v:=hv
  have xJ:Q' (bs.getD i true) s':=xJ;rw[q2Z,q0b] at hv;obtain⟨b,eb,rfl⟩:=q0g.mp hv;rw[He,eb] at xJ;exact q19 xJ
 ·refine⟨.bl (bs.all id),H,I.kept (t':=tk) fun b o e=>kp b o (fun z=>?_) (qT _ e),?_,q⟩
  ·have:=My e
   rw[q0K.mp z] at this;exact q13 _ this
  ·show q2Q _=q2Q _
   rw[Hb,qU,all_range]
end
end L2
namespace LJ
open PySem L2
structure Fn(P:Program)(w:World)(K:xA)(mg:Str->Option Value)(base:Heap)(k:Nat)(x:Str)(ps:List Str)(sp:Sp)(f:Addr)(fd:FuncData):Prop where
 ok:bP P w K mg base fu k f fd ps sp
 vv:mg x=some (.ref f)
 kp:q1u K (.ref f)=true
 bd:Binds K fd ps []
theorem vw:bootBuiltins "bool" = some (.type "bool"):=by decide +kernel
theorem BJ:bootBuiltins "int" = some (.type "int"):=by decide +kernel
theorem HW:bootBuiltins "str" = some (.type "str"):=by decide +kernel
theorem vx:bootBuiltins "tuple" = some (.type "tuple"):=by decide +kernel
theorem rp:bootBuiltins "list" = some (.type "list"):=by decide +kernel
theorem HX:bootBuiltins "set" = some (.type "set"):=by decide +kernel
theorem Q5:bootBuiltins "all" = some (.builtin "all"):=by decide +kernel
section
variable{K:xA}
end
structure aG(many:Int)(ys:List (Int×Int×Int)):Prop where
 m1:1<=many
 h_:many<=12
 gN:ys.length<=30
 ends:∀y∈ys,0<=y.1/\y.1<y.2.1/\y.2.1<many/\0<=y.2.2/\y.2.2<=1000000000
 unlike:(ys.map fun y=>(y.1,y.2.1)).Nodup
end LJ
namespace L2
open PySem PySem.Spec PyProof.Rows
section
variable{X:Cx}
end
end L2
namespace LJ
open PySem L2
noncomputable def jk:Nat->List (Int×Int)
 |0=>[]
 |n+1=>jk n++(q0A n).map fun a:Nat=>(q6_ a,q6_ n)
theorem BK:∀{n:Nat}{k:Int×Int},k∈jk n->0<=k.1/\k.1<k.2/\k.2<n
 |0,_,h=>nomatch h
 |n+1,k,h=>by
  rcases q04.mp h with h|h
  ·have:=BK h;omega
  ·obtain⟨a,ha,rfl⟩:=q0d.mp h
   have:=q0B.mp ha;refine⟨Int.natCast_nonneg a,?_,?_⟩
   ·show(a:Int)<(n:Int);omega
   ·show(n:Int)<((n+1:Nat):Int);omega
theorem HY:∀n:Nat,(jk n).Nodup
 |0=>q2H
 |n+1=>by
  refine q1b.mpr ⟨HY n,?_,fun k h1 k' h2 e=>?_⟩
  ·refine q1l.mpr (q3O.imp fun{a b} ne e=>ne ?_)
   exact q4M (congrArg x0k e)
  ·subst e
   obtain⟨a,ha,rfl⟩:=q0d.mp h2;have:=(BK h1).2.2;have:(n:Int)<(n:Int):=this;omega
theorem HZ:∀n:Nat,n<=12->(jk n).length<=66:=by
 intro n h;rcases n with _|_|_|_|_|_|_|_|_|_|_|_|_|n
 all_goals first|decide|omega
end LJ
namespace LJ
open PySem
theorem H_{j n:Nat}(h:j<n):seqIndex? (j:Int) n=some j:=by
 unfold seqIndex?
 first|(simp;omega)|skip
end LJ
namespace L2
open PySem PySem.Spec PyProof.Rows
section
variable{X:Cx}
theorem Ia:gb X (.type "range") (fun xs H Q=>∃j:Int,xs=[.int j]/\∀r,H r=none->Q (.ref r) (upd H r (.rng 0 j))):=by
 intro pins s σ H xs us Q I r h;obtain⟨j,rfl,q⟩:=h;obtain⟨u,rfl,t,rfl⟩:=vals1 r;refine call_range_1 ⟨.ref s.heap.objs.size,_,I.laid (t':=s.toks+1+1) (o:=.rng 0 j) (fun b o e=>qT _ e) (Bi _) ?_,rfl,q _ (I.aD.fresh (Bi _))⟩;exact⟨_,_,_,PG _ rfl⟩
noncomputable def bg(n:Nat):List Int:=(q0A n).map fun a:Nat=>(a:Int)
theorem Ib:∀{ns:List Int}{us:List Value},us.length=ns.length->(∀(i:Nat)(u:Value),us[i]?=some u->∃t,u=.int (ns.getD i 0) t)->Vals (ns.map V.int) us
 |[],[],_,_=>.nil
 |[],_::_,h,_=>by simp at h
 |_::_,[],h,_=>by simp at h
 |n::ns,u::us,h,g=>by
  obtain⟨t,e⟩:=g 0 u rfl;refine .cons ⟨t,e⟩ (Ib (by simpa using h) fun i v e2=>?_);obtain⟨t,e⟩:=g (i+1) v (by simpa using e2);exact⟨t,by simpa using e⟩
theorem Ic(hc:X.calm=true):gb X (.type "list") (fun xs H Q=>∃(r:Addr)(n:Nat),xs=[.ref r]/\H r=some (.rng 0 (n:Int))/\n<=1000/\∀l,H l=none->Q (.ref l) (upd H l (.lst ((bg n).map V.int)))):=by
 intro pins s σ H xs us Q I r h;obtain⟨a,n,rfl,ha,hn,q⟩:=h;obtain⟨u,rfl,rx⟩:=vals1 r;cases rx
 obtain⟨t,u,v,e⟩:=(show ∃t u v,s.heap.get? a=some {cls:=.type "range",data:=.fields #[.int 0 t,.int (n:Int) u,.int 1 v]} from I.aD a _ ha);have hs:q4X 0 (n:Int) 1=n:=by rw[q8q];split<;>omega
 refine call_list_range (n:=n) (I.ok.hd hc) e (small_one (by omega) (by omega) (by omega) (by omega)) hs (by omega) fun h' tk acc c' kp e' it=>?_;refine⟨.ref s.heap.objs.size,_,I.laid (t':=tk) (o:=.lst ((bg n).map V.int)) kp (Bi _) ?_,rfl,q _ (I.aD.fresh (Bi _))⟩;refine⟨q1z (kZ (by rw[qU,bg,qU,q0_];exact hn)),acc.toList,c',?_,by simpa using e'⟩;refine Ib ?_ fun i u e=>?_
 ·rw[PF,it.1,bg,qU,q0_]
 ·rw[q0F] at e
  obtain⟨t',e2⟩:=it.2 i u e;have hi:i<n:=by rw[<-it.1];exact(q15.mp e).1
  refine⟨t',e2.trans ?_⟩;rw[bg,He,q0b,q2b hi];show q1i (0+(i:Int)*1) t'=q1i (i:Int) t';rw[q9a,x0d]
theorem BL:∀{us:List Value}{ns:List Int},IntsAre us ns->Vals (ns.map V.int) us
 |_,_,.nil=>.nil
 |_,_,.cons n t r=>.cons ⟨t,rfl⟩ (BL r)
theorem Q6:gb X (.builtin "sorted") (fun xs H Q=>∃(l:Addr)(ns:List Int),xs=[.ref l]/\aZ X.K H l (ns.map V.int)/\ns.length<64/\∀(r:Addr)(cE:List Int),cE.Perm ns->cE.Pairwise (· <= ·)->H r=none->Q (.ref r) (upd H r (.lst (cE.map V.int)))):=by
 intro pins s σ H xs us Q I r h;obtain⟨l,ns,rfl,hq,pW,q⟩:=h;obtain⟨u,rfl,rx⟩:=vals1 r;cases rx
 obtain⟨ah,r',pl,_⟩:=I.list hq;have hl:=r'.length;rw[qU] at hl;refine sorted_ints pl.isList (by simpa using intsAre_of r') (by omega) fun out cE hI pm pw=>?_;have hf:H (s.heap.objs.size+1)=none:=I.aD.fresh (q3Y _);obtain⟨e,he⟩:=sortedAll_at s.heap ah out;refine⟨.ref (s.heap.objs.size+1),_,I.laid (t':=s.toks) (o:=.lst (cE.map V.int)) (fun b o e=>sortedAll_old e) (q3Y _) ?_,rfl,q _ cE pm pw hf⟩;refine⟨q1z (kZ (by rw[qU,pm.length_eq];omega)),out.toList,e,BL hI,?_⟩;simpa[seqObj] using he
theorem Ie{prog:Program}{w:World}{A:Around}{E:aH}{I l:Addr}{items:Array Value}(W:Walks prog w A I [I,l] [I] items.size (fun i v=>items[i]?=some v) (fun i h=>h.IsListIter I l i/\h.IsList l items)):
  ∀(k i:Nat)(s:Shared)(Q:List Value->Shared->Prop),i+k<=items.size->(s.heap.IsListIter I l i/\s.heap.IsList l items) →
   (∀h' tk,(h'.IsListIter I l (i+k)/\h'.IsList l items)->(∀b o,b∉[I]->s.heap.get? b=some o->h'.get? b=some o)->Q ((items.toList.drop i).take k) {s with heap:=h',toks:=tk})->wpAny (model prog w) A (draw (.ref I) k) Q E s
 |0,i,s,Q,_,st,g=>by
  show wpAny _ _ (pure []) Q E s;refine uX ?_;have:=g s.heap s.toks st fun _ _ _ e=>e;rw[q4s] at this;exact this
 |k+1,i,s,Q,hk,st,g=>by
  have hi:i<items.size:=by omega
  show wpAny _ _ (pyNext (.ref I) >>= _) Q E s;refine n_ (W.item i s _ _ hi st fun v h1 my hv iK sX=>?_);refine n_ (q0D (Ie W k (i+1) _ _ (by omega) iK fun h2 BM iL qp=>uX ?_))
  have e:items.toList.drop i=v::items.toList.drop (i+1):=by
   rw[q07 (by rw[PF];exact hi)];congr 1;have Ig:items[i]?=some v:=hv;rw[q0t hi] at Ig;simpa using Ig
  have:=g h2 BM (by rw[show i+(k+1)=i+1+k by omega];exact iL) fun b o hb e=>qp b o hb (sX b o hb e);rw[e,q51] at this;exact this
theorem Q7{prog:Program}{w:World}{A:Around}{E:aH}{s:Shared}{l:Addr}{items:Array Value}{Q:List Value->Shared->Prop}(hh:A.handled=none)(hl:s.heap.IsList l items)
  (g:∀h' tk,(∀b o,b≠s.heap.objs.size->s.heap.get? b=some o->h'.get? b=some o)->Q items.toList {s with heap:=h',toks:=tk}):wpAny (model prog w) A (unpackItems (.ref l) items.size none) Q E s:=by
 have ll:l<s.heap.objs.size:=by obtain⟨o,e,_⟩:=hl;exact My e
 have W:=q4j (prog:=prog) (w:=w) hh s.heap.objs.size l (q0e ll) items;unfold unpackItems;refine n_ ?_;unfold notIterableAtAll;refine n_ (q5g hl.typeIs slot_list_iter.lookup (uX ?_));simp only[q0G,q1X];refine n_ (q0D (q2k hl ?_));refine n_ (q0D (Ie W items.size 0 _ _ (by omega) ⟨⟨_,PG _ rfl,rfl,rfl⟩,hl.push _⟩ fun h1 my iK sX=>?_));rw[q4h,q1o (by rw[PF];exact Bi _),q0a (by rw[PF];exact q13 _)];rw[q00] at iK;refine n_ (q0D (W.done _ _ _ iK fun h2 BM qp=>?_));simp only[Option.isSome_none,q0G,q1X];refine uX (g h2 BM fun b o hb e=>qp b o (by simpa using hb) (sX b o (by simpa using hb) (qT _ e)))
def Q8(K:xA)(n:Nat)(t:j8):TG:=fun v σ H Q=>∃a xs,v=.ref a/\aZ K H a xs/\xs.length=n/\t xs σ H Q
theorem Q9{es:List Expr}{k:Nat}{t:j8}{n:Nat}{pos:Pos}(hc:X.calm=true)(h:jh X es t)
  (hn:(assignEach es X.env).length=n:=by rfl) (gP:(assignEach es X.env).findIdx? (·.1)=none:=by rfl):JG X (.Tuple es k pos) (Q8 X.K n t):=by
 refine⟨?_⟩;intro pins s σ H v u Q I r hw;obtain⟨a,xs,e1,hq,hl,hw⟩:=hw;subst e1;cases r
 obtain⟨ah,rv,ht,hz⟩:=I.list hq;have hlen:=rv.length;rw[assign_Tuple];refine n_ (q2A ?_);unfold unpack;rw[gP,show(assignEach es X.env).length=ah.toArray.size by rw[hn,<-hl,hlen];simp];refine n_ (q0D (Q7 (I.ok.hd hc) ht.isList fun h' tk kp=>?_));have I1:Inv X pins σ H {s with heap:=h',toks:=tk}:=I.kept fun b o e=>kp b o (q0e (My e)) e;exact h pins _ σ H xs _ Q I1 (by simpa using rv) hw
theorem Q_:qP X "dict.setdefault" (fun x vs H Q=>∃(d:Addr)(kvs:List (Key×V))(k:Key)(dv:V),x=.ref d/\vs=[kV k,dv]/\H d=some (.dK kvs)/\kvs.length<sizeLine/\(∀v,bR kvs k=some v->Q v H)/\(bR kvs k=none->Q dv (upd H d (.dK (putK kvs k dv))))):=by
 intro pins s σ H x xs v us Q I rx rv h;obtain⟨d,kvs,k,dv,rfl,rfl,hd,hz,q1,q2⟩:=h;cases rx
 cases rv with
 |cons rk rr =>
  cases rr with
  |cons rd rn =>
   cases rn
   rename_i uk ud;obtain⟨z,lo,vs,rel,dd⟩:=xH I.aD hd;have rl:=rel.val k;refine call_meetsIn q35 dd.typeIs PySem.F.entry_dict_setdefault (PySem.F.args_dict_setdefault_3 _ _ _) (PySem.kt_meets_setdefault (g_ X.prog X.w) d (xG rk) lo ud) ⟨vs,dd,by rw[<-rel.length];exact z,fun v hv=>?_,fun hn h' rj hs=>?_⟩
   ·rw[hv] at rl
    cases e:bR kvs k with
    |none=>rw[e] at rl;exact rl.elim
    |some y =>
     rw[e] at rl;exact⟨y,H,I.tok _,rl,q1 y e⟩
   ·rw[hn] at rl
    cases e:bR kvs k with
    |some y=>rw[e] at rl;exact rl.elim
    |none =>
     have he:∃q,h'.get? d=some q:=let⟨q,_,_,hq,_⟩:=rj;⟨q,hq⟩;have hl:=BC kvs k dv;exact⟨dv,_,BG (t':=s.toks+1) I (by rw[hd];exact q2R) hs he (HP (by omega) lo (rel.put k rd) rj),rd,q2 e⟩
noncomputable def ib(v d:Addr):HO:=.ext fun h=>h.IsValuesView v d
theorem Ra:qP X "dict.values" (fun x vs H Q=>∃(d:Addr)(kvs:List (Key×V)),x=.ref d/\vs=[]/\H d=some (.dK kvs)/\∀r,H r=none->Q (.ref r) (upd H r (ib r d))):=by
 intro pins s σ H x xs v us Q I rx rv h;obtain⟨d,kvs,rfl,rfl,hd,q⟩:=h;cases rx
 cases rv
 obtain⟨z,lo,vs,rel,dd⟩:=xH I.aD hd;refine call_meetsIn q4N dd.typeIs PySem.F.entry_dict_values (PySem.F.args_dict_values_1 _) (meets_dict_values (g_ X.prog X.w) d lo) ⟨⟨vs,dd⟩,?_⟩;have e:(s.heap.push {cls:=.type "dict_values",data:=.fields #[.ref d]}).IsValuesView s.heap.objs.size d:=⟨_,PG _ rfl,rfl,rfl⟩;refine⟨.ref s.heap.objs.size,_,I.laid (t':=s.toks) (o:=ib s.heap.objs.size d) (fun b o e=>qT _ e) (Bi _) ⟨e,⟨_,PG _ rfl⟩,fun h1 h2 ⟨o,ho,r⟩ k=>⟨o,k o ho,r⟩⟩,rfl,q _ (I.aD.fresh (Bi _))⟩
theorem Ih:∀{kvs:List (Key×V)}{vs:List (Key×Value)},KV kvs vs->Vals (kvs.map (·.2)) (vs.map (·.2))
 |[],_,.nil=>.nil
 |_::_,_,.cons r rs=>.cons r.2 (Ih rs)
theorem Rb(hc:X.calm=true):gb X (.type "list") (fun xs H Q=>∃(r d:Addr)(kvs:List (Key×V)),xs=[.ref r]/\H r=some (ib r d)/\H d=some (.dK kvs)/\∀l,H l=none->Q (.ref l) (upd H l (.lst (kvs.map (·.2))))):=by
 intro pins s σ H xs us Q I r' h;obtain⟨r,d,kvs,rfl,hr,hd,q⟩:=h;obtain⟨u,rfl,rx⟩:=vals1 r';cases rx
 obtain⟨iv,_⟩:=I.aD r _ hr;obtain⟨z,lo,vs,rel,dd⟩:=xH I.aD hd;obtain⟨o,es,ep,ho,rest⟩:=dd;have da:s.heap.DictAt (g_ X.prog X.w) d vs ep:=⟨o,es,ho,rest⟩;have lv:=rel.length;refine PySem.W.kdl_call (PySem.W.kdl_values (r:=r) (d:=d) (kvs:=vs) (ep:=ep) (knd:=g_ X.prog X.w)) (I.ok.hd hc) ⟨iv,da⟩ (by omega) fun h' tk acc c' kp e' it=>?_;have ea:acc.toList=vs.map (·.2):=PySem.W.kdl_vals_eq acc.toList (by rw[PF];exact it.1) fun j v e=>it.2 j v (by rw[<-q0F];exact e);refine⟨.ref s.heap.objs.size,_,I.laid (t':=tk) (o:=.lst (kvs.map (·.2))) kp (Bi _) ?_,rfl,q _ (I.aD.fresh (Bi _))⟩;exact⟨by rw[qU];exact z,acc.toList,c',by rw[ea];exact Ih rel,by simpa using e'⟩
end
section
variable{X:Cx}{e:Expr}{te:TE}{pos p2 p3 p4:Pos}
end
inductive DV where
 |p (d:D)|o (k:Nat)
inductive OV where
 |lst (ds:List D)|dct (kvs:List (Key×D))
structure au where
 sl:List (Option DV)
 mu:List (Option OV)
def fB(F:Hp):List (Key×D)->List (Key×V)->Prop
 |[],ws=>ws=[]
 |kd::r,ws=>∃v t,ws=(kd.1,v)::t/\Is F kd.2 v/\fB F r t
def fJ(F:Hp):OV->HO->Prop
 |.lst ds,o=>∃vs,o=.lst vs/\ae F ds vs
 |.dct kvs,o=>∃ws,o=.dK ws/\fB F kvs ws
theorem fB.same{F F':Hp}(s:ar F F'):∀{fZ:List (Key×D)}{ws:List (Key×V)},fB F fZ ws->fB F' fZ ws
 |[],_,h=>h
 |_::_,_,⟨v,t,e,h1,h2⟩=>⟨v,t,e,h1.same s,fB.same s h2⟩
theorem fJ.same{F F':Hp}(s:ar F F'):∀{ov:OV}{o:HO},fJ F ov o->fJ F' ov o
 |.lst _,_,⟨vs,e,h⟩=>⟨vs,e,h.same s⟩
 |.dct _,_,⟨ws,e,h⟩=>⟨ws,e,h.same s⟩
def fD(F:Hp)(ad:List Addr):DV->V->Prop
 |.p d,v=>Is F d v
 |.o k,v=>∃a,ad[k]?=some a/\v=.ref a
def Lv(ad:List Addr)(mu:List (Option OV))(a:Addr):Prop:=∃(k:Nat)(ov:OV),ad[k]?=some a/\mu[k]?=some (some ov)
class aB where
 ad:List Addr
 ok:Hp->Prop
 same:∀{H H':Hp},ok H->ar H H'->ok H'
 put:∀{H:Hp}{a:Addr}{o o':HO},ok H->H a=some o->((∃vs,o=.lst vs)\/∃ws,o=.dK ws)->ok (upd H a o')
 tb:∀{H:Hp}{a:Addr},ok H->a∈ad->∃ps,H a=some (.tbl ps)
theorem fJ.kind{F:Hp}:∀{ov:OV}{o:HO},fJ F ov o->(∃vs,o=.lst vs)\/∃ws,o=.dK ws
 |.lst _,_,⟨vs,e,_⟩=>.inl ⟨vs,e⟩
 |.dct _,_,⟨ws,e,_⟩=>.inr ⟨ws,e⟩
variable[aB]
structure SR(F:Hp)(ad:List Addr)(δ:au)(σ:St)(H:Hp):Prop where
 sub:ar F H
 off:∀a,Lv ad δ.mu a->F a=none
 cb:ad.length=δ.mu.length
 inj:∀(k l:Nat)(a:Addr)(ov ow:OV),ad[k]?=some a->ad[l]?=some a->δ.mu[k]?=some (some ov)->δ.mu[l]?=some (some ow)->k=l
 mu:∀(k:Nat)(ov:OV),δ.mu[k]?=some (some ov)->∃a o,ad[k]?=some a/\H a=some o/\fJ F ov o
 sl:∀(i:Nat)(x:DV),δ.sl[i]?=some (some x)->∃v,σ[i]?=some (some v)/\fD F ad x v
 len:σ.length=δ.sl.length
 tab:aB.ok H
 nt:∀a∈aB.ad,F a=none
structure Ext(F:Hp)(ad:List Addr)(mu:List (Option OV))(H:Hp)(F':Hp)(aw:List Addr)(cN:List (Option OV))(H':Hp):Prop where
 same:ar F F'
 new:∀a o,F' a=some o->F a=some o\/H a=none\/Lv ad mu a
 keep:∀a o,H a=some o->¬ Lv ad mu a->a∉aB.ad->H' a=some o
 pre:∀(k:Nat)(a:Addr),ad[k]?=some a->aw[k]?=some a
 bV:∀a,Lv aw cN a->Lv ad mu a\/H a=none
 ig:∀a o,H a=some o->∃o',H' a=some o'
section
variable{F F' Ii H H' kj:Hp}{ad aw vy:List Addr}{mu cN vz:List (Option OV)}{δ:au}{σ:St}
theorem b7{H:Hp}{a:Addr}{o:HO}(h:H a=none):ar H (upd H a o):=fun b u e=>by rw[av (bH e h)];exact e
theorem Ext.refl:Ext F ad mu H F ad mu H:=⟨fun _ _ e=>e,fun _ _ e=>.inl e,fun _ _ e _ _=>e,fun _ _ e=>e,fun _ e=>.inl e,fun _ o e=>⟨o,e⟩⟩
theorem Ext.trans(x:Ext F ad mu H F' aw cN H')(y:Ext F' aw cN H' Ii vy vz kj):Ext F ad mu H Ii vy vz kj where
 same:=x.same.trans y.same
 new:=fun a o e=>by
  rcases y.new a o e with h|h|h
  ·exact x.new a o h
  ·refine .inr (.inl ?_)
   cases q:H a with
   |none=>rfl
   |some u=>obtain⟨u',h'⟩:=x.ig a u q;rw[h] at h';cases h'
  ·rcases x.bV a h with h|h
   ·exact .inr (.inr h)
   ·exact .inr (.inl h)
 keep:=fun a o e n t=>y.keep a o (x.keep a o e n t) (fun l=>by
  rcases x.bV a l with h|h
  ·exact n h
  ·rw[e] at h;cases h) t
 pre:=fun k a e=>y.pre k a (x.pre k a e)
 bV:=fun a l=>by
  rcases y.bV a l with h|h
  ·exact x.bV a h
  ·refine .inr ?_
   cases q:H a with
   |none=>rfl
   |some u=>obtain⟨u',h'⟩:=x.ig a u q;rw[h] at h';cases h'
 ig:=fun a o e=>let⟨o1,e1⟩:=x.ig a o e;y.ig a o1 e1
theorem fD.ext{x:DV}{v:V}(h:fD F ad x v)(e:Ext F ad mu H F' aw cN H'):fD F' aw x v:=by
 cases x with
 |p d=>exact Is.same e.same h
 |o k=>obtain⟨a,h1,h2⟩:=h;exact⟨a,e.pre k a h1,h2⟩
noncomputable def Nw(F H H':Hp):Hp:=fun a=>match H a with
 |none=>H' a
 |some _=>F a
theorem Nw.same(s:ar F H):ar F (Nw F H H'):=fun a o e=>by
 unfold Nw;rw[s a o e];exact e
theorem Nw.sub(s:ar F H)(k:ar H H'):ar (Nw F H H') H':=fun a o e=>by
 unfold Nw at e
 cases q:H a with
 |none=>rw[q] at e;exact e
 |some u=>rw[q] at e;exact k a o (s a o e)
theorem Nw.upd{p:Addr}{o:HO}(s:ar F H)(hp:H p=none):Nw F H (upd H p o)=upd F p o:=by
 funext a;unfold Nw L2.upd
 by_cases c:a=p
 ·subst c;rw[hp,q0f rfl];simp
 ·rw[q0a c,q0a c]
  cases q:H a with
  |none =>
   cases q2:F a with
   |none=>rfl
   |some u=>rw[s a u q2] at q;cases q
  |some u=>rfl
theorem Nw.refl(s:ar F H):Nw F H H=F:=by
 funext a;unfold Nw
 cases q:H a with
 |none =>
  cases q2:F a with
  |none=>rfl
  |some u=>rw[s a u q2] at q;cases q
 |some u=>rfl
theorem SR.al(S:SR F ad δ σ H)(k:ar H H'):SR (Nw F H H') ad δ σ H':=by
 have sm:=Nw.same (H':=H') S.sub;refine⟨Nw.sub S.sub k,fun a l=>?_,S.cb,S.inj,fun i ov e=>?_,fun i x e=>?_,S.len,aB.same S.tab k,fun a ha=>by obtain⟨ps,q⟩:=aB.tb S.tab ha;unfold Nw;rw[q];exact S.nt a ha⟩
 ·obtain⟨i,ov,e1,e2⟩:=l
  obtain⟨a',o,e3,e4,_⟩:=S.mu i ov e2;rw[e1] at e3;cases e3;unfold Nw;rw[e4];exact S.off a ⟨i,ov,e1,e2⟩
 ·obtain⟨a,o,e1,e2,h⟩:=S.mu i ov e
  exact⟨a,o,e1,k a o e2,h.same sm⟩
 ·obtain⟨v,e1,h⟩:=S.sl i x e
  refine⟨v,e1,?_⟩
  cases x with
  |p d=>exact Is.same sm h
  |o k=>exact h
theorem Ext.al(S:SR F ad δ σ H)(k:ar H H'):Ext F ad δ.mu H (Nw F H H') ad δ.mu H' where
 same:=Nw.same S.sub
 new:=fun a o e=>by
  unfold Nw at e
  cases q:H a with
  |none=>exact .inr (.inl rfl)
  |some u=>rw[q] at e;exact .inl e
 keep:=fun a o e _ _=>k a o e
 pre:=fun _ _ e=>e
 bV:=fun _ l=>.inl l
 ig:=fun a o e=>⟨o,k a o e⟩
theorem SR.own{p:Addr}{o:HO}{ov:OV}(S:SR F ad δ σ H)(hp:H p=none)(h:fJ F ov o):SR F (ad++[p]) ⟨δ.sl,δ.mu++[some ov]⟩ σ (upd H p o):=by
 have old:∀{k:Nat}{w:OV},(δ.mu++[some ov])[k]?=some (some w)->(k<δ.mu.length/\δ.mu[k]?=some (some w))\/(k=δ.mu.length/\w=ov):=fun{k w} e=>by
  by_cases c:k<δ.mu.length
  ·rw[q0j c] at e;exact .inl ⟨c,e⟩
  ·have hl:=(sR.mp e).1
   rw[Hd,q0O] at hl;have ek:k=δ.mu.length:=by omega
   subst ek;rw[q0k (Bi _),q1r] at e;exact .inr ⟨rfl,by simpa using e.symm⟩
 have pre:∀{k:Nat},k<δ.mu.length->(ad++[p])[k]?=ad[k]?:=fun{k} c=>q0j (by rw[S.cb];exact c);have last:(ad++[p])[δ.mu.length]?=some p:=by rw[<-S.cb,q0k (Bi _),q1r];rfl
 have np:∀{k:Nat}{a:Addr}{w:OV},ad[k]?=some a->δ.mu[k]?=some (some w)->a≠p:=fun{k a w} e1 e2=>by
  obtain⟨a',u,e3,e4,_⟩:=S.mu k w e2;rw[e1] at e3;cases e3;exact bH e4 hp
 refine⟨fun a u e=>?_,fun a l=>?_,by rw[Hd,Hd,S.cb];rfl,fun k l a w w' e1 e2 e3 e4=>?_,fun k w e=>?_,fun i x e=>?_,S.len,aB.same S.tab (b7 hp),S.nt⟩
 ·have:=S.sub a u e
  rw[av (bH this hp)];exact this
 ·obtain⟨k,w,e1,e2⟩:=l
  rcases old e2 with⟨c,e3⟩|⟨c,e3⟩
  ·rw[pre c] at e1;exact S.off a ⟨k,w,e1,e3⟩
  ·subst c;rw[last] at e1;cases e1
   cases q:F p with
   |none=>rfl
   |some u=>rw[S.sub p u q] at hp;cases hp
 ·rcases old e3 with⟨c,q⟩|⟨c,q⟩
  ·rw[pre c] at e1
   rcases old e4 with⟨c',q'⟩|⟨c',q'⟩
   ·rw[pre c'] at e2;exact S.inj k l a w w' e1 e2 q q'
   ·subst c';rw[last] at e2;cases e2;exact absurd rfl (np e1 q)
  ·subst c;rw[last] at e1;cases e1
   rcases old e4 with⟨c',q'⟩|⟨c',q'⟩
   ·rw[pre c'] at e2;exact absurd rfl (np e2 q')
   ·exact c'.symm
 ·rcases old e with⟨c,q⟩|⟨c,q⟩
  ·obtain⟨a,u,e1,e2,h'⟩:=S.mu k w q
   exact⟨a,u,by rw[pre c];exact e1,by rw[av (np e1 q)];exact e2,h'⟩
  ·subst c;subst q;exact⟨p,o,last,a_,h⟩
 ·obtain⟨v,e1,h'⟩:=S.sl i x e
  refine⟨v,e1,?_⟩
  cases x with
  |p d=>exact h'
  |o k =>
   obtain⟨a,e2,e3⟩:=h';exact⟨a,by rw[q0j (sR.mp e2).1];exact e2,e3⟩
theorem Ext.own{p:Addr}{o:HO}{ov:OV}(S:SR F ad δ σ H)(hp:H p=none):Ext F ad δ.mu H F (ad++[p]) (δ.mu++[some ov]) (upd H p o) where
 same:=fun _ _ e=>e
 new:=fun _ _ e=>.inl e
 keep:=fun a u e _ _=>by rw[av (bH e hp)];exact e
 pre:=fun k a e=>by rw[q0j (sR.mp e).1];exact e
 bV:=fun a l=>by
  obtain⟨k,w,e1,e2⟩:=l
  by_cases c:k<δ.mu.length
  ·rw[q0j c] at e2
   rw[q0j (by rw[S.cb];exact c)] at e1;exact .inl ⟨k,w,e1,e2⟩
  ·have hl:=(sR.mp e2).1
   rw[Hd,q0O] at hl;have ek:k=ad.length:=by rw[S.cb];omega
   subst ek;rw[q0k (Bi _),q1r] at e1;have:p=a:=by simpa using e1
   subst this;exact .inr hp
 ig:=fun a u e=>⟨u,by rw[av (bH e hp)];exact e⟩
theorem SR.put{k:Nat}{a:Addr}{o:HO}{ov ow:OV}(S:SR F ad δ σ H)(hk:δ.mu[k]?=some (some ow))(ha:ad[k]?=some a)(h:fJ F ov o):SR F ad ⟨δ.sl,δ.mu.set k (some ov)⟩ σ (upd H a o):=by
 have kl:=(sR.mp hk).1
 have old:∀{l:Nat}{w:OV},(δ.mu.set k (some ov))[l]?=some (some w)->(l≠k/\δ.mu[l]?=some (some w))\/(l=k/\w=ov):=fun{l w} e=>by
  by_cases c:k=l
  ·subst c;rw[q0Q kl] at e;exact .inr ⟨rfl,by simpa using e.symm⟩
  ·rw[q0V c] at e;exact .inl ⟨fun z=>c z.symm,e⟩
 have lv:∀{l:Nat}{w:OV}{b:Addr},ad[l]?=some b->(δ.mu.set k (some ov))[l]?=some (some w)->Lv ad δ.mu b:=fun{l w b} e1 e2=>by
  rcases old e2 with⟨_,q⟩|⟨c,_⟩
  ·exact⟨l,w,e1,q⟩
  ·subst c;exact⟨l,ow,e1,hk⟩
 have tk:aB.ok (upd H a o):=by
  obtain⟨a',u,e1,e2,h'⟩:=S.mu k ow hk;rw[ha] at e1;cases e1;exact aB.put S.tab e2 h'.kind
 refine⟨fun b u e=>?_,fun b l=>?_,by rw[q1H];exact S.cb,fun l l' b w w' e1 e2 e3 e4=>?_,fun l w e=>?_,fun i x e=>?_,S.len,tk,S.nt⟩
 ·have nb:b≠a:=fun z=>by
   subst z;rw[S.off b ⟨k,ow,ha,hk⟩] at e;cases e
  rw[av nb];exact S.sub b u e
 ·obtain⟨l,w,e1,e2⟩:=l
  exact S.off b (lv e1 e2)
 ·have h1:∃w,δ.mu[l]?=some (some w):=by
   rcases old e3 with⟨_,q⟩|⟨c,_⟩
   ·exact⟨_,q⟩
   ·subst c;exact⟨_,hk⟩
  have h2:∃w,δ.mu[l']?=some (some w):=by
   rcases old e4 with⟨_,q⟩|⟨c,_⟩
   ·exact⟨_,q⟩
   ·subst c;exact⟨_,hk⟩
  obtain⟨w1,q1⟩:=h1;obtain⟨w2,q2⟩:=h2;exact S.inj l l' b _ _ e1 e2 q1 q2
 ·rcases old e with⟨c,q⟩|⟨c,q⟩
  ·obtain⟨b,u,e1,e2,h'⟩:=S.mu l w q
   have nb:b≠a:=fun z=>by subst z;exact c (S.inj l k b _ _ e1 ha q hk)
   exact⟨b,u,e1,by rw[av nb];exact e2,h'⟩
  ·subst c;subst q;exact⟨a,o,ha,a_,h⟩
 ·exact S.sl i x e
theorem Ext.put{k:Nat}{a:Addr}{o:HO}{ov ow:OV}(S:SR F ad δ σ H)(hk:δ.mu[k]?=some (some ow))(ha:ad[k]?=some a):Ext F ad δ.mu H F ad (δ.mu.set k (some ov)) (upd H a o) where
 same:=fun _ _ e=>e
 new:=fun _ _ e=>.inl e
 keep:=fun b u e n _=>by rw[av fun z=>n (by subst z;exact⟨k,ow,ha,hk⟩)];exact e
 pre:=fun _ _ e=>e
 bV:=fun b l=>by
  obtain⟨l,w,e1,e2⟩:=l
  by_cases c:k=l
  ·subst c;exact .inl ⟨k,ow,e1,hk⟩
  ·rw[q0V c] at e2;exact .inl ⟨l,w,e1,e2⟩
 ig:=fun b u e=>by
  by_cases c:b=a
  ·subst c;exact⟨o,a_⟩
  ·exact⟨u,by rw[av c];exact e⟩
theorem SR.fix{k:Nat}{a:Addr}{o:HO}{ow:OV}(S:SR F ad δ σ H)(hk:δ.mu[k]?=some (some ow))(ha:ad[k]?=some a)(ho:H a=some o):SR (upd F a o) ad ⟨δ.sl,δ.mu.set k none⟩ σ H:=by
 have kl:=(sR.mp hk).1;have fa:=S.off a ⟨k,ow,ha,hk⟩;have sm:ar F (upd F a o):=fun b u e=>by rw[av (bH e fa)];exact e
 have old:∀{l:Nat}{w:OV},(δ.mu.set k none)[l]?=some (some w)->l≠k/\δ.mu[l]?=some (some w):=fun{l w} e=>by
  by_cases c:k=l
  ·subst c;rw[q0Q kl] at e;cases e
  ·rw[q0V c] at e;exact⟨fun z=>c z.symm,e⟩
 refine⟨fun b u e=>?_,fun b l=>?_,by rw[q1H];exact S.cb,fun l l' b w w' e1 e2 e3 e4=>S.inj l l' b w w' e1 e2 (old e3).2 (old e4).2,fun l w e=>?_,fun i x e=>?_,S.len,S.tab,fun b hb=>?_⟩
 ·by_cases c:b=a
  ·subst c;rw[a_] at e;cases e;exact ho
  ·rw[av c] at e;exact S.sub b u e
 ·obtain⟨l,w,e1,e2⟩:=l
  obtain⟨c,q⟩:=old e2;have nb:b≠a:=fun z=>by subst z;exact c (S.inj l k b _ _ e1 ha q hk)
  rw[av nb];exact S.off b ⟨l,w,e1,q⟩
 ·obtain⟨b,u,e1,e2,h'⟩:=S.mu l w (old e).2
  exact⟨b,u,e1,e2,h'.same sm⟩
 ·obtain⟨v,e1,h'⟩:=S.sl i x e
  refine⟨v,e1,?_⟩
  cases x with
  |p d=>exact Is.same sm h'
  |o k=>exact h'
 ·obtain⟨ps,q⟩:=aB.tb S.tab hb
  have nb:b≠a:=fun z=>by
   subst z;obtain⟨a',u,e1,e2,h'⟩:=S.mu k ow hk;rw[ha] at e1;cases e1;rw[q] at e2;cases e2;rcases h'.kind with⟨_,z⟩|⟨_,z⟩<;>cases z
  rw[av nb];exact S.nt b hb
theorem Ext.fix{k:Nat}{a:Addr}{o:HO}{ow:OV}(S:SR F ad δ σ H)(hk:δ.mu[k]?=some (some ow))(ha:ad[k]?=some a):Ext F ad δ.mu H (upd F a o) ad (δ.mu.set k none) H where
 same:=fun b u e=>by rw[av (bH e (S.off a ⟨k,ow,ha,hk⟩))];exact e
 new:=fun b u e=>by
  by_cases c:b=a
  ·subst c;exact .inr (.inr ⟨k,ow,ha,hk⟩)
  ·rw[av c] at e;exact .inl e
 keep:=fun b u e _ _=>e
 pre:=fun _ _ e=>e
 bV:=fun b l=>by
  obtain⟨l,w,e1,e2⟩:=l
  by_cases c:k=l
  ·subst c;rw[q0Q (sR.mp hk).1] at e2;cases e2
  ·rw[q0V c] at e2;exact .inl ⟨l,w,e1,e2⟩
 ig:=fun b u e=>⟨u,e⟩
theorem SR.set{i:Nat}{x:DV}{v:V}(S:SR F ad δ σ H)(h:fD F ad x v):SR F ad ⟨δ.sl.set i (some x),δ.mu⟩ (σ.set i (some v)) H:=by
 refine⟨S.sub,S.off,S.cb,S.inj,S.mu,fun j y e=>?_,by rw[q1H,q1H];exact S.len,S.tab,S.nt⟩
 by_cases c:i=j
 ·subst c
  have hl:=(sR.mp e).1;rw[q1H] at hl;rw[q0Q hl] at e;cases e
  exact⟨v,q0Q (by rw[S.len];exact hl),h⟩
 ·rw[q0V c] at e
  obtain⟨w,e1,h1⟩:=S.sl j y e;exact⟨w,by rw[q0V c];exact e1,h1⟩
end
abbrev WE:=au->(DV->au->Prop)->Prop
abbrev WA:=au->(List DV->au->Prop)->Prop
abbrev WT:=au->(Bool->au->Prop)->Prop
def dr(F:Hp)(ad:List Addr):List DV->List V->Prop
 |[],vs=>vs=[]
 |x::xs,vs=>∃v r,vs=v::r/\fD F ad x v/\dr F ad xs r
theorem dr.ext{F F' H H':Hp}{ad aw:List Addr}{mu cN:List (Option OV)}(e:Ext F ad mu H F' aw cN H'):∀{xs:List DV}{vs:List V},dr F ad xs vs->dr F' aw xs vs
 |[],_,h=>h
 |_::_,_,⟨v,r,q,h1,h2⟩=>⟨v,r,q,h1.ext e,dr.ext e h2⟩
def tD(f:WE):TE:=fun σ H Q=>∃F ad δ K,SR F ad δ σ H/\f δ K/\∀x δ',K x δ'->∀v F' aw H',Ext F ad δ.mu H F' aw δ'.mu H'->SR F' aw δ' σ H'->fD F' aw x v->Q v H'
def bK(f:WA):TA:=fun σ H Q=>∃F ad δ K,SR F ad δ σ H/\f δ K/\∀xs δ',K xs δ'->∀vs F' aw H',Ext F ad δ.mu H F' aw δ'.mu H'->SR F' aw δ' σ H'->dr F' aw xs vs->Q vs H'
def cA(f:WT):TT:=fun σ H Q=>∃F ad δ K,SR F ad δ σ H/\f δ K/\∀b δ',K b δ'->∀F' aw H',Ext F ad δ.mu H F' aw δ'.mu H'->SR F' aw δ' σ H'->Q b H'
def gT(F H:Hp):D->V->Prop
 |.lst ds,v=>∃a vs,v=.ref a/\H a=some (.lst vs)/\ae F ds vs
 |d,v=>Is F d v
def gz(x:DV)(δ:au)(K:D->Prop):Prop:=match x with
 |.p d=>K d
 |.o k=>match δ.mu[k]? with
  |some (some (.lst ds))=>K (.lst ds)
  |_=>False
theorem gT.of{F H:Hp}(s:ar F H):∀{d:D}{v:V},Is F d v->gT F H d v
 |.lst _,_,h=>by
  simp only[Is] at h;obtain⟨a,vs,e,h1,h2⟩:=h;exact⟨a,vs,e,s _ _ h1,h2⟩
 |.tup _,_,h=>h
 |.non,_,h=>h
 |.bl _,_,h=>h
 |.int _,_,h=>h
 |.str _,_,h=>h
theorem gT.is{F H:Hp}(s:ar F H):∀{d:D}{v:V},gT F H d v->Is H d v
 |.lst _,_,h=>by
  obtain⟨a,vs,e,h1,h2⟩:=h;simp only[Is];exact⟨a,vs,e,h1,h2.same s⟩
 |.tup _,_,h=>Is.same s h
 |.non,_,h=>Is.same s h
 |.bl _,_,h=>Is.same s h
 |.int _,_,h=>Is.same s h
 |.str _,_,h=>Is.same s h
theorem jM{F H:Hp}{ad:List Addr}{δ:au}{σ:St}{x:DV}{v:V}{K:D->Prop}(S:SR F ad δ σ H)(hv:fD F ad x v)(h:gz x δ K):∃d,K d/\gT F H d v:=by
 cases x with
 |p d=>exact⟨d,h,gT.of S.sub hv⟩
 |o k =>
  unfold gz at h;dsimp only at h;split at h
  ·rename_i ds e
   obtain⟨a,e1,rfl⟩:=hv;obtain⟨a',o,e2,e3,vs,rfl,h4⟩:=S.mu k _ e;rw[e1] at e2;cases e2;exact⟨_,h,a,vs,rfl,e3,h4⟩
  ·exact h.elim
def lj:List DV->au->(List D->Prop)->Prop
 |[],_,K=>K []
 |x::xs,δ,K=>gz x δ fun d=>lj xs δ fun ds=>K (d::ds)
def jN(F H:Hp):List D->List V->Prop
 |[],vs=>vs=[]
 |d::ds,vs=>∃v r,vs=v::r/\gT F H d v/\jN F H ds r
theorem xK{F H:Hp}{ad:List Addr}{δ:au}{σ:St}(S:SR F ad δ σ H):∀{xs:List DV}{vs:List V}{K:List D->Prop},dr F ad xs vs->lj xs δ K->∃ds,K ds/\jN F H ds vs
 |[],_,_,hv,h=>⟨[],h,hv⟩
 |x::xs,_,_,⟨v,r,rfl,h1,h2⟩,h=>by
  obtain⟨d,h',rd⟩:=jM S h1 h;obtain⟨ds,sY,rq⟩:=xK S h2 h';exact⟨d::ds,sY,v,r,rfl,rd,rq⟩
abbrev Made(F H:Hp)(K:D->Prop)(Q:VK):Prop:=∀z v H',K z->ar H H'->Is (Nw F H H') z v->Q v H'
def eM(X:Cx)(f:Value->Value->Sem Value)(g:D->D->(D->Prop)->Prop):Prop :=
 dg X f fun x y H Q=>∃F d e K,ar F H/\gT F H d x/\gT F H e y/\g d e K/\Made F H K Q
def Ij(X:Cx)(g:D->D->(D->Prop)->Prop):Prop :=
 uU X fun x y H Q=>∃F d e K,ar F H/\gT F H d x/\gT F H e y/\g d e K/\Made F H K Q
def dh(X:Cx)(f:Value)(g:List D->(D->Prop)->Prop):Prop :=
 gb X f fun xs H Q=>∃F ds K,ar F H/\jN F H ds xs/\g ds K/\Made F H K Q
def d2(f g:WE)(op:D->D->(D->Prop)->Prop):WE:=fun δ K=>f δ fun x δ1=>g δ1 fun y δ2=>gz x δ2 fun d=>gz y δ2 fun e=>op d e fun z=>K (.p z) δ2
def d1(f:WE)(op:D->(D->Prop)->Prop):WE:=fun δ K=>f δ fun x δ1=>gz x δ1 fun d=>op d fun z=>K (.p z) δ1
def dN(f:WA)(op:List D->(D->Prop)->Prop):WE:=fun δ K=>f δ fun xs δ1=>lj xs δ1 fun ds=>op ds fun z=>K (.p z) δ1
def dC(d:D):WE:=fun δ K=>K (.p d) δ
def aa(i:Nat):WE:=fun δ K=>match δ.sl[i]? with
 |some (some x)=>K x δ
 |_=>False
def af:WA:=fun δ K=>K [] δ
def ag(f:WE)(g:WA):WA:=fun δ K=>f δ fun x δ1=>g δ1 fun xs δ2=>K (x::xs) δ2
section
variable{X:Cx}{a b c:Expr}{f g h:WE}{fa:WA}{pos:Pos}
theorem vA{e:Expr}{d:D}{v:V}(h:JE X e (tC v))(hi:∀F,Is F d v):JE X e (tD (dC d)):=h.weak fun σ H Q h0_=>el7 h0_ fun F ad δ K S q k =>k _ _ q _ _ _ _ .refl S (hi F)
theorem Ik{i j pos}:JE X (.Constant (.int i) j pos) (tD (dC (.int i))):=vA mD fun _=>rfl
theorem xM{i j pos}:JE X (.Constant (.bool i) j pos) (tD (dC (.bl i))):=vA Aj fun _=>rfl
theorem vB{j pos}:JE X (.Constant .none j pos) (tD (dC .non)):=vA N6 fun _=>rfl
theorem Rc{x j pos}:JE X (.Constant (.str x) j pos) (tD (dC (.str x))):=vA xo fun _=>rfl
theorem Rf{x:Str}{i:Int}{u:Value}{pos:Pos}(hg:Gl X x)(hm:X.mg x=some u)(r:RelV (.int i) u)(hd:bA x:=by decide):JE X (.Name x pos) (tD (dC (.int i))):=vA (iO hg hm r hd) fun _=>rfl
theorem dv(i:Nat){x:Str}{pos:Pos}(hN:X.N[i]?=some x:=by rfl)(hv:sJ X.env.scope x:=by first|exact q23 rfl|exact q63 (q23 rfl)|exact q63 (q63 rfl))
  (hd:bA x:=by decide) (eK:(x==("__classdict__" : Str))=false:=by decide):JE X (.Name x pos) (tD (aa i)) :=
 (Gq hN hv hd eK).weak fun σ H Q h0_=>el7 h0_ fun F ad δ K S q k =>by
  unfold aa at q;split at q
  ·rename_i x e
   obtain⟨v,e1,h1⟩:=S.sl i x e;exact⟨v,e1,k _ _ q _ _ _ _ .refl S h1⟩
  ·exact q.elim
theorem xN{r:R2}{ta tb:TE}{op:D->D->(D->Prop)->Prop}(hr:∀x y H Q,(∃F d e K,ar F H/\gT F H d x/\gT F H e y/\op d e K/\Made F H K Q)->r x y H Q):∀σ H Q,tD (d2 f g op) σ H Q->uK r (tD f) (tD g) σ H Q:=by
 rintro σ H Q ⟨F,ad,δ,K,S,q,k⟩;refine⟨F,ad,δ,_,S,q,fun x δ1 h1 v1 F1 aN H1 E1 S1 V1=>⟨F1,aN,δ1,_,S1,h1,fun y δ2 h2 v2 F2 cw H2 E2 S2 V2=>hr _ _ _ _ ?_⟩⟩;obtain⟨d,h3,rd⟩:=jM S2 (V1.ext E2) h2;obtain⟨e,h4,re⟩:=jM S2 V2 h3;exact⟨F2,d,e,_,S2.sub,rd,re,h4,fun z v H' hz sm is=>k _ _ hz _ _ _ _ ((E1.trans E2).trans (Ext.al S2 sm)) (S2.al sm) is⟩
theorem sZ{op:Operator}{o:D->D->(D->Prop)->Prop}(ho:eM X (binaryOp op) o)(ha:JE X a (tD f))(hb:JE X b (tD g)):JE X (.BinOp a op b pos) (tD (d2 f g o)) :=
 (qA ho ha hb).weak (xN (ta:=tD f) (tb:=tD g) fun _ _ _ _ h=>h)
theorem mM{op:CmpOp}{o:D->D->(D->Prop)->Prop}(ho:eM X (compareOp op) o)(ha:JE X a (tD f))(hb:JE X b (tD g))(hm:behindInMarks op b=false):JE X (.Compare a [op] [b] pos) (tD (d2 f g o)) :=
 (OP ho ha hb hm).weak (xN (ta:=tD f) (tb:=tD g) fun _ _ _ _ h=>h)
theorem BN{o:D->D->(D->Prop)->Prop}(ho:Ij X o)(ha:JE X a (tD f))(hb:JE X b (tD g))(hs:G3 b):JE X (.Subscript a b pos) (tD (d2 f g o)) :=
 (xw ho ha hb hs).weak (xN (ta:=tD f) (tb:=tD g) fun _ _ _ _ h=>h)
theorem lq:JA X [] (bK af):=aI.weak fun σ H Q h0_=>el7 h0_ fun F ad δ K S q k =>k _ _ q _ _ _ _ .refl S rfl
theorem rz:∀σ H Q,bK (ag f fa) σ H Q->gw (tD f) (bK fa) σ H Q:=by
 rintro σ H Q ⟨F,ad,δ,K,S,q,k⟩;exact⟨F,ad,δ,_,S,q,fun x δ1 h1 v1 F1 aN H1 E1 S1 V1=>⟨F1,aN,δ1,_,S1,h1,fun xs δ2 h2 vs F2 cw H2 E2 S2 V2=>k _ _ h2 _ _ _ _ (E1.trans E2) S2 ⟨v1,vs,rfl,V1.ext E2,V2⟩⟩⟩
theorem Rg{e:Expr}{es:List Expr}(ha:JE X e (tD f))(hr:JA X es (bK fa))(hs:cQ X e es:=by rfl):JA X (e::es) (bK (ag f fa)):=(ji ha hr hs).weak rz
theorem BO{es:List Expr}{c j p}(ha:JE X (.Constant c j p) (tD f))(hr:JA X es (bK fa)):JA X (.Constant c j p::es) (bK (ag f fa)):=(jK ha hr).weak rz
theorem cX{es:List Expr}{x p}(ha:JE X (.Name x p) (tD f))(hr:JA X es (bK fa)):JA X (.Name x p::es) (bK (ag f fa)):=(fY ha hr).weak rz
theorem BP{es:List Expr}{x y k p}(ha:JE X (.Call x y k p) (tD f))(hr:JA X es (bK fa)):JA X (.Call x y k p::es) (bK (ag f fa)):=(gy ha hr).weak rz
theorem BQ{es:List Expr}{x p}(ha:JE X (.List x p) (tD f))(hr:JA X es (bK fa)):JA X (.List x p::es) (bK (ag f fa)):=(vk ha hr).weak rz
theorem BR{es:List Expr}{x k p}(ha:JE X (.Tuple x k p) (tD f))(hr:JA X es (bK fa)):JA X (.Tuple x k p::es) (bK (ag f fa)):=(By ha hr).weak rz
theorem vC{es:List Expr}{x k p}(ha:JE X (.Subscript x k p) (tD f))(hr:JA X es (bK fa)):JA X (.Subscript x k p::es) (bK (ag f fa)):=(rh ha hr).weak rz
theorem Il{r:List V->Hp->VK->Prop}{op:List D->(D->Prop)->Prop}(hr:∀xs H Q,(∃F ds K,ar F H/\jN F H ds xs/\op ds K/\Made F H K Q)->r xs H Q):∀σ H Q,tD (dN fa op) σ H Q->uQ r (bK fa) σ H Q:=by
 rintro σ H Q ⟨F,ad,δ,K,S,q,k⟩;refine⟨F,ad,δ,_,S,q,fun xs δ1 h1 vs F1 aN H1 E1 S1 V1=>hr _ _ _ ?_⟩;obtain⟨ds,h2,rq⟩:=xK S1 V1 h1;exact⟨F1,ds,_,S1.sub,rq,h2,fun z v H' hz sm is=>k _ _ hz _ _ _ _ (E1.trans (Ext.al S1 sm)) (S1.al sm) is⟩
theorem pX{x:Str}{p:Pos}{e:Expr}{es:List Expr}{id:String}{o:List D->(D->Prop)->Prop}(hc:dh X (.builtin id) o)(hg:Gl X x)(hm:X.mg x=none)(hv:bootBuiltins x=some (.builtin id))(ha:JA X (e::es) (bK fa))(hn:x≠"__name__" := by decide)(cV:bA x:=by decide)
  (he:cQ X e es:=by rfl) (cW:dH X pos es:=by rfl):JE X (.Call (.Name x p) (e::es) [] pos) (tD (dN fa o)) :=
 (uR hc hg hm hv ha hn cV he cW).weak (Il fun _ _ _ h=>h)
theorem Im{x:Str}{p:Pos}{e:Expr}{es:List Expr}{T:String}{o:List D->(D->Prop)->Prop}(hc:dh X (.type T) o)(hg:Gl X x)(hm:X.mg x=none)(hv:bootBuiltins x=some (.type T))(ha:JA X (e::es) (bK fa))(hn:x≠"__name__" := by decide)(cV:bA x:=by decide)
  (he:cQ X e es:=by rfl) (cW:dH X pos es:=by rfl):JE X (.Call (.Name x p) (e::es) [] pos) (tD (dN fa o)) :=
 (mJ hc hg hm hv ha hn cV he cW).weak (Il fun _ _ _ h=>h)
end
noncomputable def Io(k:Nat)(ds:List D):Option DV->Option DV
 |some (.o j)=>if j=k then some (.p (.lst ds)) else some (.o j)
 |s=>s
noncomputable def au.fix(δ:au)(k:Nat)(ds:List D):au:=⟨δ.sl.map (Io k ds),δ.mu.set k none⟩
def oj(x:DV)(δ:au)(K:D->au->Prop):Prop:=match x with
 |.p d=>K d δ
 |.o k=>match δ.mu[k]? with
  |some (some (.lst ds))=>K (.lst ds) (δ.fix k ds)
  |_=>False
def jO:List DV->au->(List D->au->Prop)->Prop
 |[],δ,K=>K [] δ
 |x::xs,δ,K=>oj x δ fun d δ1=>jO xs δ1 fun ds δ2=>K (d::ds) δ2
section
variable{F F' H H':Hp}{ad aw:List Addr}{δ δ':au}{σ σ':St}
theorem SR.fixed{k:Nat}{a:Addr}{vs:List V}{ds:List D}(S:SR F ad δ σ H)(hk:δ.mu[k]?=some (some (.lst ds)))(ha:ad[k]?=some a)(ho:H a=some (.lst vs))(hi:ae F ds vs):SR (upd F a (.lst vs)) ad (δ.fix k ds) σ H:=by
 have S1:=S.fix hk ha ho;have sm:ar F (upd F a (.lst vs)):=(Ext.fix (o:=.lst vs) S hk ha).same;refine⟨S1.sub,S1.off,S1.cb,S1.inj,S1.mu,fun i x e=>?_,by rw[S.len];unfold au.fix;rw[qU],S1.tab,S1.nt⟩;unfold au.fix at e;rw[q0b] at e;obtain⟨s,e1,e2⟩:=q0g.mp e
 match s,e2 with
 |none,e2=>cases e2
 |some (.p d),e2 =>
  cases(show some (DV.p d)=some x from e2)
  exact S1.sl i _ e1
 |some (.o j),e2 =>
  have e3:(if j=k then some (DV.p (.lst ds)) else some (DV.o j))=some x:=e2;clear e2;obtain⟨v,h1,a',h2,h3⟩:=S.sl i _ e1
  by_cases c:j=k
  ·rw[q0f c] at e3
   subst c;cases e3
   rw[ha] at h2;cases h2;refine⟨v,h1,?_⟩;show Is _ (.lst ds) v;simp only[Is];exact⟨a,vs,h3,a_,hi.same sm⟩
  ·rw[q0a c] at e3
   cases e3
   exact⟨v,h1,a',h2,h3⟩
theorem vD{x:DV}{v:V}{K:D->au->Prop}(S:SR F ad δ σ H)(hv:fD F ad x v)(h:oj x δ K):∃d δ' F',K d δ'/\Ext F ad δ.mu H F' ad δ'.mu H/\SR F' ad δ' σ H/\Is F' d v:=by
 cases x with
 |p d=>exact⟨d,δ,F,h,.refl,S,hv⟩
 |o k =>
  unfold oj at h;dsimp only at h;split at h
  ·rename_i ds e
   obtain⟨a,e1,rfl⟩:=hv;obtain⟨a',o,e2,e3,vs,rfl,h4⟩:=S.mu k _ e;rw[e1] at e2;cases e2;refine⟨_,_,_,h,Ext.fix S e e1,S.fixed e e1 e3 h4,?_⟩;simp only[Is];exact⟨a,vs,rfl,a_,h4.same (Ext.fix (o:=.lst vs) S e e1).same⟩
  ·exact h.elim
theorem xO:∀{xs:List DV}{vs:List V}{δ:au}{F:Hp}{K:List D->au->Prop},SR F ad δ σ H->dr F ad xs vs->jO xs δ K->∃ds δ' F',K ds δ'/\Ext F ad δ.mu H F' ad δ'.mu H/\SR F' ad δ' σ H/\ae F' ds vs
 |[],_,δ,F,_,S,hv,h=>⟨[],δ,F,h,.refl,S,by simp only[ae];exact hv⟩
 |x::xs,_,δ,F,_,S,⟨v,r,e,h1,h2⟩,h=>by
  subst e;obtain⟨d,δ1,F1,h',E1,S1,i1⟩:=vD S h1 h;obtain⟨ds,δ2,F2,sY,E2,S2,i2⟩:=xO S1 (h2.ext E1) h';exact⟨d::ds,δ2,F2,sY,E1.trans E2,S2,.cons (i1.same E2.same) i2⟩
end
def eS(fa:WA):WE:=fun δ K=>fa δ fun xs δ1=>jO xs δ1 fun ds δ2=>ds.length<=1000/\K (.p (.tup ds)) δ2
def b8(fa:WA):WE:=fun δ K=>fa δ fun xs δ1=>jO xs δ1 fun ds δ2=>ds.length<=1000/\K (.p (.lst ds)) δ2
def s_(fa:WA):WE:=fun δ K=>fa δ fun xs δ1=>jO xs δ1 fun ds δ2=>ds.length<=1000/\K (.o δ2.mu.length) ⟨δ2.sl,δ2.mu++[some (.lst ds)]⟩
section
variable{X:Cx}{a b c:Expr}{es:List Expr}{f g h:WE}{fa:WA}{t u:WT}{pos:Pos}
theorem lr{n:Nat}(h:n<=1000):n<=sizeLine:=q1z (kZ h)
theorem Rh{x1}(ha:JA X es (bK fa)):JE X (.Tuple es x1 pos) (tD (eS fa)):=(O4 ha).weak fun σ H Q h0_=>el7 h0_ fun F ad δ K S q k =>
 ⟨F,ad,δ,_,S,q,fun xs δ1 h1 vs F1 aN H1 E1 S1 V1=>by
  obtain⟨ds,δ2,F2,⟨hl,h2⟩,E2,S2,i2⟩:=xO S1 V1 h1;refine⟨lr (by rw[i2.length];exact hl),fun p hp=>?_⟩;have sm:ar H1 (upd H1 p (.tup vs)):=b7 hp;refine k _ _ h2 _ _ _ _ ((E1.trans E2).trans (Ext.al S2 sm)) (S2.al sm) ?_;show Is _ (.tup ds) _;simp only[Is];rw[Nw.upd S2.sub hp];refine⟨p,vs,rfl,a_,i2.same fun b o e=>?_⟩
  rw[av (bH (S2.sub b o e) hp)];exact e⟩
theorem Ri(ha:JA X es (bK fa)):JE X (.List es pos) (tD (b8 fa)):=(mF ha).weak fun σ H Q h0_=>el7 h0_ fun F ad δ K S q k =>
 ⟨F,ad,δ,_,S,q,fun xs δ1 h1 vs F1 aN H1 E1 S1 V1=>by
  obtain⟨ds,δ2,F2,⟨hl,h2⟩,E2,S2,i2⟩:=xO S1 V1 h1;refine⟨lr (by rw[i2.length];exact hl),fun p hp=>?_⟩;have sm:ar H1 (upd H1 p (.lst vs)):=b7 hp;refine k _ _ h2 _ _ _ _ ((E1.trans E2).trans (Ext.al S2 sm)) (S2.al sm) ?_;show Is _ (.lst ds) _;simp only[Is];rw[Nw.upd S2.sub hp];refine⟨p,vs,rfl,a_,i2.same fun b o e=>?_⟩
  rw[av (bH (S2.sub b o e) hp)];exact e⟩
theorem Rj(ha:JA X es (bK fa)):JE X (.List es pos) (tD (s_ fa)):=(mF ha).weak fun σ H Q h0_=>el7 h0_ fun F ad δ K S q k =>
 ⟨F,ad,δ,_,S,q,fun xs δ1 h1 vs F1 aN H1 E1 S1 V1=>by
  obtain⟨ds,δ2,F2,⟨hl,h2⟩,E2,S2,i2⟩:=xO S1 V1 h1;refine⟨lr (by rw[i2.length];exact hl),fun p hp=>?_⟩;have oi:fJ F2 (.lst ds) (.lst vs):=⟨vs,rfl,i2⟩;refine k _ _ h2 _ _ _ _ ((E1.trans E2).trans (Ext.own S2 hp)) (S2.own hp oi) ⟨p,?_,rfl⟩
  rw[<-S2.cb,q0k (Bi _),q1r];rfl⟩
def tj(x:DV)(P:Bool->Prop):Prop:=match x with
 |.p (.bl b)=>P b
 |_=>False
def dT(f:WE):WT:=fun δ K=>f δ fun x δ1=>tj x fun b=>K b δ1
def lz(t u:WT):WT:=fun δ K=>t δ fun b δ1=>if b=true then u δ1 K else K false δ1
def iE(t u:WT):WT:=fun δ K=>t δ fun b δ1=>if b=true then K true δ1 else u δ1 K
def bS(t:WT):WT:=fun δ K=>t δ fun b δ1=>K (!b) δ1
def tu(t:WT)(f g:WE):WE:=fun δ K=>t δ fun b δ1=>if b=true then f δ1 K else g δ1 K
def jm(f g:WE):WE:=fun δ K=>f δ fun x δ1=>tj x fun b=>if b=true then g δ1 K else K (.p (.bl false)) δ1
def xP(f:WE):WE:=fun δ K=>f δ fun x δ1=>tj x fun b=>K (.p (.bl (!b))) δ1
theorem vE{F:Hp}{ad:List Addr}{x:DV}{v:V}{P:Bool->Prop}(hv:fD F ad x v)(h:tj x P):∃b,v=.bl b/\P b:=by
 unfold tj at h;split at h
 ·rename_i b
  exact⟨b,hv,h⟩
 ·exact h.elim
theorem vF(ha:JE X a (tD f))(he:∀whole,isTrue a X.env whole=(do let v <- whole;standAt a.pos;holding [v] (truthy v)):=by intro _;rfl):JT X a (cA (dT f)) :=
 (Ak ha he).weak fun σ H Q h0_=>el7 h0_ fun F ad δ K S q k =>⟨F,ad,δ,_,S,q,fun x δ1 h1 v F1 aN H1 E1 S1 V1=>by
  obtain⟨b,rfl,h2⟩:=vE V1 h1
  exact⟨b,rfl,k _ _ h2 _ _ _ E1 S1⟩⟩
theorem lA{op:CmpOp}{o:D->D->(D->Prop)->Prop}(ho:eM X (compareOp op) o)(ha:JE X a (tD f))(hb:JE X b (tD g))(hm:behindInMarks op b=false):JT X (.Compare a [op] [b] pos) (cA (dT (d2 f g o))) :=
 (AG ho ha hb hm).weak fun σ H Q h0_=>el7 h0_ fun F ad δ K S q k =>xN (ta:=tD f) (tb:=tD g) (fun _ _ _ _ h=>h) σ H _ ⟨F,ad,δ,_,S,q,fun x δ1 h1 v F1 aN H1 E1 S1 V1=>by
  obtain⟨b,rfl,h2⟩:=vE V1 h1
  exact⟨b,rfl,k _ _ h2 _ _ _ E1 S1⟩⟩
theorem Rk(ha:JT X a (cA t)):JT X (.UnaryOp .Not a pos) (cA (bS t)):=(An ha).weak fun σ H Q h0_=>el7 h0_ fun F ad δ K S q k =>⟨F,ad,δ,_,S,q,fun b δ1 h1 F1 aN H1 E1 S1=>k _ _ h1 _ _ _ E1 S1⟩
theorem Rl:∀σ H Q,cA (lz t u) σ H Q->uz (cA t) (cA u) σ H Q:=fun σ H Q h0_=>el7 h0_ fun F ad δ K S q k =>⟨F,ad,δ,_,S,q,fun b δ1 h1 F1 aN H1 E1 S1=>by
 cases b with
 |true =>
  rw[q0f rfl] at h1 ⊢;exact⟨F1,aN,δ1,_,S1,h1,fun b δ2 h2 F2 cw H2 E2 S2=>k _ _ h2 _ _ _ (E1.trans E2) S2⟩
 |false =>
  rw[q0a PH] at h1 ⊢
  exact k _ _ h1 _ _ _ E1 S1⟩
theorem Rm:∀σ H Q,cA (iE t u) σ H Q->Gu (cA t) (cA u) σ H Q:=fun σ H Q h0_=>el7 h0_ fun F ad δ K S q k =>⟨F,ad,δ,_,S,q,fun b δ1 h1 F1 aN H1 E1 S1=>by
 cases b with
 |false =>
  rw[q0a PH] at h1 ⊢;exact⟨F1,aN,δ1,_,S1,h1,fun b δ2 h2 F2 cw H2 E2 S2=>k _ _ h2 _ _ _ (E1.trans E2) S2⟩
 |true =>
  rw[q0f rfl] at h1 ⊢
  exact k _ _ h1 _ _ _ E1 S1⟩
theorem JW.weak{e:Expr}{t t':TT}(h:JW X e t)(k:∀σ H Q,t' σ H Q->t σ H Q):JW X e t':=⟨fun wh pins s σ H Q I q=>h wh pins s σ H Q I (k σ H Q q)⟩
theorem Rn(ha:JT X a (cA t)):JW X (.BoolOp .And [a] pos) (cA t):=N9 ha
theorem BS(ha:JT X a (cA t)):JW X (.BoolOp .Or [a] pos) (cA t):=Gv ha
theorem Ip{rest:List Expr}(ha:JT X a (cA t))(hb:JW X (.BoolOp .And (b::rest) pos) (cA u)):JW X (.BoolOp .And (a::b::rest) pos) (cA (lz t u)):=(N_ ha hb).weak Rl
theorem xQ{rest:List Expr}(ha:JT X a (cA t))(hb:JW X (.BoolOp .Or (b::rest) pos) (cA u)):JW X (.BoolOp .Or (a::b::rest) pos) (cA (iE t u)):=(Am ha hb).weak Rm
theorem xS{op}(ha:JE X a (tD f)):JE X (.BoolOp op [a] pos) (tD f):=Oc ha
theorem vG{rest:List Expr}(ha:JE X a (tD f))(hb:JE X (.BoolOp .And (b::rest) pos) (tD g)):JE X (.BoolOp .And (a::b::rest) pos) (tD (jm f g)) :=
 (Od ha hb).weak fun σ H Q h0_=>el7 h0_ fun F ad δ K S q k =>⟨F,ad,δ,_,S,q,fun x δ1 h1 v F1 aN H1 E1 S1 V1=>by
  obtain⟨b,rfl,h2⟩:=vE V1 h1;refine⟨b,rfl,?_⟩
  cases b with
  |true =>
   rw[q0f rfl] at h2 ⊢;exact⟨F1,aN,δ1,_,S1,h2,fun x δ2 h3 v F2 cw H2 E2 S2 V2=>k _ _ h3 _ _ _ _ (E1.trans E2) S2 V2⟩
  |false =>
   rw[q0a PH] at h2 ⊢
   exact k _ _ h2 _ _ _ _ E1 S1 rfl⟩
theorem Ro(ha:JE X a (tD f)):JE X (.UnaryOp .Not a pos) (tD (xP f)) :=
 (Oe ha).weak fun σ H Q h0_=>el7 h0_ fun F ad δ K S q k =>⟨F,ad,δ,_,S,q,fun x δ1 h1 v F1 aN H1 E1 S1 V1=>by
  obtain⟨b,rfl,h2⟩:=vE V1 h1
  exact⟨b,rfl,k _ _ h2 _ _ _ _ E1 S1 rfl⟩⟩
theorem Rp(hc:JT X c (cA t))(ha:JE X a (tD f))(hb:JE X b (tD g)):JE X (.IfExp c a b pos) (tD (tu t f g)) :=
 (Ao hc ha hb).weak fun σ H Q h0_=>el7 h0_ fun F ad δ K S q k =>⟨F,ad,δ,_,S,q,fun b δ1 h1 F1 aN H1 E1 S1=>by
  cases b with
  |true =>
   rw[q0f rfl] at h1 ⊢;exact⟨F1,aN,δ1,_,S1,h1,fun x δ2 h3 v F2 cw H2 E2 S2 V2=>k _ _ h3 _ _ _ _ (E1.trans E2) S2 V2⟩
  |false =>
   rw[q0a PH] at h1 ⊢
   exact⟨F1,aN,δ1,_,S1,h1,fun x δ2 h3 v F2 cw H2 E2 S2 V2=>k _ _ h3 _ _ _ _ (E1.trans E2) S2 V2⟩⟩
end
structure KS where
 nx:au->Prop
 rt:DV->au->Prop
 bk:au->Prop:=fun _=>False
 ct:au->Prop:=fun _=>False
abbrev WS:=KS->au->Prop
def Cn(F:Hp)(ad:List Addr)(mu:List (Option OV))(H:Hp)(P:au->Prop)(R:St->Hp->Prop):Prop:=∀δ',P δ'->∀F' aw σ' H',Ext F ad mu H F' aw δ'.mu H'->SR F' aw δ' σ' H'->R σ' H'
class bL where
 ok:Nat->Int->Prop
 kp:List Addr->List (Option OV)->Hp->Prop
 st:∀{F ad mu H F' aw cN H'},Ext F ad mu H F' aw cN H'->kp ad mu H->kp aw cN H'
instance (priority:=low) Rq:bL:=⟨fun _ _=>False,fun _ _ _=>True,fun _ _=>trivial⟩
section
variable[bL]
structure tw(F:Hp)(ad:List Addr)(mu:List (Option OV))(H:Hp)(K:KS)(D:Ends):Prop where
 nx:Cn F ad mu H K.nx D.nx
 bk:Cn F ad mu H K.bk D.bk
 ct:Cn F ad mu H K.ct D.ct
 rt:∀x δ',K.rt x δ'->∀v F' aw σ' H',Ext F ad mu H F' aw δ'.mu H'->SR F' aw δ' σ' H'->fD F' aw x v->D.rt v H'
 kp:bL.kp ad mu H
theorem Cn.ext{F F' H H':Hp}{ad aw:List Addr}{mu cN:List (Option OV)}{P:au->Prop}{R:St->Hp->Prop}(c:Cn F ad mu H P R)(e:Ext F ad mu H F' aw cN H'):Cn F' aw cN H' P R:=fun δ' h _ _ _ _ E S=>c δ' h _ _ _ _ (e.trans E) S
theorem tw.ext{F F' H H':Hp}{ad aw:List Addr}{mu cN:List (Option OV)}{K:KS}{D:Ends}(c:tw F ad mu H K D)(e:Ext F ad mu H F' aw cN H'):tw F' aw cN H' K D :=
 ⟨c.nx.ext e,c.bk.ext e,c.ct.ext e,fun x δ' h _ _ _ _ _ E S V=>c.rt x δ' h _ _ _ _ _ (e.trans E) S V,bL.st e c.kp⟩
def b9(G:WS):TS:=fun D σ H=>∃F ad δ K,SR F ad δ σ H/\G K δ/\tw F ad δ.mu H K D
def ak(G G':WS):WS:=fun K δ=>G {K with nx:=G' K} δ
def cG:WS:=fun K δ=>K.nx δ
def aE(i:Nat)(f:WE):WS:=fun K δ=>f δ fun x δ1=>K.nx ⟨δ1.sl.set i (some x),δ1.mu⟩
def lB(f:WE):WS:=fun K δ=>f δ fun _ δ1=>K.nx δ1
def aC(f:WE):WS:=fun K δ=>f δ fun x δ1=>K.rt x δ1
def bf(t:WT)(G G':WS):WS:=fun K δ=>t δ fun b δ1=>if b=true then G K δ1 else G' K δ1
section
variable{X:Cx}{e c:Expr}{st:Stmt}{rest:List Stmt}{f:WE}{t:WT}{G G':WS}{pos:Pos}
theorem rA:bz X [] (b9 cG):=jg.weak fun D σ H h0_=>el7 h0_ fun F ad δ K S q k =>k.nx _ q _ _ _ _ .refl S
theorem mO(h:JS X st (b9 G)):bz X [st] (b9 G):=mE h
theorem mP(h:JS X st (b9 G))(r:bz X rest (b9 G')):bz X (st::rest) (b9 (ak G G')) :=
 (nN h r).weak fun D σ H h0_=>el7 h0_ fun F ad δ K S q k =>⟨F,ad,δ,_,S,q,⟨fun δ' h _ _ _ _ E S'=>⟨_,_,δ',K,S',h,k.ext E⟩,k.bk,k.ct,k.rt,k.kp⟩⟩
theorem Rr{i:Nat}:∀D σ H,b9 (aE i f) D σ H->cU (tD f) (hU i) D σ H:=fun D σ H h0_=>el7 h0_ fun F ad δ K S q k =>⟨F,ad,δ,_,S,q,fun x δ1 h1 v F1 aN H1 E1 S1 V1=>k.nx _ h1 _ _ _ _ E1 (S1.set V1)⟩
theorem BU{i:Nat}{x:Str}{pos':Pos}(hN:X.N.Nodup)(hi:X.N[i]?=some x)(hx:Loc X.env.scope x)(he:JE X e (tD f))(hs:swapsWith e (some (.Name x pos')) pos.line X.env=pure false:=by rfl)
  (hf:dG X x:=by first|exact .inl rfl|exact .inr rfl|assumption):JS X (.Assign [.Name x pos'] e pos) (b9 (aE i f)):=(nP hN hi hx he hs hf).weak Rr
theorem Iq(he:JE X e (tD f))(hs:swapsWith e none pos.line X.env=pure false:=by rfl):JS X (.Expr e pos) (b9 (lB f)) :=
 (Aq he hs).weak fun D σ H h0_=>el7 h0_ fun F ad δ K S q k =>⟨F,ad,δ,_,S,q,fun x δ1 h1 v F1 aN H1 E1 S1 V1=>k.nx _ h1 _ _ _ _ E1 S1⟩
theorem om(he:JE X e (tD f)):JS X (.Return (some e) pos) (b9 (aC f)) :=
 (sM he).weak fun D σ H h0_=>el7 h0_ fun F ad δ K S q k =>⟨F,ad,δ,_,S,q,fun x δ1 h1 v F1 aN H1 E1 S1 V1=>k.rt _ _ h1 _ _ _ _ _ E1 S1 V1⟩
theorem rB{a b:List Stmt}(hc:JT X c (cA t))(ha:bz X a (b9 G))(hb:bz X b (b9 G')):JS X (.If c a b pos) (b9 (bf t G G')) :=
 (Gy hc ha hb).weak fun D σ H h0_=>el7 h0_ fun F ad δ K S q k =>⟨F,ad,δ,_,S,q,fun b δ1 h1 F1 aN H1 E1 S1=>by
  cases b with
  |true =>
   rw[q0f rfl] at h1 ⊢;exact⟨F1,aN,δ1,K,S1,h1,k.ext E1⟩
  |false =>
   rw[q0a PH] at h1 ⊢
   exact⟨F1,aN,δ1,K,S1,h1,k.ext E1⟩⟩
def pY:WS:=fun _ _=>False
theorem Ir:bz X rest (b9 pY):=jC.weak fun D σ H h0_=>el7 h0_ fun F ad δ K S q k =>q.elim
abbrev WG:=DV->au->(au->Prop)->Prop
def jn(g:WG):TG:=fun v σ H Q=>∃F ad δ x K,SR F ad δ σ H/\fD F ad x v/\g x δ K/\Cn F ad δ.mu H K Q
abbrev rC:=List D->au->(au->Prop)->Prop
def oo(g:rC):j8:=fun vs σ H Q=>∃F ad δ ds K,SR F ad δ σ H/\ae F ds vs/\g ds δ K/\Cn F ad δ.mu H K Q
def bj(i:Nat):WG:=fun x δ K=>K ⟨δ.sl.set i (some x),δ.mu⟩
def ij:rC:=fun ds δ K=>match ds with
 |[]=>K δ
 |_=>False
def dR(g:WG)(g':rC):rC:=fun ds δ K=>match ds with
 |d::r=>g (.p d) δ fun δ1=>g' r δ1 K
 |[]=>False
theorem JG.weak{tg:Expr}{t t':TG}(h:JG X tg t)(k:∀v σ H Q,t' v σ H Q->t v σ H Q):JG X tg t':=⟨fun pins s σ H v u Q I r q=>h pins s σ H v u Q I r (k v σ H Q q)⟩
theorem jh.weak{ts:List Expr}{t t':j8}(h:jh X ts t)(k:∀v σ H Q,t' v σ H Q->t v σ H Q):jh X ts t':=⟨fun pins s σ H v u Q I r q=>h pins s σ H v u Q I r (k v σ H Q q)⟩
theorem xT{i:Nat}{x:Str}(hN:X.N.Nodup)(hi:X.N[i]?=some x)(hx:Loc X.env.scope x)(hf:dG X x:=by first|exact .inl rfl|exact .inr rfl|assumption):JG X (.Name x pos) (jn (bj i)) :=
 (uB hN hi hx hf).weak fun v σ H Q ⟨F,ad,δ,x,K,S,V,q,k⟩=>k _ q _ _ _ _ .refl (S.set V)
theorem Iu:jh X [] (oo ij):=gu.weak fun vs σ H Q ⟨F,ad,δ,ds,K,S,V,q,k⟩=>by
 unfold ij at q;split at q
 ·simp only[ae] at V
  exact⟨V,k _ q _ _ _ _ .refl S⟩
 ·exact q.elim
theorem BV{es:List Expr}{g:WG}{g':rC}(h1:JG X e (jn g))(h2:jh X es (oo g'))(hs:(assignEach (e::es) X.env).map (·.2)=assign e X.env::(assignEach es X.env).map (·.2):=by rfl):jh X (e::es) (oo (dR g g')) :=
 (uD h1 h2 hs).weak fun vs σ H Q ⟨F,ad,δ,ds,K,S,V,q,k⟩=>by
  unfold dR at q;split at q
  ·rename_i d r
   simp only[ae] at V;obtain⟨v,r',e,i1,i2⟩:=V;exact⟨v,r',e,F,ad,δ,.p d,_,S,i1,q,fun δ' h _ _ _ _ E S'=>⟨_,_,δ',r,K,S',i2.same E.same,h,k.ext E⟩⟩
  ·exact q.elim
def iF(n:Nat)(g:rC):WG:=fun x δ K=>gz x δ fun d=>match d with
 |.tup ds=>ds.length=n/\g ds δ K
 |.lst ds=>ds.length=n/\g ds δ K
 |_=>False
theorem JG.or{tg:Expr}{t t':TG}(h:JG X tg t)(h':JG X tg t'):JG X tg (fun v σ H Q=>t v σ H Q\/t' v σ H Q):=⟨fun pins s σ H v u Q I r q=>q.elim (fun q=>h pins s σ H v u Q I r q) fun q=>h' pins s σ H v u Q I r q⟩
theorem Iv{es:List Expr}{k:Nat}{g:rC}{n:Nat}(hc:X.calm=true)(h:jh X es (oo g))(hn:(assignEach es X.env).length=n:=by rfl)(gP:(assignEach es X.env).findIdx? (·.1)=none:=by rfl):JG X (.Tuple es k pos) (jn (iF n g)) :=
 ((Au hc h hn gP).or (Q9 hc h hn gP)).weak fun v σ H Q ⟨F,ad,δ,x,K,S,V,q,k⟩=>by
  obtain⟨d,q,rd⟩:=jM S V q;split at q
  ·rename_i ds
   have xU:Is F (.tup ds) v:=rd;simp only[Is] at xU;obtain⟨a,vs,e,h1,h2⟩:=xU;exact .inl ⟨a,vs,e,bw.of (S.sub _ _ h1),by rw[h2.length];exact q.1,F,ad,δ,ds,K,S,h2,q.2,k⟩
  ·rename_i ds
   obtain⟨a,vs,e,h1,h2⟩:=rd;exact .inr ⟨a,vs,e,aZ.of h1,by rw[h2.length];exact q.1,F,ad,δ,ds,K,S,h2,q.2,k⟩
  ·exact q.elim
def iV(f:WE)(g:WG):WS:=fun K δ=>f δ fun x δ1=>g x δ1 K.nx
theorem Rt{tg:Expr}{g:WG}(he:JE X e (tD f))(hg:JG X tg (jn g))(hs:swapsWithSole [tg] e pos.line X.env=pure false:=by rfl)(hw:swappedStores [tg] e X.env=pure none:=by rfl)
  (h1:(assignEach [tg] X.env).map (·.2)=[assign tg X.env]:=by rfl):JS X (.Assign [tg] e pos) (b9 (iV f g)) :=
 (Av he hg hs hw h1).weak fun D σ H h0_=>el7 h0_ fun F ad δ K S q k =>⟨F,ad,δ,_,S,q,fun x δ1 h1 v F1 aN H1 E1 S1 V1=>⟨F1,aN,δ1,x,K.nx,S1,V1,h1,k.nx.ext E1⟩⟩
end
end
structure pZ where
 items:List D
 bp:au->Prop
abbrev WI:=au->(pZ->au->Prop)->Prop
def rD(F:Hp)(ad:List Addr)(it:pZ)(J:It):Prop:=∀(F':Hp)(aw:List Addr)(δ:au)(σ:St)(H:Hp),ar F F'->(∀(k:Nat)(a:Addr),ad[k]?=some a->aw[k]?=some a)->SR F' aw δ σ H->it.bp δ →
 J.stop it.items.length H/\∀(i:Nat)(d:D),it.items[i]?=some d->J.go i H/\∀x H',J.sN i H x H'->ar H H'/\Is (Nw F' H H') d x
def jo(w:WI):TI:=fun σ H R=>∃F ad δ K,SR F ad δ σ H/\w δ K/\∀it δ',K it δ'->∀J F' aw H',Ext F ad δ.mu H F' aw δ'.mu H'->SR F' aw δ' σ H'->rD F' aw it J->R J H'
noncomputable def vH(n:Nat):Option DV->Option DV->Option DV
 |none,_=>none
 |some _,some (.o k)=>if k<n then some (.o k) else none
 |some _,s=>s
noncomputable def fK(n:Nat):List (Option DV)->List (Option DV)->List (Option DV)
 |s0::r0,s::r=>vH n s0 s::fK n r0 r
 |[],_::r=>none::fK n [] r
 |_,[]=>[]
noncomputable def au.trim(δ0 δ:au):au:=⟨fK δ0.mu.length δ0.sl δ.sl,δ.mu.take δ0.mu.length⟩
theorem BW{n:Nat}:∀(l0 l:List (Option DV)),(fK n l0 l).length=l.length
 |_::r0,_::r=>by rw[fK,Hc,Hc,BW r0 r]
 |[],_::r=>by rw[fK,Hc,Hc,BW [] r]
 |[],[]=>rfl
 |_::_,[]=>rfl
theorem BX{n:Nat}:∀{l0 l:List (Option DV)}{i:Nat}{x:DV},(fK n l0 l)[i]?=some (some x)->l[i]?=some (some x)/\∀k,x=.o k->k<n
 |s0::r0,s::r,0,x,h=>by
  have h:vH n s0 s=some x:=by simpa[fK] using h
  match s0,s,h with
  |none,_,h=>cases h
  |some _,none,h=>cases h
  |some _,some (.p d),h=>cases(show some (DV.p d)=some x from h);exact⟨rfl,fun k e=>nomatch e⟩
  |some _,some (.o k),h =>
   have h:(if k<n then some (DV.o k) else none)=some x:=h
   by_cases c:k<n
   ·rw[q0f c] at h;cases h;exact⟨rfl,fun k' e=>by cases e;exact c⟩
   ·rw[q0a c] at h;cases h
 |s0::r0,s::r,i+1,x,h=>by
  have h:(fK n r0 r)[i]?=some (some x):=by simpa[fK] using h
  simpa using BX h
 |[],s::r,0,x,h=>by simp[fK] at h
 |[],s::r,i+1,x,h=>by
  have h:(fK n [] r)[i]?=some (some x):=by simpa[fK] using h
  simpa using BX h
 |[],[],i,x,h=>by simp[fK] at h
 |_::_,[],i,x,h=>by simp[fK] at h
section
variable{F F' H H':Hp}{ad aw:List Addr}{δ δ' δ0:au}{σ σ' τ:St}{mu cN:List (Option OV)}{l:Addr}{o:HO}
theorem Lv.take{n:Nat}{a:Addr}(h:Lv (ad.take n) (mu.take n) a):Lv ad mu a:=by
 obtain⟨k,ov,e1,e2⟩:=h
 have hk:k<n:=by
  have:=(sR.mp e1).1;rw[q0L] at this;omega
 rw[q1f hk] at e1 e2;exact⟨k,ov,e1,e2⟩
theorem SR.trim(S:SR F ad δ σ H):SR F (ad.take δ0.mu.length) (δ0.trim δ) σ H:=by
 have tk:∀{k:Nat}{a:Addr},(ad.take δ0.mu.length)[k]?=some a->k<δ0.mu.length/\ad[k]?=some a:=fun{k a} e=>by
  have hk:k<δ0.mu.length:=by
   have:=(sR.mp e).1;rw[q0L] at this;omega
  rw[q1f hk] at e;exact⟨hk,e⟩
 have tm:∀{k:Nat}{w:Option OV},(δ.mu.take δ0.mu.length)[k]?=some w->k<δ0.mu.length/\δ.mu[k]?=some w:=fun{k w} e=>by
  have hk:k<δ0.mu.length:=by
   have:=(sR.mp e).1;rw[q0L] at this;omega
  rw[q1f hk] at e;exact⟨hk,e⟩
 refine⟨S.sub,fun a x=>S.off a x.take,?_,fun k l a w w' e1 e2 e3 e4=>S.inj k l a w w' (tk e1).2 (tk e2).2 (tm e3).2 (tm e4).2,fun k ov e=>?_,fun i x e=>?_,?_,S.tab,S.nt⟩
 ·show(ad.take _).length=(δ.mu.take _).length
  rw[q0L,q0L,S.cb]
 ·obtain⟨a,o,e1,e2,h⟩:=S.mu k ov (tm e).2
  exact⟨a,o,by rw[q1f (tm e).1];exact e1,e2,h⟩
 ·obtain⟨e1,e2⟩:=BX e
  obtain⟨v,h1,h2⟩:=S.sl i x e1;refine⟨v,h1,?_⟩
  cases x with
  |p d=>exact h2
  |o k =>
   obtain⟨a,h3,h4⟩:=h2;exact⟨a,by rw[q1f (e2 k rfl)];exact h3,h4⟩
 ·show σ.length=(fK _ _ _).length
  rw[BW];exact S.len
theorem Ext.trim{n:Nat}(e:Ext F ad mu H F' aw cN H')(hn:ad.length=n):Ext F ad mu H F' (aw.take n) (cN.take n) H' :=
 ⟨e.same,e.new,e.keep,fun k a h=>by rw[q1f (by rw[<-hn];exact(sR.mp h).1)];exact e.pre k a h,fun a x=>e.bV a x.take,e.ig⟩
theorem SR.other(S:SR F ad δ σ H)(hf:F l=none)(hl:¬ Lv ad δ.mu l)(tk:aB.ok (upd H l o)):SR F ad δ σ (upd H l o):=by
 refine⟨fun a u e=>?_,S.off,S.cb,S.inj,fun k ov e=>?_,S.sl,S.len,tk,S.nt⟩
 ·rw[av (bH e hf)];exact S.sub a u e
 ·obtain⟨a,u,e1,e2,h⟩:=S.mu k ov e
  exact⟨a,u,e1,by rw[av fun z=>hl (by subst z;exact⟨k,ov,e1,e⟩)];exact e2,h⟩
theorem Ext.other(e:Ext F ad mu H F' aw cN H')(hl:H l=none):Ext F ad mu H F' aw cN (upd H' l o) :=
 ⟨e.same,e.new,fun a u h n t=>by rw[av (bH h hl)];exact e.keep a u h n t,e.pre,e.bV,fun a u h=>by rw[av (bH h hl)];exact e.ig a u h⟩
theorem SR.adopt(S:SR F ad δ σ H)(hf:F l=none)(ho:H l=some o)(hl:¬ Lv ad δ.mu l)(no:∀ps,o≠.tbl ps:=by intro _ z;cases z):SR (upd F l o) ad δ σ H:=by
 have sm:ar F (upd F l o):=b7 hf
 refine⟨fun a u e=>?_,fun a x=>?_,S.cb,S.inj,fun k ov e=>?_,fun i x e=>?_,S.len,S.tab,fun a ha=>by
  obtain⟨ps,q⟩:=aB.tb S.tab ha;rw[av fun z=>by subst z;rw[ho] at q;exact no ps (q0E q)]
  exact S.nt a ha⟩
 ·by_cases c:a=l
  ·subst c;rw[a_] at e;cases e;exact ho
  ·rw[av c] at e;exact S.sub a u e
 ·rw[av fun z=>hl (by subst z;exact x)];exact S.off a x
 ·obtain⟨a,u,e1,e2,h⟩:=S.mu k ov e
  exact⟨a,u,e1,e2,h.same sm⟩
 ·obtain⟨v,e1,h⟩:=S.sl i x e
  refine⟨v,e1,?_⟩
  cases x with
  |p d=>exact Is.same sm h
  |o k=>exact h
theorem Ext.adopt(e:Ext F ad mu H F' aw cN H')(hl:H l=none)(hf:F' l=none):Ext F ad mu H (upd F' l o) aw cN H' :=
 ⟨e.same.trans (b7 hf),fun a u h=>by
  by_cases c:a=l
  ·subst c;exact .inr (.inl hl)
  ·rw[av c] at h;exact e.new a u h,e.keep,e.pre,e.bV,e.ig⟩
theorem SR.dS{ov:OV}(S:SR F ad δ σ H)(hf:F l=none)(ho:H l=some o)(hl:¬ Lv ad δ.mu l)(h:fJ F ov o):SR F (ad++[l]) ⟨δ.sl,δ.mu++[some ov]⟩ σ H:=by
 have old:∀{k:Nat}{w:OV},(δ.mu++[some ov])[k]?=some (some w)->(k<δ.mu.length/\δ.mu[k]?=some (some w))\/(k=δ.mu.length/\w=ov):=fun{k w} e=>by
  by_cases c:k<δ.mu.length
  ·rw[q0j c] at e;exact .inl ⟨c,e⟩
  ·have hl:=(sR.mp e).1
   rw[Hd,q0O] at hl;have ek:k=δ.mu.length:=by omega
   subst ek;rw[q0k (Bi _),q1r] at e;exact .inr ⟨rfl,by simpa using e.symm⟩
 have pre:∀{k:Nat},k<δ.mu.length->(ad++[l])[k]?=ad[k]?:=fun{k} c=>q0j (by rw[S.cb];exact c);have last:(ad++[l])[δ.mu.length]?=some l:=by rw[<-S.cb,q0k (Bi _),q1r];rfl
 refine⟨S.sub,fun a x=>?_,by rw[Hd,Hd,S.cb];rfl,fun k k' a w w' e1 e2 e3 e4=>?_,fun k w e=>?_,fun i x e=>?_,S.len,S.tab,S.nt⟩
 ·obtain⟨k,w,e1,e2⟩:=x
  rcases old e2 with⟨c,e3⟩|⟨c,e3⟩
  ·rw[pre c] at e1;exact S.off a ⟨k,w,e1,e3⟩
  ·subst c;rw[last] at e1;cases e1;exact hf
 ·rcases old e3 with⟨c,q⟩|⟨c,q⟩
  ·rw[pre c] at e1
   rcases old e4 with⟨c',q'⟩|⟨c',q'⟩
   ·rw[pre c'] at e2;exact S.inj k k' a w w' e1 e2 q q'
   ·subst c';rw[last] at e2;cases e2;exact absurd ⟨k,w,e1,q⟩ hl
  ·subst c;rw[last] at e1;cases e1
   rcases old e4 with⟨c',q'⟩|⟨c',q'⟩
   ·rw[pre c'] at e2;exact absurd ⟨k',w',e2,q'⟩ hl
   ·exact c'.symm
 ·rcases old e with⟨c,q⟩|⟨c,q⟩
  ·obtain⟨a,u,e1,e2,h'⟩:=S.mu k w q
   exact⟨a,u,by rw[pre c];exact e1,e2,h'⟩
  ·subst c;subst q;exact⟨l,o,last,ho,h⟩
 ·obtain⟨v,e1,h'⟩:=S.sl i x e
  refine⟨v,e1,?_⟩
  cases x with
  |p d=>exact h'
  |o k =>
   obtain⟨a,e2,e3⟩:=h';exact⟨a,by rw[q0j (sR.mp e2).1];exact e2,e3⟩
theorem Ext.dS{ov:OV}(e:Ext F ad mu H F' aw cN H')(hl:H l=none)(hm:aw.length=cN.length):Ext F ad mu H F' (aw++[l]) (cN++[some ov]) H' :=
 ⟨e.same,e.new,e.keep,fun k a h=>by rw[q0j (sR.mp (e.pre k a h)).1];exact e.pre k a h,fun a x=>by
  obtain⟨k,w,e1,e2⟩:=x
  by_cases c:k<cN.length
  ·rw[q0j c] at e2
   rw[q0j (by rw[hm];exact c)] at e1;exact e.bV a ⟨k,w,e1,e2⟩
  ·have gU:=(sR.mp e2).1
   rw[Hd,q0O] at gU;have ek:k=aw.length:=by rw[hm];omega
   subst ek;rw[q0k (Bi _),q1r] at e1;have:l=a:=by simpa using e1
   subst this;exact .inr hl,e.ig⟩
theorem SR.back{sl:List (Option DV)}(S0:SR F ad δ σ H)(e:Ext F ad δ.mu H F' aw cN H')(S:SR F' aw ⟨sl,cN⟩ τ H'):SR F' aw ⟨δ.sl,cN⟩ σ H' :=
 ⟨S.sub,S.off,S.cb,S.inj,S.mu,fun i x q=>let⟨v,h1,h2⟩:=S0.sl i x q;⟨v,h1,h2.ext e⟩,S0.len,S.tab,S.nt⟩
noncomputable def cH(cp:List (Option Nat))(sl:List (Option DV)):List (Option DV):=cp.map fun o=>match o with
 |some i=>(sl[i]?).join
 |none=>none
theorem SR.vI{cp:List (Option Nat)}(S:SR F ad δ σ H):SR F ad ⟨cH cp δ.sl,δ.mu⟩ (iD cp σ) H:=by
 refine⟨S.sub,S.off,S.cb,S.inj,S.mu,fun j x e=>?_,by unfold iD cH;rw[qU,qU],S.tab,S.nt⟩;unfold cH at e;rw[q0b] at e;obtain⟨o,e1,e2⟩:=q0g.mp e
 match o,e2 with
 |none,e2=>cases e2
 |some i,e2 =>
  have e2:(δ.sl[i]?).join=some x:=e2
  cases q:δ.sl[i]? with
  |none=>rw[q] at e2;cases e2
  |some z =>
   rw[q] at e2;have e3:z=some x:=e2;subst e3;obtain⟨v,h1,h2⟩:=S.sl i x q;refine⟨v,?_,h2⟩;unfold iD;rw[q0b,e1];show some ((σ[i]?).join)=some (some v);rw[h1];rfl
end
def km(δ0:au)(bp:au->Prop)(g:WG)(b:WS)(K:KS):List D->au->Prop
 |[],δ=>bp δ/\K.nx δ
 |d::r,δ=>bp δ/\g (.p d) δ fun δ1=>b {nx:=fun δ2=>km δ0 bp g b K r (δ0.trim δ2),ct:=fun δ2=>km δ0 bp g b K r (δ0.trim δ2),bk:=K.nx,rt:=K.rt} δ1
def cY(w:WI)(g:WG)(b:WS):WS:=fun K δ=>w δ fun it δ1=>km δ1 it.bp g b K it.items δ1
def jq(δ0:au)(bp:au->Prop)(g:WG)(t:WT)(f:WE)(K:List D->au->Prop):List D->List D->au->Prop
 |[],acc,δ=>bp δ/\K acc δ
 |d::r,acc,δ=>bp δ/\g (.p d) δ fun δ1=>t δ1 fun b δ2=>if b=true then f δ2 fun x δ3=>oj x δ3 fun e δ4=>acc.length<1000/\jq δ0 bp g t f K r (acc++[e]) (δ0.trim δ4) else jq δ0 bp g t f K r acc (δ0.trim δ2)
def eA(w:WI)(cp:List (Option Nat))(g:WG)(t:WT)(f:WE):WE:=fun δ K=>w δ fun it δ1=>jq ⟨cH cp δ1.sl,δ1.mu⟩ it.bp g t f (fun acc δ'=>K (.p (.lst acc)) ⟨δ1.sl,δ'.mu⟩) it.items [] ⟨cH cp δ1.sl,δ1.mu⟩
def p9(w:WI)(cp:List (Option Nat))(g:WG)(t:WT)(f:WE):WE:=fun δ K=>w δ fun it δ1=>jq ⟨cH cp δ1.sl,δ1.mu⟩ it.bp g t f (fun acc δ'=>K (.o δ'.mu.length) ⟨δ1.sl,δ'.mu++[some (.lst acc)]⟩) it.items [] ⟨cH cp δ1.sl,δ1.mu⟩
section
variable{X:Cx}{tg iter elt:Expr}{body:List Stmt}{w:WI}{g:WG}{b:WS}{pos:Pos}{ifs:List Expr}{t:WT}{f:WE}{scope:Scope}
theorem Iw[bL](hp:PassesOwn (model X.prog X.w) X.A X.env X.xe)(hc:X.calm=true)(hi:JI X tg iter (jo w))(hg:JG X tg (jn g))(hb:bz X body (b9 b))(hs:∀x,foldedSetIterable iter X.env x=pure x:=by intro _;rfl):
  JS X (.For tg iter body [] pos) (b9 (cY w g b)):=(Az hp hc hi hg hb hs).weak fun D σ H h0_=>el7 h0_ fun F ad δ K S q k =>by
 refine⟨F,ad,δ,_,S,q,fun it δ1 h1 J F1 aN H1 E1 S1 I1=>?_⟩;have k1:=k.ext E1;refine⟨fun i m σ' H'=>∃F' aw δ',i+m=it.items.length/\Ext F1 aN δ1.mu H1 F' aw δ'.mu H'/\SR F' aw δ' σ' H'/\km δ1 it.bp g b K (it.items.drop i) δ',⟨it.items.length,F1,aN,δ1,by omega,.refl,S1,h1⟩,?_⟩;rintro i m σ' H' ⟨F',aw,δ',hm,E',S',h⟩
 by_cases cB:i<it.items.length
 ·rw[q07 cB] at h
  obtain⟨ck,h⟩:=h;obtain⟨go,yl⟩:=(I1 F' aw δ' σ' H' E'.same E'.pre S' ck).2 i _ (qV cB);refine .inr ⟨go,fun σ2 H2=>∃F2 cw δ2,Ext F1 aN δ1.mu H1 F2 cw δ2.mu H2/\SR F2 cw δ2 σ2 H2/\km δ1 it.bp g b K (it.items.drop (i+1)) δ2,fun σ2 H2 ⟨F2,cw,δ2,e1,e2,e3⟩=>⟨m-1,by omega,F2,cw,δ2,by omega,e1,e2,e3⟩,fun x H2 y=>?_⟩;obtain⟨sm,is⟩:=yl x H2 y;have E2:=E'.trans (Ext.al S' sm);refine⟨_,aw,δ',.p _,_,S'.al sm,is,h,fun δ3 h3 F3 tE σ3 H3 E3 S3=>?_⟩;have vJ:=E2.trans E3;refine⟨F3,tE,δ3,_,S3,h3,⟨fun δ4 h4 F4 xV σ4 H4 E4 S4=>⟨F4,_,_,(vJ.trans E4).trim S1.cb,S4.trim,h4⟩,k1.nx.ext vJ,fun δ4 h4 F4 xV σ4 H4 E4 S4=>⟨F4,_,_,(vJ.trans E4).trim S1.cb,S4.trim,h4⟩,(k1.ext vJ).rt,(k1.ext vJ).kp⟩⟩
 ·have ei:i=it.items.length:=by omega
  subst ei;rw[q3H (Bi _)] at h;obtain⟨ck,h⟩:=h;exact .inl ⟨(I1 F' aw δ' σ' H' E'.same E'.pre S' ck).1,k1.nx _ h _ _ _ _ E' S'⟩
def cI:WT:=fun δ K=>K true δ
theorem JF.weak{ifs:List Expr}{t t':TT}(h:JF X ifs t)(k:∀σ H Q,t' σ H Q->t σ H Q):JF X ifs t':=⟨fun pins s σ H Q I q=>h pins s σ H Q I (k σ H Q q)⟩
theorem BY:JF X [] (cA cI):=qX.weak fun σ H Q h0_=>el7 h0_ fun F ad δ K S q k =>k _ _ q _ _ _ .refl S
theorem Ru{c:Expr}(h:JT X c (cA t)):JF X [c] (cA t):=PL h
theorem Iy{J:It}{l:Addr}{F1:Hp}{aN:List Addr}{δ1:au}{σ:St}{H1:Hp}{it:pZ}{cp:List (Option Nat)}{Q:VK}{K:List D->au->Prop}(S1:SR F1 aN δ1 σ H1)(I1:rD F1 aN it J)(hl:H1 l=none)
  (h:jq ⟨cH cp δ1.sl,δ1.mu⟩ it.bp g t f K it.items [] ⟨cH cp δ1.sl,δ1.mu⟩)
  (fin:∀acc δ' F' aw τ H' ys,K acc δ'->Ext F1 aN δ1.mu H1 F' aw δ'.mu H'->SR F' aw δ' τ H'->H' l=some (.lst ys)->F' l=none->¬ Lv aw δ'.mu l->ae F' acc ys->Q (.ref l) H') :
  Hh J (jn g) (cA t) (tD f) l (iD cp σ) (upd H1 l (.lst [])) Q:=by
 have f1:F1 l=none:=by
  cases q:F1 l with
  |none=>rfl
  |some u=>rw[S1.sub l u q] at hl;cases hl
 have nl:∀{ad mu},(∀a,Lv ad mu a->Lv aN δ1.mu a\/H1 a=none)->True:=fun _=>trivial
 have l1:¬ Lv aN δ1.mu l:=fun⟨k,ov,e1,e2⟩=>by
  obtain⟨a,o,e3,e4,_⟩:=S1.mu k ov e2;rw[e1] at e3;cases e3;rw[hl] at e4;cases e4
 have S0:SR F1 aN ⟨cH cp δ1.sl,δ1.mu⟩ (iD cp σ) (upd H1 l (.lst [])):=S1.vI.other f1 l1 (aB.same S1.tab (b7 hl));refine⟨fun i m τ H'=>∃F' aw δ' acc ys,i+m=it.items.length/\Ext F1 aN δ1.mu H1 F' aw δ'.mu H'/\SR F' aw δ' τ H'/\H' l=some (.lst ys)/\F' l=none/\¬ Lv aw δ'.mu l/\ae F' acc ys/\jq ⟨cH cp δ1.sl,δ1.mu⟩ it.bp g t f K (it.items.drop i) acc δ',⟨it.items.length,F1,aN,_,[],[],by omega,Ext.refl.other hl,S0,a_,f1,l1,.nil,h⟩,?_⟩;rintro i m τ H' ⟨F',aw,δ',acc,ys,hm,E',S',gU,oq,p_,ia,h⟩
 by_cases cB:i<it.items.length
 ·rw[q07 cB] at h
  obtain⟨ck,h⟩:=h;obtain⟨go,yl⟩:=(I1 F' aw δ' τ H' E'.same E'.pre S' ck).2 i _ (qV cB)
  have step:∀{F2:Hp}{cw:List Addr}{BZ:List (Option OV)}{H2:Hp},Ext F' aw δ'.mu H' F2 cw BZ H2->H2 l=some (.lst ys)/\F2 l=none/\¬ Lv cw BZ l/\ae F2 acc ys:=fun{F2 cw BZ H2} e=>by
   refine⟨e.keep _ _ gU p_ (fun z=>by obtain⟨ps,q⟩:=aB.tb S1.tab z;rw[hl] at q;cases q),?_,fun z=>?_,ia.same e.same⟩
   ·cases q:F2 l with
    |none=>rfl
    |some u =>
     rcases e.new l u q with z|z|z
     ·rw[oq] at z;cases z
     ·rw[gU] at z;cases z
     ·exact absurd z p_
   ·rcases e.bV l z with z|z
    ·exact p_ z
    ·rw[gU] at z;cases z
  refine .inr ⟨go,fun τ2 H2=>∃F2 cw δ2 ot xW,Ext F1 aN δ1.mu H1 F2 cw δ2.mu H2/\SR F2 cw δ2 τ2 H2/\H2 l=some (.lst xW)/\F2 l=none/\¬ Lv cw δ2.mu l/\ae F2 ot xW/\jq ⟨cH cp δ1.sl,δ1.mu⟩ it.bp g t f K (it.items.drop (i+1)) ot δ2,
   fun τ2 H2 ⟨F2,cw,δ2,ot,xW,r⟩=>⟨m-1,by omega,F2,cw,δ2,ot,xW,by omega,r⟩,fun x H2 y=>?_⟩
  obtain⟨sm,is⟩:=yl x H2 y;have X2:=Ext.al S' sm;refine⟨_,aw,δ',.p _,_,S'.al sm,is,h,fun δ3 h3 F3 tE σ3 H3 X3 S3=>?_⟩;refine⟨F3,tE,δ3,_,S3,h3,fun bb δ4 h4 F4 xV H4 X4 S4=>?_⟩;have B0:=(X2.trans X3).trans X4
  cases bb with
  |false =>
   dsimp only at h4 ⊢;rw[q0a PH] at h4 ⊢;obtain⟨a1,a2,a3,a4⟩:=step B0;exact⟨F4,_,_,acc,ys,(E'.trans B0).trim S1.cb,S4.trim (δ0:=⟨cH cp δ1.sl,δ1.mu⟩),a1,a2,fun z=>a3 z.take,a4,h4⟩
  |true =>
   dsimp only at h4 ⊢;rw[q0f rfl] at h4 ⊢;refine⟨F4,xV,δ4,_,S4,h4,fun y δ5 h5 v F5 ad5 H5 X5 S5 V5=>?_⟩;obtain⟨e,δ6,F6,⟨hlen,h6⟩,X6,S6,i6⟩:=vD S5 V5 h5;have Iz:=(B0.trans X5).trans X6;obtain⟨a1,a2,a3,a4⟩:=step Iz;refine⟨ys,a1,kZ (by rw[a4.length];omega),F6,_,_,acc++[e],ys++[v],?_,(S6.other a2 a3 (aB.put S6.tab a1 (.inl ⟨_,rfl⟩))).trim (δ0:=⟨cH cp δ1.sl,δ1.mu⟩),a_,a2,fun z=>a3 z.take,a4.snoc i6,h6⟩;exact((E'.trans Iz).other hl).trim S1.cb
 ·have ei:i=it.items.length:=by omega
  subst ei;rw[q3H (Bi _)] at h;obtain⟨ck,h⟩:=h;exact .inl ⟨(I1 F' aw δ' τ H' E'.same E'.pre S' ck).1,fin _ _ _ _ _ _ _ h E' S' gU oq p_ ia⟩
theorem IA{cp:List (Option Nat)}:∀σ H Q,tD (eA w cp g t f) σ H Q->u3 (jo w) cp (fun _=>jn g) (fun _=>cA t) (fun _=>tD f) σ H Q:=fun σ H Q h0_=>el7 h0_ fun F ad δ K S q k =>by
 refine⟨F,ad,δ,_,S,q,fun it δ1 h1 J F1 aN H1 E1 S1 I1=>fun d l hl=>?_⟩;refine Iy S1 I1 hl h1 fun acc δ' F' aw τ H' ys hk E' S' gU oq p_ ia=>?_;have sm:ar F' (upd F' l (.lst ys)):=b7 oq;refine k _ _ hk _ _ _ _ (E1.trans (E'.adopt hl oq)) (SR.back (sl:=δ'.sl) S1 (E'.adopt hl oq) (S'.adopt oq gU p_)) ?_;show Is _ (.lst acc) _;simp only[Is];exact⟨l,ys,rfl,a_,ia.same sm⟩
theorem Rv{cp:List (Option Nat)}:∀σ H Q,tD (p9 w cp g t f) σ H Q->u3 (jo w) cp (fun _=>jn g) (fun _=>cA t) (fun _=>tD f) σ H Q:=fun σ H Q h0_=>el7 h0_ fun F ad δ K S q k =>by
 refine⟨F,ad,δ,_,S,q,fun it δ1 h1 J F1 aN H1 E1 S1 I1=>fun d l hl=>?_⟩;refine Iy S1 I1 hl h1 fun acc δ' F' aw τ H' ys hk E' S' gU oq p_ ia=>?_;have S2:=S'.dS (ov:=.lst acc) oq gU p_ ⟨ys,rfl,ia⟩;have E2:=E'.dS (ov:=.lst acc) hl S'.cb;refine k _ _ hk _ _ _ _ (E1.trans E2) (SR.back (sl:=δ'.sl) S1 E2 S2) ⟨l,?_,rfl⟩;rw[<-S'.cb,q0k (Bi _),q1r];rfl
theorem IB(cp:List (Option Nat))(Nb:List Str)(hc:X.calm=true)(hi:JI X tg iter (jo w))(hg:∀d,JG (bQ X scope Nb d) tg (jn g))(hf:∀d,JF (bQ X scope Nb d) ifs (cA t))(he:∀d,JE (bQ X scope Nb d) elt (tD f))
  (hk:scope.kind=.function:=by rfl) (ho:kh X.N X.env.scope scope Nb cp=true:=by first|rfl|kernel_rfl) (hs:∀x,foldedSetIterable iter X.env x=pure x:=by intro _;rfl) :
  JE X (.ListComp elt [⟨tg,iter,ifs,0⟩] scope pos) (tD (eA w cp g t f)):=(Hn cp Nb hc hi hg hf he hk ho hs).weak IA
theorem Rw(cp:List (Option Nat))(Nb:List Str)(hc:X.calm=true)(hi:JI X tg iter (jo w))(hg:∀d,JG (bQ X scope Nb d) tg (jn g))(hf:∀d,JF (bQ X scope Nb d) ifs (cA t))(he:∀d,JE (bQ X scope Nb d) elt (tD f))
  (hk:scope.kind=.function:=by rfl) (ho:kh X.N X.env.scope scope Nb cp=true:=by first|rfl|kernel_rfl) (hs:∀x,foldedSetIterable iter X.env x=pure x:=by intro _;rfl) :
  JE X (.ListComp elt [⟨tg,iter,ifs,0⟩] scope pos) (tD (p9 w cp g t f)):=(Hn cp Nb hc hi hg hf he hk ho hs).weak Rv
theorem Rx[bL](cp:List (Option Nat))(Nb:List Str){i:Nat}{x:Str}{pos' fw:Pos}(hN:X.N.Nodup)(hi:X.N[i]?=some x)(hx:Loc X.env.scope x)(hc:X.calm=true)(hit:JI X tg iter (jo w))(hg:∀d,JG (bQ X scope Nb d) tg (jn g))(hf:∀d,JF (bQ X scope Nb d) ifs (cA t))(he:∀d,JE (bQ X scope Nb d) elt (tD f))
  (hk:scope.kind=.function:=by rfl) (ho:kh X.N X.env.scope scope Nb cp=true:=by first|rfl|kernel_rfl) (hs:∀x,foldedSetIterable iter X.env x=pure x:=by intro _;rfl)
  (qY:swapsWith (.ListComp elt [⟨tg,iter,ifs,0⟩] scope pos) (some (.Name x pos')) fw.line X.env=pure true:=by rfl)
  (iN:dG X x:=by first|exact .inl rfl|exact .inr rfl|assumption) :
  JS X (.Assign [.Name x pos'] (.ListComp elt [⟨tg,iter,ifs,0⟩] scope pos) fw) (b9 (aE i (eA w cp g t f))) :=
 (Ho cp Nb hN hi hx hc hit hg hf he hk ho hs qY iN).weak fun D σ H h0_=>el7 h0_ fun F ad δ K S q k =>IA σ H _ ⟨F,ad,δ,_,S,q,fun x δ1 h1 v F1 aN H1 E1 S1 V1=>k.nx _ h1 _ _ _ _ E1 (S1.set V1)⟩
end
inductive RV where
 |p (d:D)|n (ds:List D)|a (j:Nat)
abbrev GD:=List DV->List OV->(RV->List OV->Prop)->Prop
structure xX(F:Hp)(ad:List Addr)(H:Hp)(r:RV)(ows:List OV)(v:V)(F' H':Hp):Prop where
 sub:ar F' H'
 same:ar F F'
 new:∀a o,F' a=some o->F a=some o\/H a=none
 keep:∀a o,H a=some o->a∉ad->a∉aB.ad->H' a=some o
 tab:aB.ok H'
 nt:∀a∈aB.ad,F' a=none
 len:ows.length=ad.length
 own:∀(j:Nat)(ow:OV),ows[j]?=some ow->∃a o,ad[j]?=some a/\H' a=some o/\fJ F' ow o
 off:∀a∈ad,F' a=none
 res:match r with
  |.p d=>Is F' d v
  |.n ds=>∃a vs,v=.ref a/\H a=none/\H' a=some (.lst vs)/\F' a=none/\ae F' ds vs
  |.a j=>∃a,ad[j]?=some a/\v=.ref a
def lC(G:GD)(n:Nat):Sp:=fun vs H Q _=>vs.length=n/\∃F ad ys ovs K,SR F ad ⟨ys.map some,ovs.map some⟩ (vs.map some) H/\G ys ovs K/\∀r ows,K r ows->∀v F' H',xX F ad H r ows v F' H'->Q v H'
def gA(n:Nat)(K:RV->List OV->Prop)(x:DV)(δ:au):Prop:=∃ows,δ.mu.take n=ows.map some/\ows.length=n/\match x with
 |.p d=>K (.p d) ows
 |.o k=>if k<n then K (.a k) ows else match δ.mu[k]? with
  |some (some (.lst ds))=>K (.n ds) ows\/K (.p (.lst ds)) ows
  |_=>False
noncomputable def gB(n:Nat)(K:RV->List OV->Prop):KS where
 nx:=gA n K (.p .non)
 rt:=gA n K
section
variable{F F' H H':Hp}{ad aw:List Addr}{σ σ':St}
theorem IC{α:Type}{l:List α}{i:Nat}{x:α}(h:(l.map some)[i]?=some (some x)):l[i]?=some x:=by
 rw[q0b] at h;obtain⟨y,e,q⟩:=q0g.mp h;cases q;exact e
theorem Ry{α:Type}{l:List α}{i:Nat}{x:α}(h:l[i]?=some x):(l.map some)[i]?=some (some x):=by
 rw[q0b,h];rfl
theorem SR.start{ys:List DV}{mu:List (Option OV)}{vs:List V}{N:List Str}(S:SR F ad ⟨ys.map some,mu⟩ (vs.map some) H):SR F ad ⟨ys.map some++q0h (N.length-vs.length) none,mu⟩ (start N vs) H:=by
 have hl:vs.length=ys.length:=by
  have:=S.len;rw[qU] at this;show vs.length=ys.length;rw[this];show(ys.map some).length=_;rw[qU]
 refine⟨S.sub,S.off,S.cb,S.inj,S.mu,fun i x e=>?_,?_,S.tab,S.nt⟩
 ·have hi:i<ys.length:=by
   by_cases c:i<ys.length
   ·exact c
   ·rw[q0k (by rw[qU];omega),q2K] at e
    split at e
    ·cases e
    ·cases e
  rw[q0j (by rw[qU];exact hi)] at e;obtain⟨v,h1,h2⟩:=S.sl i x e;exact⟨v,by unfold L2.start;rw[q0j (by rw[qU,hl];exact hi)];exact h1,h2⟩
 ·unfold L2.start
  show _=(ys.map some++_).length;rw[Hd,Hd,q1N,q1N,qU,qU,hl]
theorem tF{ovs:List OV}{δ:au}{x:DV}{v:V}{K:RV->List OV->Prop}{Q:VK}{sl:List (Option DV)}{τ:St}(S0:SR F ad ⟨sl,ovs.map some⟩ τ H)(E:Ext F ad (ovs.map some) H F' aw δ.mu H')(S:SR F' aw δ σ' H')(V:fD F' aw x v)
  (h:gA ovs.length K x δ) (k:∀r ows,K r ows->∀v F' H',xX F ad H r ows v F' H'->Q v H'):Q v H':=by
 obtain⟨ows,tk,hl,h⟩:=h;have al:ad.length=ovs.length:=by have:=S0.cb;rwa [qU] at this
 have lv:∀(j:Nat)(a:Addr),ad[j]?=some a->∃ow,ows[j]?=some ow/\δ.mu[j]?=some (some ow)/\Lv aw δ.mu a:=fun j a e=>by
  have hj:j<ovs.length:=by rw[<-al];exact(sR.mp e).1
  have h1:(δ.mu.take ovs.length)[j]?=some (some (ows[j]'(by rw[hl];exact hj))):=by
   rw[tk,q0b,qV (by rw[hl];exact hj)];rfl
  rw[q1f hj] at h1;exact⟨_,qV (by rw[hl];exact hj),h1,j,_,E.pre j a e,h1⟩
 have lD:∀a∈ad,F' a=none:=fun a ha=>by
  obtain⟨j,e⟩:=q0i.mp ha;obtain⟨_,_,_,l⟩:=lv j a e;exact S.off a l
 have base:∀{F2:Hp},ar F' F2->ar F2 H'->(∀a o,F2 a=some o->F' a=some o\/(H a=none/\¬ a∈ad))->(∀a∈ad,F2 a=none)->(∀a∈aB.ad,F2 a=none)->∀{r:RV},(match r with
   |.p d=>Is F2 d v
   |.n ds=>∃a vs,v=.ref a/\H a=none/\H' a=some (.lst vs)/\F2 a=none/\ae F2 ds vs
   |.a j=>∃a,ad[j]?=some a/\v=.ref a)->xX F ad H r ows v F2 H':=fun{F2} s1 s2 n2 o2 Rz {r} res=>by
  refine⟨s2,E.same.trans s1,fun a o e=>?_,fun a o e n t=>?_,S.tab,Rz,by rw[hl,al],fun j ow e=>?_,o2,res⟩
  ·rcases n2 a o e with e|⟨e,_⟩
   ·rcases E.new a o e with z|z|⟨j,ov,z,_⟩
    ·exact .inl z
    ·exact .inr z
    ·rw[lD a (q0i.mpr ⟨j,z⟩)] at e;cases e
   ·exact .inr e
  ·exact E.keep a o e (fun⟨j,ov,z,_⟩=>n (q0i.mpr ⟨j,z⟩)) t
  ·have hj:j<ad.length:=by rw[al,<-hl];exact(sR.mp e).1
   obtain⟨B2,e1,e2,_⟩:=lv j _ (qV hj);rw[e] at e1;cases e1;obtain⟨a,o,e3,e4,h5⟩:=S.mu j _ e2;rw[E.pre j _ (qV hj)] at e3;cases e3
   exact⟨_,o,qV hj,e4,h5.same s1⟩
 cases x with
 |p d=>exact k _ _ h _ _ _ (base (F2:=F') (fun _ _ e=>e) S.sub (fun _ _ e=>.inl e) lD S.nt V)
 |o i =>
  dsimp only at h;obtain⟨a,e1,rfl⟩:=V
  by_cases c:i<ovs.length
  ·rw[q0f c] at h
   have ei:ad[i]?=some a:=by
    have:=E.pre i _ (qV (by rw[al];exact c));rw[e1] at this;rw[qV (by rw[al];exact c)];exact this.symm
   exact k _ _ h _ _ _ (base (F2:=F') (fun _ _ e=>e) S.sub (fun _ _ e=>.inl e) lD S.nt ⟨a,ei,rfl⟩)
  ·rw[q0a c] at h
   split at h
   ·rename_i ds em
    obtain⟨a',o,e2,e3,vs,rfl,h4⟩:=S.mu i _ em;rw[e1] at e2;cases e2
    have na:a∉ad:=fun z=>by
     obtain⟨j,e⟩:=q0i.mp z;obtain⟨ow,_,e5,_⟩:=lv j a e;have:i=j:=S.inj i j a _ _ e1 (E.pre j a e) em e5;subst this;exact c (by rw[<-al];exact(sR.mp e).1)
    have fa:F' a=none:=S.off a ⟨i,_,e1,em⟩
    have ha:H a=none:=by
     rcases E.bV a ⟨i,_,e1,em⟩ with⟨j,ov,z,_⟩|z
     ·exact absurd (q0i.mpr ⟨j,z⟩) na
     ·exact z
    rcases h with h|h
    ·exact k _ _ h _ _ _ (base (F2:=F') (fun _ _ e=>e) S.sub (fun _ _ e=>.inl e) lD S.nt ⟨a,vs,rfl,ha,e3,fa,h4⟩)
    ·refine k _ _ h _ _ _ (base (F2:=upd F' a (.lst vs)) (b7 fa) (fun b o e=>?_) (fun b o e=>?_) (fun b hb=>?_) (fun b hb=>?_) ?_)
     ·by_cases z:b=a
      ·subst z;rw[a_] at e;cases e;exact e3
      ·rw[av z] at e;exact S.sub b o e
     ·by_cases z:b=a
      ·subst z;exact .inr ⟨ha,na⟩
      ·rw[av z] at e;exact .inl e
     ·rw[av fun z=>na (by subst z;exact hb)];exact lD b hb
     ·obtain⟨ps,q⟩:=aB.tb S.tab hb
      rw[av fun z=>by subst z;rw[e3] at q;cases q];exact S.nt b hb
     ·show Is _ (.lst ds) _
      simp only[Is];exact⟨a,vs,rfl,a_,h4.same (b7 fa)⟩
   ·exact h.elim
end
theorem gg.RA{P:Program}{w:World}{K:xA}{mg:Str->Option Value}{base:Heap}{x qual:Str}{st:Stmt}{f:Addr}{fd:FuncData}{N ps:List Str}{k:Nat}{G:GD}(F:gg K x qual st f fd)(S:kQ N ps (bZ st))
  (dP:∀(aF:Value)(A:Around)(outer:List Env)(s:Shared)(H:Hp)(E:XK),aS k (A.deeper (envOfC qual (bZ st) s.heap.objs.size f aF)) →
   ∃B:WS,bz (bq fu P w K mg base N qual (bZ st) f aF A outer s H E).kO (cx st) (b9 B)/\∀ys ovs K',ys.length=ps.length->G ys ovs K'->B (gB ovs.length K') ⟨ys.map some++q0h (N.length-ps.length) none,ovs.map some⟩) :
  bP P w K mg base fu (k+1) f fd ps (lC G ps.length) :=
 F.sT S (fun vs H Q E h=>h.1) fun aF A outer s H vs Q E hr h=>by
  obtain⟨hl,Fz,ad,ys,ovs,K',S0,g,kk⟩:=h;obtain⟨B,jb,hb⟩:=dP aF A outer s H E hr
  have hy:ys.length=ps.length:=by
   have:=S0.len;rw[qU] at this;rw[<-hl,this];show _=(ys.map some).length;rw[qU]
  refine⟨_,jb,Fz,ad,⟨ys.map some++q0h (N.length-ps.length) none,ovs.map some⟩,gB ovs.length K',by rw[<-hl];exact S0.start,hb ys ovs K' hy g,⟨fun δ' h F' aw σ' H' E' S'=>?_,fun δ' h=>h.elim,fun δ' h=>h.elim,fun y δ' h v F' aw σ' H' E' S' V=>?_,trivial⟩⟩
  ·exact tF (σ':=σ') S0 E' S' (x:=.p .non) (v:=.non) rfl h kk
  ·exact tF (σ':=σ') S0 E' S' V h kk
noncomputable def passes(mu:List (Option OV)):List DV->Nat->Option (List DV×List (Nat×OV))
 |[],_=>some ([],[])
 |.p d::xs,j=>match passes mu xs j with
  |some r=>some (.p d::r.1,r.2)
  |none=>none
 |.o k::xs,j=>match mu[k]? with
  |some (some ov)=>match passes mu xs (j+1) with
   |some r=>some (.o j::r.1,(k,ov)::r.2)
   |none=>none
  |_=>none
noncomputable def fL(mu:List (Option OV)):List (Nat×OV)->List OV->List (Option OV)
 |(k,_)::r,ow::ows=>fL (mu.set k (some ow)) r ows
 |_,_=>mu
noncomputable def lE:List (Nat×OV)->Bool
 |[]=>true
 |(k,_)::r => !(r.any fun e=>e.1==k)&&lE r
def ou(δ:au)(gi:List (Nat×OV))(K:DV->au->Prop)(r:RV)(ows:List OV):Prop:=match r with
 |.p d=>K (.p d) ⟨δ.sl,fL δ.mu gi ows⟩
 |.n ds=>K (.p (.lst ds)) ⟨δ.sl,fL δ.mu gi ows⟩
 |.a j=>match gi[j]? with
  |some ko=>K (.o ko.1) ⟨δ.sl,fL δ.mu gi ows⟩
  |none=>False
def rE(δ:au)(gi:List (Nat×OV))(K:DV->au->Prop)(r:RV)(ows:List OV):Prop:=match r with
 |.n ds=>K (.o (fL δ.mu gi ows).length) ⟨δ.sl,fL δ.mu gi ows++[some (.lst ds)]⟩
 |_=>False
def aj(n:Nat)(G:GD)(fa:WA):WE:=fun δ K=>fa δ fun xs δ1=>match passes δ1.mu xs 0 with
 |some r=>(lE r.2=true/\r.1.length=n)/\G r.1 (r.2.map (·.2)) (ou δ1 r.2 K)
 |none=>False
def vK(n:Nat)(G:GD)(fa:WA):WE:=fun δ K=>fa δ fun xs δ1=>match passes δ1.mu xs 0 with
 |some r=>(lE r.2=true/\r.1.length=n)/\G r.1 (r.2.map (·.2)) (rE δ1 r.2 K)
 |none=>False
section
variable{F F' H H':Hp}{ad aw:List Addr}{δ:au}{σ σ':St}
theorem xY{mu:List (Option OV)}(hm:∀(k:Nat) (ov:OV),mu[k]?=some (some ov)->∃a o,ad[k]?=some a/\H a=some o/\fJ F ov o):∀{xs:List DV}{vs:List V}{j:Nat}{r:List DV×List (Nat×OV)},passes mu xs j=some r->dr F ad xs vs →
  ∃as:List Addr,as.length=r.2.length/\(∀(i:Nat)(ko:Nat×OV),r.2[i]?=some ko->mu[ko.1]?=some (some ko.2)/\∃a o,as[i]?=some a/\ad[ko.1]?=some a/\H a=some o/\fJ F ko.2 o) ∧
   ∀(pre:List Addr),pre.length=j->∃_u:Unit,vs.length=r.1.length/\∀(i:Nat)(y:DV),r.1[i]?=some y->∃v,vs[i]?=some v/\fD F (pre++as) y v
 |[],vs,j,r,h,hv=>by
  cases h
  have:vs=[]:=hv;subst this;exact⟨[],rfl,fun i ko e=>by simp at e,fun pre _=>⟨(),rfl,fun i y e=>by simp at e⟩⟩
 |.p d::xs,_,j,r,h,⟨v,t,e,h1,h2⟩=>by
  subst e;unfold passes at h;split at h
  ·rename_i r' hr
   cases h
   obtain⟨as,l,b,c⟩:=xY hm hr h2;refine⟨as,l,b,fun pre hp=>⟨(),?_,fun i y e=>?_⟩⟩
   ·obtain⟨_,c1,_⟩:=c pre hp
    rw[Hc,Hc,c1]
   ·obtain⟨_,_,c2⟩:=c pre hp
    cases i with
    |zero=>cases(show some (DV.p d)=some y by simpa using e);exact⟨v,rfl,h1⟩
    |succ i=>simpa using c2 i y (by simpa using e)
  ·cases h
 |.o k::xs,_,j,r,h,⟨v,t,e,h1,h2⟩=>by
  subst e;unfold passes at h;split at h
  ·rename_i ov hk
   split at h
   ·rename_i r' hr
    cases h
    obtain⟨as,l,b,c⟩:=xY hm hr h2;obtain⟨a,e1,rfl⟩:=h1;obtain⟨a',o,e2,e3,e4⟩:=hm k ov hk;rw[e1] at e2;cases e2;refine⟨a::as,by rw[Hc,Hc,l],fun i ko e=>?_,fun pre hp=>⟨(),?_,fun i y e=>?_⟩⟩
    ·cases i with
     |zero=>cases(show some (k,ov)=some ko by simpa using e);exact⟨hk,a,o,rfl,e1,e3,e4⟩
     |succ i=>simpa using b i ko (by simpa using e)
    ·obtain⟨_,c1,_⟩:=c (pre++[a]) (by rw[Hd,hp];rfl)
     rw[Hc,Hc,c1]
    ·obtain⟨_,_,c2⟩:=c (pre++[a]) (by rw[Hd,hp];rfl)
     cases i with
     |zero =>
      cases(show some (DV.o j)=some y by simpa using e)
      refine⟨_,rfl,a,?_,rfl⟩;rw[q0k (by omega),hp,q1r];rfl
     |succ i =>
      obtain⟨v',c3,c4⟩:=c2 i y (by simpa using e);exact⟨v',by simpa using c3,by rw[q18] at c4;exact c4⟩
   ·cases h
  ·cases h
theorem ID:∀{gi:List (Nat×OV)},lE gi=true->∀(i j:Nat)(k:Nat)(a b:OV),gi[i]?=some (k,a)->gi[j]?=some (k,b)->i=j
 |[],_,i,j,k,a,b,e,_=>by simp at e
 |(k',ov)::r,h,i,j,k,a,b,e1,e2=>by
  unfold lE at h;simp only[q0y,q3I] at h
  have no:∀(m:Nat)(c:OV),r[m]?=some (k',c)->False:=fun m c e=>by
   have:=q2l.mp h.1 _ (q0i.mpr ⟨m,e⟩);exact this (by simp)
  cases i with
  |zero =>
   cases(show some (k',ov)=some (k,a) by simpa using e1)
   cases j with
   |zero=>rfl
   |succ j=>exact(no j b (by simpa using e2)).elim
  |succ i =>
   cases j with
   |zero=>cases(show some (k',ov)=some (k,b) by simpa using e2);exact(no i a (by simpa using e1)).elim
   |succ j=>rw[ID h.2 i j k a b (by simpa using e1) (by simpa using e2)]
theorem IE:∀(gi:List (Nat×OV))(ows:List OV)(mu:List (Option OV)),(fL mu gi ows).length=mu.length
 |(k,_)::r,ow::ows,mu=>by rw[fL,IE r ows,q1H]
 |[],_,_=>rfl
 |_::_,[],_=>rfl
theorem xZ:∀(gi:List (Nat×OV))(ows:List OV)(mu:List (Option OV))(l:Nat),(∀ko∈gi,ko.1≠l)->(fL mu gi ows)[l]?=mu[l]?
 |(k,_)::r,ow::ows,mu,l,h=>by
  rw[fL,xZ r ows _ l fun ko hk=>h ko (q0c _ hk),q0V (h _ PE)]
 |[],_,_,_,_=>rfl
 |_::_,[],_,_,_=>rfl
theorem IF:∀{gi:List (Nat×OV)}{ows:List OV}{mu:List (Option OV)}{i:Nat}{ko:Nat×OV}{ow:OV},lE gi=true->gi[i]?=some ko->ows[i]?=some ow->ko.1<mu.length->(fL mu gi ows)[ko.1]?=some (some ow)
 |(k,ov)::r,B2::ows,mu,0,ko,ow,h,e1,e2,hl=>by
  cases(show some (k,ov)=some ko by simpa using e1)
  cases(show some B2=some ow by simpa using e2)
  unfold lE at h;simp only[q0y,q3I] at h;rw[fL,xZ r ows _ k fun ko hk z=>absurd (by simpa using z) (q2l.mp h.1 ko hk),q0Q hl]
 |(k,ov)::r,B2::ows,mu,i+1,ko,ow,h,e1,e2,hl=>by
  unfold lE at h;simp only[q0y,q3I] at h;rw[fL];exact IF h.2 (by simpa using e1) (by simpa using e2) (by rw[q1H];exact hl)
 |[],_,_,i,_,_,_,e1,_,_=>by simp at e1
 |_::_,[],_,i,_,_,_,_,e2,_=>by simp at e2
theorem B3{xs:List DV}{vs:List V}{r:List DV×List (Nat×OV)}{G:GD}{n:Nat}{Q:VK}{E:XK}{K:RV->List OV->Prop}(S:SR F ad δ σ H)(V:dr F ad xs vs)(hn:vs.length=n)(hp:passes δ.mu xs 0=some r)(nd:lE r.2=true)(g:G r.1 (r.2.map (·.2)) K)
  (fin:∀res ows v F' H',K res ows->Ext F ad δ.mu H F' ad (fL δ.mu r.2 ows) H'->SR F' ad ⟨δ.sl,fL δ.mu r.2 ows⟩ σ H'->(match res with
   |.p d=>Is F' d v
   |.n ds=>∃a vs,v=.ref a/\H a=none/\H' a=some (.lst vs)/\F' a=none/\ae F' ds vs
   |.a j=>∃ko a,r.2[j]?=some ko/\ad[ko.1]?=some a/\v=.ref a)->Q v H'):lC G n vs H Q E:=by
 obtain⟨as,al,b,c⟩:=xY S.mu hp V;obtain⟨_,c1,c2⟩:=c [] rfl
 have tG:∀(i:Nat)(a:Addr),as[i]?=some a->Lv ad δ.mu a/\∃ko,r.2[i]?=some ko/\ad[ko.1]?=some a/\δ.mu[ko.1]?=some (some ko.2):=fun i a e=>by
  have hi:i<r.2.length:=by rw[<-al];exact(sR.mp e).1
  obtain⟨m1,a',o,e1,e2,_,_⟩:=b i _ (qV hi);rw[e] at e1;cases e1;exact⟨⟨_,_,e2,m1⟩,_,qV hi,e2,m1⟩
 refine⟨hn,F,as,r.1,r.2.map (·.2),K,⟨S.sub,fun a ⟨i,ov,e1,e2⟩=>S.off a (tG i a e1).1,by rw[al];show _=((r.2.map (·.2)).map some).length;rw[qU,qU],fun i j a ov ow e1 e2 _ _=>?_,fun i ov e=>?_,fun i y e=>?_,?_,S.tab,S.nt⟩,g,fun res ows hk v F' H' P=>?_⟩
 ·obtain⟨_,ko,k1,k2,k3⟩:=tG i a e1
  obtain⟨_,kp,p1,p2,p3⟩:=tG j a e2;have:ko.1=kp.1:=S.inj _ _ a _ _ k2 p2 k3 p3;exact ID nd i j ko.1 ko.2 kp.2 k1 (by rw[this];exact p1)
 ·have e:=IC e
  rw[q0b] at e;obtain⟨ko,e1,rfl⟩:=q0g.mp e;obtain⟨_,a,o,e2,_,e4,e5⟩:=b i ko e1;exact⟨a,o,e2,e4,e5⟩
 ·obtain⟨v,e1,e2⟩:=c2 i y (IC e)
  exact⟨v,Ry e1,by simpa using e2⟩
 ·show(vs.map some).length=(r.1.map some).length
  rw[qU,qU,c1]
 ·have ol:ows.length=r.2.length:=by rw[P.len,al]
  have nH:∀(l:Nat)(ow:OV),(fL δ.mu r.2 ows)[l]?=some (some ow)->(∃(i:Nat)(ko:Nat×OV),r.2[i]?=some ko/\ko.1=l/\ows[i]?=some ow)\/((∀ko∈r.2,ko.1≠l)/\δ.mu[l]?=some (some ow)):=fun l ow e=>by
   by_cases z:∃ko∈r.2,ko.1=l
   ·obtain⟨ko,hk,rfl⟩:=z
    obtain⟨i,hi⟩:=q0i.mp hk;have rF:i<ows.length:=by rw[ol];exact(sR.mp hi).1
    have:=IF (mu:=δ.mu) nd hi (qV rF) (sR.mp (b i ko hi).1).1;rw[e] at this;cases this
    exact .inl ⟨i,ko,hi,rfl,qV rF⟩
   ·have z':∀ko∈r.2,ko.1≠l:=fun ko hk q=>z ⟨ko,hk,q⟩
    rw[xZ _ _ _ _ z'] at e;exact .inr ⟨z',e⟩
  have IG:∀(l:Nat)(ow:OV)(a:Addr),ad[l]?=some a->(fL δ.mu r.2 ows)[l]?=some (some ow)->Lv ad δ.mu a:=fun l ow a e1 e2=>by
   rcases nH l ow e2 with⟨i,ko,hi,rfl,_⟩|⟨_,q⟩
   ·exact⟨_,_,e1,(b i ko hi).1⟩
   ·exact⟨_,_,e1,q⟩
  have RB:∀a,a∈as->Lv ad δ.mu a:=fun a ha=>by
   obtain⟨i,e⟩:=q0i.mp ha;exact(tG i a e).1
  have ex:Ext F ad δ.mu H F' ad (fL δ.mu r.2 ows) H':=by
   refine⟨P.same,fun a o e=>?_,fun a o e n t=>P.keep a o e (fun z=>n (RB a z)) t,fun _ _ e=>e,fun a ⟨l,ow,e1,e2⟩=>.inl (IG l ow a e1 e2),fun a o e=>?_⟩
   ·rcases P.new a o e with z|z
    ·exact .inl z
    ·exact .inr (.inl z)
   ·by_cases z:a∈as
    ·obtain⟨i,e1⟩:=q0i.mp z
     have hi:i<ows.length:=by rw[P.len];exact(sR.mp e1).1
     obtain⟨a',o',e2,e3,_⟩:=P.own i _ (qV hi);rw[e1] at e2;cases e2;exact⟨o',e3⟩
    ·by_cases t:a∈aB.ad
     ·obtain⟨ps,q⟩:=aB.tb P.tab t
      exact⟨_,q⟩
     ·exact⟨o,P.keep a o e z t⟩
  have B4:∀a,Lv ad δ.mu a->F' a=none:=fun a l=>by
   by_cases z:a∈as
   ·exact P.off a z
   ·cases q:F' a with
    |none=>rfl
    |some u =>
     rcases P.new a u q with y|y
     ·rw[S.off a l] at y;cases y
     ·obtain⟨k,ov,e1,e2⟩:=l
      obtain⟨a',o,e3,e4,_⟩:=S.mu k ov e2;rw[e1] at e3;cases e3;rw[y] at e4;cases e4
  have sr:SR F' ad ⟨δ.sl,fL δ.mu r.2 ows⟩ σ H':=by
   refine⟨P.sub,fun a ⟨l,ow,e1,e2⟩=>B4 a (IG l ow a e1 e2),by rw[S.cb];exact(IE _ _ _).symm,fun k l a ov ow e1 e2 e3 e4=>?_,fun l ow e=>?_,fun i y e=>?_,S.len,P.tab,P.nt⟩
   ·have h3:∃w,δ.mu[k]?=some (some w):=by
     rcases nH k ov e3 with⟨i,ko,hi,rfl,_⟩|⟨_,q⟩
     ·exact⟨_,(b i ko hi).1⟩
     ·exact⟨_,q⟩
    have h4:∃w,δ.mu[l]?=some (some w):=by
     rcases nH l ow e4 with⟨i,ko,hi,rfl,_⟩|⟨_,q⟩
     ·exact⟨_,(b i ko hi).1⟩
     ·exact⟨_,q⟩
    obtain⟨_,h3⟩:=h3;obtain⟨_,h4⟩:=h4;exact S.inj k l a _ _ e1 e2 h3 h4
   ·rcases nH l ow e with⟨i,ko,hi,rfl,ho⟩|⟨z,q⟩
    ·obtain⟨_,a,o,e1,e2,_,_⟩:=b i ko hi
     obtain⟨a',o',e3,e4,h5⟩:=P.own i ow ho;rw[e1] at e3;cases e3;exact⟨a,o',e2,e4,h5⟩
    ·obtain⟨a,o,e1,e2,h⟩:=S.mu l ow q
     refine⟨a,o,e1,P.keep a o e2 (fun y=>?_) (fun t=>?_),h.same P.same⟩
     ·obtain⟨i,e3⟩:=q0i.mp y
      obtain⟨_,ko,k1,k2,k3⟩:=tG i a e3;exact z ko (q0i.mpr ⟨i,k1⟩) (S.inj _ _ a _ _ k2 e1 k3 q)
     ·obtain⟨ps,q2⟩:=aB.tb S.tab t
      rw[e2] at q2;cases q2
      rcases h.kind with⟨_,z⟩|⟨_,z⟩<;>cases z
   ·obtain⟨v,e1,h⟩:=S.sl i y e
    exact⟨v,e1,h.ext ex⟩
  refine fin res ows v F' H' hk ex sr ?_;have rG:=P.res
  cases res with
  |p d=>exact rG
  |n ds=>exact rG
  |a j =>
   obtain⟨a,e1,e2⟩:=rG;obtain⟨_,ko,k1,k2,_⟩:=tG j a e1;exact⟨ko,a,k1,k2,e2⟩
end
section
variable{X:Cx}{fa:WA}{G:GD}{pos:Pos}
theorem IH{F1 F2 H1 H2:Hp}{aN:List Addr}{δ1:au}{σ:St}{xs:List DV}{vs:List V}{r:List DV×List (Nat×OV)}{ows:List OV}{a:Addr}(S1:SR F1 aN δ1 σ H1)(V1:dr F1 aN xs vs)(hp:passes δ1.mu xs 0=some r)(n1:H1 a=none):¬ Lv aN (fL δ1.mu r.2 ows) a:=fun⟨k,ov,e1,e2⟩=>by
 have c:∃ov,δ1.mu[k]?=some (some ov):=by
  by_cases y:∃ko∈r.2,ko.1=k
  ·obtain⟨ko,gR,rfl⟩:=y
   obtain⟨as,_,b,_⟩:=xY S1.mu hp V1;obtain⟨i,hi⟩:=q0i.mp gR;exact⟨_,(b i ko hi).1⟩
  ·rw[xZ _ _ _ _ fun ko gR q=>y ⟨ko,gR,q⟩] at e2
   exact⟨_,e2⟩
 obtain⟨RC,c⟩:=c;obtain⟨a',o,e3,e4,_⟩:=S1.mu k RC c;rw[e1] at e3;cases e3;rw[n1] at e4;cases e4
theorem dr.length{F:Hp}{ad:List Addr}:∀{xs:List DV}{vs:List V},dr F ad xs vs->vs.length=xs.length
 |[],vs,h=>by have h:vs=[]:=h;rw[h];rfl
 |x::xs,vs,⟨v,r,e,_,h2⟩=>by rw[e,Hc,Hc,dr.length h2]
theorem x4{mu:List (Option OV)}:∀{xs:List DV}{j:Nat}{r:List DV×List (Nat×OV)},passes mu xs j=some r->r.1.length=xs.length
 |[],j,r,h=>by cases h;rfl
 |.p d::xs,j,r,h=>by
  unfold passes at h;split at h
  ·rename_i r' hr;cases h;show(DV.p d::r'.1).length=_;rw[Hc,Hc,x4 hr]
  ·cases h
 |.o k::xs,j,r,h=>by
  unfold passes at h;split at h
  ·split at h
   ·rename_i r' hr;cases h;show(DV.o j::r'.1).length=_;rw[Hc,Hc,x4 hr]
   ·cases h
  ·cases h
section
variable{k:Nat}{f:Addr}{fd:FuncData}{ps:List Str}{x:Str}{p:Pos}{e:Expr}{es:List Expr}{n:Nat}
theorem II{E:XK}{F F1 H H1:Hp}{ad aN:List Addr}{δ δ1:au}{σ:St}{K:DV->au->Prop}{Q:VK}{xs:List DV}{vs:List V}(kk:∀x δ',K x δ'->∀v F' aw H',Ext F ad δ.mu H F' aw δ'.mu H'->SR F' aw δ' σ H'->fD F' aw x v->Q v H')(h1:match passes δ1.mu xs 0 with
 |some r=>(lE r.2=true/\r.1.length=n)/\G r.1 (r.2.map (·.2)) (ou δ1 r.2 K)
 |none=>False)(E1:Ext F ad δ.mu H F1 aN δ1.mu H1)(S1:SR F1 aN δ1 σ H1)(V1:dr F1 aN xs vs):lC G n (vs++[]) H1 Q E:=by
 split at h1
 ·rename_i r hp
  obtain⟨⟨nd,hn⟩,h1⟩:=h1;rw[q1S];refine B3 S1 V1 (by rw[V1.length,<-x4 hp,hn]) hp nd h1 fun res ows v F2 H2 hk E2 S2 fE=>?_;unfold ou at hk
  cases res with
  |p d=>exact kk _ _ hk _ _ _ _ (E1.trans E2) S2 fE
  |n ds =>
   obtain⟨a,us,rfl,n1,n2,n3,n4⟩:=fE;refine kk _ _ hk _ _ _ _ (E1.trans (E2.adopt (o:=.lst us) n1 n3)) (S2.adopt n3 n2 (IH (F2:=F2) (H2:=H2) S1 V1 hp n1)) ?_;show Is _ (.lst ds) _;simp only[Is];exact⟨a,us,rfl,a_,n4.same (b7 n3)⟩
  |a j =>
   obtain⟨ko,a,h1,h2,h3⟩:=fE;dsimp only at hk;rw[h1] at hk;exact kk _ _ hk _ _ _ _ (E1.trans E2) S2 ⟨a,h2,h3⟩
 ·exact h1.elim
theorem RD{E:XK}:∀σ H Q,tD (aj n G fa) σ H Q->qF (lC G n) [] E (bK fa) σ H Q:=fun σ H Q h0_=>el7 h0_ fun F ad δ K S q kk =>
 ⟨F,ad,δ,_,S,q,fun xs δ1 h1 vs F1 aN H1 E1 S1 V1=>II kk h1 E1 S1 V1⟩
theorem RE{E:XK}:∀σ H Q,tD (vK n G fa) σ H Q->qF (lC G n) [] E (bK fa) σ H Q:=fun σ H Q h0_=>el7 h0_ fun F ad δ K S q kk =>by
 refine⟨F,ad,δ,_,S,q,fun xs δ1 h1 vs F1 aN H1 E1 S1 V1=>?_⟩;split at h1
 ·rename_i r hp
  obtain⟨⟨nd,hn⟩,h1⟩:=h1;rw[q1S];refine B3 S1 V1 (by rw[V1.length,<-x4 hp,hn]) hp nd h1 fun res ows v F2 H2 hk E2 S2 fE=>?_;unfold rE at hk
  cases res with
  |p d=>exact hk.elim
  |n ds =>
   obtain⟨a,us,rfl,n1,n2,n3,n4⟩:=fE;have oi:fJ F2 (.lst ds) (.lst us):=⟨us,rfl,n4⟩;refine kk _ _ hk _ _ _ _ (E1.trans (E2.dS (ov:=.lst ds) n1 S2.cb)) (S2.dS n3 n2 (IH (F2:=F2) (H2:=H2) S1 V1 hp n1) oi) ⟨a,?_,rfl⟩;have:aN.length=(fL δ1.mu r.2 ows).length:=S2.cb;rw[<-this,q0k (Bi _),q1r];rfl
  |a j=>exact hk.elim
 ·exact h1.elim
theorem RF(Fn:bP X.prog X.w X.K X.mg X.base fu k f fd ps (lC G n))(hr:aS k X.A)(hg:Gl X x)(hm:X.mg x=some (.ref f))(hk:q1u X.K (.ref f)=true)(hb:Binds X.K fd ps [])
  (ha:JA X (e::es) (bK fa)) (cV:bA x:=by decide) (he:cQ X e es:=by rfl) (cW:dH X pos es:=by rfl) :
  JE X (.Call (.Name x p) (e::es) [] pos) (tD (aj n G fa)):=(pN Fn hr hg hm hk hb .nil sS ha cV he cW).weak RD
theorem RG(Fn:bP X.prog X.w X.K X.mg X.base fu k f fd ps (lC G n))(hr:aS k X.A)(hg:Gl X x)(hm:X.mg x=some (.ref f))(hk:q1u X.K (.ref f)=true)(hb:Binds X.K fd ps [])
  (ha:JA X (e::es) (bK fa)) (cV:bA x:=by decide) (he:cQ X e es:=by rfl) (cW:dH X pos es:=by rfl) :
  JE X (.Call (.Name x p) (e::es) [] pos) (tD (vK n G fa)):=(pN Fn hr hg hm hk hb .nil sS ha cV he cW).weak RE
end
end
end L2
namespace PySem
open Sem (wp)
open AutoSeq1 (wpAny_loadPart')
theorem RH(l:Addr)(items:Array Value)(n:Nat)(dct:Option Addr)(sl:Array (Option Value)):
  Meets (Builtin.«enumerate.__new__» ⟨[.type "enumerate",.ref l],[]⟩) (fun _ R s=>s.heap.get? l=some {cls:=.type "tuple",dict:=dct,data:=.seq items n,slots:=sl} ∧
   R (.ok (.ret (.ref (s.heap.push {cls:=.type "tuple_iterator",data:=.fields #[.ref l,.int 0 0]}).objs.size)))
    {s with heap:=(s.heap.push {cls:=.type "tuple_iterator",data:=.fields #[.ref l,.int 0 0]}).push {cls:=.type "enumerate",data:=.fields #[.none,.bool false,.ref s.heap.objs.size,rawInt 0,.none,.none]}}) :=
 .of_wp fun prog w A R s h=>by
  obtain⟨hp,g,d,tk,os⟩:=s;obtain⟨hl,h⟩:=h;have B5:=sub_enumerate;have hL:Heap.IsTuple (q7t ⟨hp,g,d,tk,os⟩) l items:=⟨_,hl,rfl,n,rfl⟩
  wp_walk using q1v hl
  refine wpAny_stack_any fun st=>uX ?_;split
  ·rename_i c _ _ _ _ _
   cases(c==q2q "enumerate")
   ·wp_walk using q1v hl,q2U hL
    exact⟨_,rfl,h⟩
   ·wp_walk using q1v hl,q2U hL
    exact⟨_,rfl,h⟩
  ·wp_walk using q1v hl,q2U hL
   exact⟨_,rfl,h⟩
section
variable{prog:Program}{w:World}{A:Around}{E:aH}{s:Shared}
theorem RI{l:Addr}{items:Array Value}{Q:aH}(hL:s.heap.IsTuple l items)
  (h:∀h',IsEnum h' (s.heap.objs.size+1) s.heap.objs.size 0 .none->h'.IsTupleIter s.heap.objs.size l 0->h'.objs.size=s.heap.objs.size+2 →
   (∀b o,s.heap.get? b=some o->h'.get? b=some o)->Q (.ref (s.heap.objs.size+1)) {s with heap:=h'}) :
  wpAny (model prog w) A (call (.type "enumerate") [.ref l]) Q E s:=by
 obtain⟨⟨c,dct,dt,sl⟩,hl,hc,n,hd⟩:=hL
 replace hc:c=.type "tuple" := hc
 replace hd:dt=.seq items n:=hd
 subst hc hd
 refine callType_new F.called_enumerate (by decide) (F.typeCall_enumerate_1 _) (F.newCall_enumerate_1 _) (fun obj=>F.args_object_init_2 obj _) F.entry_enumerate_new
  (RH l items n dct sl) ⟨hl,?_⟩
 have hz:(s.heap.push {cls:=.type "tuple_iterator",data:=.fields #[.ref l,.int 0 0]}).objs.size=s.heap.objs.size+1:=q1s ..;show _/\_;rw[hz]
 have he:IsEnum ((s.heap.push {cls:=.type "tuple_iterator",data:=.fields #[.ref l,.int 0 0]}).push
   {cls:=.type "enumerate",data:=.fields #[.none,.bool false,.ref s.heap.objs.size,rawInt 0,.none,.none]}) (s.heap.objs.size+1) s.heap.objs.size 0 .none:=by
  have:=PG (s.heap.push {cls:=.type "tuple_iterator",data:=.fields #[.ref l,.int 0 0]})
   (o:={cls:=.type "enumerate",data:=.fields #[.none,.bool false,.ref s.heap.objs.size,rawInt 0,.none,.none]}) rfl
  rw[hz] at this;exact this
 refine⟨⟨_,he,rfl⟩,h _ he ⟨_,qT _ (PG _ rfl),rfl,rfl⟩ (by rw[q1s,hz]) fun b o x=>qT _ (qT _ x)⟩
theorem RJ{it l:Addr}{i:Nat}{items:Array Value}{x:Value}{Q:aH}(hit:s.heap.IsTupleIter it l i)(hl:s.heap.IsTuple l items)(hx:items[i]?=some x)
  (hQ:∀h',h'.IsTupleIter it l (i+1)->q2N it s.heap h'->Q x {s with heap:=h'}):wpAny (model prog w) A (q08 (.ref it)) Q E s:=by
 obtain⟨o,ho,hc,hd⟩:=id hit;obtain⟨ol,B6,_,nl,oy⟩:=hl;have nn:¬ ((q0C l==q0v)=true):=PH;unfold q08;refine n_ (q1j (name:=q0X "__next__") hit.typeIs q2r (q1k q2r hit.typeIs q4d ?_ (q36 _)));show wpAny _ _ (field (.ref it) 0 >>= _) _ _ s;refine n_ (q1x ho hd (x:=.ref l) rfl ?_);show wpAny _ _ (if(q0C l==q0v)=true then _ else _) _ _ s;rw[q0a nn];show wpAny _ _ (field (.ref it) 1 >>= _) _ _ s;refine n_ (q1x ho hd (x:=.int i 0) rfl ?_);show wpAny _ _ (seqItems? (.ref l) >>= _) _ _ s;refine n_ (q1O B6 oy ?_);simp only[q0u,hx];refine n_ (q2I ho hd (by simp) (uX ⟨x,rfl,uX (hQ _ ⟨_,q0J _ ho (q2u (q1D hd _)),(q4A ..).trans hc,?_⟩ (q0T ..))⟩))
 rw[q1D hd];simp[rawInt]
theorem RK{it l:Addr}{i:Nat}{items:Array Value}{Q:aH}(hh:A.handled=none)(hit:s.heap.IsTupleIter it l i)(hl:s.heap.IsTuple l items)(hx:items[i]?=none)
  (hE:∀h' e,Heap.ExtBut it s.heap h'->(∃o,h'.get? e=some o/\o.cls=.type "StopIteration")->E (.ref e) {s with heap:=h'}):wpAny (model prog w) A (q08 (.ref it)) Q E s:=by
 obtain⟨o,ho,hc,hd⟩:=id hit;obtain⟨ol,B6,_,nl,oy⟩:=hl;have nn:¬ ((q0C l==q0v)=true):=PH;unfold q08;refine n_ (q1j (name:=q0X "__next__") hit.typeIs q2r (q1k q2r hit.typeIs q4d ?_ (q36 _)));show wpAny _ _ (field (.ref it) 0 >>= _) _ _ s;refine n_ (q1x ho hd (x:=.ref l) rfl ?_);show wpAny _ _ (if(q0C l==q0v)=true then _ else _) _ _ s;rw[q0a nn];show wpAny _ _ (field (.ref it) 1 >>= _) _ _ s;refine n_ (q1x ho hd (x:=.int i 0) rfl ?_);show wpAny _ _ (seqItems? (.ref l) >>= _) _ _ s;refine n_ (q1O B6 oy ?_);simp only[q0u,hx];refine n_ (q3S (n_ (q2I ho hd (by simp) ?_)));show wpAny _ _ (newExc (.type "StopIteration") [] >>= _) _ _ _;refine n_ ?_
 simp only[newExc,newTuple];refine n_ (q1c ?_ (by size_fits));refine n_ (m:=firstArgMember _ _) (q5z (a:=q0v) (by first|rfl|(simp only[firstArgMember];rfl)) (q1c ?_ (by size_fits)));simp only[raiseNew];refine n_ (q8n ?_)
 first|rw[show A.in1.handled=none from hh]|rw[hh]
 refine n_ (uX (wpAny_throw (hE _ _ (((q0T ..).extBut.push _).push _) ⟨_,PG _ rfl,rfl⟩)))
theorem B7(hh:A.handled=none)(it l:Addr)(fj:l≠it)(items:Array Value):Draws prog w A it [it,l] items.size (fun i v=>items[i]?=some v) (fun i h=>h.IsTupleIter it l i/\h.IsTuple l items) where
 live:=fun _ _ st=>let⟨o,ho,_⟩:=st.1;⟨o,ho⟩
 frame:=fun _ _ _ st hk=>⟨st.1.at fun o e=>hk it (by simp) o e,st.2.at fun o e=>hk l (by simp) o e⟩
 item:=fun i s Q E hi st hQ=>RJ st.1 st.2 (x:=items[i]) (by simp[hi]) fun h' B8 sW=>hQ _ h' s.toks (by simp[hi]) ⟨B8,st.2.extBut sW.extBut fj⟩ sW
 done:=fun s Q E st hE=>RK hh st.1 st.2 (by simp) hE
end
end PySem
namespace L2
open PySem PySem.Spec PyProof.Rows
noncomputable def vL(K:xA)(a:Addr):It :=
 ⟨fun i H=>∃xs x,bw K H a xs/\xs[i]?=some x,fun i H x H'=>∃T v,x=.ref T/\H T=none/\H'=upd H T (.tup [.int (i:Nat),v])/\∀xs,bw K H a xs->xs[i]?=some v,fun i H=>∃xs,bw K H a xs/\xs.length=i⟩
theorem RL{P:Program}{w:World}{K:xA}{elts:List Expr}{x1}{tp:Pos}(a e it:Addr)(fj:e≠it)(RM:a≠e)(IJ:a≠it):
  Turn P w K (.Tuple elts x1 tp) (vL K a) [e,it] e (fun i h=>(∃old,IsEnum h e it (i:Nat) old)/\h.IsTupleIter it a i) where
 mem:=by simp
 obj:=fun i h st b hb=>by
  obtain⟨⟨old,he⟩,o,hi,hc,hd⟩:=st;rcases PD.mp hb with rfl|hb
  ·exact⟨_,he,fun v z=>by cases z⟩
  ·have z:b=it:=by simpa using hb
   subst z;exact⟨o,hi,fun v z=>by rw[hd] at z;cases z⟩
 keep:=fun i h h' st k=>by
  obtain⟨⟨old,he⟩,hi⟩:=st;exact⟨⟨old,k e (by simp) _ he⟩,hi.at fun o q=>k it (by simp) o q⟩
 item:=by
  intro X hP hw hK hc i pins s σ H E I hf st hg;subst hP hw hK;obtain⟨⟨old,he⟩,hi⟩:=st;obtain⟨xs,x,hq,hx⟩:=hg;obtain⟨ah,rv,p,hz⟩:=I.tuple hq;obtain⟨u,hu,ru⟩:=rv.get hx;have D:=B7 (prog:=X.prog) (w:=X.w) (A:=X.A.in1) (by rw[q2T];exact I.ok.hd hc) it a IJ ah.toArray;have rF:i<ah.toArray.size:=by rw[Hb];exact(sR.mp hu).1
  refine wpAny_pyNext_enum_itemD D he ⟨hi,p⟩ rF fj (by simp[fj,q1A RM]) fun y h1 tk py mz u9 u_ hsz hk=>⟨_,rfl,?_⟩
  have ey:y=u:=by
   have py:ah.toArray[i]?=some y:=py;rw[q2Z,hu] at py;cases py;rfl
  subst ey;refine q4r mz fun h2 va dJ=>?_;have hT:s.heap.objs.size≠e:=q1L (My he);have kE:h2.get? s.heap.objs.size=some {cls:=.type "tuple",data:=.seq #[.int i tk,y]}:=(dJ.2 _ hT).trans u_
  have k2:∀b o,b∉[e,it]->s.heap.get? b=some o->h2.get? b=some o:=fun b o hb q=>by
   have oa:b≠e:=fun z=>hb (by simp[z]);have fm:b≠it:=fun z=>hb (by simp[z]);exact(dJ.2 _ oa).trans (hk b o oa fm q)
  have hn:H s.heap.objs.size=none:=I.aD.fresh (Bi _);refine⟨.ref s.heap.objs.size,upd H s.heap.objs.size (.tup [.int i,x]),I.fA (ch:=[e,it]) (t':=tk+1) hf k2 (Bi _) ?_,rfl,⟨_,x,rfl,hn,rfl,fun ys hy=>by rw[I.d_ hy hq];exact hx⟩,⟨⟨y,?_⟩,?_⟩,fun b hb=>?_⟩
  ·exact⟨by show 2<=sizeLine;decide,[.int i tk,y],.cons ⟨_,rfl⟩ (.cons ru .nil),_,kE,rfl,_,rfl⟩
  ·have e3:((i:Int)+1)=(((i+1:Nat)):Int):=by omega
   rw[e3] at va;exact va
  ·exact u9.1.at fun o q=>(dJ.2 _ (q1A fj)).trans q
  ·have:b<s.heap.objs.size:=by
    obtain⟨o,q,_⟩:=hi;rcases PD.mp hb with rfl|hb
    ·exact My he
    ·have z:b=it:=by simpa using hb
     subst z;exact My q
   rw[av (q0e this)];exact(hf b hb).1
 done:=by
  intro X hP hw hK hc i pins s σ H E I hf st hg;subst hP hw hK;obtain⟨⟨old,he⟩,hi⟩:=st;obtain⟨xs,hq,hx⟩:=hg;obtain⟨ah,rv,p,hz⟩:=I.tuple hq;have D:=B7 (prog:=X.prog) (w:=X.w) (A:=X.A.in1) (by rw[q2T];exact I.ok.hd hc) it a IJ ah.toArray;have rF:ah.toArray.size=i:=by rw[Hb,<-rv.length];exact hx
  refine wpAny_pyNext_enum_endD D he (by rw[rF];exact⟨hi,p⟩) fun h1 eb=>⟨rfl,?_⟩;obtain⟨f0,f1,f2,f3,f4,f5⟩:=hf it (by simp);exact I.turned (t':=s.toks) (fun b o hb q=>eb b o hb q) f0 f1 f3 f4 f5
 self:=fun A i s Q E st h=>by
  obtain⟨⟨old,he⟩,hi⟩:=st;exact q2m he h
section
variable{X:Cx}{elts:List Expr}{x1:Nat}{tp:Pos}{tg:Expr}
def RN(K:xA)(ta:TA):TI:=fun σ H R=>ta σ H fun vs H1=>∃a,vs=[.ref a]/\(((∃xs,aZ K H1 a xs)/\R (sV K a) H1)\/((∃xs,bw K H1 a xs)/\R (vL K a) H1))
theorem RO{a:Expr}{ta:TA}{p pos:Pos}(hg:Gl X "enumerate")(hm:X.mg "enumerate" = none)(ha:JA X [a] ta)(hs:starEach [a] X.env=[(false,eval a X.env)]:=by rfl):
  JI X (.Tuple elts x1 tp) (.Call (.Name "enumerate" p) [a] [] pos) (RN X.K ta):=by
 refine⟨?_⟩;intro pins s σ H R I h;refine Call_ (nM I hg hm Hs (q1B (aW (ha pos pins s σ H _ I h) fun us s1 h0_=>el5 h0_ fun vs H1 I1 r1 q1=>?_) hs rfl));obtain⟨l,e,q⟩:=q1;subst e;obtain⟨u,rfl,rx⟩:=vals1 r1;cases rx
 have fp:∀b∈[s1.heap.objs.size+1,s1.heap.objs.size],br X pins H1 b:=fun b hb=>by
  have hb':s1.heap.objs.size<=b:=by
   rcases PD.mp hb with rfl|hb
   ·exact q3Y _
   ·have z:b=s1.heap.objs.size:=by simpa using hb
    rw[z];exact Bi _
  exact I1.gv hb' (I1.aD.fresh hb')
 rcases q with⟨⟨xs,hq⟩,q⟩|⟨⟨xs,hq⟩,q⟩
 ·obtain⟨ah,rv,p,hz⟩:=I1.list hq
  refine q5Y p.isList fun h' he hi hsz hk=>?_;have I2:Inv X pins σ H1 {s1 with heap:=h'}:=I1.kept (t':=s1.toks) hk;refine q2m he ?_;exact⟨_,_,_,_,H1,rfl,I2,Hq l (s1.heap.objs.size+1) s1.heap.objs.size (q40 _),⟨⟨_,he⟩,hi⟩,fp,q⟩
 ·obtain⟨ah,rv,p,hz⟩:=I1.tuple hq
  have x5:l<s1.heap.objs.size:=by obtain⟨o,e,_⟩:=p;exact My e
  refine RI p fun h' he hi hsz hk=>?_;have I2:Inv X pins σ H1 {s1 with heap:=h'}:=I1.kept (t':=s1.toks) hk;refine q2m he ?_;exact⟨_,_,_,_,H1,rfl,I2,RL l (s1.heap.objs.size+1) s1.heap.objs.size (q40 _) (q0e (q0W x5)) (q0e x5),⟨⟨_,he⟩,hi⟩,fp,q⟩
def B9(K:xA)(tl:TE):TI:=fun σ H R=>tl σ H fun x H1=>∃a,x=.ref a/\(((∃xs,aZ K H1 a xs)/\R (GA K a) H1)\/((∃xs,bw K H1 a xs)/\R (GB K a) H1))
theorem IK{l:Expr}{tl:TE}(hl:JE X l tl):JI X tg l (B9 X.K tl):=by
 refine⟨?_⟩;intro pins s σ H R I h;refine aW (hl pins s σ H _ I h) fun v s1 h0_=>el5 h0_ fun x H1 I1 r1 q1=>?_;obtain⟨a,e,q⟩:=q1;subst e;cases r1
 have fp:∀b∈[s1.heap.objs.size],br X pins H1 b:=fun b hb=>by
  have e:b=s1.heap.objs.size:=by simpa using hb
  subst e;exact I1.gv (Bi _) (I1.aD.fresh (Bi _))
 rcases q with⟨⟨xs,hq⟩,q⟩|⟨⟨xs,hq⟩,q⟩
 ·obtain⟨ah,rv,p,hz⟩:=I1.list hq
  exact q2k p.isList ⟨s1.heap.objs.size,[s1.heap.objs.size],_,_,H1,rfl,I1.kept (t':=s1.toks) fun b o e=>qT _ e,Oi a _,⟨_,PG _ rfl,rfl,rfl⟩,fp,q⟩
 ·obtain⟨ah,rv,p,hz⟩:=I1.tuple hq
  exact q2U (show s1.heap.IsTuple a ah.toArray from p) ⟨s1.heap.objs.size,[s1.heap.objs.size],_,_,H1,rfl,I1.kept (t':=s1.toks) fun b o e=>qT _ e,Oj a _,⟨_,PG _ rfl,rfl,rfl⟩,fp,q⟩
end
variable[aB]
noncomputable def b_(lo:Int)(n:Nat):List D:=(q0A n).map fun i:Nat=>D.int (lo+i)
noncomputable def jr:Nat->List D->List D
 |_,[]=>[]
 |i,d::r=>.tup [.int i,d]::jr (i+1) r
noncomputable def cj:List D->List D->List D
 |a::r,b::s=>.tup [a,b]::cj r s
 |_,_=>[]
def mQ(x:DV)(δ:au)(K:pZ->Prop):Prop:=match x with
 |.p (.lst ds)=>K ⟨ds,fun _=>True⟩
 |.p (.tup ds)=>K ⟨ds,fun _=>True⟩
 |.o k=>match δ.mu[k]? with
  |some (some (.lst ds))=>K ⟨ds,fun δ'=>δ'.mu[k]?=some (some (.lst ds))⟩
  |_=>False
 |_=>False
def bE(f:WE):WI:=fun δ K=>f δ fun x δ1=>mQ x δ1 fun it=>K it δ1
def mR(fa:WA):WI:=fun δ K=>fa δ fun xs δ1=>match xs with
 |[.p (.int j)]=>(-(2 ^ 62)<=j/\j<2 ^ 62)/\K ⟨b_ 0 j.toNat,fun _=>True⟩ δ1
 |_=>False
def B_(fa:WA):WI:=fun δ K=>fa δ fun xs δ1=>match xs with
 |[.p (.int i),.p (.int j)]=>(-(2 ^ 62)<=i/\i<2 ^ 62 /\ -(2 ^ 62)<=j/\j<2 ^ 62)/\K ⟨b_ i (j-i).toNat,fun _=>True⟩ δ1
 |_=>False
def iW(fa:WA):WI:=fun δ K=>fa δ fun xs δ1=>match xs with
 |[x]=>mQ x δ1 fun it=>K ⟨jr 0 it.items,it.bp⟩ δ1
 |_=>False
def Ca(x:DV)(δ:au)(K:pZ->Prop):Prop:=match x with
 |.p (.lst ds)=>K ⟨ds,fun _=>True⟩
 |.o k=>match δ.mu[k]? with
  |some (some (.lst ds))=>K ⟨ds,fun δ'=>δ'.mu[k]?=some (some (.lst ds))⟩
  |_=>False
 |_=>False
theorem oz{lo:Int}{n i:Nat}{d:D}(h:(b_ lo n)[i]?=some d):i<n/\d=.int (lo+i):=by
 unfold b_ at h;rw[q0b] at h;obtain⟨j,e,rfl⟩:=q0g.mp h;have hj:=(sR.mp e).1;rw[q0_] at hj;rw[q2b hj] at e;cases e
 exact⟨hj,rfl⟩
theorem mS(lo:Int)(n:Nat):(b_ lo n).length=n:=by unfold b_;rw[qU,q0_]
theorem rH:∀(ds:List D)(i:Nat),(jr i ds).length=ds.length
 |[],_=>rfl
 |d::r,i=>by rw[jr,Hc,Hc,rH r]
theorem rJ:∀{ds:List D}{k i:Nat}{d:D},(jr k ds)[i]?=some d->∃e,ds[i]?=some e/\d=.tup [.int ((k+i:Nat):Int),e]
 |[],k,i,d,h=>by simp[jr] at h
 |e::r,k,0,d,h=>by
  cases(show some (D.tup [.int (k:Nat),e])=some d by simpa[jr] using h)
  exact⟨e,rfl,rfl⟩
 |e::r,k,i+1,d,h=>by
  obtain⟨e',h1,h2⟩:=rJ (ds:=r) (k:=k+1) (i:=i) (d:=d) (by simpa[jr] using h);exact⟨e',by simpa using h1,by rw[h2];congr 4;omega⟩
theorem IL:∀{as bs:List D}{i:Nat}{d:D},(cj as bs)[i]?=some d->∃a b,as[i]?=some a/\bs[i]?=some b/\d=.tup [a,b]
 |[],_,i,d,h=>by simp[cj] at h
 |_::_,[],i,d,h=>by simp[cj] at h
 |a::r,b::s,0,d,h=>by
  cases(show some (D.tup [a,b])=some d by simpa[cj] using h)
  exact⟨a,b,rfl,rfl,rfl⟩
 |a::r,b::s,i+1,d,h=>by
  obtain⟨x,y,h1,h2,h3⟩:=IL (as:=r) (bs:=s) (i:=i) (d:=d) (by simpa[cj] using h);exact⟨x,y,by simpa using h1,by simpa using h2,h3⟩
theorem x6:∀(as bs:List D),(cj as bs).length=min as.length bs.length
 |[],_=>by simp[cj]
 |_::_,[]=>by simp[cj]
 |a::r,b::s=>by rw[cj,Hc,Hc,Hc,x6 r s];omega
section
variable{X:Cx}{tg l a b:Expr}{f:WE}{fa:WA}{F H:Hp}{ad:List Addr}{δ:au}{σ:St}
theorem JI.weak{iter:Expr}{w w':TI}(h:JI X tg iter w)(k:∀σ H R,w' σ H R->w σ H R):JI X tg iter w':=⟨fun pins s σ H R I q=>h pins s σ H R I (k σ H R q)⟩
theorem qa{ds:List D}{vs:List V}(h:ae F ds vs){i:Nat}{d:D}(e:ds[i]?=some d):∃v,vs[i]?=some v/\Is F d v:=by
 have hl:=h.length;have hi:i<vs.length:=by rw[hl];exact(sR.mp e).1
 obtain⟨d',e1,h1⟩:=h.get (qV hi);rw[e] at e1;cases e1;exact⟨_,qV hi,h1⟩
theorem IM{x:DV}{v:V}{K:pZ->Prop}(S:SR F ad δ σ H)(V1:fD F ad x v)(h:Ca x δ K):∃a it,v=.ref a/\K it/\(∃vs,H a=some (.lst vs)) ∧
  ∀(F':Hp)(aw:List Addr)(δ':au)(σ':St)(H':Hp),ar F F'->(∀(k:Nat)(a:Addr),ad[k]?=some a->aw[k]?=some a)->SR F' aw δ' σ' H'->it.bp δ'->∃vs,H' a=some (.lst vs)/\ae F' it.items vs:=by
 unfold Ca at h;split at h
 ·rename_i ds
  have V2:Is F (.lst ds) v:=V1;simp only[Is] at V2;obtain⟨a,vs,rfl,h1,h2⟩:=V2;exact⟨a,_,rfl,h,⟨vs,S.sub _ _ h1⟩,fun F' aw δ' σ' H' s _ S' _=>⟨vs,S'.sub _ _ (s _ _ h1),h2.same s⟩⟩
 ·rename_i k
  split at h
  ·rename_i ds e
   obtain⟨a,e1,rfl⟩:=V1;obtain⟨a',o,e2,e3,vs,rfl,h4⟩:=S.mu k _ e;rw[e1] at e2;cases e2;refine⟨a,_,rfl,h,⟨vs,e3⟩,fun F' aw δ' σ' H' _ pre S' ck=>?_⟩;obtain⟨a'',o,e5,e6,ws,rfl,h7⟩:=S'.mu k _ ck;rw[pre k a e1] at e5;cases e5;exact⟨ws,e6,h7⟩
  ·exact h.elim
 ·exact h.elim
theorem Cb{x:DV}{v:V}{K:pZ->Prop}(S:SR F ad δ σ H)(V1:fD F ad x v)(h:mQ x δ K):∃a it,v=.ref a/\K it ∧
  (((∃vs,H a=some (.lst vs))/\∀(F':Hp)(aw:List Addr)(δ':au)(σ':St)(H':Hp),ar F F'->(∀(k:Nat)(a:Addr),ad[k]?=some a->aw[k]?=some a)->SR F' aw δ' σ' H'->it.bp δ'->∃vs,H' a=some (.lst vs)/\ae F' it.items vs) ∨
  ((∃vs,H a=some (.tup vs))/\∀(F':Hp)(aw:List Addr)(δ':au)(σ':St)(H':Hp),ar F F'->(∀(k:Nat)(a:Addr),ad[k]?=some a->aw[k]?=some a)->SR F' aw δ' σ' H'->it.bp δ'->∃vs,H' a=some (.tup vs)/\ae F' it.items vs)):=by
 unfold mQ at h;split at h
 ·rename_i ds
  obtain⟨a,it,e,k,r⟩:=IM (x:=.p (.lst ds)) S V1 h;exact⟨a,it,e,k,.inl r⟩
 ·rename_i ds
  have V2:Is F (.tup ds) v:=V1;simp only[Is] at V2;obtain⟨a,vs,rfl,h1,h2⟩:=V2;exact⟨a,_,rfl,h,.inr ⟨⟨vs,S.sub _ _ h1⟩,fun F' aw δ' σ' H' s _ S' _=>⟨vs,S'.sub _ _ (s _ _ h1),h2.same s⟩⟩⟩
 ·rename_i k
  obtain⟨a,it,e,k,r⟩:=IM (x:=.o k) S V1 h;exact⟨a,it,e,k,.inl r⟩
 ·exact h.elim
theorem RP(hl:JE X l (tD f)):JI X tg l (jo (bE f)):=(IK hl).weak fun σ H R h0_=>el7 h0_ fun F ad δ K S q k =>⟨F,ad,δ,_,S,q,fun x δ1 h1 v F1 aN H1 E1 S1 V1=>by
 obtain⟨a,it,rfl,hk,r⟩:=Cb S1 V1 h1;refine⟨a,rfl,?_⟩;rcases r with⟨⟨vs,e⟩,r⟩|⟨⟨vs,e⟩,r⟩
 ·refine .inl ⟨⟨vs,aZ.of e⟩,k _ _ hk _ _ _ _ E1 S1 fun F' aw δ' σ' H' s pre S' ck=>?_⟩
  obtain⟨ws,e1,e2⟩:=r F' aw δ' σ' H' s pre S' ck;refine⟨⟨ws,aZ.of e1,by rw[e2.length];exact Bi _⟩,fun i d ed=>?_⟩;obtain⟨w,e3,e4⟩:=qa e2 ed;refine⟨⟨ws,w,aZ.of e1,e3⟩,fun y kj ⟨eh,hy⟩=>?_⟩;subst eh;refine⟨fun _ _ e=>e,?_⟩;have:=hy ws (aZ.of e1);rw[e3] at this;cases this;rw[Nw.refl S'.sub];exact e4
 ·refine .inr ⟨⟨vs,bw.of e⟩,k _ _ hk _ _ _ _ E1 S1 fun F' aw δ' σ' H' s pre S' ck=>?_⟩
  obtain⟨ws,e1,e2⟩:=r F' aw δ' σ' H' s pre S' ck;refine⟨⟨ws,bw.of e1,by rw[e2.length];exact Bi _⟩,fun i d ed=>?_⟩;obtain⟨w,e3,e4⟩:=qa e2 ed;refine⟨⟨ws,w,bw.of e1,e3⟩,fun y kj ⟨eh,hy⟩=>?_⟩;subst eh;refine⟨fun _ _ e=>e,?_⟩;have:=hy ws (bw.of e1);rw[e3] at this;cases this
  rw[Nw.refl S'.sub];exact e4⟩
theorem Cc{F H:Hp}{T:Addr}{d e:D}{x y:V}(s:ar F H)(hT:H T=none)(h1:Is F d x)(h2:Is F e y):Is (Nw F H (upd H T (.tup [x,y]))) (.tup [d,e]) (.ref T):=by
 rw[Nw.upd s hT]
 have hF:F T=none:=by
  cases q:F T with
  |none=>rfl
  |some u=>rw[s T u q] at hT;cases hT
 have sm:ar F (upd F T (.tup [x,y])):=b7 hF;simp only[Is];exact⟨T,_,rfl,a_,.cons (h1.same sm) (.cons (h2.same sm) .nil)⟩
theorem RQ{elts:List Expr}{x1:Nat}{tp p pos:Pos}(hg:Gl X "enumerate")(hm:X.mg "enumerate" = none)(ha:JA X [a] (bK fa))(hs:starEach [a] X.env=[(false,eval a X.env)]:=by rfl):
  JI X (.Tuple elts x1 tp) (.Call (.Name "enumerate" p) [a] [] pos) (jo (iW fa)):=(RO hg hm ha hs).weak fun σ H R h0_=>el7 h0_ fun F ad δ K S q k =>⟨F,ad,δ,_,S,q,fun xs δ1 h1 vs F1 aN H1 E1 S1 V1=>by
 match xs,h1,V1 with
 |[x],g1,⟨v,r,e,W1,W2⟩ =>
  subst e;have W3:r=[]:=W2;subst W3;obtain⟨a,it,rfl,hk,r⟩:=Cb S1 W1 g1;refine⟨a,rfl,?_⟩;rcases r with⟨⟨vs,e⟩,r⟩|⟨⟨vs,e⟩,r⟩
  ·refine .inl ⟨⟨vs,aZ.of e⟩,k _ _ hk _ _ _ _ E1 S1 fun F' aw δ' σ' H' s pre S' ck=>?_⟩
   obtain⟨ws,e1,e2⟩:=r F' aw δ' σ' H' s pre S' ck;refine⟨⟨ws,aZ.of e1,by rw[e2.length,rH];exact Bi _⟩,fun i d ed=>?_⟩;obtain⟨d',Cd,rfl⟩:=rJ ed;obtain⟨w,e3,e4⟩:=qa e2 Cd;refine⟨⟨ws,w,aZ.of e1,e3⟩,fun y kj ⟨T,v,ey,hT,eh,hy⟩=>?_⟩;subst eh ey;have:=hy ws (aZ.of e1);rw[e3] at this;cases this;refine⟨b7 hT,?_⟩;rw[q00];exact Cc S'.sub hT rfl e4
  ·refine .inr ⟨⟨vs,bw.of e⟩,k _ _ hk _ _ _ _ E1 S1 fun F' aw δ' σ' H' s pre S' ck=>?_⟩
   obtain⟨ws,e1,e2⟩:=r F' aw δ' σ' H' s pre S' ck;refine⟨⟨ws,bw.of e1,by rw[e2.length,rH]⟩,fun i d ed=>?_⟩;obtain⟨d',Cd,rfl⟩:=rJ ed;obtain⟨w,e3,e4⟩:=qa e2 Cd;refine⟨⟨ws,w,bw.of e1,e3⟩,fun y kj ⟨T,v,ey,hT,eh,hy⟩=>?_⟩;subst eh ey;have:=hy ws (bw.of e1);rw[e3] at this;cases this;refine⟨b7 hT,?_⟩;rw[q00];exact Cc S'.sub hT rfl e4
 |[],h1,_=>exact h1.elim
 |_::_::_,h1,_=>exact h1.elim⟩
theorem IP{F1:Hp}{aN:List Addr}{lo:Int}{n:Nat}:rD F1 aN ⟨b_ lo n,fun _=>True⟩ (uG lo n):=fun F' aw δ' σ' H' s pre S' _=>by
 refine⟨by show n<=(b_ lo n).length;rw[mS];exact Bi _,fun i d ed=>?_⟩;obtain⟨hi,rfl⟩:=oz ed;refine⟨hi,fun x kj ⟨eh,ex⟩=>?_⟩;subst eh ex;exact⟨fun _ _ e=>e,rfl⟩
theorem RR{p pos:Pos}(hg:Gl X "range")(hm:X.mg "range" = none)(ha:JA X [a] (bK fa))(hs:starEach [a] X.env=[(false,eval a X.env)]:=by rfl):JI X tg (.Call (.Name "range" p) [a] [] pos) (jo (mR fa)) :=
 (Oq hg hm ha hs).weak fun σ H R h0_=>el7 h0_ fun F ad δ K S q k =>⟨F,ad,δ,_,S,q,fun xs δ1 h1 vs F1 aN H1 E1 S1 V1=>by
  split at h1
  ·rename_i j
   obtain⟨v,r,e,V1,V2⟩:=V1;have V2:r=[]:=V2;have V1:v=.int j:=V1;subst V2 V1 e;exact⟨j,rfl,h1.1.1,h1.1.2,k _ _ h1.2 _ _ _ _ E1 S1 IP⟩
  ·exact h1.elim⟩
theorem RS{p pos:Pos}(hg:Gl X "range")(hm:X.mg "range" = none)(ha:JA X [a,b] (bK fa))(hs:starEach [a,b] X.env=[(false,eval a X.env),(false,eval b X.env)]:=by rfl)(dJ:starEach [b] X.env=[(false,eval b X.env)]:=by rfl):
  JI X tg (.Call (.Name "range" p) [a,b] [] pos) (jo (B_ fa)) :=
 (Ot hg hm ha hs dJ).weak fun σ H R h0_=>el7 h0_ fun F ad δ K S q k =>⟨F,ad,δ,_,S,q,fun xs δ1 h1 vs F1 aN H1 E1 S1 V1=>by
  split at h1
  ·rename_i i j
   obtain⟨v,r,e,V1,w,r2,e2,V2,V3⟩:=V1;have V3:r2=[]:=V3;have V1:v=.int i:=V1;have V2:w=.int j:=V2;subst V3 V1 V2 e2 e;exact⟨i,j,rfl,h1.1,k _ _ h1.2 _ _ _ _ E1 S1 IP⟩
  ·exact h1.elim⟩
end
end L2
namespace L2
open PySem PySem.Spec PyProof.Rows
mutual
noncomputable def ax:D->D->Bool
 |.non,.non=>true
 |.bl a,.bl b=>a==b
 |.bl a,.int b=>(if a then 1 else 0)==b
 |.int a,.bl b=>a==(if b then 1 else 0)
 |.int a,.int b=>a==b
 |.str a,.str b=>a==b
 |.tup a,.tup b=>du a b
 |.lst a,.lst b=>du a b
 |_,_=>false
noncomputable def du:List D->List D->Bool
 |[],[]=>true
 |a::r,b::s=>ax a b&&du r s
 |_,_=>false
end
mutual
theorem fM:∀d:D,ax d d=true
 |.non=>by simp[ax]
 |.bl a=>by simp[ax]
 |.int a=>by simp[ax]
 |.str a=>by simp[ax]
 |.tup a=>by simp only[ax];exact Ce a
 |.lst a=>by simp only[ax];exact Ce a
theorem Ce:∀ds:List D,du ds ds=true
 |[]=>by simp[du]
 |d::r=>by simp only[du,fM d,Ce r,q4O]
end
mutual
theorem Is.inj {H:Hp}:∀{d e:D}{v:V},Is H d v->Is H e v->d=e
 |.non,e,v,h,q=>by cases e<;>simp only[Is] at h q<;>first|rfl|(subst h;first|(obtain⟨_,_,z,_⟩:=q;cases z;done)|(cases q;done)|(cases q;rfl))
 |.bl a,e,v,h,q=>by cases e<;>simp only[Is] at h q<;>(subst h;first|(obtain⟨_,_,z,_⟩:=q;cases z;done)|(cases q;done)|(cases q;rfl))
 |.int a,e,v,h,q=>by cases e<;>simp only[Is] at h q<;>(subst h;first|(obtain⟨_,_,z,_⟩:=q;cases z;done)|(cases q;done)|(cases q;rfl))
 |.str a,e,v,h,q=>by cases e<;>simp only[Is] at h q<;>(subst h;first|(obtain⟨_,_,z,_⟩:=q;cases z;done)|(cases q;done)|(cases q;rfl))
 |.tup a,e,v,h,q=>by
  simp only[Is] at h;obtain⟨p,vs,rfl,h1,h2⟩:=h
  cases e with
  |tup b =>
   simp only[Is] at q;obtain⟨p',ws,z,q1,q2⟩:=q;cases z
   rw[h1] at q1;cases q1;rw[ae.inj h2 q2]
  |lst b =>
   simp only[Is] at q;obtain⟨p',ws,z,q1,q2⟩:=q;cases z
   rw[h1] at q1;cases q1
  |non=>simp only[Is] at q;cases q
  |bl _=>simp only[Is] at q;cases q
  |int _=>simp only[Is] at q;cases q
  |str _=>simp only[Is] at q;cases q
 |.lst a,e,v,h,q=>by
  simp only[Is] at h;obtain⟨p,vs,rfl,h1,h2⟩:=h
  cases e with
  |lst b =>
   simp only[Is] at q;obtain⟨p',ws,z,q1,q2⟩:=q;cases z
   rw[h1] at q1;cases q1;rw[ae.inj h2 q2]
  |tup b =>
   simp only[Is] at q;obtain⟨p',ws,z,q1,q2⟩:=q;cases z
   rw[h1] at q1;cases q1
  |non=>simp only[Is] at q;cases q
  |bl _=>simp only[Is] at q;cases q
  |int _=>simp only[Is] at q;cases q
  |str _=>simp only[Is] at q;cases q
theorem ae.inj {H:Hp}:∀{ds es:List D}{vs:List V},ae H ds vs->ae H es vs->ds=es
 |[],es,vs,h,q=>by
  simp only[ae] at h;subst h
  cases es with
  |nil=>rfl
  |cons _ _=>simp only[ae] at q;obtain⟨_,_,z,_⟩:=q;cases z
 |d::ds,es,vs,h,q=>by
  simp only[ae] at h;obtain⟨v,r,rfl,h1,h2⟩:=h
  cases es with
  |nil=>simp only[ae] at q;cases q
  |cons e es =>
   simp only[ae] at q;obtain⟨v',r',z,q1,q2⟩:=q;cases z
   rw[Is.inj h1 q1,ae.inj h2 q2]
end
theorem vM:∀{ds es:List D},ds.length≠es.length->du ds es=false
 |[],[],h=>absurd rfl h
 |[],_::_,_=>by simp[du]
 |_::_,[],_=>by simp[du]
 |d::r,e::s,h=>by simp only[du];rw[vM (fun z=>h (by rw[Hc,Hc,z])),q70]
noncomputable def rK(ds es:List D)(j:Nat):Bool:=match ds[j]?,es[j]? with
 |some a,some b=>ax a b
 |_,_=>true
theorem vN:∀{ds es:List D},ds.length=es.length->(q0A ds.length).all (rK ds es)=du ds es
 |[],[],_=>by simp[du]
 |[],_::_,h=>by simp at h
 |_::_,[],h=>by simp at h
 |d::r,e::s,h=>by
  have ih:=vN (ds:=r) (es:=s) (by simpa using h);rw[Hc,List.range_succ_eq_map,q4K,List.all_map];simp only[du];rw[<-ih];rfl
section
variable{X:Cx}{pins:aq}{σ:St}{H:Hp}{s:Shared}
theorem vO{vs:List V}{ah:List Value}(r:Vals vs ah){j:Nat}(h:j<ah.toArray.size):∃v,vs[j]?=some v/\RelV v ah.toArray[j]:=by
 have hj:j<ah.length:=by simpa using h
 have hv:j<vs.length:=by rw[r.length];exact hj
 obtain⟨u,e,ru⟩:=r.get (qV hv)
 have:ah.toArray[j]=u:=by
  have:=(sR.mp e).2;simpa using this
 rw[this];exact⟨_,qV hv,ru⟩
theorem cZ(I:Inv X pins σ H s){a:Addr}{vs:List V}(h:H a=some (.lst vs)):∃ah:List Value,Vals vs ah/\s.heap.IsList a ah.toArray:=by
 obtain⟨ah,r,p,_⟩:=I.list (aZ.of h);exact⟨ah,r,p.isList⟩
theorem c_(I:Inv X pins σ H s){a:Addr}{vs:List V}(h:H a=some (.tup vs)):∃ah:List Value,Vals vs ah/\s.heap.IsTuple a ah.toArray:=by
 obtain⟨ah,r,p,_⟩:=I.tuple (bw.of h);exact⟨ah,r,p⟩
theorem in1_units(A:Around):A.in1.units=A.units+1:=rfl
theorem Cf(I:Inv X pins σ H s):∀(n:Nat){A:Around}{d e:D}{v u:V}{x y:Value},dep d<=n->A.units+n<cLine->Is H d v->Is H e u->RelV v x->RelV u y->q3T A s x y (ax d e)/\q77 A s x y (ax d e):=by
 intro n
 induction n with
 |zero =>
  intro A d e v u x y hd hu hv hw rv ru;have nz:A.units<cLine:=by omega
  cases d with
  |tup ds=>simp[dep] at hd
  |lst ds=>simp[dep] at hd
  |non =>
   cases(show v=.non from hv);cases rv
   cases e with
   |non=>cases(show u=.non from hw);cases ru;simp only[ax];exact⟨q34 _,SeqAt.RcAt.none_none⟩
   |bl b=>cases(show u=.bl b from hw);cases ru;simp only[ax];exact⟨q5F _,SeqAt.RcAt.none_bool _⟩
   |int b=>cases(show u=.int b from hw);obtain⟨t,rfl⟩:=ru;simp only[ax];exact⟨q5Q _ _,SeqAt.RcAt.none_int _ _⟩
   |str b=>cases(show u=.str b from hw);obtain⟨t,rfl⟩:=ru;simp only[ax];exact⟨q5R _ _,SeqAt.RcAt.none_str _ _⟩
   |tup es=>simp only[Is] at hw;obtain⟨a,vs,rfl,h1,_⟩:=hw;cases ru;obtain⟨_,_,p⟩:=c_ I h1;simp only[ax];exact⟨SeqAt.EqAt.none_tuple p nz,SeqAt.RcAt.none_tuple p nz⟩
   |lst es=>simp only[Is] at hw;obtain⟨a,vs,rfl,h1,_⟩:=hw;cases ru;obtain⟨_,_,p⟩:=cZ I h1;simp only[ax];exact⟨SeqAt.EqAt.none_list p nz,SeqAt.RcAt.none_list p nz⟩
  |bl b0 =>
   cases(show v=.bl b0 from hv);cases rv
   cases e with
   |non=>cases(show u=.non from hw);cases ru;simp only[ax];exact⟨q5G _,SeqAt.RcAt.bool_none _⟩
   |bl b=>cases(show u=.bl b from hw);cases ru;simp only[ax];exact⟨q5H _ _,SeqAt.RcAt.bool_bool _ _⟩
   |int b=>cases(show u=.int b from hw);obtain⟨t,rfl⟩:=ru;simp only[ax];exact⟨q5S _ _ _,SeqAt.RcAt.bool_int _ _ _⟩
   |str b=>cases(show u=.str b from hw);obtain⟨t,rfl⟩:=ru;simp only[ax];exact⟨q5T _ _ _,SeqAt.RcAt.bool_str _ _ _⟩
   |tup es=>simp only[Is] at hw;obtain⟨a,vs,rfl,h1,_⟩:=hw;cases ru;obtain⟨_,_,p⟩:=c_ I h1;simp only[ax];exact⟨SeqAt.EqAt.bool_tuple _ p nz,SeqAt.RcAt.bool_tuple _ p nz⟩
   |lst es=>simp only[Is] at hw;obtain⟨a,vs,rfl,h1,_⟩:=hw;cases ru;obtain⟨_,_,p⟩:=cZ I h1;simp only[ax];exact⟨SeqAt.EqAt.bool_list _ p nz,SeqAt.RcAt.bool_list _ p nz⟩
  |int b0 =>
   cases(show v=.int b0 from hv);obtain⟨t0,rfl⟩:=rv
   cases e with
   |non=>cases(show u=.non from hw);cases ru;simp only[ax];exact⟨q5U _ _,SeqAt.RcAt.int_none _ _⟩
   |bl b=>cases(show u=.bl b from hw);cases ru;simp only[ax];exact⟨q5V _ _ _,SeqAt.RcAt.int_bool _ _ _⟩
   |int b=>cases(show u=.int b from hw);obtain⟨t,rfl⟩:=ru;simp only[ax];exact⟨q4n _ _ _ _,SeqAt.RcAt.int_int _ _ _ _⟩
   |str b=>cases(show u=.str b from hw);obtain⟨t,rfl⟩:=ru;simp only[ax];exact⟨q4k _ _ _ _,SeqAt.RcAt.int_str _ _ _ _⟩
   |tup es=>simp only[Is] at hw;obtain⟨a,vs,rfl,h1,_⟩:=hw;cases ru;obtain⟨_,_,p⟩:=c_ I h1;simp only[ax];exact⟨SeqAt.EqAt.int_tuple _ _ p nz,SeqAt.RcAt.int_tuple _ _ p nz⟩
   |lst es=>simp only[Is] at hw;obtain⟨a,vs,rfl,h1,_⟩:=hw;cases ru;obtain⟨_,_,p⟩:=cZ I h1;simp only[ax];exact⟨SeqAt.EqAt.int_list _ _ p nz,SeqAt.RcAt.int_list _ _ p nz⟩
  |str b0 =>
   cases(show v=.str b0 from hv);obtain⟨t0,rfl⟩:=rv
   cases e with
   |non=>cases(show u=.non from hw);cases ru;simp only[ax];exact⟨q5W _ _,SeqAt.RcAt.str_none _ _⟩
   |bl b=>cases(show u=.bl b from hw);cases ru;simp only[ax];exact⟨q5X _ _ _,SeqAt.RcAt.str_bool _ _ _⟩
   |int b=>cases(show u=.int b from hw);obtain⟨t,rfl⟩:=ru;simp only[ax];exact⟨q4l _ _ _ _,SeqAt.RcAt.str_int _ _ _ _⟩
   |str b=>cases(show u=.str b from hw);obtain⟨t,rfl⟩:=ru;simp only[ax];exact⟨q6p _ _ _ _,SeqAt.RcAt.str_str _ _ _ _⟩
   |tup es=>simp only[Is] at hw;obtain⟨a,vs,rfl,h1,_⟩:=hw;cases ru;obtain⟨_,_,p⟩:=c_ I h1;simp only[ax];exact⟨SeqAt.EqAt.str_tuple _ _ p nz,SeqAt.RcAt.str_tuple _ _ p nz⟩
   |lst es=>simp only[Is] at hw;obtain⟨a,vs,rfl,h1,_⟩:=hw;cases ru;obtain⟨_,_,p⟩:=cZ I h1;simp only[ax];exact⟨SeqAt.EqAt.str_list _ _ p nz,SeqAt.RcAt.str_list _ _ p nz⟩
 |succ n ih =>
  intro A d e v u x y hd hu hv hw rv ru;have nz:A.units<cLine:=by omega
  have step:∀{ds es:List D}{vs us:List V}{ah aY:List Value}(r1:Vals vs ah)(r2:Vals us aY),aQ ds<=n->ae H ds vs->ae H es us →
    ∀(j:Nat)(h1:j<ah.toArray.size)(h2:j<aY.toArray.size),q3T A.in1 s ah.toArray[j] aY.toArray[j] (rK ds es j):=fun{ds es vs us ah aY} r1 r2 hl i1 i2 j h1 h2=>by
   obtain⟨v1,e1,q1⟩:=vO r1 h1;obtain⟨v2,e2,q2⟩:=vO r2 h2;obtain⟨d1,f1,g1⟩:=i1.get e1;obtain⟨d2,f2,g2⟩:=i2.get e2;unfold rK;rw[f1,f2];exact(ih (q02 (BA f1) hl) (by rw[in1_units];omega) g1 g2 q1 q2).1
  cases d with
  |tup ds =>
   have hl:aQ ds<=n:=by simp only[dep] at hd;omega
   have Cg:=hv;simp only[Is] at hv;obtain⟨a,vs,rfl,h1,i1⟩:=hv;cases rv
   obtain⟨ah,r1,p1⟩:=c_ I h1
   cases e with
   |tup es =>
    have Ci:=hw;simp only[Is] at hw;obtain⟨b,us,rfl,h2,i2⟩:=hw;cases ru
    obtain⟨aY,r2,p2⟩:=c_ I h2
    have rc:q77 A s (.ref a) (.ref b) (ax (.tup ds) (.tup es)):=by
     have:=SeqAt.RcAt.tuples p1 p2 nz (step r1 r2 hl i1 i2);have l1:ah.toArray.size=ds.length:=by rw[Hb,<-r1.length,i1.length]
     have l2:aY.toArray.size=es.length:=by rw[Hb,<-r2.length,i2.length]
     rw[l1,l2] at this
     have eb:((q0A (min ds.length es.length)).all (rK ds es)&&ds.length==es.length)=ax (.tup ds) (.tup es):=by
      simp only[ax]
      by_cases c:ds.length=es.length
      ·rw[<-c,q9d,vN c];simp
      ·rw[vM c];simp[c]
     rw[eb] at this;exact this
    refine⟨?_,rc⟩
    by_cases c:a=b
    ·subst c
     have:=Is.inj Cg Ci;rw[this,fM];exact q34 _
    ·exact q6s c rc
   |lst es =>
    simp only[Is] at hw;obtain⟨b,us,rfl,h2,i2⟩:=hw;cases ru
    obtain⟨aY,r2,p2⟩:=cZ I h2;simp only[ax];exact⟨SeqAt.EqAt.tuple_list p1 p2 nz,SeqAt.RcAt.tuple_list p1 p2 nz⟩
   |non=>cases(show u=.non from hw);cases ru;simp only[ax];exact⟨SeqAt.EqAt.tuple_none p1 nz,SeqAt.RcAt.tuple_none p1 nz⟩
   |bl b=>cases(show u=.bl b from hw);cases ru;simp only[ax];exact⟨SeqAt.EqAt.tuple_bool _ p1 nz,SeqAt.RcAt.tuple_bool _ p1 nz⟩
   |int b=>cases(show u=.int b from hw);obtain⟨t,rfl⟩:=ru;simp only[ax];exact⟨SeqAt.EqAt.tuple_int _ _ p1 nz,SeqAt.RcAt.tuple_int _ _ p1 nz⟩
   |str b=>cases(show u=.str b from hw);obtain⟨t,rfl⟩:=ru;simp only[ax];exact⟨SeqAt.EqAt.tuple_str _ _ p1 nz,SeqAt.RcAt.tuple_str _ _ p1 nz⟩
  |lst ds =>
   have hl:aQ ds<=n:=by simp only[dep] at hd;omega
   have Cg:=hv;simp only[Is] at hv;obtain⟨a,vs,rfl,h1,i1⟩:=hv;cases rv
   obtain⟨ah,r1,p1⟩:=cZ I h1
   cases e with
   |lst es =>
    have Ci:=hw;simp only[Is] at hw;obtain⟨b,us,rfl,h2,i2⟩:=hw;cases ru
    obtain⟨aY,r2,p2⟩:=cZ I h2;have l1:ah.toArray.size=ds.length:=by rw[Hb,<-r1.length,i1.length]
    have l2:aY.toArray.size=es.length:=by rw[Hb,<-r2.length,i2.length]
    have rc:q77 A s (.ref a) (.ref b) (ax (.lst ds) (.lst es)):=by
     by_cases c:ds.length=es.length
     ·have:=SeqAt.RcAt.lists p1 p2 (by rw[l1,l2];exact c) nz (step r1 r2 hl i1 i2)
      rw[l1,vN c] at this;simp only[ax];exact this
     ·simp only[ax];rw[vM c]
      exact SeqAt.RcAt.lists_lengths p1 p2 (by rw[l1,l2];simpa using c) nz
    refine⟨?_,rc⟩
    by_cases c:a=b
    ·subst c
     have:=Is.inj Cg Ci;rw[this,fM];exact q34 _
    ·exact q6s c rc
   |tup es =>
    simp only[Is] at hw;obtain⟨b,us,rfl,h2,i2⟩:=hw;cases ru
    obtain⟨aY,r2,p2⟩:=c_ I h2;simp only[ax];exact⟨SeqAt.EqAt.list_tuple p1 p2 nz,SeqAt.RcAt.list_tuple p1 p2 nz⟩
   |non=>cases(show u=.non from hw);cases ru;simp only[ax];exact⟨SeqAt.EqAt.list_none p1 nz,SeqAt.RcAt.list_none p1 nz⟩
   |bl b=>cases(show u=.bl b from hw);cases ru;simp only[ax];exact⟨SeqAt.EqAt.list_bool _ p1 nz,SeqAt.RcAt.list_bool _ p1 nz⟩
   |int b=>cases(show u=.int b from hw);obtain⟨t,rfl⟩:=ru;simp only[ax];exact⟨SeqAt.EqAt.list_int _ _ p1 nz,SeqAt.RcAt.list_int _ _ p1 nz⟩
   |str b=>cases(show u=.str b from hw);obtain⟨t,rfl⟩:=ru;simp only[ax];exact⟨SeqAt.EqAt.list_str _ _ p1 nz,SeqAt.RcAt.list_str _ _ p1 nz⟩
  |non=>exact ih (by simp[dep]) (by omega) hv hw rv ru
  |bl b0=>exact ih (by simp[dep]) (by omega) hv hw rv ru
  |int b0=>exact ih (by simp[dep]) (by omega) hv hw rv ru
  |str b0=>exact ih (by simp[dep]) (by omega) hv hw rv ru
theorem RT(I:Inv X pins σ H s){A:Around}{d e:D}{v u:V}{x y:Value}(hd:dep d<=60)(hu:A.units+61<cLine)(hv:Is H d v)(hw:Is H e u)(rv:RelV v x)(ru:RelV u y):SeqAt.RcNeAt A s x y (!ax d e):=by
 have nz:A.units<cLine:=by omega
 have step:∀{ds es:List D}{vs us:List V}{ah aY:List Value}(r1:Vals vs ah)(r2:Vals us aY),aQ ds<=59->ae H ds vs->ae H es us →
   ∀(j:Nat)(h1:j<ah.toArray.size)(h2:j<aY.toArray.size),q3T A.in1 s ah.toArray[j] aY.toArray[j] (rK ds es j):=fun{ds es vs us ah aY} r1 r2 hl i1 i2 j h1 h2=>by
  obtain⟨v1,e1,q1⟩:=vO r1 h1;obtain⟨v2,e2,q2⟩:=vO r2 h2;obtain⟨d1,f1,g1⟩:=i1.get e1;obtain⟨d2,f2,g2⟩:=i2.get e2;unfold rK;rw[f1,f2];exact(Cf I 59 (q02 (BA f1) hl) (by rw[in1_units];omega) g1 g2 q1 q2).1
 cases d with
 |tup ds =>
  have hl:aQ ds<=59:=by simp only[dep] at hd;omega
  simp only[Is] at hv;obtain⟨a,vs,rfl,h1,i1⟩:=hv;cases rv
  obtain⟨ah,r1,p1⟩:=c_ I h1
  cases e with
  |tup es =>
   simp only[Is] at hw;obtain⟨b,us,rfl,h2,i2⟩:=hw;cases ru
   obtain⟨aY,r2,p2⟩:=c_ I h2;have:=SeqAt.RcNeAt.tuples p1 p2 nz (step r1 r2 hl i1 i2);have l1:ah.toArray.size=ds.length:=by rw[Hb,<-r1.length,i1.length]
   have l2:aY.toArray.size=es.length:=by rw[Hb,<-r2.length,i2.length]
   rw[l1,l2] at this
   have eb:((q0A (min ds.length es.length)).all (rK ds es)&&ds.length==es.length)=ax (.tup ds) (.tup es):=by
    simp only[ax]
    by_cases c:ds.length=es.length
    ·rw[<-c,q9d,vN c];simp
    ·rw[vM c];simp[c]
   rw[eb] at this;exact this
  |lst es=>simp only[Is] at hw;obtain⟨b,us,rfl,h2,i2⟩:=hw;cases ru;obtain⟨aY,r2,p2⟩:=cZ I h2;simp only[ax];exact SeqAt.RcNeAt.tuple_list p1 p2 nz
  |non=>cases(show u=.non from hw);cases ru;simp only[ax];exact SeqAt.RcNeAt.tuple_none p1 nz
  |bl b=>cases(show u=.bl b from hw);cases ru;simp only[ax];exact SeqAt.RcNeAt.tuple_bool _ p1 nz
  |int b=>cases(show u=.int b from hw);obtain⟨t,rfl⟩:=ru;simp only[ax];exact SeqAt.RcNeAt.tuple_int _ _ p1 nz
  |str b=>cases(show u=.str b from hw);obtain⟨t,rfl⟩:=ru;simp only[ax];exact SeqAt.RcNeAt.tuple_str _ _ p1 nz
 |lst ds =>
  have hl:aQ ds<=59:=by simp only[dep] at hd;omega
  simp only[Is] at hv;obtain⟨a,vs,rfl,h1,i1⟩:=hv;cases rv
  obtain⟨ah,r1,p1⟩:=cZ I h1
  cases e with
  |lst es =>
   simp only[Is] at hw;obtain⟨b,us,rfl,h2,i2⟩:=hw;cases ru
   obtain⟨aY,r2,p2⟩:=cZ I h2;have l1:ah.toArray.size=ds.length:=by rw[Hb,<-r1.length,i1.length]
   have l2:aY.toArray.size=es.length:=by rw[Hb,<-r2.length,i2.length]
   by_cases c:ds.length=es.length
   ·have:=SeqAt.RcNeAt.lists p1 p2 (by rw[l1,l2];exact c) nz (step r1 r2 hl i1 i2)
    rw[l1,vN c] at this;simp only[ax];exact this
   ·simp only[ax];rw[vM c]
    exact SeqAt.RcNeAt.lists_lengths p1 p2 (by rw[l1,l2];simpa using c) nz
  |tup es=>simp only[Is] at hw;obtain⟨b,us,rfl,h2,i2⟩:=hw;cases ru;obtain⟨aY,r2,p2⟩:=c_ I h2;simp only[ax];exact SeqAt.RcNeAt.list_tuple p1 p2 nz
  |non=>cases(show u=.non from hw);cases ru;simp only[ax];exact SeqAt.RcNeAt.list_none p1 nz
  |bl b=>cases(show u=.bl b from hw);cases ru;simp only[ax];exact SeqAt.RcNeAt.list_bool _ p1 nz
  |int b=>cases(show u=.int b from hw);obtain⟨t,rfl⟩:=ru;simp only[ax];exact SeqAt.RcNeAt.list_int _ _ p1 nz
  |str b=>cases(show u=.str b from hw);obtain⟨t,rfl⟩:=ru;simp only[ax];exact SeqAt.RcNeAt.list_str _ _ p1 nz
 |non =>
  cases(show v=.non from hv);cases rv
  cases e with
  |non=>cases(show u=.non from hw);cases ru;simp only[ax];exact SeqAt.RcNeAt.none_none
  |bl b=>cases(show u=.bl b from hw);cases ru;simp only[ax];exact SeqAt.RcNeAt.none_bool _
  |int b=>cases(show u=.int b from hw);obtain⟨t,rfl⟩:=ru;simp only[ax];exact SeqAt.RcNeAt.none_int _ _
  |str b=>cases(show u=.str b from hw);obtain⟨t,rfl⟩:=ru;simp only[ax];exact SeqAt.RcNeAt.none_str _ _
  |tup es=>simp only[Is] at hw;obtain⟨a,vs,rfl,h1,_⟩:=hw;cases ru;obtain⟨_,_,p⟩:=c_ I h1;simp only[ax];exact SeqAt.RcNeAt.none_tuple p nz
  |lst es=>simp only[Is] at hw;obtain⟨a,vs,rfl,h1,_⟩:=hw;cases ru;obtain⟨_,_,p⟩:=cZ I h1;simp only[ax];exact SeqAt.RcNeAt.none_list p nz
 |bl b0 =>
  cases(show v=.bl b0 from hv);cases rv
  cases e with
  |non=>cases(show u=.non from hw);cases ru;simp only[ax];exact SeqAt.RcNeAt.bool_none _
  |bl b=>cases(show u=.bl b from hw);cases ru;simp only[ax];exact SeqAt.RcNeAt.bool_bool _ _
  |int b=>cases(show u=.int b from hw);obtain⟨t,rfl⟩:=ru;simp only[ax];exact SeqAt.RcNeAt.bool_int _ _ _
  |str b=>cases(show u=.str b from hw);obtain⟨t,rfl⟩:=ru;simp only[ax];exact SeqAt.RcNeAt.bool_str _ _ _
  |tup es=>simp only[Is] at hw;obtain⟨a,vs,rfl,h1,_⟩:=hw;cases ru;obtain⟨_,_,p⟩:=c_ I h1;simp only[ax];exact SeqAt.RcNeAt.bool_tuple _ p nz
  |lst es=>simp only[Is] at hw;obtain⟨a,vs,rfl,h1,_⟩:=hw;cases ru;obtain⟨_,_,p⟩:=cZ I h1;simp only[ax];exact SeqAt.RcNeAt.bool_list _ p nz
 |int b0 =>
  cases(show v=.int b0 from hv);obtain⟨t0,rfl⟩:=rv
  cases e with
  |non=>cases(show u=.non from hw);cases ru;simp only[ax];exact SeqAt.RcNeAt.int_none _ _
  |bl b=>cases(show u=.bl b from hw);cases ru;simp only[ax];exact SeqAt.RcNeAt.int_bool _ _ _
  |int b=>cases(show u=.int b from hw);obtain⟨t,rfl⟩:=ru;simp only[ax];exact SeqAt.RcNeAt.int_int _ _ _ _
  |str b=>cases(show u=.str b from hw);obtain⟨t,rfl⟩:=ru;simp only[ax];exact SeqAt.RcNeAt.int_str _ _ _ _
  |tup es=>simp only[Is] at hw;obtain⟨a,vs,rfl,h1,_⟩:=hw;cases ru;obtain⟨_,_,p⟩:=c_ I h1;simp only[ax];exact SeqAt.RcNeAt.int_tuple _ _ p nz
  |lst es=>simp only[Is] at hw;obtain⟨a,vs,rfl,h1,_⟩:=hw;cases ru;obtain⟨_,_,p⟩:=cZ I h1;simp only[ax];exact SeqAt.RcNeAt.int_list _ _ p nz
 |str b0 =>
  cases(show v=.str b0 from hv);obtain⟨t0,rfl⟩:=rv
  cases e with
  |non=>cases(show u=.non from hw);cases ru;simp only[ax];exact SeqAt.RcNeAt.str_none _ _
  |bl b=>cases(show u=.bl b from hw);cases ru;simp only[ax];exact SeqAt.RcNeAt.str_bool _ _ _
  |int b=>cases(show u=.int b from hw);obtain⟨t,rfl⟩:=ru;simp only[ax];exact SeqAt.RcNeAt.str_int _ _ _ _
  |str b=>cases(show u=.str b from hw);obtain⟨t,rfl⟩:=ru;simp only[ax];exact SeqAt.RcNeAt.str_str _ _ _ _
  |tup es=>simp only[Is] at hw;obtain⟨a,vs,rfl,h1,_⟩:=hw;cases ru;obtain⟨_,_,p⟩:=c_ I h1;simp only[ax];exact SeqAt.RcNeAt.str_tuple _ _ p nz
  |lst es=>simp only[Is] at hw;obtain⟨a,vs,rfl,h1,_⟩:=hw;cases ru;obtain⟨_,_,p⟩:=cZ I h1;simp only[ax];exact SeqAt.RcNeAt.str_list _ _ p nz
end
variable[aB]
noncomputable def intsOf:List D->Option (List Int)
 |[]=>some []
 |.int i::r=>match intsOf r with
  |some ns=>some (i::ns)
  |none=>none
 |_=>none
theorem oA:∀ns:List Int,intsOf (ns.map D.int)=some ns
 |[]=>rfl
 |n::r=>by show(match intsOf (r.map D.int) with|some ns=>some (n::ns)|none=>none)=_;rw[oA r]
theorem vP:∀{ds:List D}{ns:List Int},intsOf ds=some ns->ds=ns.map D.int
 |[],ns,h=>by cases h;rfl
 |.int i::r,ns,h=>by
  unfold intsOf at h;split at h
  ·rename_i ms e;cases h;rw[q0p,vP e]
  ·cases h
 |.non::r,ns,h=>by cases h
 |.bl _::r,ns,h=>by cases h
 |.str _::r,ns,h=>by cases h
 |.tup _::r,ns,h=>by cases h
 |.lst _::r,ns,h=>by cases h
theorem qb{F:Hp}:∀{ns:List Int}{vs:List V},ae F (ns.map D.int) vs->vs=ns.map V.int
 |[],vs,h=>by simp only[q1_,ae] at h;exact h
 |n::r,vs,h=>by
  simp only[q0p,ae] at h;obtain⟨v,t,rfl,h1,h2⟩:=h;have h1:v=.int n:=h1;rw[qb h2,h1];rfl
theorem rL{F:Hp}:∀{ns:List Int},ae F (ns.map D.int) (ns.map V.int)
 |[]=>.nil
 |n::r=>.cons (show _=_ from rfl) rL
theorem tH{F:Hp}:∀{as bs:List D}{us vs:List V},ae F as us->ae F bs vs->ae F (as++bs) (us++vs)
 |[],bs,us,vs,h,q=>by simp only[ae] at h;subst h;exact q
 |a::r,bs,us,vs,h,q=>by
  simp only[ae] at h;obtain⟨v,t,rfl,h1,h2⟩:=h;exact .cons h1 (tH h2 q)
theorem IQ{F:Hp}:∀{as:List D}{us:List V}(n:Nat),ae F as us->ae F (as.take n) (us.take n)
 |as,us,0,_=>by rw[q4s,q4s];exact .nil
 |[],us,n+1,h=>by simp only[ae] at h;subst h;exact .nil
 |a::r,us,n+1,h=>by
  simp only[ae] at h;obtain⟨v,t,rfl,h1,h2⟩:=h;exact .cons h1 (IQ n h2)
theorem IS{F:Hp}:∀{as:List D}{us:List V}(n:Nat),ae F as us->ae F (as.drop n) (us.drop n)
 |as,us,0,h=>h
 |[],us,n+1,h=>by simp only[ae] at h;subst h;exact .nil
 |a::r,us,n+1,h=>by
  simp only[ae] at h;obtain⟨v,t,rfl,h1,h2⟩:=h;exact IS n h2
theorem IT{F:Hp}:∀{as:List D}{us:List V}(n:Nat){d:D}{v:V},ae F as us->Is F d v->ae F (as.set n d) (us.set n v)
 |[],us,n,d,v,h,_=>by simp only[ae] at h;subst h;exact .nil
 |a::r,us,0,d,v,h,q=>by
  simp only[ae] at h;obtain⟨w,t,rfl,h1,h2⟩:=h;exact .cons q h2
 |a::r,us,n+1,d,v,h,q=>by
  simp only[ae] at h;obtain⟨w,t,rfl,h1,h2⟩:=h;exact .cons h1 (IT n h2 q)
theorem IU{F:Hp}:∀{as:List D}{us:List V}(n:Nat),ae F as us->ae F (as.eraseIdx n) (us.eraseIdx n)
 |[],us,n,h=>by simp only[ae] at h;subst h;exact .nil
 |a::r,us,0,h=>by
  simp only[ae] at h;obtain⟨w,t,rfl,h1,h2⟩:=h;exact h2
 |a::r,us,n+1,h=>by
  simp only[ae] at h;obtain⟨w,t,rfl,h1,h2⟩:=h;exact .cons h1 (IU n h2)
theorem mT{F H:Hp}{p:Addr}{ds:List D}{vs:List V}(s:ar F H)(hp:H p=none)(h:ae F ds vs):Is (Nw F H (upd H p (.lst vs))) (.lst ds) (.ref p):=by
 rw[Nw.upd s hp];simp only[Is];exact⟨p,vs,rfl,a_,h.same (b7 (s.free hp))⟩
theorem Cj{F H:Hp}{p:Addr}{ds:List D}{vs:List V}(s:ar F H)(hp:H p=none)(h:ae F ds vs):Is (Nw F H (upd H p (.tup vs))) (.tup ds) (.ref p):=by
 rw[Nw.upd s hp];simp only[Is];exact⟨p,vs,rfl,a_,h.same (b7 (s.free hp))⟩
theorem vQ{F H:Hp}{d:D}{v:V}(s:ar F H)(h:Is F d v):Is (Nw F H H) d v:=by rw[Nw.refl s];exact h
def rM:D->D->(D->Prop)->Prop
 |.int i,.int j,K=>K (.int (i+j))
 |.lst a,.lst b,K=>a.length+b.length<=1000/\K (.lst (a++b))
 |.tup a,.tup b,K=>(a≠[]/\a.length+b.length<=1000)/\K (.tup (a++b))
 |.str a,.str b,K=>a.length+b.length<=1000/\K (.str (a++b))
 |_,_,_=>False
def oI(f:Int->Int->D):D->D->(D->Prop)->Prop
 |.int i,.int j,K=>K (f i j)
 |_,_,_=>False
def dF(C:Int->Int->Prop)(f:Int->Int->D):D->D->(D->Prop)->Prop
 |.int i,.int j,K=>C i j/\K (f i j)
 |_,_,_=>False
def f6:D->D->(D->Prop)->Prop
 |.int i,.int j,K=>nU i j/\K (.int (i*j))
 |.lst a,.int j,K=>(-(2 ^ 63)<=j/\j<2 ^ 63/\a.length*j.toNat<=1000)/\K (.lst (q0h j.toNat a).flatten)
 |_,_,_=>False
section
variable{X:Cx}
theorem x8{f:Value->Value->Sem Value}{g:Int->Int->V}{h:Int->Int->D}(op:dg X f (nQ g))(hg:∀F i j,Is F (h i j) (g i j)):eM X f (oI h):=by
 rintro pins s σ H x y v u Q I rx ry ⟨F,d,e,K,sub,rd,re,q,md⟩;unfold oI at q;split at q
 ·rename_i i j
  exact op pins s σ H x y v u Q I rx ry ⟨i,j,rd,re,md _ _ _ q (fun _ _ e=>e) (hg _ i j)⟩
 ·exact q.elim
theorem Cm{f:Value->Value->Sem Value}{C:Int->Int->Prop}{g:Int->Int->V}{h:Int->Int->D}(op:dg X f (rI C g))(hg:∀F i j,Is F (h i j) (g i j)):eM X f (dF C h):=by
 rintro pins s σ H x y v u Q I rx ry ⟨F,d,e,K,sub,rd,re,q,md⟩;unfold dF at q;split at q
 ·rename_i i j
  exact op pins s σ H x y v u Q I rx ry ⟨i,j,rd,re,q.1,md _ _ _ q.2 (fun _ _ e=>e) (hg _ i j)⟩
 ·exact q.elim
theorem x9:eM X (binaryOp .Add) rM:=by
 rintro pins s σ H x y v u Q I rx ry ⟨F,d,e,K,sub,rd,re,q,md⟩;unfold rM at q;split at q
 ·rename_i i j
  exact GG pins s σ H x y v u Q I rx ry ⟨i,j,rd,re,md _ _ _ q (fun _ _ e=>e) rfl⟩
 ·rename_i as bs
  obtain⟨a,us,rfl,h1,h2⟩:=rd;obtain⟨b,ws,rfl,h3,h4⟩:=re;refine xy pins s σ H _ _ v u Q I rx ry ⟨a,b,us,ws,rfl,rfl,h1,h3,lr (by rw[h2.length,h4.length];exact q.1),fun p hp=>md _ _ _ q.2 (b7 hp) (mT sub hp (tH h2 h4))⟩
 ·rename_i as bs
  have cO:Is F (.tup as) x:=rd;have ik:Is F (.tup bs) y:=re;simp only[Is] at cO ik;obtain⟨a,us,rfl,h1,h2⟩:=cO;obtain⟨b,ws,rfl,h3,h4⟩:=ik;have ne:us≠[]:=fun z=>q.1.1 (q1W.mp (by rw[<-h2.length,z];rfl));refine Pn pins s σ H _ _ v u Q I rx ry ⟨a,b,us,ws,rfl,rfl,bw.of (sub _ _ h1),bw.of (sub _ _ h3),ne,lr (by rw[h2.length,h4.length];exact q.1.2),fun z=>?_,fun z p hp=>md _ _ _ q.2 (b7 hp) (Cj sub hp (tH h2 h4))⟩;have:bs=[]:=q1W.mp (by rw[<-h4.length,z];rfl);subst this;refine md _ _ _ q.2 (fun _ _ e=>e) (vQ sub ?_);rw[q1S];exact rd
 ·rename_i as bs
  have cO:x=.str as:=rd;have ik:y=.str bs:=re;subst cO ik;exact OT pins s σ H _ _ v u Q I rx ry ⟨as,bs,rfl,rfl,lr q.1,md _ _ _ q.2 (fun _ _ e=>e) rfl⟩
 ·exact q.elim
theorem RU:eM X (binaryOp .Sub) (oI fun i j=>.int (i-j)):=x8 Oy fun _ _ _=>rfl
theorem RW:eM X (binaryOp .Mult) f6:=by
 rintro pins s σ H x y v u Q I rx ry ⟨F,d,e,K,sub,rd,re,q,md⟩;unfold f6 at q;split at q
 ·rename_i i j
  exact Oz pins s σ H x y v u Q I rx ry ⟨i,j,rd,re,q.1,md _ _ _ q.2 (fun _ _ e=>e) rfl⟩
 ·rename_i as j
  obtain⟨a,us,rfl,h1,h2⟩:=rd;refine PA pins s σ H _ _ v u Q I rx ry ⟨a,j,us,rfl,re,h1,q.1.1,q.1.2.1,lr (by rw[h2.length];exact q.1.2.2),fun p hp=>md _ _ _ q.2 (b7 hp) (mT sub hp ?_)⟩
  have:∀k:Nat,ae F (q0h k as).flatten (q0h k us).flatten:=fun k=>by
   induction k with
   |zero=>exact .nil
   |succ k ih=>rw[q1y,q1y,q2a,q2a];exact tH h2 ih
  exact this _
 ·exact q.elim
theorem RX:eM X (binaryOp .FloorDiv) (dF uM fun i j=>.int (i.fdiv j)):=Cm OA fun _ _ _=>rfl
theorem RY:eM X (binaryOp .Mod) (dF (fun _ j=>0<j) fun i j=>.int (i%j)):=Cm AE fun _ _ _=>rfl
theorem RZ:eM X (binaryOp .Pow) (dF eN fun i j=>.int (i ^ j.toNat)):=Cm OB fun _ _ _=>rfl
def oEq:D->D->(D->Prop)->Prop:=fun d e K=>dep d<=60/\K (.bl (ax d e))
def mU:D->D->(D->Prop)->Prop:=fun d e K=>dep d<=60/\K (.bl (!ax d e))
theorem vR(hu:X.A.units+64<cLine):eM X (compareOp .Eq) oEq:=by
 rintro pins s σ H x y v u Q I rx ry ⟨F,d,e,K,sub,rd,re,q,md⟩;exact(Cf I 60 q.1 (by omega) (rd.is sub) (re.is sub) rx ry).2 _ _ _ _ ⟨.bl _,H,I,rfl,md _ _ _ q.2 (fun _ _ e=>e) rfl⟩
theorem vS(hu:X.A.units+64<cLine):eM X (compareOp .NotEq) mU:=by
 rintro pins s σ H x y v u Q I rx ry ⟨F,d,e,K,sub,rd,re,q,md⟩;exact RT I q.1 (by omega) (rd.is sub) (re.is sub) rx ry _ _ _ _ ⟨.bl _,H,I,rfl,md _ _ _ q.2 (fun _ _ e=>e) rfl⟩
def oLt:D->D->(D->Prop)->Prop
 |.int i,.int j,K=>K (.bl (decide (i<j)))
 |.tup a,.tup b,K=>match intsOf a,intsOf b with
  |some ns,some ms=>K (.bl (HT.lexLt ns ms))
  |_,_=>False
 |_,_,_=>False
theorem IV(hu:X.A.units+64<cLine):eM X (compareOp .Lt) oLt:=by
 rintro pins s σ H x y v u Q I rx ry ⟨F,d,e,K,sub,rd,re,q,md⟩;unfold oLt at q;split at q
 ·rename_i i j
  exact GH pins s σ H x y v u Q I rx ry ⟨i,j,rd,re,md _ _ _ q (fun _ _ e=>e) rfl⟩
 ·rename_i as bs
  split at q
  ·rename_i ns ms e1 e2
   rw[vP e1] at rd;rw[vP e2] at re;have cO:Is F (.tup (ns.map D.int)) x:=rd;have ik:Is F (.tup (ms.map D.int)) y:=re;simp only[Is] at cO ik;obtain⟨a,us,rfl,h1,h2⟩:=cO;obtain⟨b,ws,rfl,h3,h4⟩:=ik;rw[qb h2] at h1;rw[qb h4] at h3;exact Pk (by omega) pins s σ H _ _ v u Q I rx ry ⟨a,b,ns,ms,rfl,rfl,bw.of (sub _ _ h1),bw.of (sub _ _ h3),md _ _ _ q (fun _ _ e=>e) rfl⟩
  ·exact q.elim
 ·exact q.elim
theorem IW:eM X (compareOp .LtE) (oI fun i j=>.bl (decide (i<=j))):=x8 OK fun _ _ _=>rfl
theorem IX:eM X (compareOp .Gt) (oI fun i j=>.bl (decide (j<i))):=x8 OL fun _ _ _=>rfl
theorem R0:eM X (compareOp .GtE) (oI fun i j=>.bl (decide (j<=i))):=x8 OM fun _ _ _=>rfl
def jP:D->D->(D->Prop)->Prop
 |.non,.non,K=>K (.bl true)
 |.bl _,.non,K=>K (.bl false)
 |.int _,.non,K=>K (.bl false)
 |.str _,.non,K=>K (.bl false)
 |.tup _,.non,K=>K (.bl false)
 |.lst _,.non,K=>K (.bl false)
 |_,_,_=>False
theorem IY{F H:Hp}{d e:D}{x y:V}{K:D->Prop}(rd:gT F H d x)(re:gT F H e y)(q:jP d e K):y=.non/\K (.bl (decide (x=.non))):=by
 unfold jP at q;split at q
 ·have:x=.non:=rd;have h2:y=.non:=re;subst this;exact⟨h2,q⟩
 ·rename_i b;have:x=.bl b:=rd;have h2:y=.non:=re;subst this;exact⟨h2,q⟩
 ·rename_i b;have:x=.int b:=rd;have h2:y=.non:=re;subst this;exact⟨h2,q⟩
 ·rename_i b;have:x=.str b:=rd;have h2:y=.non:=re;subst this;exact⟨h2,q⟩
 ·rename_i b;have rd:Is F (.tup b) x:=rd;simp only[Is] at rd;obtain⟨a,_,rfl,_⟩:=rd;exact⟨re,q⟩
 ·rename_i b;obtain⟨a,_,rfl,_⟩:=rd;exact⟨re,q⟩
 ·exact q.elim
def Co:D->D->(D->Prop)->Prop:=fun d e K=>jP d e fun z=>match z with
 |.bl b=>K (.bl (!b))
 |_=>False
theorem R1:eM X (compareOp .Is) jP:=by
 rintro pins s σ H x y v u Q I rx ry ⟨F,d,e,K,sub,rd,re,q,md⟩;obtain⟨h1,h2⟩:=IY rd re q;exact ON pins s σ H x y v u Q I rx ry ⟨h1,md _ _ _ h2 (fun _ _ e=>e) rfl⟩
theorem R3:eM X (compareOp .IsNot) Co:=by
 rintro pins s σ H x y v u Q I rx ry ⟨F,d,e,K,sub,rd,re,q,md⟩;obtain⟨h1,h2⟩:=IY rd re q;exact OO pins s σ H x y v u Q I rx ry ⟨h1,md _ _ _ h2 (fun _ _ e=>e) rfl⟩
def kn(neg:Bool):D->D->(D->Prop)->Prop
 |d,.lst es,K=>aQ es<=55/\K (.bl (if neg then !(es.any fun e=>ax e d) else es.any fun e=>ax e d))
 |d,.tup es,K=>aQ es<=55/\K (.bl (if neg then !(es.any fun e=>ax e d) else es.any fun e=>ax e d))
 |_,_,_=>False
noncomputable def iG(H:Hp)(d:D)(u:Value):Bool:=by
 classical exact if ∃e v,Is H e v/\RelV v u/\ax e d=true then true else false
theorem IZ{H:Hp}{d e:D}{v:V}{u:Value}(h:Is H e v)(r:RelV v u):iG H d u=ax e d:=by
 unfold iG;split
 ·rename_i z
  obtain⟨e',v',h',r',q⟩:=z;have:v'=v:=r'.inj r;subst this;rw[Is.inj h h'];exact q.symm
 ·rename_i z
  cases q:ax e d with
  |false=>rfl
  |true=>exact absurd ⟨e,v,h,r,q⟩ z
theorem vT{H:Hp}{d:D}:∀{es:List D}{vs:List V}{us:List Value},ae H es vs->Vals vs us->us.any (iG H d)=es.any fun e=>ax e d
 |[],vs,us,h,r=>by simp only[ae] at h;subst h;cases r;rfl
 |e::es,vs,us,h,r=>by
  simp only[ae] at h;obtain⟨v,t,rfl,h1,h2⟩:=h
  cases r with
  |cons r1 r2=>rw[q2p,q2p,IZ h1 r1,vT h2 r2]
theorem vU{pins:aq}{σ:St}{H:Hp}{s:Shared}(I:Inv X pins σ H s){A:Around}(hu:A.units+60<cLine){d:D}{x:V}{w:Value}(hd:Is H d x)(rd:RelV x w):∀{es:List D}{vs:List V}{us:List Value},aQ es<=55->ae H es vs->Vals vs us->∀u∈us,q3T A s u w (iG H d u)
 |[],vs,us,_,h,r=>by simp only[ae] at h;subst h;cases r;intro u hu;cases hu
 |e::es,vs,us,hp,h,r=>by
  simp only[ae] at h;obtain⟨v,t,rfl,h1,h2⟩:=h;simp only[aQ] at hp
  cases r with
  |cons r1 r2 =>
   intro u hu';rcases PD.mp hu' with rfl|hu'
   ·rw[IZ h1 r1];exact(Cf I 55 (by omega) (by omega) h1 hd r1 rd).1
   ·exact vU I hu hd rd (by omega) h2 r2 u hu'
theorem I0(hu:X.A.units+64<cLine):eM X (compareOp .In) (kn false):=by
 rintro pins s σ H x y v u Q I rx ry ⟨F,d,e,K,sub,rd,re,q,md⟩;unfold kn at q;split at q
 ·rename_i es
  obtain⟨a,vs,rfl,h1,h2⟩:=re;cases ry
  obtain⟨ah,r,p⟩:=cZ I h1;have fm:=h2.same sub;refine SeqAt.in_listAt (iG H d) p (fun w hw=>vU I (by rw[in1_units];omega) (rd.is sub) rx q.1 fm r w (by simpa using hw)) ⟨.bl _,H,I,rfl,?_⟩;rw[show ah.toArray.any (iG H d)=ah.any (iG H d) by simp,vT fm r];exact md _ _ _ q.2 (fun _ _ e=>e) rfl
 ·rename_i es
  have ik:Is F (.tup es) y:=re;simp only[Is] at ik;obtain⟨a,vs,rfl,h1,h2⟩:=ik;cases ry
  obtain⟨ah,r,p⟩:=c_ I (sub _ _ h1);have fm:=h2.same sub;refine SeqAt.in_tupleAt (iG H d) p (fun w hw=>vU I (by rw[in1_units];omega) (rd.is sub) rx q.1 fm r w (by simpa using hw)) ⟨.bl _,H,I,rfl,?_⟩;rw[show ah.toArray.any (iG H d)=ah.any (iG H d) by simp,vT fm r];exact md _ _ _ q.2 (fun _ _ e=>e) rfl
 ·exact q.elim
theorem R4(hu:X.A.units+64<cLine):eM X (compareOp .NotIn) (kn true):=by
 rintro pins s σ H x y v u Q I rx ry ⟨F,d,e,K,sub,rd,re,q,md⟩;unfold kn at q;split at q
 ·rename_i es
  obtain⟨a,vs,rfl,h1,h2⟩:=re;cases ry
  obtain⟨ah,r,p⟩:=cZ I h1;have fm:=h2.same sub;refine SeqAt.notIn_listAt (iG H d) p (fun w hw=>vU I (by rw[in1_units];omega) (rd.is sub) rx q.1 fm r w (by simpa using hw)) ⟨.bl _,H,I,rfl,?_⟩;rw[show ah.toArray.any (iG H d)=ah.any (iG H d) by simp,vT fm r];exact md _ _ _ q.2 (fun _ _ e=>e) rfl
 ·rename_i es
  have ik:Is F (.tup es) y:=re;simp only[Is] at ik;obtain⟨a,vs,rfl,h1,h2⟩:=ik;cases ry
  obtain⟨ah,r,p⟩:=c_ I (sub _ _ h1);have fm:=h2.same sub;refine SeqAt.notIn_tupleAt (iG H d) p (fun w hw=>vU I (by rw[in1_units];omega) (rd.is sub) rx q.1 fm r w (by simpa using hw)) ⟨.bl _,H,I,rfl,?_⟩;rw[show ah.toArray.any (iG H d)=ah.any (iG H d) by simp,vT fm r];exact md _ _ _ q.2 (fun _ _ e=>e) rfl
 ·exact q.elim
def aV:D->D->(D->Prop)->Prop
 |.lst ds,.int i,K=>match eO ds i with
  |some d=>K d
  |none=>False
 |.tup ds,.int i,K=>match eO ds i with
  |some d=>K d
  |none=>False
 |.str z,.int i,K=>z.length<=1000/\match eO z.cps.toList i with
  |some c=>K (.str ⟨#[c]⟩)
  |none=>False
 |_,_,_=>False
theorem I_{F:Hp}{ds:List D}{vs:List V}{i:Int}{d:D}(h:ae F ds vs)(e:eO ds i=some d):∃v,eO vs i=some v/\Is F d v:=by
 unfold eO at e ⊢;rw[h.length]
 cases q:jG ds.length i with
 |none=>rw[q] at e;cases e
 |some j =>
  rw[q] at e;exact qa h (show ds[j]?=some d from e)
theorem Cp:Ij X aV:=by
 rintro value slice pins s σ H x y v u Q I rx ry ⟨F,d,e,K,sub,rd,re,q,md⟩ hs;unfold aV at q;split at q
 ·rename_i ds i
  split at q
  ·rename_i d' e1
   obtain⟨a,vs,rfl,h1,h2⟩:=rd;obtain⟨w,e2,h3⟩:=I_ h2 e1;exact xx value slice pins s σ H _ _ v u Q I rx ry ⟨a,vs,i,w,rfl,re,aZ.of h1,e2,md _ _ _ q (fun _ _ e=>e) (vQ sub h3)⟩ hs
  ·exact q.elim
 ·rename_i ds i
  split at q
  ·rename_i d' e1
   have cO:Is F (.tup ds) x:=rd;simp only[Is] at cO;obtain⟨a,vs,rfl,h1,h2⟩:=cO;obtain⟨w,e2,h3⟩:=I_ h2 e1;exact Po value slice pins s σ H _ _ v u Q I rx ry ⟨a,vs,i,w,rfl,re,bw.of (sub _ _ h1),e2,md _ _ _ q (fun _ _ e=>e) (vQ sub h3)⟩ hs
  ·exact q.elim
 ·rename_i z i
  obtain⟨hz,q⟩:=q;split at q
  ·rename_i c e1
   have cO:x=.str z:=rd;subst cO;exact Pp value slice pins s σ H _ _ v u Q I rx ry ⟨z,i,c,rfl,re,lr hz,e1,md _ _ _ q (fun _ _ e=>e) rfl⟩ hs
  ·exact q.elim
 ·exact q.elim
noncomputable def cutD(ds:List D)(lo hi:Option Int):List D:=(ds.drop (HT.aU ds.length 0 lo)).take (HT.aU ds.length ds.length hi-HT.aU ds.length 0 lo)
theorem Ja{F:Hp}{ds:List D}{vs:List V}(h:ae F ds vs)(lo hi:Option Int):ae F (cutD ds lo hi) (cF vs lo hi):=by
 unfold cutD cF;rw[h.length];exact IQ _ (IS _ h)
abbrev WO:=au->(Option Int->au->Prop)->Prop
def x_(f:WO):TO:=fun σ H Q=>∃F ad δ K,SR F ad δ σ H/\f δ K/\∀o δ',K o δ'->∀F' aw H',Ext F ad δ.mu H F' aw δ'.mu H'->SR F' aw δ' σ H'->Q o H'
def dw:WO:=fun δ K=>K none δ
def iX(f:WE):WO:=fun δ K=>f δ fun x δ1=>match x with
 |.p (.int i)=>K (some i) δ1
 |_=>False
theorem R5:PO X none (x_ dw):=fun pins s σ H Q I h0_=>el7 h0_ fun F ad δ K S q k =>G0 pins s σ H Q I (k _ _ q _ _ _ .refl S)
theorem R6{e:Expr}{f:WE}(h:JE X e (tD f)):PO X (some e) (x_ (iX f)):=fun pins s σ H Q I h0_=>el7 h0_ fun F ad δ K S q k =>xv h pins s σ H Q I ⟨F,ad,δ,_,S,q,fun x δ1 h1 v F1 aN H1 E1 S1 V1=>by
 split at h1
 ·rename_i i
  exact⟨i,V1,k _ _ h1 _ _ _ E1 S1⟩
 ·exact h1.elim⟩
def lF:D->(D->Prop)->Prop
 |.int i,K=>K (.int (-i))
 |_,_=>False
theorem R7{e:Expr}{f:WE}{pos:Pos}(he:JE X e (tD f)):JE X (.UnaryOp .USub e pos) (tD (d1 f lF)) :=
 (Ox OD he).weak fun σ H Q h0_=>el7 h0_ fun F ad δ K S q k =>⟨F,ad,δ,_,S,q,fun x δ1 h1 v F1 aN H1 E1 S1 V1=>by
  obtain⟨d,h4,rd⟩:=jM S1 V1 h1;unfold lF at h4;split at h4
  ·rename_i i
   exact⟨i,rd,k _ _ h4 _ _ _ _ E1 S1 rfl⟩
  ·exact h4.elim⟩
def ya(f g h:WE)(o o':D->D->(D->Prop)->Prop):WE:=fun δ K=>f δ fun x δ1=>g δ1 fun y δ2=>gz x δ2 fun d=>gz y δ2 fun e=>o d e fun z=>match z with
 |.bl true=>h δ2 fun w δ3=>gz y δ3 fun e'=>gz w δ3 fun c=>o' e' c fun z'=>K (.p z') δ3
 |.bl false=>K (.p (.bl false)) δ2
 |_=>False
theorem R8{a b c:Expr}{f g h:WE}{op qB:CmpOp}{o o':D->D->(D->Prop)->Prop}{pos:Pos}(ho:eM X (compareOp op) o)(kK:eM X (compareOp qB) o')(ha:JE X a (tD f))(hb:JE X b (tD g))(hc:JE X c (tD h))
  (hm:lastMarks [op,qB] [b,c]=false:=by with_unfolding_all rfl):JE X (.Compare a [op,qB] [b,c] pos) (tD (ya f g h o o')) :=
 (OS ho kK ha hb hc hm).weak fun σ H Q h0_=>el7 h0_ fun F ad δ K S q k =>by
  refine⟨F,ad,δ,_,S,q,fun x δ1 h1 v1 F1 aN H1 E1 S1 V1=>⟨F1,aN,δ1,_,S1,h1,fun y δ2 h2 v2 F2 cw H2 E2 S2 V2=>?_⟩⟩;obtain⟨d,h3,rd⟩:=jM S2 (V1.ext E2) h2;obtain⟨e,h4,re⟩:=jM S2 V2 h3;refine⟨F2,d,e,_,S2.sub,rd,re,h4,fun z v H' hz sm is=>?_⟩;have S3:=S2.al sm;have E3:=Ext.al S2 sm;split at hz
  ·refine⟨true,is,?_⟩
   rw[q0f rfl];refine⟨_,cw,δ2,_,S3,hz,fun w δ4 h5 v4 F4 xV H4 E4 S4 V4=>?_⟩;obtain⟨d',h6,xU⟩:=jM S4 ((V2.ext E3).ext E4) h5;obtain⟨e',h7,R9⟩:=jM S4 V4 h6;exact⟨F4,d',e',_,S4.sub,xU,R9,h7,fun z v H' hz sm is=>k _ _ hz _ _ _ _ ((((E1.trans E2).trans E3).trans E4).trans (Ext.al S4 sm)) (S4.al sm) is⟩
  ·refine⟨false,is,?_⟩
   rw[q0a PH];exact k _ _ hz _ _ _ _ ((E1.trans E2).trans E3) S3 rfl
  ·exact hz.elim
end
noncomputable def sortI(ns:List Int):List Int:=ns.mergeSort fun a b=>decide (a<=b)
theorem sortI_perm(ns:List Int):(sortI ns).Perm ns:=List.mergeSort_perm ns _
theorem Jb(ns:List Int):(sortI ns).Pairwise (· <= ·):=by
 have:=List.pairwise_mergeSort (le:=fun a b:Int=>decide (a<=b)) (fun a b c h1 h2=>by simp at *;omega) (fun a b=>by simp;omega) ns;exact this.imp fun h=>by simpa using h
theorem Jc:∀{as bs:List Int},as.Perm bs->as.Pairwise (· <= ·)->bs.Pairwise (· <= ·)->as=bs
 |[],bs,p,_,_=>p.nil_eq
 |a::as,[],p,_,_=>absurd p.length_eq (by simp)
 |a::as,b::bs,p,s,t=>by
  have e:a=b:=by
   have h1:a<=b:=by
    have hb:b∈a::as:=p.mem_iff.mpr (PE ..);rcases PD.mp hb with h|h
    ·omega
    ·exact(q1p.mp s).1 b h
   have h2:b<=a:=by
    have ha:a∈b::bs:=p.mem_iff.mp (PE ..);rcases PD.mp ha with h|h
    ·omega
    ·exact(q1p.mp t).1 a h
   omega
  subst e;rw[Jc (List.perm_cons a |>.mp p) (q1p.mp s).2 (q1p.mp t).2]
theorem yb{as bs:List Int}(p:as.Perm bs)(s:as.Pairwise (· <= ·)):as=sortI bs:=Jc (p.trans (sortI_perm bs).symm) s (Jb bs)
theorem Jd(ns:List Int):(sortI ns).length=ns.length:=(sortI_perm ns).length_eq
def bC:List D->(D->Prop)->Prop
 |[.lst ds],K=>K (.int ds.length)
 |[.tup ds],K=>K (.int ds.length)
 |[.str z],K=>z.length<=1000/\K (.int z.length)
 |_,_=>False
def yc:List D->(D->Prop)->Prop
 |[.lst ds],K=>K (.lst ds)
 |[.tup ds],K=>K (.lst ds)
 |_,_=>False
def tI:List D->(D->Prop)->Prop
 |[.lst ds],K=>K (.tup ds)
 |[.tup ds],K=>K (.tup ds)
 |_,_=>False
def vV:List D->(D->Prop)->Prop
 |[.lst ds],K=>match intsOf ds with
  |some ns=>ns.length<64/\K (.lst ((sortI ns).map D.int))
  |none=>False
 |_,_=>False
noncomputable def tJ:List D->Option (List Bool)
 |[]=>some []
 |.bl b::r=>match tJ r with
  |some bs=>some (b::bs)
  |none=>none
 |_=>none
theorem Je:∀bs:List Bool,tJ (bs.map D.bl)=some bs
 |[]=>rfl
 |n::r=>by show(match tJ (r.map D.bl) with|some ns=>some (n::ns)|none=>none)=_;rw[Je r]
theorem Jf:∀{ds:List D}{bs:List Bool},tJ ds=some bs->ds=bs.map D.bl
 |[],ns,h=>by cases h;rfl
 |.bl i::r,ns,h=>by
  unfold tJ at h;split at h
  ·rename_i ms e;cases h;rw[q0p,Jf e]
  ·cases h
 |.non::r,ns,h=>by cases h
 |.int _::r,ns,h=>by cases h
 |.str _::r,ns,h=>by cases h
 |.tup _::r,ns,h=>by cases h
 |.lst _::r,ns,h=>by cases h
theorem Jg{F:Hp}:∀{bs:List Bool}{vs:List V},ae F (bs.map D.bl) vs->vs=bs.map V.bl
 |[],vs,h=>by simp only[q1_,ae] at h;exact h
 |n::r,vs,h=>by
  simp only[q0p,ae] at h;obtain⟨v,t,rfl,h1,h2⟩:=h;have h1:v=.bl n:=h1;rw[Jg h2,h1];rfl
def oB:List D->(D->Prop)->Prop
 |[.lst ds],K=>match tJ ds with
  |some bs=>K (.bl (bs.all id))
  |none=>False
 |_,_=>False
def tK:List D->(D->Prop)->Prop
 |[.int i,.int j],K=>K (.int (min i j))
 |_,_=>False
def yd:List D->(D->Prop)->Prop
 |[.int i,.int j],K=>K (.int (max i j))
 |_,_=>False
section
variable{X:Cx}
theorem cO{F H:Hp}{d:D}{xs:List V}(h:jN F H [d] xs):∃v,xs=[v]/\gT F H d v:=by
 obtain⟨v,r,rfl,h1,h2⟩:=h;have h2:r=[]:=h2;subst h2;exact⟨v,rfl,h1⟩
theorem Jh{F H:Hp}{d e:D}{xs:List V}(h:jN F H [d,e] xs):∃v w,xs=[v,w]/\gT F H d v/\gT F H e w:=by
 obtain⟨v,r,rfl,h1,h2⟩:=h;obtain⟨w,rfl,h3⟩:=cO h2;exact⟨v,w,rfl,h1,h3⟩
theorem Cq:dh X (.builtin "len") bC:=by
 rintro pins s σ H xs us Q I r ⟨F,ds,K,sub,rd,q,md⟩;unfold bC at q;split at q
 ·obtain⟨v,rfl,a,vs,rfl,h1,h2⟩:=cO rd
  exact G5 pins s σ H _ us Q I r ⟨a,vs,rfl,.inl (aZ.of h1),by rw[h2.length];exact md _ _ _ q (fun _ _ e=>e) rfl⟩
 ·rename_i es
  obtain⟨v,rfl,h⟩:=cO rd;have h:Is F (.tup es) v:=h;simp only[Is] at h;obtain⟨a,vs,rfl,h1,h2⟩:=h;exact G5 pins s σ H _ us Q I r ⟨a,vs,rfl,.inr (bw.of (sub _ _ h1)),by rw[h2.length];exact md _ _ _ q (fun _ _ e=>e) rfl⟩
 ·rename_i z
  obtain⟨v,rfl,h⟩:=cO rd;have h:v=.str z:=h;subst h;exact Pw pins s σ H _ us Q I r ⟨z,rfl,lr q.1,md _ _ _ q.2 (fun _ _ e=>e) rfl⟩
 ·exact q.elim
theorem R_:dh X (.type "list") yc:=by
 rintro pins s σ H xs us Q I r ⟨F,ds,K,sub,rd,q,md⟩;unfold yc at q;split at q
 ·obtain⟨v,rfl,a,vs,rfl,h1,h2⟩:=cO rd
  exact A6 pins s σ H _ us Q I r ⟨a,vs,rfl,.inl (aZ.of h1),fun l hl=>md _ _ _ q (b7 hl) (mT sub hl h2)⟩
 ·rename_i es
  obtain⟨v,rfl,h⟩:=cO rd;have h:Is F (.tup es) v:=h;simp only[Is] at h;obtain⟨a,vs,rfl,h1,h2⟩:=h;exact A6 pins s σ H _ us Q I r ⟨a,vs,rfl,.inr (bw.of (sub _ _ h1)),fun l hl=>md _ _ _ q (b7 hl) (mT sub hl h2)⟩
 ·exact q.elim
theorem Sa:dh X (.type "tuple") tI:=by
 rintro pins s σ H xs us Q I r ⟨F,ds,K,sub,rd,q,md⟩;unfold tI at q;split at q
 ·obtain⟨v,rfl,a,vs,rfl,h1,h2⟩:=cO rd
  exact A7 pins s σ H _ us Q I r ⟨a,vs,rfl,.inl ⟨aZ.of h1,fun l hl=>md _ _ _ q (b7 hl) (Cj sub hl h2)⟩⟩
 ·rename_i es
  obtain⟨v,rfl,h⟩:=cO rd;have h0:Is F (.tup es) v:=h;have h:Is F (.tup es) v:=h;simp only[Is] at h;obtain⟨a,vs,rfl,h1,h2⟩:=h;exact A7 pins s σ H _ us Q I r ⟨a,vs,rfl,.inr ⟨bw.of (sub _ _ h1),md _ _ _ q (fun _ _ e=>e) (vQ sub h0)⟩⟩
 ·exact q.elim
theorem Sb:dh X (.builtin "sorted") vV:=by
 rintro pins s σ H xs us Q I r ⟨F,ds,K,sub,rd,q,md⟩;unfold vV at q;split at q
 ·rename_i es
  split at q
  ·rename_i ns e
   obtain⟨v,rfl,a,vs,rfl,h1,h2⟩:=cO rd;rw[vP e] at h2;rw[qb h2] at h1;refine Q6 pins s σ H _ us Q I r ⟨a,ns,rfl,aZ.of h1,q.1,fun l cE pm pw hl=>?_⟩;rw[yb pm pw];exact md _ _ _ q.2 (b7 hl) (mT sub hl rL)
  ·exact q.elim
 ·exact q.elim
theorem Sd(hc:X.calm=true):dh X (.builtin "all") oB:=by
 rintro pins s σ H xs us Q I r ⟨F,ds,K,sub,rd,q,md⟩;unfold oB at q;split at q
 ·rename_i es
  split at q
  ·rename_i bs e
   obtain⟨v,rfl,a,vs,rfl,h1,h2⟩:=cO rd;rw[Jf e] at h2;rw[Jg h2] at h1;exact Q4 hc pins s σ H _ us Q I r ⟨a,bs,rfl,aZ.of h1,md _ _ _ q (fun _ _ e=>e) rfl⟩
  ·exact q.elim
 ·exact q.elim
theorem Se(hc:X.calm=true):dh X (.builtin "min") tK:=by
 rintro pins s σ H xs us Q I r ⟨F,ds,K,sub,rd,q,md⟩;unfold tK at q;split at q
 ·rename_i i j
  obtain⟨v,w,rfl,h1,h2⟩:=Jh rd;have h1:v=.int i:=h1;have h2:w=.int j:=h2;subst h1 h2;refine OW hc pins s σ H _ us Q I r ⟨i,j,rfl,?_⟩;have:(if j<i then j else i)=min i j:=by split<;>omega
  rw[this];exact md _ _ _ q (fun _ _ e=>e) rfl
 ·exact q.elim
theorem Sf(hc:X.calm=true):dh X (.builtin "max") yd:=by
 rintro pins s σ H xs us Q I r ⟨F,ds,K,sub,rd,q,md⟩;unfold yd at q;split at q
 ·rename_i i j
  obtain⟨v,w,rfl,h1,h2⟩:=Jh rd;have h1:v=.int i:=h1;have h2:w=.int j:=h2;subst h1 h2;refine OU hc pins s σ H _ us Q I r ⟨i,j,rfl,?_⟩;have:(if j>i then j else i)=max i j:=by split<;>omega
  rw[this];exact md _ _ _ q (fun _ _ e=>e) rfl
 ·exact q.elim
def ye(fa:WA):WE:=fun δ K=>fa δ fun xs δ1=>match xs with
 |[.p (.int j)]=>(0<=j/\j<=1000)/\K (.p (.lst (b_ 0 j.toNat))) δ1
 |_=>False
theorem rN(n:Nat):b_ 0 n=(bg n).map D.int:=by
 unfold b_ bg;rw[q0o];refine q0R fun i _=>?_;show D.int (0+(i:Int))=D.int (i:Int);rw[q9a]
theorem Sg{a:Expr}{fa:WA}{p1 p2 q1 q2:Pos}(hc:X.calm=true)(rO:Gl X "list")(hl:X.mg "list" = none)(rP:bootBuiltins "list" = some (.type "list"))(rQ:Gl X "range")(hr:X.mg "range" = none)(rR:bootBuiltins "range" = some (.type "range"))(ha:JA X [a] (bK fa))
  (he:starEach [a] X.env=[(false,eval a X.env)]:=by rfl) (rS:starEach [.Call (.Name "range" p2) [a] [] q2] X.env=[(false,eval (.Call (.Name "range" p2) [a] [] q2) X.env)]:=by rfl):JE X (.Call (.Name "list" p1) [.Call (.Name "range" p2) [a] [] q2] [] q1) (tD (ye fa)) :=
 (mJ (Ic hc) rO hl rP (gy (mJ Ia rQ hr rR ha (he:=he)) aI) (he:=rS)).weak fun σ H Q h0_=>el7 h0_ fun F ad δ K S q k =>⟨F,ad,δ,_,S,q,fun xs δ1 h1 vs F1 aN H1 E1 S1 V1=>by
  split at h1
  ·rename_i j
   obtain⟨v,r,e,W1,W2⟩:=V1;have W2:r=[]:=W2;have W1:v=.int j:=W1;subst W2 W1 e;refine⟨j,rfl,fun rr Cr=>⟨rr,j.toNat,rfl,by rw[a_,q52 h1.1.1],by omega,fun l hl=>?_⟩⟩;have s1:ar H1 (upd H1 rr (.rng 0 j)):=b7 Cr;have S2:=S1.al s1;have E2:=Ext.al S1 s1;refine k _ _ h1.2 _ _ _ _ ((E1.trans E2).trans (Ext.al S2 (b7 hl))) (S2.al (b7 hl)) ?_;have:Is (Nw (Nw F1 H1 (upd H1 rr (.rng 0 j))) (upd H1 rr (.rng 0 j)) (upd (upd H1 rr (.rng 0 j)) l (.lst ((bg j.toNat).map V.int)))) (.lst ((bg j.toNat).map D.int)) (.ref l):=mT S2.sub hl rL;rw[rN];exact this
  ·exact h1.elim⟩
def bB(T:String):D->(D->Prop)->Prop:=fun d K=>K (.bl (aJ (bG d) T))
theorem iH{T:String}{t:Str}{a:Expr}{f:WE}{p p2 pos:Pos}(hk:∀d:D,q0q X.K (.type (bG d)) (.type T)=some (aJ (bG d) T))(hg:Gl X "isinstance")(hm:X.mg "isinstance" = none)(Sh:Gl X t)(Si:X.mg t=none)(Sj:bootBuiltins t=some (.type T))(ha:JE X a (tD f))
  (u_:t≠"__name__" := by decide) (kE:bA t:=by decide) (he:starEach [a,.Name t p2] X.env=(false,eval a X.env)::starEach [.Name t p2] X.env:=by rfl):JE X (.Call (.Name "isinstance" p) [a,.Name t p2] [] pos) (tD (d1 f (bB T))) :=
 (uR QB hg hm q37 (ji ha (fY (Gr Sh Si Sj (v:=.ty T) rfl u_ kE) aI) he) (he:=he)).weak fun σ H Q h0_=>el7 h0_ fun F ad δ K S q k =>⟨F,ad,δ,_,S,q,fun x δ1 h1 v F1 aN H1 E1 S1 V1=>by
  obtain⟨d,h2,rd⟩:=jM S1 V1 h1
  refine⟨v,.ty T,.type T,.type (bG d),_,rfl,rfl,Is.ty (rd.is S1.sub),hk d,k _ _ h2 _ _ _ _ E1 S1 rfl⟩⟩
theorem Cu{K:xA}:∀d:D,q0q K (.type (bG d)) (.type "int")=some (aJ (bG d) "int"):=fun d=>QJ _ (vm d)
theorem vW{K:xA}:∀d:D,q0q K (.type (bG d)) (.type "bool")=some (aJ (bG d) "bool"):=fun d=>QI _ (vm d)
theorem Ji{K:xA}:∀d:D,q0q K (.type (bG d)) (.type "str")=some (aJ (bG d) "str"):=fun d=>QK _ (vm d)
theorem Cv{K:xA}:∀d:D,q0q K (.type (bG d)) (.type "tuple")=some (aJ (bG d) "tuple"):=fun d=>kit_tuple _ (vm d)
theorem Cw{K:xA}:∀d:D,q0q K (.type (bG d)) (.type "list")=some (aJ (bG d) "list"):=fun d=>QL _ (vm d)
def f7(x:DV)(δ:au)(K:Nat->List D->Prop):Prop:=match x with
 |.o k=>match δ.mu[k]? with
  |some (some (.lst ds))=>K k ds
  |_=>False
 |_=>False
theorem rT{F H:Hp}{ad:List Addr}{δ:au}{σ:St}{x:DV}{v:V}{K:Nat->List D->Prop}(S:SR F ad δ σ H)(V1:fD F ad x v)(h:f7 x δ K):∃k ds a vs,x=.o k/\K k ds/\v=.ref a/\ad[k]?=some a/\H a=some (.lst vs)/\ae F ds vs/\δ.mu[k]?=some (some (.lst ds)):=by
 unfold f7 at h;split at h
 ·rename_i k
  split at h
  ·rename_i ds e
   obtain⟨a,e1,rfl⟩:=V1;obtain⟨a',o,e2,e3,vs,rfl,h4⟩:=S.mu k _ e;rw[e1] at e2;cases e2;exact⟨k,ds,a,vs,rfl,h,rfl,e1,e3,h4,e⟩
  ·exact h.elim
 ·exact h.elim
def lG(f:WE)(fa:WA):WE:=fun δ K=>f δ fun x δ1=>f7 x δ1 fun _ _=>fa δ1 fun ys δ2=>match ys with
 |[y]=>oj y δ2 fun d δ3=>f7 x δ3 fun k ds=>ds.length<1000/\K (.p .non) ⟨δ3.sl,δ3.mu.set k (some (.lst (ds++[d])))⟩
 |_=>False
theorem Sk{f:WE}{fa:WA}{K0:xA}:∀σ H Q,tD (lG f fa) σ H Q->sP K0 "list" Ba (tD f) (bK fa) σ H Q:=fun σ H Q h0_=>el7 h0_ fun F ad δ K S q k =>⟨F,ad,δ,_,S,q,fun x δ1 h1 v F1 aN H1 E1 S1 V1=>by
 obtain⟨k0,Jj,a,vs,rfl,h2,rfl,e1,e2,i1,m1⟩:=rT S1 V1 h1;refine⟨.inl ⟨rfl,vs,aZ.of e2⟩,F1,aN,δ1,_,S1,h2,fun ys δ2 h3 us F2 cw H2 E2 S2 V2=>?_⟩
 match ys,h3,V2 with
 |[y],g3,⟨u,r,e,W1,W2⟩ =>
  have W3:r=[]:=W2;subst W3 e;obtain⟨d,δ3,F3,h4,E3,S3,i3⟩:=vD S2 W1 g3;obtain⟨k1,ds,b,ws,ek,h5,eb,e3,e4,i4,m4⟩:=rT (x:=.o k0) S3 ((V1.ext E2).ext E3) h4;cases ek
  have vX:a=b:=by injection eb
  subst vX;have oi:fJ F3 (.lst (ds++[d])) (.lst (ws++[u])):=⟨_,rfl,i4.snoc i3⟩;refine⟨a,ws,u,rfl,rfl,e4,kZ (by rw[i4.length];omega),?_⟩;exact k _ _ h5.2 _ _ _ _ (((E1.trans E2).trans E3).trans (Ext.put S3 m4 e3)) (S3.put m4 e3 oi) rfl
 |[],g3,_=>exact g3.elim
 |_::_::_,g3,_=>exact g3.elim⟩
def rV(f:WE)(fa:WA):WE:=fun δ K=>f δ fun x δ1=>f7 x δ1 fun _ _=>fa δ1 fun ys δ2=>match ys with
 |[.p (.lst es)]=>f7 x δ2 fun k ds=>ds.length+es.length<=1000/\K (.p .non) ⟨δ2.sl,δ2.mu.set k (some (.lst (ds++es)))⟩
 |_=>False
theorem Sl{f:WE}{fa:WA}{K0:xA}:∀σ H Q,tD (rV f fa) σ H Q->sP K0 "list" G9 (tD f) (bK fa) σ H Q:=fun σ H Q h0_=>el7 h0_ fun F ad δ K S q k =>⟨F,ad,δ,_,S,q,fun x δ1 h1 v F1 aN H1 E1 S1 V1=>by
 obtain⟨k0,Jj,a,vs,rfl,h2,rfl,e1,e2,i1,m1⟩:=rT S1 V1 h1;refine⟨.inl ⟨rfl,vs,aZ.of e2⟩,F1,aN,δ1,_,S1,h2,fun ys δ2 h3 us F2 cw H2 E2 S2 V2=>?_⟩;split at h3
 ·rename_i es
  obtain⟨u,r,e,W1,W2⟩:=V2;have W3:r=[]:=W2;have W4:Is F2 (.lst es) u:=W1;simp only[Is] at W4;obtain⟨b,zs,rfl,z1,z2⟩:=W4;subst W3 e;obtain⟨k1,ds,b',ws,ek,h5,eb,e3,e4,i4,m4⟩:=rT (x:=.o k0) S2 (V1.ext E2) h3;cases ek
  have vX:a=b':=by injection eb
  subst vX;have oi:fJ F2 (.lst (ds++es)) (.lst (ws++zs)):=⟨_,rfl,tH i4 z2⟩;refine⟨a,b,ws,zs,rfl,rfl,e4,S2.sub _ _ z1,lr (by rw[i4.length,z2.length];exact h5.1),?_⟩;exact k _ _ h5.2 _ _ _ _ ((E1.trans E2).trans (Ext.put S2 m4 e3)) (S2.put m4 e3 oi) rfl
 ·exact h3.elim⟩
def yf(f:WE)(fa:WA):WE:=fun δ K=>f δ fun x δ1=>f7 x δ1 fun _ _=>fa δ1 fun ys δ2=>match ys with
 |[.p (.int i)]=>f7 x δ2 fun k ds=>(-(2 ^ 63)<=i/\i<2 ^ 63)/\match seqIndex? i ds.length with
  |some j=>match ds[j]? with
   |some d=>K (.p d) ⟨δ2.sl,δ2.mu.set k (some (.lst (ds.eraseIdx j)))⟩
   |none=>False
  |none=>False
 |_=>False
theorem Sm{f:WE}{fa:WA}{K0:xA}:∀σ H Q,tD (yf f fa) σ H Q->sP K0 "list" G_ (tD f) (bK fa) σ H Q:=fun σ H Q h0_=>el7 h0_ fun F ad δ K S q k =>⟨F,ad,δ,_,S,q,fun x δ1 h1 v F1 aN H1 E1 S1 V1=>by
 obtain⟨k0,Jj,a,vs,rfl,h2,rfl,e1,e2,i1,m1⟩:=rT S1 V1 h1;refine⟨.inl ⟨rfl,vs,aZ.of e2⟩,F1,aN,δ1,_,S1,h2,fun ys δ2 h3 us F2 cw H2 E2 S2 V2=>?_⟩;split at h3
 ·rename_i i
  obtain⟨u,r,e,W1,W2⟩:=V2;have W3:r=[]:=W2;have W4:u=.int i:=W1;subst W3 W4 e;obtain⟨k1,ds,b',ws,ek,⟨h5,h6⟩,eb,e3,e4,i4,m4⟩:=rT (x:=.o k0) S2 (V1.ext E2) h3;cases ek
  have vX:a=b':=by injection eb
  subst vX;split at h6
  ·rename_i j hj
   split at h6
   ·rename_i d hd
    obtain⟨w,g1,g2⟩:=qa i4 hd;have oi:fJ F2 (.lst (ds.eraseIdx j)) (.lst (ws.eraseIdx j)):=⟨_,rfl,IU j i4⟩;refine⟨a,ws,i,j,w,rfl,rfl,e4,h5.1,h5.2,by rw[i4.length];exact hj,g1,?_⟩;exact k _ _ h6 _ _ _ _ ((E1.trans E2).trans (Ext.put S2 m4 e3)) (S2.put m4 e3 oi) g2
   ·exact h6.elim
  ·exact h6.elim
 ·exact h3.elim⟩
def rW(f fo fi:WE):WS:=fun K δ=>f δ fun x δ1=>fo δ1 fun o δ2=>fi δ2 fun i δ3=>oj x δ3 fun d δ4=>f7 o δ4 fun k ds=>match i with
 |.p (.int j)=>match jG ds.length j with
  |some m=>K.nx ⟨δ4.sl,δ4.mu.set k (some (.lst (ds.set m d)))⟩
  |none=>False
 |_=>False
theorem Sn[bL]{f fo fi:WE}:∀D σ H,b9 (rW f fo fi) D σ H->cU (tD f) (uF (tD fo) (tD fi) G4) D σ H:=fun D σ H h0_=>el7 h0_ fun F ad δ K S q k =>⟨F,ad,δ,_,S,q,fun x δ1 h1 v F1 aN H1 E1 S1 V1=>⟨F1,aN,δ1,_,S1,h1,fun o δ2 h2 ov F2 cw H2 E2 S2 V2=>⟨F2,cw,δ2,_,S2,h2,fun i δ3 h3 iv F3 tE H3 E3 S3 V3=>by
 obtain⟨d,δ4,F4,h4,E4,S4,i4⟩:=vD S3 ((V1.ext E2).ext E3) h3;obtain⟨k0,ds,a,vs,rfl,h5,rfl,e1,e2,i1,m1⟩:=rT S4 ((V2.ext E3).ext E4) h4;split at h5
 ·rename_i j
  split at h5
  ·rename_i m hm
   have V3:iv=.int j:=V3;subst V3;have oi:fJ F4 (.lst (ds.set m d)) (.lst (vs.set m v)):=⟨_,rfl,IT m i1 i4⟩;refine⟨a,vs,j,m,rfl,rfl,e2,by rw[i1.length];exact hm,?_⟩;exact k.nx _ h5 _ _ _ _ ((((E1.trans E2).trans E3).trans E4).trans (Ext.put S4 m1 e1)) (S4.put m1 e1 oi)
  ·exact h5.elim
 ·exact h5.elim⟩⟩⟩
end
end L2
namespace L2
open PySem PySem.Spec PyProof.Rows PySem.W
abbrev LK:=List Int
def kle(a b:LK):Prop:=HT.lexLt b a=false
theorem yg:∀a:LK,HT.lexLt a a=false
 |[]=>rfl
 |x::r=>by rw[HT.mK,q0f rfl];exact yg r
theorem yh:∀{a b:LK},HT.lexLt a b=false->HT.lexLt b a=false->a=b
 |[],[],_,_=>rfl
 |[],_::_,h,_=>by cases h
 |_::_,[],_,h=>by cases h
 |x::r,y::s,h,q=>by
  rw[HT.mK] at h q
  by_cases c:x=y
  ·subst c
   rw[q0f rfl] at h q;rw[yh h q]
  ·rw[q0a c] at h
   rw[q0a (fun z=>c z.symm)] at q;simp at h q;omega
theorem Cy:∀{a b c:LK},HT.lexLt a b=true->HT.lexLt b c=true->HT.lexLt a c=true
 |[],[],_,h,_=>by cases h
 |[],_::_,[],_,q=>by cases q
 |[],_::_,_::_,_,_=>rfl
 |_::_,[],_,h,_=>by cases h
 |_::_,_::_,[],_,q=>by cases q
 |x::r,y::s,z::t,h,q=>by
  rw[HT.mK] at h q ⊢
  by_cases c1:x=y
  ·subst c1
   rw[q0f rfl] at h
   by_cases c2:x=z
   ·subst c2
    rw[q0f rfl] at q ⊢;exact Cy h q
   ·rw[q0a c2] at q ⊢;exact q
  ·rw[q0a c1] at h
   by_cases c2:y=z
   ·subst c2
    rw[q0a c1];exact h
   ·rw[q0a c2] at q
    have h1:x<y:=by simpa using h
    have h2:y<z:=by simpa using q
    rw[q0a (by omega)];simp;omega
theorem kle_refl(a:LK):kle a a:=yg a
theorem rX{a b:LK}(h:HT.lexLt a b=true):kle a b:=by
 unfold kle
 cases q:HT.lexLt b a with
 |false=>rfl
 |true=>have:=Cy h q;rw[yg] at this;cases this
theorem kle_trans{a b c:LK}(h1:kle a b)(h2:kle b c):kle a c:=by
 unfold kle at *
 cases q:HT.lexLt c a with
 |false=>rfl
 |true =>
  cases q2:HT.lexLt a b with
  |true=>have:=Cy q q2;rw[h2] at this;cases this
  |false =>
   have e:=yh q2 h1;subst e;rw[h2] at q;cases q
theorem Jk{a b:LK}(h1:kle a b)(h2:kle b a):a=b:=yh h2 h1
section
variable{n:Nat}{k:Nat->LK}{I:Shared->Prop}{cmp:Nat->Nat->(Bool->Shared->Prop)->Shared->Prop}
def qc(n:Nat)(k:Nat->LK)(I:Shared->Prop)(cmp:Nat->Nat->(Bool->Shared->Prop)->Shared->Prop):Prop :=
 ∀(i j:Nat)(C:Bool->Shared->Prop)(s:Shared),i<n->j<n->I s->(∀s',I s'->C (HT.lexLt (k i) (k j)) s')->cmp i j C s
noncomputable def KA(k:Nat->LK)(p:Array Nat)(i:Nat):LK:=k (p.getD i 0)
structure di(n:Nat)(p:Array Nat):Prop where
 perm:p.Perm (q0A n).toArray
theorem di.size{p:Array Nat}(h:di n p):p.size=n:=by have:=h.perm.size_eq;simpa using this
theorem di.lt{p:Array Nat}(h:di n p){i:Nat}(hi:i<n):p.getD i 0<n:=by
 have hs:=h.size;have e:p.getD i 0=p[i]:=by simp[q6m,hs,hi]
 rw[e];have:p[i]∈(q0A n).toArray:=(h.perm.mem_iff).mp (Array.getElem_mem _);simpa using this
theorem vY{p q:Array Nat}{i j:Nat}(h:p[i]?=q[j]?):p.getD i 0=q.getD j 0:=by
 rw[q01,q01,h]
theorem yi{p:Array Nat}{i j:Nat}(hj:j<=p.size)(t:Nat):KA k (kas_rev p i j) t=if i<=t/\t<j then KA k p (i+j-1-t) else KA k p t:=by
 have e:=getElem?_mirror_all (xs:=p) (i:=i) hj t;unfold KA kas_rev
 by_cases c:i<=t/\t<j
 ·rw[q0f c] at e ⊢;rw[vY e]
 ·rw[q0a c] at e ⊢;rw[vY e]
theorem So{p:Array Nat}{src d:Nat}(hs:src<p.size)(hd:d<=src)(t:Nat):
  KA k (bubble p src d) t=if t=src-d then KA k p src else if src-d<t/\t<=src then KA k p (t-1) else KA k p t:=by
 have e:=getElem?_bubble hs d hd t;unfold KA
 by_cases c:t=src-d
 ·rw[q0f c] at e ⊢;rw[vY e]
 ·rw[q0a c] at e ⊢
  by_cases c2:src-d<t/\t<=src
  ·rw[q0f c2] at e ⊢;rw[vY e]
  ·rw[q0a c2] at e ⊢;rw[vY e]
def Up(k:Nat->LK)(p:Array Nat)(m:Nat):Prop:=∀i j,i<=j->j<m->kle (KA k p i) (KA k p j)
def Dn(k:Nat->LK)(p:Array Nat)(m:Nat):Prop:=∀i j,i<=j->j<m->kle (KA k p j) (KA k p i)
theorem Up.snoc{p:Array Nat}{m:Nat}(h:Up k p m)(hm:1<=m)(q:kle (KA k p (m-1)) (KA k p m)):Up k p (m+1):=fun i j jQ hj=>by
 by_cases c:j<m
 ·exact h i j jQ c
 ·have e:j=m:=by omega
  subst e
  by_cases c2:i=j
  ·subst c2;exact kle_refl _
  ·exact kle_trans (h i (j-1) (by omega) (by omega)) q
theorem Dn.snoc{p:Array Nat}{m:Nat}(h:Dn k p m)(hm:1<=m)(q:kle (KA k p m) (KA k p (m-1))):Dn k p (m+1):=fun i j jQ hj=>by
 by_cases c:j<m
 ·exact h i j jQ c
 ·have e:j=m:=by omega
  subst e
  by_cases c2:i=j
  ·subst c2;exact kle_refl _
  ·exact kle_trans q (h i (j-1) (by omega) (by omega))
theorem Up.one{p:Array Nat}:Up k p 1:=fun i j jQ hj=>by
 have:i=j:=by omega
 subst this;exact kle_refl _
theorem Dn.one{p:Array Nat}:Dn k p 1:=fun i j jQ hj=>by
 have:i=j:=by omega
 subst this;exact kle_refl _
theorem di.rev{p:Array Nat}(h:di n p)(i j:Nat):di n (kas_rev p i j):=⟨(mirror_perm _ _ _ _).trans h.perm⟩
theorem di.Sq{p:Array Nat}(h:di n p)(i j:Nat):di n (bubble p i j):=⟨(bubble_perm _ _ _).trans h.perm⟩
theorem Jl(hc:qc n k I cmp){p:Array Nat}(hp:di n p):∀(f m:Nat)(s:Shared)(Q:Nat->Shared->Prop),1<=m->m+f=n->Up k p m->I s →
  (∀m' s',m<=m'->m'<=n->Up k p m'->I s'->Q m' s')->(kas_asc p f m).kasWp cmp Q s
 |0,m,s,Q,h1,h2,up,hi,fin=>fin m s (Bi _) (by omega) up hi
 |f+1,m,s,Q,h1,h2,up,hi,fin=>by
  show cmp _ _ _ s;refine hc _ _ _ s (hp.lt (by omega)) (hp.lt (by omega)) hi fun s' cz=>?_
  cases q:HT.lexLt (k (p.getD m 0)) (k (p.getD (m-1) 0)) with
  |true=>dsimp only;rw[q0f rfl];exact fin m s' (Bi _) (by omega) up cz
  |false =>
   dsimp only;rw[q0a PH];exact Jl hc hp f (m+1) s' Q (by omega) (by omega) (up.snoc h1 q) cz fun m' iR a b c d=>fin m' iR (by omega) b c d
def Cz(k:Nat->LK)(p:Array Nat)(m q:Nat):Prop:=∀t,m-(q+1)<=t->t<m->KA k p t=KA k p (m-1)
theorem Jo{p:Array Nat}{m q:Nat}(hs:m<=p.size)(hq:q+1<=m)(e:Cz k p m q)(t:Nat):KA k (kas_rev p (m-(q+1)) m) t=KA k p t:=by
 rw[yi hs];split
 ·rename_i c
  rw[e _ (by omega) (by omega),e t c.1 c.2]
 ·rfl
theorem Dn.congr{p p':Array Nat}{m:Nat}(h:Dn k p m)(e:∀t,KA k p' t=KA k p t):Dn k p' m:=fun i j a b=>by rw[e,e];exact h i j a b
theorem yj(hc:qc n k I cmp):∀(f:Nat)(p:Array Nat)(m q:Nat)(s:Shared)(Q:Array Nat×Nat×Nat->Shared->Prop),di n p->1<=m->m+f=n->q+1<=m->Dn k p m->Cz k p m q->I s →
  (∀p' m' q' s',di n p'->m<=m'->m'<=n->q'+1<=m'->Dn k p' m'->Cz k p' m' q'->I s'->Q (p',m',q') s')->(kas_desc f p m q).kasWp cmp Q s
 |0,p,m,q,s,Q,hp,h1,h2,hq,dn,es,hi,fin=>fin p m q s hp (Bi _) (by omega) hq dn es hi
 |f+1,p,m,q,s,Q,hp,h1,h2,hq,dn,es,hi,fin=>by
  show cmp _ _ _ s;refine hc _ _ _ s (hp.lt (by omega)) (hp.lt (by omega)) hi fun s' cz=>?_;have sz:=hp.size
  cases c1:HT.lexLt (k (p.getD m 0)) (k (p.getD (m-1) 0)) with
  |true =>
   dsimp only;rw[q0f rfl];have st:kle (KA k p m) (KA k p (m-1)):=rX c1
   by_cases Jp:q>0
   ·rw[q0f Jp]
    have e:=Jo (k:=k) (p:=p) (m:=m) (q:=q) (by omega) hq es;refine yj hc f _ (m+1) 0 s' Q (hp.rev _ _) (by omega) (by omega) (by omega) ((dn.snoc h1 st).congr e) (fun t a b=>?_) cz fun p' m' q' iR a b c d e g i=>fin p' m' q' iR a (by omega) c d e g i;have:t=m+1-1:=by omega
    rw[this]
   ·rw[q0a Jp]
    refine yj hc f p (m+1) 0 s' Q hp (by omega) (by omega) (by omega) (dn.snoc h1 st) (fun t a b=>?_) cz fun p' m' q' iR a b c d e g i=>fin p' m' q' iR a (by omega) c d e g i;have:t=m+1-1:=by omega
    rw[this]
  |false =>
   dsimp only;rw[q0a PH];show cmp _ _ _ s';refine hc _ _ _ s' (hp.lt (by omega)) (hp.lt (by omega)) cz fun s2 oC=>?_
   cases c2:HT.lexLt (k (p.getD (m-1) 0)) (k (p.getD m 0)) with
   |true=>dsimp only;rw[q0f rfl];exact fin p m q s2 hp (Bi _) (by omega) hq dn es oC
   |false =>
    dsimp only;rw[q0a PH];have eq:KA k p m=KA k p (m-1):=yh c1 c2;refine yj hc f p (m+1) (q+1) s2 Q hp (by omega) (by omega) (by omega) (dn.snoc h1 (by rw[eq];exact kle_refl _)) (fun t a b=>?_) oC fun p' m' q' iR a b c d e g i=>fin p' m' q' iR a (by omega) c d e g i;show KA k p t=KA k p m
    by_cases z:t=m
    ·rw[z]
    ·rw[es t (by omega) (by omega),eq]
theorem Dn.rev{p:Array Nat}{m:Nat}(h:Dn k p m)(hs:m<=p.size):Up k (kas_rev p 0 m) m:=fun i j jQ hj=>by
 rw[yi hs,yi hs,q0f ⟨q06 _,by omega⟩,q0f ⟨q06 _,hj⟩];exact h _ _ (by omega) (by omega)
theorem Jq(hc:qc n k I cmp){p:Array Nat}(hp:di n p){m:Nat}{s:Shared}{Q:Nat×Array Nat->Shared->Prop}(h1:1<=m)(hm:m<=n)(dn:Dn k p m)(hi:I s)
  (fin:∀p' m' s',di n p'->1<=m'->m'<=n->Up k p' m'->I s'->Q (m',p') s'):(kas_tail3 m n p).kasWp cmp Q s:=by
 unfold kas_tail3;rw[KasT.kasWp_bind];have sz:=hp.size;refine Jl hc (hp.rev 0 m) (n-m) m s _ h1 (by omega) (dn.rev (by omega)) hi fun m' s' a b c d=>?_;exact fin _ m' s' (hp.rev 0 m) (by omega) b c d
theorem Jr(hc:qc n k I cmp){p:Array Nat}(hp:di n p){m:Nat}{s:Shared}{Q:Nat×Array Nat->Shared->Prop}(h1:1<=m)(hm:m+1<=n)(dn:Dn k p (m+1))(hi:I s)
  (fin:∀p' m' s',di n p'->1<=m'->m'<=n->Up k p' m'->I s'->Q (m',p') s'):(kas_descPart m n p).kasWp cmp Q s:=by
 unfold kas_descPart;rw[KasT.kasWp_bind];refine yj hc (n-(m+1)) p (m+1) 0 s _ hp (by omega) (by omega) (by omega) dn (fun t a b=>?_) hi fun p' m' q' s' a b c d e g i=>?_
 ·have:t=m+1-1:=by omega
  rw[this]
 ·have sz:=a.size
  dsimp only
  by_cases hq:q'>0
  ·rw[q0f hq]
   exact Jq hc (a.rev _ _) (by omega) c (e.congr (Jo (by omega) d g)) i fin
  ·rw[q0a hq]
   exact Jq hc a (by omega) c e i fin
theorem Sr(hc:qc n k I cmp){p:Array Nat}(hp:di n p){s:Shared}{Q:Nat×Array Nat->Shared->Prop}(h1:1<=n)(hi:I s)
  (fin:∀p' m' s',di n p'->1<=m'->m'<=n->Up k p' m'->I s'->Q (m',p') s'):(kas_count n p).kasWp cmp Q s:=by
 unfold kas_count;rw[KasT.kasWp_bind];have sz:=hp.size
 have key:∀(f m:Nat)(s:Shared)(Q':Nat->Shared->Prop),1<=m->m+f=n->Up k p m->I s →
   (∀m' s',m<=m'->m'<=n->Up k p m'->(m'<n->HT.lexLt (KA k p m') (KA k p (m'-1))=true)->I s'->Q' m' s')->(kas_asc p f m).kasWp cmp Q' s:=by
  intro f
  induction f with
  |zero=>intro m s Q' a b up hi fin;exact fin m s (Bi _) (by omega) up (fun z=>absurd z (by omega)) hi
  |succ f ih =>
   intro m s Q' a b up hi fin;show cmp _ _ _ s;refine hc _ _ _ s (hp.lt (by omega)) (hp.lt (by omega)) hi fun s' cz=>?_
   cases q:HT.lexLt (k (p.getD m 0)) (k (p.getD (m-1) 0)) with
   |true=>dsimp only;rw[q0f rfl];exact fin m s' (Bi _) (by omega) up (fun _=>q) cz
   |false =>
    dsimp only;rw[q0a PH];exact ih (m+1) s' Q' (by omega) (by omega) (up.snoc a q) cz fun m' iR a b c d e=>fin m' iR (by omega) b c d e
 refine key (n-1) 1 s _ (Bi _) (by omega) Up.one hi fun m s' a b up nx cz=>?_
 by_cases c1:m=n
 ·subst c1
  rw[q0f (by simp)];exact fin p m s' hp a (Bi _) up cz
 ·rw[q0a (by simpa using c1)]
  have cB:m<n:=by omega
  have nx:=nx cB
  by_cases c2:m>1
  ·rw[q0f c2]
   show cmp _ _ _ s';refine hc _ _ _ s' (hp.lt (by omega)) (hp.lt (by omega)) cz fun s2 oC=>?_
   cases q:HT.lexLt (k (p.getD 0 0)) (k (p.getD (m-1) 0)) with
   |true=>dsimp only;rw[q0f rfl];exact fin p m s2 hp a b up oC
   |false =>
    dsimp only;rw[q0a PH]
    have al:∀t,t<m->KA k p t=KA k p (m-1):=fun t ht=>by
     refine Jk (up t (m-1) (by omega) (by omega)) (kle_trans q (up 0 t (q06 _) ht))
    have e:∀t,KA k (kas_rev p 0 m) t=KA k p t:=fun t=>by
     rw[yi (by omega)];split
     ·rename_i c;rw[al _ (by omega),al t c.2]
     ·rfl
    refine Jr hc (hp.rev 0 m) (by omega) (by omega) (Dn.congr (p:=p) ?_ e) oC fin;refine Dn.snoc (fun i j jQ hj=>?_) (by omega) (rX nx);rw[al i (by omega),al j hj];exact kle_refl _
  ·rw[q0a c2]
   have:m=1:=by omega
   subst this;exact Jr hc hp (by omega) (by omega) (Dn.one.snoc (Bi _) (rX nx)) cz fin
theorem CA(hc:qc n k I cmp){p:Array Nat}(hp:di n p){t:Nat}(ht:t<n)(up:Up k p t):∀(f l r:Nat)(s:Shared)(Q:Nat->Shared->Prop),l<=r->r<=t->r-l<=f →
  (∀i,i<l->kle (KA k p i) (KA k p t))->(∀i,r<=i->i<t->kle (KA k p t) (KA k p i))->I s →
  (∀l' s',l'<=t->(∀i,i<l'->kle (KA k p i) (KA k p t))->(∀i,l'<=i->i<t->kle (KA k p t) (KA k p i))->I s'->Q l' s')->(kas_place p t f l r).kasWp cmp Q s
 |0,l,r,s,Q,h1,h2,h3,lo,tL,hi,fin=>by
  have:l=r:=by omega
  subst this;exact fin l s h2 lo tL hi
 |f+1,l,r,s,Q,h1,h2,h3,lo,tL,hi,fin=>by
  unfold kas_place
  by_cases c:l ≥ r
  ·rw[q0f c]
   have:l=r:=by omega
   subst this;exact fin l s h2 lo tL hi
  ·rw[q0a c]
   show cmp _ _ _ s;refine hc _ _ _ s (hp.lt ht) (hp.lt (by omega)) hi fun s' cz=>?_
   cases q:HT.lexLt (k (p.getD t 0)) (k (p.getD ((l+r) / 2) 0)) with
   |true =>
    dsimp only;rw[q0f rfl];refine CA hc hp ht up f l ((l+r) / 2) s' Q (by omega) (by omega) (by omega) lo (fun i a b=>?_) cz fin;exact kle_trans (rX q) (up _ _ a b)
   |false =>
    dsimp only;rw[q0a PH];refine CA hc hp ht up f ((l+r) / 2+1) r s' Q (by omega) h2 (by omega) (fun i a=>?_) tL cz fin;exact kle_trans (up i ((l+r) / 2) (by omega) (by omega)) q
theorem Js(hc:qc n k I cmp):∀(f:Nat)(p:Array Nat)(t:Nat)(s:Shared)(Q:Array Nat->Shared->Prop),di n p->t+f=n->Up k p t->I s →
  (∀p' s',di n p'->Up k p' n->I s'->Q p' s')->(kas_bin f p t).kasWp cmp Q s
 |0,p,t,s,Q,hp,h2,up,hi,fin=>by
  have:t=n:=by omega
  subst this;exact fin p s hp up hi
 |f+1,p,t,s,Q,hp,h2,up,hi,fin=>by
  unfold kas_bin;rw[KasT.kasWp_bind];have sz:=hp.size;refine CA hc hp (by omega) up t 0 t s _ (q06 _) (Bi _) (by omega) (fun i a=>absurd a (by omega)) (fun i a b=>absurd b (by omega)) hi fun l s' hl lo tL cz=>?_;refine Js hc f _ (t+1) s' Q (hp.Sq _ _) (by omega) (fun i j jQ hj=>?_) cz fin;have kb:=fun x=>So (k:=k) (p:=p) (src:=t) (d:=t-l) (by omega) (by omega) x;have el:t-(t-l)=l:=by omega
  rw[kb i,kb j,el]
  by_cases c1:i=l
  ·subst c1
   rw[q0f rfl]
   by_cases c2:j=i
   ·rw[q0f c2];exact kle_refl _
   ·rw[q0a c2,q0f ⟨by omega,by omega⟩]
    exact tL (j-1) (by omega) (by omega)
  ·rw[q0a c1]
   by_cases c2:j=l
   ·subst c2
    rw[q0f rfl,q0a (by omega)];exact lo i (by omega)
   ·rw[q0a c2]
    by_cases c3:l<i/\i<=t
    ·rw[q0f c3,q0f ⟨by omega,by omega⟩]
     exact up _ _ (by omega) (by omega)
    ·rw[q0a c3]
     by_cases c4:l<j/\j<=t
     ·rw[q0f c4];exact up _ _ (by omega) (by omega)
     ·rw[q0a c4];exact up _ _ jQ (by omega)
theorem Ss(hc:qc n k I cmp){s:Shared}{Q:Array Nat->Shared->Prop}(h1:1<=n)(hi:I s)(fin:∀p s',di n p->Up k p n->I s'->Q p s'):(kas_sort n).kasWp cmp Q s:=by
 unfold kas_sort;rw[KasT.kasWp_bind];refine Sr hc ⟨q7D _⟩ h1 hi fun p m s' a b c d e=>?_;dsimp only
 by_cases q:m<n
 ·rw[q0f q]
  have:max m 1=m:=by omega
  rw[this];exact Js hc (n-m) p m s' Q a (by omega) d e fin
 ·rw[q0a q]
  have:m=n:=by omega
  subst this;exact fin p s' a d e
end
end L2
namespace L2
open PySem PySem.Spec PyProof.Rows
theorem Jt{δ0:au}{bp:au->Prop}{g:WG}{b:WS}{K:KS}(I:Nat->au->Prop):∀(items:List D)(i:Nat)(δ:au),I i δ →
  (∀j d δ (L:au->Prop),items[j]?=some d->I (i+j) δ->(∀δ',I (i+j+1) δ'->L δ')->bp δ/\g (.p d) δ fun δ1=>b {nx:=fun δ2=>L (δ0.trim δ2),ct:=fun δ2=>L (δ0.trim δ2),bk:=K.nx,rt:=K.rt} δ1) →
  (∀δ,I (i+items.length) δ->bp δ/\K.nx δ)->km δ0 bp g b K items δ
 |[],i,δ,h,_,fin=>fin δ h
 |d::r,i,δ,h,st,fin=>by
  unfold km;refine st 0 d δ (fun δ'=>km δ0 bp g b K r δ') rfl h fun δ' hi=>?_;refine Jt I r (i+1) _ hi (fun j e δ L hj hI hL=>?_) fun δ hI=>?_
  ·have e:i+1+j=i+(j+1):=by omega
   rw[e] at hI hL;exact st (j+1) _ δ L (by simpa using hj) hI hL
  ·exact fin δ (by rw[Hc];have e:i+1+r.length=i+(r.length+1):=by omega
                   rw[e] at hI;exact hI)
theorem kq{δ0:au}{bp:au->Prop}{g:WG}{b:WS}{K:KS}{items:List D}{δ:au}(I:Nat->au->Prop)(h0:I 0 δ)
  (st:∀j d δ (L:au->Prop),items[j]?=some d->I j δ->(∀δ',I (j+1) δ'->L δ')->bp δ/\g (.p d) δ fun δ1=>b {nx:=fun δ2=>L (δ0.trim δ2),ct:=fun δ2=>L (δ0.trim δ2),bk:=K.nx,rt:=K.rt} δ1)
  (fin:∀δ,I items.length δ->bp δ/\K.nx δ):km δ0 bp g b K items δ :=
 Jt I items 0 δ h0 (fun j d δ L hj hI hL=>by rw[q00] at hI hL;exact st j d δ L hj hI hL) fun δ hI=>by rw[q00] at hI;exact fin δ hI
def vZ(δ0:au)(bp:au->Prop)(g:WG)(t:WT)(f:WE)(d:D)(acc:List D)(δ:au)(L:List D->au->Prop):Prop :=
 bp δ/\g (.p d) δ fun δ1=>t δ1 fun b δ2=>if b=true then f δ2 fun x δ3=>oj x δ3 fun e δ4=>acc.length<1000/\L (acc++[e]) (δ0.trim δ4) else L acc (δ0.trim δ2)
theorem Ju{δ0:au}{bp:au->Prop}{g:WG}{t:WT}{f:WE}{K:List D->au->Prop}(I:Nat->List D->au->Prop):∀(items:List D)(i:Nat)(acc:List D)(δ:au),I i acc δ →
  (∀j d acc δ (L:List D->au->Prop),items[j]?=some d->I (i+j) acc δ->(∀d9 δ',I (i+j+1) d9 δ'->L d9 δ')->vZ δ0 bp g t f d acc δ L) →
  (∀acc δ,I (i+items.length) acc δ->bp δ/\K acc δ)->jq δ0 bp g t f K items acc δ
 |[],i,acc,δ,h,_,fin=>fin acc δ h
 |d::r,i,acc,δ,h,st,fin=>by
  unfold jq;refine st 0 d acc δ (fun d9 δ'=>jq δ0 bp g t f K r d9 δ') rfl h fun d9 δ' hi=>?_;refine Ju I r (i+1) d9 _ hi (fun j e acc δ L hj hI hL=>?_) fun acc δ hI=>?_
  ·have e:i+1+j=i+(j+1):=by omega
   rw[e] at hI hL;exact st (j+1) _ acc δ L (by simpa using hj) hI hL
  ·exact fin acc δ (by rw[Hc];have e:i+1+r.length=i+(r.length+1):=by omega
                       rw[e] at hI;exact hI)
theorem CB{δ0:au}{bp:au->Prop}{g:WG}{t:WT}{f:WE}{K:List D->au->Prop}{items:List D}{δ:au}(I:Nat->List D->au->Prop)(h0:I 0 [] δ)
  (st:∀j d acc δ (L:List D->au->Prop),items[j]?=some d->I j acc δ->(∀d9 δ',I (j+1) d9 δ'->L d9 δ')->vZ δ0 bp g t f d acc δ L)
  (fin:∀acc δ,I items.length acc δ->bp δ/\K acc δ):jq δ0 bp g t f K items [] δ :=
 Ju I items 0 [] δ h0 (fun j d acc δ L hj hI hL=>by rw[q00] at hI hL;exact st j d acc δ L hj hI hL) fun acc δ hI=>by rw[q00] at hI;exact fin acc δ hI
theorem tM{δ0:au}{bp:au->Prop}{g:WG}{t:WT}{f:WE}{K:List D->au->Prop}{items:List D}(p:D->Bool)(fn:D->D)(hl:items.length<=1000)(hc:bp δ0)
  (st:∀d∈items,∀acc (L:List D->au->Prop),acc.length<1000->(p d=true->L (acc++[fn d]) δ0)->(p d=false->L acc δ0)->vZ δ0 bp g t f d acc δ0 L)
  (fin:K ((items.filter p).map fn) δ0):jq δ0 bp g t f K items [] δ0:=by
 refine CB (fun i acc δ=>δ=δ0/\acc=((items.take i).filter p).map fn) ⟨rfl,rfl⟩ ?_ ?_
 ·rintro j d acc δ L hj ⟨rfl,rfl⟩ hL
  have cB:=(sR.mp hj).1;have hm:d∈items:=q0M hj
  have hn:(((items.take j).filter p).map fn).length<1000:=by
   rw[qU];have:=q3N p (items.take j);rw[q0L] at this;omega
  have e:items.take (j+1)=items.take j++[d]:=by rw[q2j,hj];rfl
  refine st d hm _ L hn (fun q=>hL _ _ ⟨rfl,?_⟩) (fun q=>hL _ _ ⟨rfl,?_⟩)
  ·rw[e,q2s,q0w];simp[x0J,q]
  ·rw[e,q2s,q0w];simp[x0J,q]
 ·rintro acc δ ⟨rfl,rfl⟩
  rw[q1o (Bi _)];exact⟨hc,fin⟩
theorem kr{δ0:au}{bp:au->Prop}{g:WG}{t:WT}{f:WE}{K:List D->au->Prop}{items:List D}(fn:D->D)(hl:items.length<=1000)(hc:bp δ0)
  (st:∀d∈items,∀acc (L:List D->au->Prop),acc.length<1000->L (acc++[fn d]) δ0->vZ δ0 bp g t f d acc δ0 L)
  (fin:K (items.map fn) δ0):jq δ0 bp g t f K items [] δ0 :=
 tM (fun _=>true) fn hl hc (fun d hd acc L ha h _=>st d hd acc L ha (h rfl)) (by rw[List.filter_eq_self.mpr fun _ _=>rfl];exact fin)
end L2
namespace LJ
open PySem L2
theorem Jv:bootBuiltins "range" = some (.type "range"):=by decide +kernel
theorem Su:bootBuiltins "max" = some (.builtin "max"):=by decide +kernel
theorem Jw:bootBuiltins "min" = some (.builtin "min"):=by decide +kernel
theorem CC:bootBuiltins "sorted" = some (.builtin "sorted"):=by decide +kernel
structure BT(mg:Str->Option Value):Prop where
 len:mg "len" = none
 range:mg "range" = none
 list:mg "list" = none
 tuple:mg "tuple" = none
 set:mg "set" = none
 sorted:mg "sorted" = none
 min:mg "min" = none
 max:mg "max" = none
 sum:mg "sum" = none
 all:mg "all" = none
 any:mg "any" = none
 enumerate:mg "enumerate" = none
 zip:mg "zip" = none
 isinstance:mg "isinstance" = none
 int:mg "int" = none
 bool:mg "bool" = none
 str:mg "str" = none
end LJ
namespace L2
open PySem PySem.Spec PyProof.Rows
variable[aB]
section
variable{X:Cx}{fa:WA}{pos:Pos}
theorem Jx{F H:Hp}{ad:List Addr}{δ:au}{σ:St}{p:Addr}(S:SR F ad δ σ H):fD F (ad++[p]) (.o δ.mu.length) (.ref p) :=
 ⟨p,by rw[<-S.cb,q0k (Bi _),q1r];rfl,rfl⟩
def yk(fa:WA):WE:=fun δ K=>fa δ fun xs δ1=>match xs with
 |[.p (.int j)]=>(0<=j/\j<=1000)/\K (.o δ1.mu.length) ⟨δ1.sl,δ1.mu++[some (.lst (b_ 0 j.toNat))]⟩
 |_=>False
theorem Sv{a:Expr}{p1 p2 q1 q2:Pos}(hc:X.calm=true)(rO:Gl X "list")(hl:X.mg "list" = none)(rP:bootBuiltins "list" = some (.type "list"))(rQ:Gl X "range")(hr:X.mg "range" = none)(rR:bootBuiltins "range" = some (.type "range"))(ha:JA X [a] (bK fa))
  (he:starEach [a] X.env=[(false,eval a X.env)]:=by rfl) (rS:starEach [.Call (.Name "range" p2) [a] [] q2] X.env=[(false,eval (.Call (.Name "range" p2) [a] [] q2) X.env)]:=by rfl):JE X (.Call (.Name "list" p1) [.Call (.Name "range" p2) [a] [] q2] [] q1) (tD (yk fa)) :=
 (mJ (Ic hc) rO hl rP (gy (mJ Ia rQ hr rR ha (he:=he)) aI) (he:=rS)).weak fun σ H Q h0_=>el7 h0_ fun F ad δ K S q k =>⟨F,ad,δ,_,S,q,fun xs δ1 h1 vs F1 aN H1 E1 S1 V1=>by
  split at h1
  ·rename_i j
   obtain⟨v,r,e,W1,W2⟩:=V1;have W2:r=[]:=W2;have W1:v=.int j:=W1;subst W2 W1 e;refine⟨j,rfl,fun rr Cr=>⟨rr,j.toNat,rfl,by rw[a_,q52 h1.1.1],by omega,fun l hl=>?_⟩⟩;have s1:ar H1 (upd H1 rr (.rng 0 j)):=b7 Cr;have S2:=S1.al s1;have E2:=Ext.al S1 s1;have oi:fJ (Nw F1 H1 (upd H1 rr (.rng 0 j))) (.lst (b_ 0 j.toNat)) (.lst ((bg j.toNat).map V.int)):=⟨_,rfl,by rw[rN];exact rL⟩;exact k _ _ h1.2 _ _ _ _ ((E1.trans E2).trans (Ext.own S2 hl)) (S2.own hl oi) (Jx S2)
  ·exact h1.elim⟩
def CD(f g:WE):WE:=fun δ K=>f δ fun x δ1=>g δ1 fun y δ2=>gz x δ2 fun d=>gz y δ2 fun e=>match d,e with
 |.lst a,.lst b=>a.length+b.length<=1000/\K (.o δ2.mu.length) ⟨δ2.sl,δ2.mu++[some (.lst (a++b))]⟩
 |_,_=>False
theorem Sw{a b:Expr}{f g:WE}(ha:JE X a (tD f))(hb:JE X b (tD g)):JE X (.BinOp a .Add b pos) (tD (CD f g)) :=
 (qA xy ha hb).weak fun σ H Q h0_=>el7 h0_ fun F ad δ K S q k =>⟨F,ad,δ,_,S,q,fun x δ1 h1 v1 F1 aN H1 E1 S1 V1=>⟨F1,aN,δ1,_,S1,h1,fun y δ2 h2 v2 F2 cw H2 E2 S2 V2=>by
  obtain⟨d,h3,rd⟩:=jM S2 (V1.ext E2) h2;obtain⟨e,h4,re⟩:=jM S2 V2 h3;split at h4
  ·rename_i as bs
   obtain⟨a,us,rfl,g1,g2⟩:=rd;obtain⟨b,ws,rfl,g3,g4⟩:=re;have oi:fJ F2 (.lst (as++bs)) (.lst (us++ws)):=⟨_,rfl,tH g2 g4⟩;exact⟨a,b,us,ws,rfl,rfl,g1,g3,lr (by rw[g2.length,g4.length];exact h4.1),fun p hp=>k _ _ h4.2 _ _ _ _ ((E1.trans E2).trans (Ext.own S2 hp)) (S2.own hp oi) (Jx S2)⟩
  ·exact h4.elim⟩⟩
theorem Sx[bL]{st:Stmt}:JS X st (b9 pY):=⟨fun pins s D σ H I q=>by obtain⟨F,ad,δ,K,S,q,k⟩:=q;exact q.elim⟩
end
end L2
namespace LJS
open PySem PySem.SetTable PyProof.Rows
section
variable{prog:Program}{w:World}{A:Around}{S:Addr}{ks:List Int}
theorem ints_of:∀{l:List (Int×Value)},(∀e∈l,∃k tk,e=(hashInt k,q1i k tk))->IntsAre (l.map (·.2)) (l.map keyOf)
 |[],_=>.nil
 |e::r,h=>by
  obtain⟨k,tk,rfl⟩:=h e PE;exact .cons k tk (ints_of fun e he=>h e (q0c _ he))
theorem Sy{E:aH}{s:Shared}{Q:aH}(hh:A.handled=none)(hS:d8 s.heap S (g9 w) ks)(hn:ks.length<64)
  (h:∀(h':Heap)(tk:Nat)(r:Addr)(out:Array Value)(cE:List Int)(e:Nat),(∀b ob,s.heap.get? b=some ob->h'.get? b=some ob)->s.heap.objs.size<=r->h'.get? r=some (seqObj "list" out e)->IntsAre out.toList cE->cE.Perm ks->cE.Pairwise (· <= ·)->Q (.ref r) {s with heap:=h',toks:=tk}) :
  wpAny (model prog w) A (call (.builtin "sorted") [.ref S]) Q E s:=by
 obtain⟨o,es,ep,t,ho,hex,hd,T⟩:=hS;have hsz:=T.num;have lS:S<s.heap.objs.size:=My ho;refine q4y kind_sorted plain_sorted entry_sorted (args_sorted1 _) ?_;unfold Builtin.«sorted»;refine n_ (m:=checkCount "sorted" 1 1 _) (uX ?_);refine n_ (NN (by simp[hh]) ho hex hd T (by omega) fun h1 my sX le=>?_);have allI:∀e∈(gO w S ep es).toList,∃k tk,e=(hashInt k,q1i k tk):=fun e he=>T.xh e ((zY w S ep es).mem_iff.mp he);have hI:IntsAre ((gO w S ep es).toList.map (·.2)) ((gO w S ep es).toList.map keyOf):=ints_of allI;have hP:((gO w S ep es).toList.map keyOf).Perm ks:=((zY w S ep es).map keyOf).trans T.keys
 have hL:((gO w S ep es).toList.map (·.2)).length=ks.length:=by rw[qU,PF,xj,hsz]
 generalize(gO w S ep es).toList.map (·.2)=vs at hI hL ⊢;generalize(gO w S ep es).toList.map keyOf=ns at hI hP;refine n_ (q4P ?_);have nK:(h1.push (seqObj "list" vs.toArray 0)).get? h1.objs.size=some (seqObj "list" vs.toArray 0):=PG _ rfl;refine n_ (q0D (q1k (s:={s with heap:=h1.push (seqObj "list" vs.toArray 0),toks:=my}) slot_list_sort ⟨_,nK,rfl⟩ entry_list_sort (list_sort_tree nK hI (by omega) fun out cE a1 a2 a3=>⟨_,rfl,?_⟩) (args_list_sort _)));obtain⟨e,he⟩:=sortedHeap_at (out:=out) nK;refine uX ⟨_,rfl,h _ _ _ out cE e (fun b ob eb=>?_) le he a1 (a2.trans hP) a3⟩;have hb:b<h1.objs.size:=My (sX b ob eb)
 show(sortedHeap (h1.push (seqObj "list" vs.toArray 0)) h1.objs.size vs out).get? b=some ob;rw[sortedHeap_old (q0e hb) (by rw[size_push'];exact q0W hb)];exact qT _ (sX b ob eb)
end
end LJS
namespace L2
open PySem PySem.Spec PyProof.Rows
noncomputable def v3(led:Bool)(S:Addr)(ks:List Int):HO:=.ext fun h=>LJS.d8 h S led ks
theorem Sz{P:Program}{w:World}{H:Hp}{h:Heap}{S:Addr}{led:Bool}{ks:List Int}(e:LJS.d8 h S led ks):az P w H h S (v3 led S ks) :=
 ⟨e,let⟨o,_,_,_,ho,_⟩:=e;⟨o,ho⟩,fun h1 h2 e1 k=>LJS.zR e1 fun o eo=>k o eo⟩
noncomputable def ju(ns:List Int):List Int:=LJS.j6 ns ns.length
section
variable{X:Cx}
theorem SA(hc:X.calm=true):gb X (.type "set") (fun xs H Q=>∃(l:Addr)(ns:List Int),xs=[.ref l]/\aZ X.K H l (ns.map V.int)/\ns.length<=40/\∀p,H p=none->Q (.ref p) (upd H p (v3 (LJS.g9 X.w) p (ju ns)))):=by
 intro pins s σ H xs us Q I r h;obtain⟨l,ns,rfl,hq,Gb,q⟩:=h;obtain⟨u,rfl,rx⟩:=vals1 r;cases rx
 obtain⟨ah,r',pl,_⟩:=I.list hq;have hl:=r'.length;rw[qU] at hl;refine LJS.NB ns (I.ok.hd hc) pl.isList (fun i v hv=>?_) (by rw[Hb];omega) fun h' tk se kp=>?_
 ·rw[q2Z] at hv
  have hi:=(sR.mp hv).1;obtain⟨x,hx,rv⟩:=vO r' (j:=i) (by rw[Hb];exact hi);rw[show ah.toArray[i]'(by rw[Hb];exact hi)=v by simpa using(sR.mp hv).2] at rv;rw[q0b] at hx;obtain⟨n,hn,rfl⟩:=q0g.mp hx;obtain⟨t,rfl⟩:=rv;rw[He,hn];exact⟨t,rfl⟩
 ·have SD:LJS.d8 h' s.heap.objs.size (LJS.g9 X.w) (ju ns):=by
   have e:ah.toArray.size=ns.length:=by rw[Hb];omega
   rw[e] at se;exact se
  exact⟨.ref s.heap.objs.size,upd H s.heap.objs.size (v3 (LJS.g9 X.w) s.heap.objs.size (ju ns)),I.laid (t':=tk) (fun b o e=>kp b o (My e) e) (Bi _) (Sz SD),rfl,q _ (I.aD.fresh (Bi _))⟩
theorem SE(hc:X.calm=true):gb X (.builtin "sorted") (fun xs H Q=>∃(p:Addr)(ks:List Int),xs=[.ref p]/\H p=some (v3 (LJS.g9 X.w) p ks)/\ks.length<64/\∀(r:Addr)(cE:List Int),cE.Perm ks->cE.Pairwise (· <= ·)->H r=none->Q (.ref r) (upd H r (.lst (cE.map V.int)))):=by
 intro pins s σ H xs us Q I r h;obtain⟨p,ks,rfl,hp,hn,q⟩:=h;obtain⟨u,rfl,rx⟩:=vals1 r;cases rx
 obtain⟨se,_⟩:=I.aD p _ hp;refine LJS.Sy (I.ok.hd hc) se hn fun h' tk r out cE e kp le he hI pm pw=>?_;refine⟨.ref r,_,I.laid (t':=tk) (o:=.lst (cE.map V.int)) kp le ?_,rfl,q _ cE pm pw (I.aD.fresh le)⟩;refine⟨q1z (kZ (by rw[qU,pm.length_eq];omega)),out.toList,e,BL hI,?_⟩;simpa[seqObj] using he
end
end L2
namespace LJS
open PySem PySem.SetTable PyProof.Rows
section
variable{t:SetTable}{f:Nat->Int}{h:Int}
end
section
variable{hk:Nat->Int}{ad:Nat->Addr}{t:SetTable}{es:Array (Int×Value)}{js:List Nat}
end
section
variable{prog:Program}{w:World}{A:Around}{E:aH}{s:Shared}{ad:Nat->Addr}{ks:Nat->List Int}{js:List Nat}{S:Addr}
end
section
variable{prog:Program}{w:World}{A:Around}{R:Result->Shared->Prop}{I S:Addr}{fp wr:List Addr}{G:Array GenState->Array GenState->Prop}{n:Nat}{P:Nat->Value->Prop}{St:Nat->Shared->Prop}
end
section
variable{prog:Program}{w:World}{A:Around}{E:aH}{s:Shared}
end
end LJS
namespace L2
open PySem PySem.Spec PyProof.Rows
variable[aB]
def qd:List D->(D->Prop)->Prop
 |[.lst ds],K=>match intsOf ds with
  |some ns=>ns.length<=40/\K (.lst ((sortI (ju ns)).map D.int))
  |none=>False
 |_,_=>False
theorem Jy(ns:List Int):(ju ns).length<=ns.length:=LJS.zS ns ns.length
section
variable{X:Cx}{fa:WA}
theorem SG{a:Expr}{p1 p2 q1 q2:Pos}(hc:X.calm=true)(rO:Gl X "sorted")(hl:X.mg "sorted" = none)(rP:bootBuiltins "sorted" = some (.builtin "sorted"))(rQ:Gl X "set")(hr:X.mg "set" = none)(rR:bootBuiltins "set" = some (.type "set"))(ha:JA X [a] (bK fa))
  (he:starEach [a] X.env=[(false,eval a X.env)]:=by rfl) (rS:starEach [.Call (.Name "set" p2) [a] [] q2] X.env=[(false,eval (.Call (.Name "set" p2) [a] [] q2) X.env)]:=by rfl):JE X (.Call (.Name "sorted" p1) [.Call (.Name "set" p2) [a] [] q2] [] q1) (tD (dN fa qd)) :=
 (uR (SE hc) rO hl rP (gy (mJ (SA hc) rQ hr rR ha (he:=he)) aI) (he:=rS)).weak fun σ H Q h0_=>el7 h0_ fun F ad δ K S q k =>⟨F,ad,δ,_,S,q,fun xs δ1 h1 vs F1 aN H1 E1 S1 V1=>by
  obtain⟨ds,h2,rq⟩:=xK S1 V1 h1;unfold qd at h2;split at h2
  ·split at h2
   ·rename_i es ns e
    obtain⟨v,rfl,a,vs,rfl,g1,g2⟩:=cO rq;rw[vP e] at g2;rw[qb g2] at g1;refine⟨a,ns,rfl,aZ.of g1,h2.1,fun p hp=>⟨p,ju ns,rfl,a_,by have:=Jy ns;omega,fun r cE pm pw hr=>?_⟩⟩;have s1:ar H1 (upd H1 p (v3 (LJS.g9 X.w) p (ju ns))):=b7 hp;have S2:=S1.al s1;have E2:=Ext.al S1 s1;refine k _ _ h2.2 _ _ _ _ ((E1.trans E2).trans (Ext.al S2 (b7 hr))) (S2.al (b7 hr)) ?_;rw[<-yb pm pw];exact mT S2.sub hr rL
   ·exact h2.elim
  ·exact h2.elim⟩
theorem Jz{F:Hp}:∀{ps:List (Int×Int)}{vs:List V},ae F (ps.map fun p=>D.tup [.int p.1,.int p.2]) vs->∃as:List Addr,vs=as.map V.ref/\as.length=ps.length/\∀(i:Nat)(a:Addr)(k:Int×Int),as[i]?=some a->ps[i]?=some k->F a=some (.tup [.int k.1,.int k.2])
 |[],vs,h=>by
  have h:vs=[]:=by simpa only [q1_,ae] using h
  subst h;exact⟨[],rfl,rfl,fun i a k e=>by simp at e⟩
 |p::r,vs,h=>by
  rw[q0p] at h;simp only[ae] at h;obtain⟨v,r',rfl,h1,h2⟩:=h;obtain⟨as,rfl,hl,g⟩:=Jz h2;simp only[Is] at h1;obtain⟨a,us,rfl,e1,e2⟩:=h1;simp only[ae,Is] at e2;obtain⟨_,_,rfl,rfl,_,_,rfl,rfl,rfl⟩:=e2;refine⟨a::as,rfl,by rw[Hc,Hc,hl],fun i b k eb ek=>?_⟩
  cases i with
  |zero =>
   cases(show some a=some b by simpa using eb)
   cases(show some p=some k by simpa using ek)
   exact e1
  |succ i=>exact g i b k (by simpa using eb) (by simpa using ek)
end
end L2
namespace HT
open PySem PySem.Spec PyProof.Rows
section
variable{prog:Program}{w:World}{A:Around}{E:aH}{s:Shared}
theorem SH{t b:Addr}{ws:List Value}{Q:aH}(ht:IsTup s.heap t #[])(hb:IsTup s.heap b ws.toArray)(h:Q (.ref b) s):wpAny (model prog w) A (binaryOp .Add (.ref t) (.ref b)) Q E s:=by
 obtain⟨⟨cls,dd,data,sl⟩,ho,hc,n,hd⟩:=id ht;obtain⟨⟨qL,j9,data2,j_⟩,eZ,iS,n2,hd2⟩:=id hb;simp only at hc hd iS hd2;subst hc hd iS hd2
 exact q6N ⟨_,ho,rfl⟩ ⟨_,eZ,rfl⟩ q4Y q6c q3G q3w (q3k _ _)
  (tuple_addW0 t b #[] ws.toArray n n2 dd j9 sl j_ rfl) ⟨ho,eZ,h⟩
theorem SI{t sl:Addr}{items:Array Value}{vl vu:Value}{lo hi:Option Int}{Q:aH}(ht:IsTup s.heap t items)(hs:s.heap.IsSliceOf sl vl vu .none)(pl:IsPart vl lo)(pu:IsPart vu hi)
  (hw:aU items.size 0 lo=0/\aU items.size items.size hi=items.size) (h:Q (.ref t) s):wpAny (model prog w) A (getItem (.ref t) (.ref sl)) Q E s:=by
 obtain⟨os,qM,sO,uT⟩:=id hs;have AS:s.TypeIs (.ref sl) "slice" := ⟨os,qM,sO⟩;unfold getItem
 try with_reducible refine q0D ?_
 first|refine n_ (uX ?_)|skip
 refine n_ (q6O ht.typeIs (by decide) ?_)
 refine n_ (q1j (name:=q0X "__getitem__") ht.typeIs q1g
  (q1k q1g ht.typeIs q5P ?_ (q6o _ _)))
 show wpAny _ _ (q4q (.ref t) >>= _) _ _ s;refine n_ (tupleItemsOf_ ht ?_);refine n_ (q3E AS ?_);rw[q0f (by decide)];refine n_ (GZ hs pl pu ?_);show wpAny _ _ (if(((aU items.size 0 lo:Nat):Int)==0&&(1:Int)==1&&(aU items.size items.size hi-aU items.size 0 lo)==items.size)=true then _ else _) _ _ s;rw[q0f (by rw[hw.1,hw.2];simp)];unfold Builtin.Tuple.tupleIsExact;refine n_ (n_ (q3E ht.typeIs (uX ?_)));rw[q0f (by decide)];refine n_ (q3S ?_);exact uX ⟨_,rfl,uX h⟩
end
end HT
namespace L2
open PySem PySem.Spec PyProof.Rows
variable[aB]
section
variable{X:Cx}{e:Expr}{te:TE}{pos p2 p3 p4:Pos}
def SJ(K:xA):V->Option Int->Option Int->Hp->VK->Prop:=fun x lo hi H Q=>∃a xs,x=.ref a/\bw K H a xs ∧
 (HT.aU xs.length 0 lo=0/\HT.aU xs.length xs.length hi=xs.length->Q (.ref a) H)/\(¬ (HT.aU xs.length 0 lo=0/\HT.aU xs.length xs.length hi=xs.length)->∀p,H p=none->Q (.ref p) (upd H p (.tup (cF xs lo hi))))
theorem SK:pO X (SJ X.K):=by
 intro pins s σ H x v vl vu lo hi sl Q I rx hs pl pu h;obtain⟨a,xs,rfl,hx,q1,q2⟩:=h
 by_cases hw:HT.aU xs.length 0 lo=0/\HT.aU xs.length xs.length hi=xs.length
 ·cases rx
  obtain⟨ah,r,ht,hz⟩:=I.tuple hx;have hlen:ah.toArray.size=xs.length:=by rw[Hb];exact r.length.symm
  refine⟨"tuple",_,q1g.lookup,ht.typeIs,?_⟩;exact HT.SI ht hs pl pu (by rw[hlen];exact hw) ⟨.ref a,H,I,rfl,q1 hw⟩
 ·exact Pj pins s σ H _ v vl vu lo hi sl Q I rx hs pl pu ⟨a,xs,rfl,hx,hw,q2 hw⟩
theorem SM:dg X (binaryOp .Add) (fun x y H Q=>∃a b ys,x=.ref a/\y=.ref b/\bw X.K H a []/\bw X.K H b ys/\Q (.ref b) H):=by
 intro pins s σ H x y v u Q I rx ry h;obtain⟨a,b,ys,rfl,rfl,ha,hb,q⟩:=h;cases rx
 cases ry
 obtain⟨ah,r1,p1,_⟩:=I.tuple ha;obtain⟨aY,r2,p2,_⟩:=I.tuple hb;have:ah=[]:=r1.fg.mpr rfl;subst this;exact HT.SH p1 p2 ⟨.ref b,H,I,rfl,q⟩
theorem SN:dg X (compareOp .Is) (fun x y H Q=>∃a b,x=.bl a/\y=.bl b/\Q (.bl (a==b)) H):=by
 intro pins s σ H x y v u Q I rx ry h;obtain⟨a,b,rfl,rfl,q⟩:=h;cases rx
 cases ry
 exact uX ⟨.bl (a==b),H,I,by cases a<;>cases b<;>rfl,q⟩
theorem SO:dg X (compareOp .IsNot) (fun x y H Q=>∃a b,x=.bl a/\y=.bl b/\Q (.bl (!(a==b))) H):=by
 intro pins s σ H x y v u Q I rx ry h;obtain⟨a,b,rfl,rfl,q⟩:=h;cases rx
 cases ry
 exact uX ⟨.bl (!(a==b)),H,I,by cases a<;>cases b<;>rfl,q⟩
def cJ:D->D->(D->Prop)->Prop
 |.int i,.int j,K=>K (.int (i+j))
 |.lst a,.lst b,K=>a.length+b.length<=1000/\K (.lst (a++b))
 |.tup a,.tup b,K=>a.length+b.length<=1000/\K (.tup (a++b))
 |.str a,.str b,K=>a.length+b.length<=1000/\K (.str (a++b))
 |_,_,_=>False
theorem SQ:eM X (binaryOp .Add) cJ:=by
 rintro pins s σ H x y v u Q I rx ry ⟨F,d,e,K,sub,rd,re,q,md⟩;unfold cJ at q;split at q
 ·exact x9 pins s σ H x y v u Q I rx ry ⟨F,_,_,K,sub,rd,re,q,md⟩
 ·exact x9 pins s σ H x y v u Q I rx ry ⟨F,_,_,K,sub,rd,re,q,md⟩
 ·rename_i as bs
  by_cases c:as=[]
  ·subst c
   have cO:Is F (.tup []) x:=rd;have ik:Is F (.tup bs) y:=re;have SS:=ik;simp only[Is] at cO ik;obtain⟨a,us,rfl,h1,h2⟩:=cO;obtain⟨b,ws,rfl,h3,h4⟩:=ik;have:us=[]:=by simpa only [ae] using h2
   subst this;exact SM pins s σ H _ _ v u Q I rx ry ⟨a,b,ws,rfl,rfl,bw.of (sub _ _ h1),bw.of (sub _ _ h3),md _ _ _ q.2 (fun _ _ e=>e) (vQ sub SS)⟩
  ·exact x9 pins s σ H x y v u Q I rx ry ⟨F,_,_,K,sub,rd,re,⟨⟨c,q.1⟩,q.2⟩,md⟩
 ·exact x9 pins s σ H x y v u Q I rx ry ⟨F,_,_,K,sub,rd,re,q,md⟩
 ·exact q.elim
def rY:D->Option Int->Option Int->(D->Prop)->Prop
 |.lst ds,lo,hi,K=>K (.lst (cutD ds lo hi))
 |.tup ds,lo,hi,K=>K (.tup (cutD ds lo hi))
 |_,_,_,_=>False
def dy(f:WE)(l h:WO):WE:=fun δ K=>f δ fun x δ1=>l δ1 fun lo δ2=>h δ2 fun hi δ3=>gz x δ3 fun d=>rY d lo hi fun z=>K (.p z) δ3
theorem SU{ds:List D}{lo hi:Option Int}(h:HT.aU ds.length 0 lo=0/\HT.aU ds.length ds.length hi=ds.length):cutD ds lo hi=ds:=by
 unfold cutD;rw[h.1,h.2,q4h,q6x,q1o (Bi _)]
theorem SV{e:Expr}{f:WE}{lo hi:Option Expr}{l h:WO}{pos p2:Pos}(he:JE X e (tD f))(hl:PO X lo (x_ l))(hh:PO X hi (x_ h)):JE X (.Subscript e (.Slice lo hi none p2) pos) (tD (dy f l h)) :=
 (AU (gx.or SK) he hl hh).weak fun σ H Q h0_=>el7 h0_ fun F ad δ K S q k =>⟨F,ad,δ,_,S,q,fun x δ1 h1 v F1 aN H1 E1 S1 V1=>⟨F1,aN,δ1,_,S1,h1,fun lo δ2 h2 F2 cw H2 E2 S2=>⟨F2,cw,δ2,_,S2,h2,fun hi δ3 h3 F3 tE H3 E3 S3=>by
  obtain⟨d,h4,rd⟩:=jM S3 ((V1.ext E2).ext E3) h3;have CF:=(E1.trans E2).trans E3;unfold rY at h4;split at h4
  ·rename_i ds
   obtain⟨a,vs,rfl,g1,g2⟩:=rd;refine .inl ⟨a,vs,rfl,aZ.of g1,fun p hp=>?_⟩;exact k _ _ h4 _ _ _ _ (CF.trans (Ext.al S3 (b7 hp))) (S3.al (b7 hp)) (mT S3.sub hp (Ja g2 _ _))
  ·rename_i ds
   have cO:Is F3 (.tup ds) v:=rd;have SW:=cO;simp only[Is] at cO;obtain⟨a,vs,rfl,g1,g2⟩:=cO;refine .inr ⟨a,vs,rfl,bw.of (S3.sub _ _ g1),fun hw=>?_,fun _ p hp=>?_⟩
   ·rw[g2.length] at hw
    rw[SU hw] at h4;exact k _ _ h4 _ _ _ _ CF S3 SW
   ·exact k _ _ h4 _ _ _ _ (CF.trans (Ext.al S3 (b7 hp))) (S3.al (b7 hp)) (Cj S3.sub hp (Ja g2 _ _))
  ·exact h4.elim⟩⟩⟩
def lH:D->D->(D->Prop)->Prop
 |.bl a,.bl b,K=>K (.bl (a==b))
 |d,e,K=>jP d e K
def ym:D->D->(D->Prop)->Prop
 |.bl a,.bl b,K=>K (.bl (!(a==b)))
 |d,e,K=>Co d e K
theorem JB:eM X (compareOp .Is) lH:=by
 rintro pins s σ H x y v u Q I rx ry ⟨F,d,e,K,sub,rd,re,q,md⟩;unfold lH at q;split at q
 ·rename_i a b
  exact SN pins s σ H x y v u Q I rx ry ⟨a,b,rd,re,md _ _ _ q (fun _ _ e=>e) rfl⟩
 ·exact R1 pins s σ H x y v u Q I rx ry ⟨F,_,_,K,sub,rd,re,q,md⟩
theorem SX:eM X (compareOp .IsNot) ym:=by
 rintro pins s σ H x y v u Q I rx ry ⟨F,d,e,K,sub,rd,re,q,md⟩;unfold ym at q;split at q
 ·rename_i a b
  exact SO pins s σ H x y v u Q I rx ry ⟨a,b,rd,re,md _ _ _ q (fun _ _ e=>e) rfl⟩
 ·exact R3 pins s σ H x y v u Q I rx ry ⟨F,_,_,K,sub,rd,re,q,md⟩
end
end L2
namespace LJ
open PySem L2
variable[aB]
theorem mV{H:Hp}{a:Addr}{o:HO}(h:H a=none):ar H (upd H a o):=fun b u e=>by rw[av (bH e h)];exact e
structure yn(H:Hp)(p c:Addr)(at_ z:Int):Prop where
 lst:H p=some (.lst [.ref c,.int at_,.int z])
 cells:∃ns:List Int,H c=some (.lst (ns.map V.int))/\ns.length<=63
 pos:0<=at_
theorem yn.ne{H:Hp}{p c:Addr}{k z:Int}(P:yn H p c k z):c≠p:=by
 obtain⟨ns,h,_⟩:=P.cells;intro e;subst e;rw[P.lst] at h;have h':=q0E h;injection h' with sY
 cases ns with
 |nil=>cases sY
 |cons n r=>injection sY with h1 _;cases h1
theorem SY{ns:List Int}{k:Int}(h0:0<=k)(h1:k<(ns.length:Int)):∃n,eO (ns.map V.int) k=some (.int n):=by
 obtain⟨i,rfl⟩:∃i:Nat,k=i:=⟨k.toNat,by omega⟩;have hi:i<ns.length:=by omega
 refine⟨ns[i],kS ?_⟩;rw[q0b,qV hi];rfl
def JD(K:xA):Sp:=fun vs H Q _=>∃(a:Addr)(ns:List Int),vs=[.ref a]/\aZ K H a (ns.map V.int)/\ns.length<=63/\∀(p c:Addr)(H':Hp),ar H H'->H p=none->yn H' p c 0 0->Q (.ref p) H'
def yo(K:xA):Sp:=fun vs H Q _=>∃(a:Addr)(ns:List Int),vs=[.ref a]/\aZ K H a (ns.map V.int)/\ns.length<=63/\aB.ok H/\∀H',Q (.bl true) H'
theorem CG(ns:List Int)(lo hi:Option Int):cF (ns.map V.int) lo hi=((ns.drop (HT.aU ns.length 0 lo)).take (HT.aU ns.length ns.length hi-HT.aU ns.length 0 lo)).map V.int:=by
 unfold cF;rw[qU,q4Q,q6d]
theorem S7{H:Hp}{p c a:Addr}{n:Nat}(hT:aB.ok H)(N:yn H p c 0 0):∃(F:Hp)(ns:List Int),ns.length<=63/\SR F [p] ⟨none::some (.o 0)::q0h n none,[some (.lst [.lst (ns.map D.int),.int 0,.int 0])]⟩ (some (.ref a)::some (.ref p)::q0h n none) H:=by
 obtain⟨ns,hc,hn⟩:=N.cells;have ne:=N.ne
 refine⟨upd (fun _=>none) c (.lst (ns.map V.int)),ns,hn,⟨fun b o e=>?_,fun b ⟨k,ov,e1,e2⟩=>?_,rfl,fun k l a ov ow e1 e2 _ _=>?_,fun k ov e=>?_,fun i x e=>?_,by simp,hT,fun b hb=>by
  obtain⟨ps,q⟩:=aB.tb hT hb
  rw[av fun z=>by subst z;rw[hc] at q;cases q]⟩⟩
 ·by_cases z:b=c
  ·subst z;rw[a_] at e;cases e;exact hc
  ·rw[av z] at e;cases e
 ·cases k with
  |zero=>cases(show some p=some b by simpa using e1);rw[av (q1A ne)]
  |succ k=>simp at e1
 ·cases k with
  |zero =>
   cases l with
   |zero=>rfl
   |succ l=>simp at e2
  |succ k=>simp at e1
 ·cases k with
  |zero =>
   cases(show OV.lst [.lst (ns.map D.int),.int 0,.int 0]=ov by simpa using e)
   refine⟨p,_,rfl,N.lst,_,rfl,?_⟩;refine .cons ?_ (.cons rfl (.cons rfl .nil));simp only[Is];exact⟨c,_,rfl,a_,rL⟩
  |succ k=>simp at e
 ·cases i with
  |zero=>simp at e
  |succ i =>
   cases i with
   |zero =>
    cases(show DV.o 0=x by simpa using e)
    exact⟨_,rfl,p,rfl,rfl⟩
   |succ i =>
    exfalso;have e:(q0h n (none:Option DV))[i]?=some (some x):=by simpa using e
    rw[q2K] at e;split at e<;>cases e
theorem S8{B:WS}{F:Hp}{ad:List Addr}{δ:au}{σ:St}{H:Hp}{Q:VK}(S:SR F ad δ σ H)(h:B ⟨fun _=>False,fun x _=>x=.p (.bl true),fun _=>False,fun _=>False⟩ δ)(q:∀H',Q (.bl true) H'):b9 B {nx:=fun _ H'=>Q .non H',rt:=Q} σ H :=
 ⟨F,ad,δ,_,S,h,⟨fun δ' h=>h.elim,fun δ' h=>h.elim,fun δ' h=>h.elim,fun x δ' h v F' aw σ' H' E' S' V=>by
  have h:x=.p (.bl true):=h;subst h;have V:v=.bl true:=V;subst V
  exact q H',trivial⟩⟩
end LJ
namespace L2
open PySem PySem.Spec PyProof.Rows
def CH(Ts:List (Addr×Array Value))(H:Hp):Prop:=∀b,(∃ps,Ts.lookup b=some ps/\H b=some (.tbl ps))\/(Ts.lookup b=none/\(H b=none\/∃o xs,H b=some (.frz o (.lst xs))))
theorem S9{P:Program}{w:World}{K:xA}{mg mb:Str->Option Value}{CX:jD}{k:Nat}{fa a:Addr}{fd:FuncData}{x:Str}{sp:Sp}{s₁:Shared}{vs:List Value}{ns:List Int}(Ts:List (Addr×Array Value))
  (hT:∀b ps,Ts.lookup b=some ps->s₁.heap.get? b=some {cls:=.none,data:=.fields ps}/\isCodeTable s₁.heap b/\K.lookup b=none)
  (KX:K.In s₁.heap) (v5:s₁.heap.Ns mainGlobals mg) (hb:s₁.heap.Ns builtinsNs mb) (S_:∀x:Str,x≠"__name__" -> mb x=bootBuiltins x) (CI:s₁.heap.NoLimit) (hg:s₁.gens = #[])
  (ha:s₁.heap.get? a=some {cls:=.type "list",data:=.seq vs.toArray}) (hi:IntsAre vs ns) (hl:ns.length<=sizeLine) (hr:aS k callerA)
  (hB:∃bm ob,mg "__builtins__" = some (.ref bm)/\bm≠builtinsNs/\s₁.heap.get? bm=some ob/\ob.cls=.type "module" /\ ob.dict=some builtinsNs/\ob.data=.plain)
  (F:∀base:Heap,K.In base->base.Ns mainGlobals mg->(∀b ps,Ts.lookup b=some ps->base.BuiltinsAt mg b)->bP P w K mg base CX k fa fd [x] sp) (v7:∀(s:Shared)(u:Value),BindsTo s fd ⟨[u],[]⟩ [(x,u)])
  (mI:∀H:Hp,CH Ts H->aZ K H a (ns.map V.int)->sp [.ref a] H (fun v _=>v=.bl true) fun _ _ _=>False)
  (CJ:∀H e s',CX [] H s₁ (fun _ _ _=>False) e s'->False) :
  codeAny (model P w) callerA (.call (.ref fa) ⟨[.ref a],[]⟩) (fun r s'=>r=.ok (.ret (.bool true))/\OldK s₁.heap s'.heap/\s'.os=s₁.os/\AllBare s'.gens) s₁:=by
 have rv:=Ha hi;have CK:=hi.length
 have aT:Ts.lookup a=none:=by
  cases q:Ts.lookup a with
  |none=>rfl
  |some ps =>
   have:=(hT a ps q).1;rw[ha] at this;have z:=congrArg Obj.cls (q0E this);cases(show q2q "list" = q0v from z)
 have core:∀H:Hp,CH Ts H->aZ K H a (ns.map V.int)->cn P w H s₁.heap->(∀b,Ts.lookup b=none->H b≠none->b=a)->(H a≠none->K.lookup a=none) →
   codeAny (model P w) callerA (.call (.ref fa) ⟨[.ref a],[]⟩) (fun r s'=>r=.ok (.ret (.bool true))/\OldK s₁.heap s'.heap/\s'.os=s₁.os/\AllBare s'.gens) s₁:=by
  intro H hO hS aD hA hK;have gC:∀{b:Addr}{o:Obj},s₁.heap.get? b=some o->H b=none->(fU s₁.heap H).get? b=some o:=fun e n=>N4 e n
  have nW:∀{b:Addr}{o:Obj}{es:Array DictEntry}{ep:Nat},s₁.heap.get? b=some o->o.data=.dict es ep->H b=none:=fun{b o es ep} e d=>by
   cases q:H b with
   |none=>rfl
   |some u =>
    cases t:Ts.lookup b with
    |some ps =>
     have:=(hT b ps t).1;rw[e] at this;cases this;cases d
    |none =>
     have e':b=a:=hA b t (by rw[q];simp);subst e';rw[ha] at e;cases e;have d':Data.seq vs.toArray _=Data.dict es ep:=d;cases d'
  have yp:∀{b:Addr}{m:Str->Option Value},s₁.heap.Ns b m->(fU s₁.heap H).Ns b m:=fun{b m} ⟨o,es,ep,e,d,r⟩=>⟨o,es,ep,gC e (nW e d),d,r⟩
  have JH:K.In (fU s₁.heap H):=fun b o e=>gC (KX b o e) (by
   cases q:H b with
   |none=>rfl
   |some u =>
    cases t:Ts.lookup b with
    |some ps=>rw[(hT b ps t).2.2] at e;cases e
    |none =>
     have e':b=a:=hA b t (by rw[q];simp);subst e'
     rw[hK (by rw[q];simp)] at e;cases e)
  have Ta:∀b ps,Ts.lookup b=some ps->(fU s₁.heap H).BuiltinsAt mg b:=fun b ps t=>by
   obtain⟨bm,ob,b1,b2,b3,b4,b5,b6⟩:=hB;refine⟨bm,ob,b1,b2,fun z=>?_,fun z=>?_,gC b3 ?_,b4,b5,b6⟩
   ·obtain⟨o,es,ep,e1,e2,_⟩:=v5
    rw[z,e1] at b3;cases b3;rw[e2] at b6;cases b6
   ·have:=(hT b ps t).1
    rw[z,this] at b3;cases b3;cases b6
   ·cases q:H bm with
    |none=>rfl
    |some u =>
     cases t':Ts.lookup bm with
     |some Tb =>
      have:=(hT bm Tb t').1;rw[b3] at this;cases this;cases b6
     |none =>
      have e':bm=a:=hA bm t' (by rw[q];simp);rw[e',ha] at b3;cases b3;cases b6
  have hM:Mod K mg (fU s₁.heap H):=⟨JH,yp v5,⟨mb,yp hb,S_⟩,let⟨mc,h1,h2⟩:=CI;⟨mc,yp h1,h2⟩⟩;have e0:iQ P w K mg (fU s₁.heap H) callerA [] s₁ H:=⟨rfl,hM,fun b o e=>N5 e,q9t (N3 _ _),trivial,fun b hb=>absurd (show b∈([]:List Addr) from hb) (by simp),aD,.of_eq hg⟩;refine q2P ((F _ JH (yp v5) Ta).run callerA [] s₁ H ⟨[.ref a],[]⟩ [.ref a] [.ref a] _ _ hr e0 (v7 s₁ (.ref a)) (.cons rfl .nil) (mI H hO hS)) fun r s' h=>?_
  cases r with
  |error e=>exact(CJ H e s' h).elim
  |ok fl =>
   cases fl with
   |next=>exact q1e h
   |brk=>exact q1e h
   |cont=>exact q1e h
   |ret u =>
    obtain⟨v,H',os,bare,un,v8,r',q⟩:=h;have q':v=.bl true:=q;subst q';obtain rfl:u=q2Q true:=r'
    have all:∀b o,s₁.heap.get? b=some o->asItWas s₁.heap s'.heap b o/\∃o',s'.heap.get? b=some o':=fun b o e=>by
     rcases hO b with⟨ps,t,z⟩|⟨t,z|⟨ob,xs,z⟩⟩
     ·obtain⟨more,z2⟩:=un.dq b ps z
      have e2:s'.heap.get? b=some {cls:=.none,data:=.fields (ps++more)}:=v8 b _ z2;have e1:=(hT b ps t).1;rw[e] at e1;cases e1;exact⟨.inr (.inl ⟨(hT b ps t).2.1,rfl,ps,more,rfl,e2⟩),_,e2⟩
     ·have e2:=un.keep b o e z (by intro z;exact absurd (show b∈([]:List Addr) from z) (by simp)) (by simp)
      exact⟨.inl e2,_,e2⟩
     ·have z2:=un.cP b ob _ z
      obtain⟨e1,_⟩:=aD b _ z;obtain⟨e2,_⟩:=v8 b _ z2;rw[e] at e1;cases e1;exact⟨.inl e2,_,e2⟩
    exact⟨rfl,⟨fun b o e=>(all b o e).1,fun b o e=>(all b o e).2⟩,os,bare⟩
 have qe:∀(H:Hp) b ps,Ts.lookup b=some ps->az P w H s₁.heap b (.tbl ps):=fun H b ps t=>(hT b ps t).1
 cases hk:K.lookup a with
 |some o =>
  have e:=KX a o hk;rw[ha] at e;cases e
  have hv:∀b,(fun b=>(Ts.lookup b).map HO.tbl:Hp) b=(Ts.lookup b).map HO.tbl:=fun _=>rfl;refine core (fun b=>(Ts.lookup b).map HO.tbl) (fun b=>?_) (.inr ⟨_,vs.toArray,_,hk,rfl,rfl,rfl,by rw[Hb,CK];exact hl,by simpa using rv⟩) (fun b u z=>?_) (fun b t z=>?_) fun z=>?_
  ·cases t:Ts.lookup b with
   |some ps=>exact .inl ⟨ps,rfl,by show(Ts.lookup b).map HO.tbl=_;rw[t];rfl⟩
   |none=>exact .inr ⟨rfl,.inl (by show(Ts.lookup b).map HO.tbl=_;rw[t];rfl)⟩
  ·obtain⟨ps,t,rfl⟩:=q0g.mp (show(Ts.lookup b).map HO.tbl=some u from z)
   exact qe _ b ps t
  ·exact absurd (show(Ts.lookup b).map HO.tbl=none by rw[t];rfl) z
  ·exact absurd (show(Ts.lookup a).map HO.tbl=none by rw[aT];rfl) z
 |none =>
  refine core (fun b=>if b=a then some (.frz {cls:=.type "list",data:=.seq vs.toArray} (.lst (ns.map V.int))) else(Ts.lookup b).map HO.tbl) (fun b=>?_) (.inl (.inr ⟨{cls:=.type "list",data:=.seq vs.toArray},q0f rfl⟩)) (fun b u z=>?_) (fun b t z=>?_) fun _=>hk
  ·by_cases hb:b=a
   ·subst hb
    exact .inr ⟨aT,.inr ⟨_,_,q0f rfl⟩⟩
   ·cases t:Ts.lookup b with
    |some ps=>exact .inl ⟨ps,rfl,(q0a hb).trans (by rw[t];rfl)⟩
    |none=>exact .inr ⟨rfl,.inl ((q0a hb).trans (by rw[t];rfl))⟩
  ·by_cases hb:b=a
   ·have z':=(q0f hb).symm.trans z
    cases z'
    subst hb;exact⟨ha,by rw[qU];exact hl,vs,_,rv,ha⟩
   ·have z':=(q0a hb).symm.trans z
    obtain⟨ps,t,rfl⟩:=q0g.mp z';exact qe _ b ps t
  ·by_cases hb:b=a
   ·exact hb
   ·exact absurd ((q0a hb).trans (by rw[t];rfl)) z
theorem Tc{l:q7F}{n k:Nat}{q:Program}{loose:List Str}{XP:(Str->Option Value)->Heap->Prop}{YP:World->Heap->Prop}{d:DefRec}{K:World->xA}{CX:World->jD}{sp:World->Sp}{x:Str}{Ts:World->List (Addr×Array Value)}
  (hn:l.most=some n) (CL:n<=sizeLine) (uY:d.params.defaults=[]) (hr:aS k callerA)
  (hY:∀(w:World)(h:Heap),YP w h->(K w).In h)
  (hT:∀(w:World)(h:Heap),YP w h->∀b ps,(Ts w).lookup b=some ps->h.get? b=some {cls:=.none,data:=.fields ps}/\isCodeTable h b/\(K w).lookup b=none)
  (F:∀(w:World)(mg:Str->Option Value)(fa:Addr)(h:Heap),(K w).In h->h.Ns mainGlobals mg->mg d.name=some (.ref fa) →
   ∃fd:FuncData,(∀(s:Shared)(u:Value),BindsTo s fd ⟨[u],[]⟩ [(x,u)]) ∧
    ∀base:Heap,(K w).In base->base.Ns mainGlobals mg->(∀b ps,(Ts w).lookup b=some ps->base.BuiltinsAt mg b)->bP l.prog w (K w) mg base (CX w) k fa fd [x] (sp w))
  (mI:∀(w:World)(H:Hp)(a:Addr)(ns:List Int),ns.length<=n->CH (Ts w) H->aZ (K w) H a (ns.map V.int)->sp w [.ref a] H (fun v _=>v=.bl true) fun _ _ _=>False)
  (CJ:∀(w:World)(H:Hp)(s:Shared)(e:Value)(s':Shared),CX w [] H s (fun _ _ _=>False) e s'->False) :
  PySem.W.WalkO q loose XP YP l.row.toRowW d [] (fun f vs=>q73 f vs):=by
 refine Att.hW hn uY fun w s₀ s₁ mg mb fa o pm cd doc a vs ns G Y ho hd eK nZ qR hints hlen hg=>?_;have KX:=hY w _ Y;obtain⟨fd,hb,hF⟩:=F w mg fa _ KX G.T.g nZ;exact S9 (Ts w) (hT w _ Y) KX G.T.g G.T.b G.T.builtins G.T.nolimit hg qR hints (q02 hlen CL) hr G.T.bmain hF hb (fun H hO hS=>mI w H a ns hlen hO hS) fun H e s'=>CJ w H s₁ e s'
section
variable{X:Cx}{pins:aq}{σ:St}{H:Hp}{s:Shared}{h':Heap}
theorem Inv.grow{T c f:Addr}{ps more:Array Value}{oc of:HO}{t':Nat}(I:Inv X pins σ H s)(hT:H T=some (.tbl ps))(k:∀b u,b≠T->s.heap.get? b=some u->h'.get? b=some u)(yq:h'.get? T=some {cls:=.none,data:=.fields (ps++more)})
  (hc:s.heap.objs.size<=c) (hf:s.heap.objs.size<=f) (CM:c≠f) (Td:∀H2,az X.prog X.w H2 h' c oc) (Te:∀H2,az X.prog X.w H2 h' f of) :
  Inv X pins σ (upd (upd (upd H T (.tbl (ps++more))) c oc) f of) {s with heap:=h',toks:=t'}:=by
 have tl:T<s.heap.objs.size:=(I.aD T _ hT).lt;have cT:c≠T:=q1L (q0l tl hc);have fT:f≠T:=q1L (q0l tl hf);have hc0:H c=none:=I.aD.fresh hc;have Tf:H f=none:=I.aD.fresh hf
 have old:∀b,b<s.heap.objs.size->b≠T->upd (upd (upd H T (.tbl (ps++more))) c oc) f of b=H b:=fun b hb nT=>by
  rw[av (q0e (q0l hb hf)),av (q0e (q0l hb hc)),av nT]
 have atT:upd (upd (upd H T (.tbl (ps++more))) c oc) f of T=some (.tbl (ps++more)):=by
  rw[av (q1A fT),av (q1A cT),a_]
 have lt:∀b u,H b=some u->b<s.heap.objs.size:=fun b u e=>(I.aD b u e).lt
 have dU:∀b u,H b=some u->(∀qs,u≠.tbl qs)->upd (upd (upd H T (.tbl (ps++more))) c oc) f of b=some u:=fun b u e n=>by
  rw[old b (lt b u e) (fun z=>by subst z;rw[hT] at e;cases e;exact n _ rfl)];exact e
 refine I.un (t':=t') ⟨fun b o e n _ _=>k b o (fun z=>by subst z;rw[hT] at n;cases n) e,fun b o e n _ _=>⟨o.slots,k b o (fun z=>by subst z;rw[hT] at n;cases n) e⟩,fun b o e n _=>?_,fun b o e _=>?_,fun b xs e=>dU b _ e (fun _ z=>by cases z),fun b o u e=>dU b _ e (fun _ z=>by cases z),fun b qs e=>?_⟩ fun b u e=>?_
 ·rw[old b (My e) (fun z=>by subst z;rw[hT] at n;cases n)];exact n
 ·by_cases z:b=T
  ·subst z;exact⟨_,yq⟩
  ·exact⟨o,k b o z e⟩
 ·by_cases z:b=T
  ·subst z;rw[hT] at e;cases e;exact⟨more,atT⟩
  ·exact⟨#[],by rw[old b (lt b _ e) z,e];simp⟩
 ·by_cases z1:b=f
  ·subst z1;rw[a_] at e;cases e;exact Te _
  ·rw[av z1] at e
   by_cases z2:b=c
   ·subst z2;rw[a_] at e;cases e;exact Td _
   ·rw[av z2] at e
    by_cases z3:b=T
    ·subst z3;rw[a_] at e;cases e;exact yq
    ·rw[av z3] at e
     refine az.dm (I.aD b u e) (fun d v hd q=>?_) (fun d q=>dU d _ q (fun _ z=>by cases z)) (fun d xs q=>dU d _ q (fun _ z=>by cases z))
     ·refine k d v (fun y=>?_) q
      subst y;rcases hd with y|y
      ·exact z3 y.symm
      ·rw[hT] at y;cases y
noncomputable def mW(c:Addr)(q:Str):HO:=.ext fun h=>∃o vs tq,h.get? c=some o/\o.data=.fields vs/\vs[1]?=some (.str q tq)
theorem Tg{P:Program}{w:World}{H:Hp}{h:Heap}{c:Addr}{q:Str}(e:h.CodeRec (.ref c) q):az P w H h c (mW c q):=by
 obtain⟨c',o,vs,tq,z,ho,hd,hq⟩:=e;cases z
 exact⟨⟨o,vs,tq,ho,hd,hq⟩,⟨o,ho⟩,fun h1 h2 ⟨o,vs,tq,e1,e2,e3⟩ k=>⟨o,vs,tq,k o e1,e2,e3⟩⟩
theorem Th{P:Program}{w:World}{H:Hp}{h:Heap}{c:Addr}{q:Str}(x:az P w H h c (mW c q)):h.CodeRec (.ref c) q:=by
 obtain⟨⟨o,vs,tq,ho,hd,hq⟩,_⟩:=x;exact⟨c,o,vs,tq,rfl,ho,hd,hq⟩
end
end L2
namespace L2
open PySem PySem.Spec PyProof.Rows PySem.W
section
variable{X:Cx}{pins:aq}{σ:St}{H:Hp}{s:Shared}{params:Arguments}{body:Expr}{scope:Scope}{pos:Pos}{ip:List (Str×Addr)}{cc T:Addr}{ps:Array Value}{E:aH}{Q:aH}
noncomputable def iY(f:Addr)(name qual:Str)(params:Arguments)(body:Expr)(scope:Scope)(ip:List (Str×Addr))(pm cd:Value):HO:=.ext fun h=>∃v9,h.get? f=some {cls:=.type "function",data:=.func (kla_fn name qual params body scope ip pm cd v9)}
def dW(H:Hp)(T:Addr)(pos:Pos)(qual:Str):Prop:=∃ps,H T=some (.tbl ps)/\TriplesOk ps.toList/\(codeAmong pos ps.toList=none\/∃c,codeAmong pos ps.toList=some (.ref c)/\H c=some (mW c qual))
theorem Ti(I:Inv X pins σ H s)(hT:dW H T pos (X.env.qual++"<lambda>"))(CN:defaultsOf params X.env=([],[]))(pV:closureFor scope X.env=pure ip)(jw:X.env.code=.ref cc)(C:CodeHd s.heap cc T)(Tj:mainGlobals≠T)(hg:s.heap.Ns mainGlobals X.mg)(hb:s.heap.BuiltinsAt X.mg T)
  (h:∀f H' s' c,Inv X pins σ H' s'->dW H' T pos (X.env.qual++"<lambda>")->(∀b o,H b=some o->b≠T->H' b=some o)->H f=none->H' f=some (iY f "<lambda>" (X.env.qual++"<lambda>") params body scope ip ((X.mg "__name__").getD .none) (.ref c))->H' c=some (mW c (X.env.qual++"<lambda>"))->Q (.ref f) s') :
  wpAny (model X.prog X.w) X.A (eval (.Lambda params body scope pos) X.env) Q E s:=by
 obtain⟨ps,hP,ht,hf⟩:=hT;have CO:s.heap.get? T=some {cls:=.none,data:=.fields ps}:=I.aD T _ hP;refine kla_eval CN ?_;rcases hf with JJ|⟨c,hf,yr⟩
 ·refine kla_makeFunction pV I.ok.glob hg jw C CO ht JJ Tj hb fun c' v9 h' tk hx tN cB CP Tn=>?_
  have hsz:s.heap.objs.size<=h'.objs.size:=q1z (q3s tN cB);have tl:T<s.heap.objs.size:=My CO;have To:T≠h'.objs.size:=q0e (q0l tl hsz);have Tp:T≠c':=q0e (q0l tl tN);have CM:c'≠h'.objs.size:=q0e cB;have JK:(ps ++ #[rawInt pos.line,rawInt pos.col,q0C c']).toList=ps.toList++[rawInt pos.line,rawInt pos.col,q0C c']:=by simp
  have atT:upd (upd (upd H T (.tbl (ps ++ #[rawInt pos.line,rawInt pos.col,.ref c']))) c' (mW c' (X.env.qual++"<lambda>"))) h'.objs.size (iY h'.objs.size "<lambda>" (X.env.qual++"<lambda>") params body scope ip ((X.mg "__name__").getD .none) (.ref c')) T=some (.tbl (ps ++ #[rawInt pos.line,rawInt pos.col,.ref c'])):=by
   rw[av To,av Tp,a_]
  have atC:upd (upd (upd H T (.tbl (ps ++ #[rawInt pos.line,rawInt pos.col,.ref c']))) c' (mW c' (X.env.qual++"<lambda>"))) h'.objs.size (iY h'.objs.size "<lambda>" (X.env.qual++"<lambda>") params body scope ip ((X.mg "__name__").getD .none) (.ref c')) c'=some (mW c' (X.env.qual++"<lambda>")):=by
   rw[av CM,a_]
  refine h h'.objs.size _ _ c' (I.grow (t':=tk) (oc:=mW c' (X.env.qual++"<lambda>")) (of:=iY h'.objs.size "<lambda>" (X.env.qual++"<lambda>") params body scope ip ((X.mg "__name__").getD .none) (.ref c')) hP (fun b u nb e=>qT _ (hx b u nb e)) (qT _ Tn) tN hsz CM (fun _=>Tg (CP.push _)) fun _=>?_) ⟨_,atT,?_,.inr ⟨c',?_,atC⟩⟩ (fun b o e nb=>?_) (I.aD.fresh hsz) a_ atC
  ·exact⟨⟨v9,PG _ rfl⟩,⟨_,PG _ rfl⟩,fun h1 h2 ⟨v,e⟩ k=>⟨v,k _ e⟩⟩
  ·rw[JK];exact TriplesOk_snoc _ _ _ _ ht
  ·rw[JK];exact codeAmong_snoc _ ht JJ
  ·have bl:b<s.heap.objs.size:=(I.aD b o e).lt
   rw[av (q0e (q0l bl hsz)),av (q0e (q0l bl tN)),av nb];exact e
 ·refine kla_makeFunctionHit pV I.ok.glob hg jw C CO ht hf hb fun v9 h' tk hk hsz=>?_
  have hn:H h'.objs.size=none:=I.aD.fresh hsz;refine h h'.objs.size _ _ c (I.laid (a:=h'.objs.size) (o:=iY h'.objs.size "<lambda>" (X.env.qual++"<lambda>") params body scope ip ((X.mg "__name__").getD .none) (.ref c)) (t':=tk) (fun b u e=>qT _ (hk b u e)) hsz ?_) ⟨ps,?_,ht,.inr ⟨c,hf,?_⟩⟩ (fun b o e _=>?_) hn a_ ?_
  ·exact⟨⟨v9,PG _ rfl⟩,⟨_,PG _ rfl⟩,fun h1 h2 ⟨v,e⟩ k=>⟨v,k _ e⟩⟩
  ·rw[av (bH hP hn)];exact hP
  ·rw[av (bH yr hn)];exact yr
  ·rw[av (bH e hn)];exact e
  ·rw[av (bH yr hn)];exact yr
end
structure LD where
 A:Around
 cl:List (Str×Addr)
 f:Addr
 cd:Value
 s:Shared
 H:Hp
@[reducible] noncomputable def oE (X:Cx) (qual:Str) (scope:Scope) (Nb:List Str) (d:LD):Cx where
 prog:=X.prog
 w:=X.w
 K:=X.K
 mg:=X.mg
 base:=X.base
 A:=d.A.deeper (envX qual scope d.s.heap.objs.size d.f d.cd d.cl)
 N:=Nb
 s₀:=d.s
 H₀:=d.H
 env:=envX qual scope d.s.heap.objs.size d.f d.cd d.cl
 outer:=X.stack
 stack:=envX qual scope d.s.heap.objs.size d.f d.cd d.cl::X.stack
 ex:=[]
 fn:=fun _=>false
 calm:=true
 pn:=[]
 xe:=fun _ _=>False
noncomputable def yt(N:List Str)(xB scope:Scope)(x:Str)(Nb:List Str)(cp:List (Option Nat)):Bool :=
 kh N xB scope (x::Nb) (none::cp)&&(scope.names.all fun y=>decide (y.2≠.cell))&&decide (scope.names.lookup x=some .local)&&cp.all (·.isSome)
section
variable{X:Cx}{pins:aq}{σ:St}{H:Hp}{s:Shared}{params:Arguments}{body:Expr}{scope:Scope}{cl:List (Str×Addr)}{E:aH}{Q:VK}{name qual x:Str}{f c:Addr}{pm:Value}{A:Around}{v:V}{u:Value}{Nb:List Str}{cp:List (Option Nat)}{t:TE}
theorem Tq(I:Inv X pins σ H s)(hf:H f=some (iY f name qual params body scope cl pm (.ref c)))(hc:H c=some (mW c qual))(hA:A.frames=some X.stack)(hh:A.handled=none)(hd:A.depth<recursionLimit)
  (hk:scope.kind=.function) (ho:yt X.N X.env.scope scope x Nb cp=true) (Tr:scope.isCoroutine=false) (CQ:scope.isGenerator=false)
  (rZ:∀y c,cl.lookup y=some c->X.env.cells.lookup y=some c) (yu:∀y∈scope.names,y.2=.free->∃c,cl.lookup y.1=some c)
  (hb:∀(ct:Value),bindArgs (kla_fn name qual params body scope cl pm (.ref c) ct) ⟨[u],[]⟩=pure [(x,u)]) (r:RelV v u)
  (J:JE (oE X qual scope (x::Nb) ⟨A,cl,f,.ref c,s,H⟩) body t) (h:t (some v::iD cp σ) H Q):wpAny (model X.prog X.w) A (call (.ref f) [u]) (EP X pins σ Q) E s:=by
 unfold yt at ho;simp only[q0y,q03,q0I] at ho;obtain⟨⟨⟨ho,JL⟩,hx⟩,cps⟩:=ho;have S:=x1N hk ho;obtain⟨⟨ct,Tt⟩,_⟩:=I.aD f _ hf;have eK:=Th (I.aD c _ hc);refine q3t (kla_callFunE hd Tt rfl Tr CQ rfl eK ?_);rw[hb ct];refine uX (wpAny_newFunctionEnv (fun y hy=>JL y hy) (fun y hy=>by rw[q0K.mp hy];exact hx) (fun h₁ v5 u7=>?_) hk);have v_:∀b o,s.heap.get? b=some o->h₁.get? b=some o:=fun b o e=>u7.extBut b o (q0e (My e)) (qT _ e);refine⟨I.nolimit.keeps v_,?_⟩;have e0:=I.qE;show codeAny _ _ (.expr body (envX qual scope s.heap.objs.size f (.ref c) cl)) _ _;have nW:∀b:Addr,b∉(oE X qual scope (x::Nb) ⟨A,cl,f,.ref c,s,H⟩).ex:=fun b z=>absurd (show b∈([]:List Addr) from z) (by simp)
 have mem:∀{y:Str}{k:NameKind},scope.names.lookup y=some k->(y,k)∈scope.names:=fun e=>q1w e
 have I1:Inv (oE X qual scope (x::Nb) ⟨A,cl,f,.ref c,s,H⟩) [] (some v::iD cp σ) H {s with heap:=h₁,toks:=s.toks+[(x,u)].length}:=by
  refine⟨⟨e0.mod,hk,rfl,rfl,Bi _,fun y z d h1 h2=>I.ok.inj y z d (rZ y d h1) (rZ z d h2),fun y hy=>?_,fun y d z _=>(by cases z),fun _=>hh,q5D hA,.inr ⟨rfl,rfl⟩,fun b z=>absurd z (nW b),e0.bs,e0.j7,fun b _ _=>nW b,fun b z=>absurd z (nW b),e0.cR,e0.kJ⟩,
   rfl,e0.bare,Un.kept v_,⟨_,v5,fun i y w h1 h2 h3=>?_⟩,fun y d hy=>?_,e0.aD.fresh (Bi _),fun y d hy=>I.bx y d (rZ y d hy),fun p hp=>absurd (show p∈([]:aq) from hp) (by simp),e0.aD.kept v_,?_⟩
  ·have hy:scope.names.lookup y=some .cell\/scope.names.lookup y=some .free:=hy
   rcases hy with hy|hy
   ·exact absurd rfl (JL _ (mem hy))
   ·exact yu _ (mem hy) rfl
  ·cases i with
   |zero =>
    cases(show some x=some y by simpa using h1)
    cases(show v=w by simpa using h2)
    exact⟨u,r,.inl ⟨hx,by simp⟩⟩
   |succ j =>
    have h1:Nb[j]?=some y:=by simpa using h1
    have h2:(iD cp σ)[j]?=some (some w):=by simpa using h2
    unfold iD at h2;rw[q0b] at h2;obtain⟨o,q1,q2⟩:=q0g.mp h2
    match o,q2 with
    |none,q2=>cases q2
    |some i',q2 =>
     have q2:(σ[i']?).join=some w:=q2;obtain⟨n1,n2⟩:=S.uZ (j+1) i' y (by simpa using q1) (by simpa using h1)
     have hs:σ[i']?=some (some w):=by
      cases q:σ[i']? with
      |none=>rw[q] at q2;cases q2
      |some z=>rw[q] at q2;cases(show z=some w from q2);rfl
     have kd:=S.free _ (mem n2) rfl;obtain⟨m,hn,hl⟩:=I.loc;obtain⟨u',rv,lk⟩:=hl i' y w n1 hs (by rcases kd with z|z;exact .inr (.inl z);exact .inr (.inr z));refine⟨u',rv,?_⟩;rcases lk with⟨z,_⟩|⟨_,d,e1,o,e2,e3⟩
     ·rcases kd with k|k<;>(rw[show X.env.kindOf y=some .local from z] at k;cases k)
     ·obtain⟨d',e4⟩:=yu _ (mem n2) rfl
      have:=rZ _ _ e4;rw[e1] at this;cases this;exact .inr ⟨.inr n2,d,e4,o,v_ _ _ e2,e3⟩
  ·obtain⟨z,o,e2,e3⟩:=I.cell y d (rZ y d hy)
   exact⟨z,o,v_ _ _ e2,e3⟩
  ·have:=S.len
   show(some v::iD cp σ).length=(x::Nb).length;unfold iD;rw[Hc,qU];simpa using this
 refine kla_codeExpr (q1E (J [] _ _ H Q I1 h) (fun u' s' hs=>?_) fun e s' hs=>hs.elim);obtain⟨w,H',J',rv,q⟩:=hs;exact I.after ⟨w,H',J'.os,J'.bare,J'.base,J'.aD,rv,q⟩
end
def jR(h:Heap)(k:LK)(v:Value):Prop:=∃a o xs n,v=.ref a/\h.get? a=some o/\o.cls=.type "tuple" /\ o.data=.seq xs n/\IntsAre xs.toList k
section
variable{prog:Program}{w:World}{A:Around}{E:aH}{s:Shared}{Q:Bool->Shared->Prop}
theorem JM{fin:Bool}:∀{us ws:List Value}{ks ls:LK}(i:Nat),IntsAre us ks->IntsAre ws ls->fin=decide (us.length<ws.length)->Q (HT.lexLt ks ls) s->KatLex prog w A true fin Q (us.zip ws) i s
 |_,_,_,_,i,.nil,.nil,hf,h=>by
  rw[q21];subst hf;exact h
 |_,_,_,_,i,.nil,.cons m u r,hf,h=>by
  rw[q21];have:fin=true:=by rw[hf];simp
  subst this;exact h
 |_,_,_,_,i,.cons n t r,.nil,hf,h=>by
  rw[q4o];have:fin=false:=by rw[hf];simp
  subst this;exact h
 |_,_,_,_,i,.cons n t r,.cons m u r',hf,h=>by
  rw[q2g];refine kat_cons (q4W (kat_go (fun e=>?_) fun e=>?_))
  ·have e:n=m:=q0m e
   subst e;rw[HT.mK,q0f rfl] at h;exact kat_yes (JM (i+1) r r' (by rw[hf];simp) h)
  ·have e:¬ n=m:=fun z=>by subst z;simp at e
   rw[HT.mK,q0a e] at h;refine kat_no ?_
   cases q:(true&&i==0) with
   |true=>exact oneLt_int h
   |false=>exact kat_one _ _ (q3_ h)
theorem Tu{k l:LK}{x y:Value}(hx:jR s.heap k x)(hy:jR s.heap l y)(h:Q (HT.lexLt k l) s):wpAny (model prog w) A (keyLt' (tuples' true) x y) Q E s:=by
 obtain⟨a,o,xs,n,rfl,h1,_,h2,h3⟩:=hx;obtain⟨b,o',ys,n',rfl,g1,_,g2,g3⟩:=hy;exact kat_lt h1 h2 g1 g2 (JM 0 h3 g3 (by rw[PF,PF]) h)
theorem JN{h:Heap}:∀{keys:List Value}{ks:List LK},(∀k∈ks,k≠[])->keys.length=ks.length->(∀(i:Nat)(k:LK)(v:Value),ks[i]?=some k->keys[i]?=some v->jR h k v)->∃fs,KatTups h keys fs/\fs.length=keys.length/\∀v∈fs,∃n t,v=q1i n t
 |[],[],_,_,_=>⟨[],.nil,rfl,fun v hv=>nomatch hv⟩
 |[],_::_,_,hl,_=>by simp at hl
 |_::_,[],_,hl,_=>by simp at hl
 |v::keys,k::ks,fj,hl,ht=>by
  obtain⟨fs,t,hf,hi⟩:=JN (h:=h) (keys:=keys) (ks:=ks) (fun k hk=>fj k (q0c _ hk)) (by simpa using hl) fun i k v e1 e2=>ht (i+1) k v (by simpa using e1) (by simpa using e2);obtain⟨a,o,xs,n,rfl,h1,hc,h2,h3⟩:=ht 0 k v rfl rfl;have hk:=fj k PE;generalize hx:xs.toList=xl at h3
  cases h3 with
  |nil=>exact absurd rfl hk
  |cons m t' r =>
   have h0:xs[0]?=some (.int m t'):=by rw[<-q0F,hx];rfl
   refine⟨.int m t'::fs,.cons h1 hc h2 h0 t,by rw[Hc,Hc,hf],fun v hv=>?_⟩;rcases PD.mp hv with rfl|hv
   ·exact⟨m,t',rfl⟩
   ·exact hi v hv
theorem Tv{M:Model}{keys:List Value}{ks:List LK}{Q:SortKind->Shared->Prop}(h0:0<keys.length)(fj:∀k∈ks,k≠[])(hl:keys.length=ks.length)(ht:∀(i:Nat) (k:LK) (v:Value),ks[i]?=some k->keys[i]?=some v->jR s.heap k v)(h:Q (tuples' true) s):
  wpAny M A (keyKind' keys.toArray) Q E s:=by
 obtain⟨fs,t,hf,hi⟩:=JN fj hl ht;refine kat_kind (T:=.type "int") t (by omega) (fun v hv=>?_) (by decide) ?_
 ·obtain⟨n,t',rfl⟩:=hi v hv
  exact .now
 ·exact h
theorem getD_some{α:Type}{l:List α}{i:Nat}{d:α}(h:i<l.length):l[i]?=some (l.getD i d):=by
 rw[qV h,He,qV h];rfl
end
section
variable{X:Cx}{pins:aq}{σ:St}{H:Hp}{s:Shared}{A:Around}{E:aH}{a:Addr}{vs:List Value}{f:Value}
theorem Inv.gj{h':Heap}{t':Nat}{b:Addr}(I:Inv X pins σ H s)(fb:br X pins H b)(k:∀c o,c≠b->s.heap.get? c=some o->h'.get? c=some o):Inv X pins σ H {s with heap:=h',toks:=t'} :=
 I.turned k fb.1 fb.2.1 fb.2.2.2.1 fb.2.2.2.2.1 fb.2.2.2.2.2
theorem Inv.jS{b:Addr}{o:Obj}(I:Inv X pins σ H s)(fb:br X pins H b)(e:s.heap.get? b=some o)(hc:∀v,o.data≠.cell v):Inv X ((b,o)::pins) σ H s :=
 I.e_ fun p hp=>by
  rcases PD.mp hp with rfl|hp
  ·exact⟨e,fb.1,fb.2.1,fb.2.2.1,hc⟩
  ·exact I.pin p (q0n _ hp)
theorem Inv.eB{p:Addr×Obj}(I:Inv X (p::pins) σ H s):Inv X pins σ H s:=I.e_ fun q hq=>I.pin q (q0n _ (q0c _ hq))
theorem br.cons{b:Addr}{p:Addr×Obj}(f:br X pins H b)(n:p.1≠b):br X (p::pins) H b :=
 ⟨f.1,f.2.1,f.2.2.1,f.2.2.2.1,f.2.2.2.2.1,fun q hq=>by
  rcases q04.mp hq with z|z
  ·exact f.2.2.2.2.2 q (q1C _ z)
  ·rcases PD.mp z with rfl|z
   ·exact n
   ·exact f.2.2.2.2.2 q (q0n _ z)⟩
theorem CS{c:String}{xs:Array Value}{n:Nat}:∀v,(seqObj c xs n).data≠.cell v:=fun v z=>by cases z
end
section
variable{prog:Program}{w:World}{A:Around}{E:aH}{s:Shared}
end
section
variable{X:Cx}{pins:aq}{σ:St}{H:Hp}{s:Shared}{E:aH}
theorem Inv.wa{a:Addr}{o:HO}(I:Inv X pins σ H s)(fa:br X pins H a)(ha:X.s₀.heap.objs.size<=a)(new:az X.prog X.w (upd H a o) s.heap a o):Inv X pins σ (upd H a o) s:=by
 obtain⟨f0,f1,f2,_,f4,f5⟩:=fa;have ne:∀{b u},H b=some u->b≠a:=fun e z=>by rw[z,f0] at e;cases e
 refine⟨I.ok,I.os,I.bare,⟨I.base.keep,I.base.slot,fun b u e n hx=>?_,I.base.there,fun b xs e=>?_,fun b u v e=>?_,fun b ps e=>?_⟩,I.loc,I.cell,?_,fun x c e=>?_,fun p hp=>?_,fun b u e=>?_,I.len⟩
 ·rw[av (q0e (q0l (My e) ha))];exact I.base.free b u e n hx
 ·have:=I.base.cC b xs e
  rw[av (ne this)];exact this
 ·have:=I.base.cP b u v e
  rw[av (ne this)];exact this
 ·obtain⟨more,this⟩:=I.base.dq b ps e
  exact⟨more,by rw[av (ne this)];exact this⟩
 ·rw[av (q1A f1)];exact I.free
 ·rw[av (f4 x c e)];exact I.bx x c e
 ·obtain⟨e1,e2,e3⟩:=I.pin p hp
  exact⟨e1,by rw[av (f5 p hp)];exact e2,e3⟩
 ·by_cases z:b=a
  ·subst z;rw[a_] at e;cases e;exact new
  ·rw[av z] at e
   refine(I.aD b u e).dm (fun c v _ q=>q) (fun c q=>?_) fun c xs q=>?_
   ·rw[av (ne q)];exact q
   ·rw[av (ne q)];exact q
theorem Tw{xs:List V}{vs:List Value}(r:Vals xs vs){p:List Nat}(hp:∀i∈p,i<vs.length):Vals (p.map fun i=>xs.getD i .non) (p.map fun i=>vs.getD i q0v):=by
 induction p with
 |nil=>exact .nil
 |cons i q ih =>
  refine .cons ?_ (ih fun j hj=>hp j (q0c _ hj));have hi:=hp i PE;obtain⟨u,e1,e2⟩:=r.get (getD_some (l:=xs) (d:=V.non) (by rw[r.length];exact hi));have:=getD_some (l:=vs) (d:=q0v) hi;rw[this] at e1;cases e1;exact e2
theorem di.mem{n:Nat}{p:Array Nat}(h:di n p){i:Nat}(hi:i∈p.toList):i<n:=by
 have:=(q4t.mp h.perm).mem_iff.mp hi;simpa using this
end
theorem ae.at{H:Hp}{ds:List D}{vs:List V}{i:Nat}{d:D}{v:V}(h:ae H ds vs)(e1:ds[i]?=some d)(e2:vs[i]?=some v):Is H d v:=by
 obtain⟨d',e3,h'⟩:=h.get e2;rw[e1] at e3;cases e3;exact h'
theorem ae.wc{H:Hp}:∀{ds:List D}{vs:List V},vs.length=ds.length->(∀(i:Nat)(d:D),ds[i]?=some d->∃v,vs[i]?=some v/\Is H d v)->ae H ds vs
 |[],[],_,_=>.nil
 |[],_::_,h,_=>by simp at h
 |_::_,[],h,_=>by simp at h
 |d::ds,v::vs,h,g=>by
  obtain⟨v',e,h1⟩:=g 0 d rfl;cases(show some v=some v' from e)
  exact .cons h1 (ae.wc (by simpa using h) fun i d e=>by simpa using g (i+1) d (by simpa using e))
structure lJ where
 T:Addr
 pos:Pos
 qual:Str
theorem dW.same{H H':Hp}{T:Addr}{pos:Pos}{q:Str}(h:dW H T pos q)(s:ar H H'):dW H' T pos q:=by
 obtain⟨ps,e,t,c⟩:=h;exact⟨ps,s _ _ e,t,c.imp id fun⟨c,e1,e2⟩=>⟨c,e1,s _ _ e2⟩⟩
theorem dW.keep{H H':Hp}{T T':Addr}{pos:Pos}{q:Str}(h:dW H T pos q)(ne:T≠T')(hT:∃ps,H T'=some (.tbl ps))(s:∀b o,H b=some o->b≠T'->H' b=some o):dW H' T pos q:=by
 obtain⟨ps,e,t,c⟩:=h;refine⟨ps,s _ _ e ne,t,c.imp id fun⟨c,e1,e2⟩=>⟨c,e1,s _ _ e2 fun z=>?_⟩⟩;obtain⟨qs,hT⟩:=hT;rw[z,hT] at e2;cases e2
theorem dW.put{H:Hp}{T a:Addr}{pos:Pos}{q:Str}{o o':HO}(h:dW H T pos q)(ha:H a=some o)(hk:(∃vs,o=.lst vs)\/∃ws,o=.dK ws):dW (upd H a o') T pos q:=by
 obtain⟨ps,e,t,c⟩:=h
 have ne:∀{b u},H b=some u->(∀vs,u≠.lst vs)->(∀ws,u≠.dK ws)->b≠a:=fun{b u} e n1 n2 z=>by
  subst z;rw[ha] at e;cases e;rcases hk with⟨_,z⟩|⟨_,z⟩
  ·exact n1 _ z
  ·exact n2 _ z
 refine⟨ps,by rw[av (ne e (fun _ z=>by cases z) fun _ z=>by cases z)];exact e,t,c.imp id fun⟨c,e1,e2⟩=>⟨c,e1,?_⟩⟩;rw[av (ne e2 (fun _ z=>by cases z) fun _ z=>by cases z)];exact e2
@[reducible] noncomputable def oF (ls:List lJ):aB where
 ad:=ls.map (·.T)
 ok:=fun H=>∀l∈ls,dW H l.T l.pos l.qual
 same:=fun h s l hl=>(h l hl).same s
 put:=fun h ha hk l hl=>(h l hl).put ha hk
 tb:=fun h ha=>by
  obtain⟨l,hl,rfl⟩:=q0d.mp ha;obtain⟨ps,e,_⟩:=h l hl;exact⟨ps,e⟩
variable[aB]
structure CT(T:Addr)(pos:Pos)(q:Str):Prop where
 mem:T∈aB.ad
 get:∀H:Hp,aB.ok H->dW H T pos q
 put:∀H H':Hp,aB.ok H->dW H' T pos q->(∀b o,H b=some o->b≠T->H' b=some o)->aB.ok H'
omit [aB] in
theorem Tx {ls:List lJ} {l:lJ} (hl:l∈ls) (nd:∀a∈ls,∀b∈ls,a.T=b.T->a=b):@CT (oF ls) l.T l.pos l.qual:=by
 letI:aB:=oF ls;refine⟨q3f hl,fun H h=>h l hl,fun H H' h t k l' gU=>?_⟩
 by_cases z:l'.T=l.T
 ·rw[nd _ gU _ hl z];exact t
 ·obtain⟨ps,e,_⟩:=h l hl
  exact(h l' gU).keep z ⟨ps,e⟩ k
structure Tz(X:Cx)(T:Addr):Prop where
 code:∃cc,X.env.code=.ref cc/\CodeHd X.base cc T
 ng:mainGlobals≠T
 blt:X.base.BuiltinsAt X.mg T
section
variable{F H H':Hp}{ad:List Addr}{δ:au}{σ:St}
theorem SR.yw(S:SR F ad δ σ H)(k:∀b o,H b=some o->b∉aB.ad->H' b=some o)(tk:aB.ok H'):SR (Nw F H H') ad δ σ H':=by
 have sm:=Nw.same (H':=H') S.sub;have nF:∀{a o},F a=some o->a∉aB.ad:=fun{a o} e t=>by rw[S.nt a t] at e;cases e
 have nO:∀{i a ov},ad[i]?=some a->δ.mu[i]?=some (some ov)->a∉aB.ad:=fun{i a ov} e1 e2 t=>by
  obtain⟨a',o,e3,e4,h⟩:=S.mu i ov e2;rw[e1] at e3;cases e3;obtain⟨ps,q⟩:=aB.tb S.tab t;rw[e4] at q;cases q;rcases h.kind with⟨_,z⟩|⟨_,z⟩<;>cases z
 refine⟨fun a o e=>?_,fun a l=>?_,S.cb,S.inj,fun i ov e=>?_,fun i x e=>?_,S.len,tk,fun a ha=>?_⟩
 ·unfold Nw at e
  cases q:H a with
  |none=>rw[q] at e;exact e
  |some u=>rw[q] at e;exact k a o (S.sub a o e) (nF e)
 ·obtain⟨i,ov,e1,e2⟩:=l
  obtain⟨a',o,e3,e4,_⟩:=S.mu i ov e2;rw[e1] at e3;cases e3;unfold Nw;rw[e4];exact S.off a ⟨i,ov,e1,e2⟩
 ·obtain⟨a,o,e1,e2,h⟩:=S.mu i ov e
  exact⟨a,o,e1,k a o e2 (nO e1 e),h.same sm⟩
 ·obtain⟨v,e1,h⟩:=S.sl i x e
  refine⟨v,e1,?_⟩
  cases x with
  |p d=>exact Is.same sm h
  |o k=>exact h
 ·obtain⟨ps,q⟩:=aB.tb S.tab ha
  unfold Nw;rw[q];exact S.nt a ha
theorem Ext.yw(S:SR F ad δ σ H)(k:∀b o,H b=some o->b∉aB.ad->H' b=some o)(tk:aB.ok H'):Ext F ad δ.mu H (Nw F H H') ad δ.mu H' where
 same:=Nw.same S.sub
 new:=fun a o e=>by
  unfold Nw at e
  cases q:H a with
  |none=>exact .inr (.inl rfl)
  |some u=>rw[q] at e;exact .inl e
 keep:=fun a o e _ t=>k a o e t
 pre:=fun _ _ e=>e
 bV:=fun _ l=>.inl l
 ig:=fun a o e=>by
  by_cases t:a∈aB.ad
  ·obtain⟨ps,q⟩:=aB.tb tk t
   exact⟨_,q⟩
  ·exact⟨o,k a o e t⟩
theorem SR.wd{sl:List (Option DV)}{mu:List (Option OV)}{τ:St}{d:D}{v:V}(S:SR F ad ⟨sl,mu⟩ τ H)(h:Is F d v):SR F ad ⟨some (.p d)::sl,mu⟩ (some v::τ) H:=by
 refine⟨S.sub,S.off,S.cb,S.inj,S.mu,fun i x e=>?_,by have:=S.len;simp only[Hc];exact congrArg (· + 1) this,S.tab,S.nt⟩
 cases i with
 |zero=>cases(show some (some (DV.p d))=some (some x) from e);exact⟨v,rfl,h⟩
 |succ i=>exact S.sl i x e
theorem Ext.qf{F' H':Hp}{aw:List Addr}{cN:List (Option OV)}{a:Addr}{o:HO}(S:SR F ad δ σ H)(e:Ext F ad δ.mu H F' aw cN H')(h:H a=some o)(n1:∀vs,o≠.lst vs)(n2:∀ws,o≠.dK ws)(n3:∀ps,o≠.tbl ps):H' a=some o:=by
 refine e.keep a o h (fun⟨i,ov,e1,e2⟩=>?_) fun t=>?_
 ·obtain⟨a',u,e3,e4,q⟩:=S.mu i ov e2
  rw[e1] at e3;cases e3;rw[h] at e4;cases e4;rcases q.kind with⟨_,z⟩|⟨_,z⟩
  ·exact n1 _ z
  ·exact n2 _ z
 ·obtain⟨ps,q⟩:=aB.tb S.tab t
  rw[h] at q;exact n3 _ (q0E q)
end
def TB(cp:List (Option Nat))(fb:WE)(δ:au)(ds:List D)(key:D->LK):Prop :=
 ∀d∈ds,key d≠[]/\fb ⟨some (.p d)::cH cp δ.sl,δ.mu⟩ fun y δ'=>y=.p (.tup ((key d).map D.int))/\δ'.mu=δ.mu
section
variable{X:Cx}{params:Arguments}{body:Expr}{scope:Scope}{f9:Pos}{x:Str}{Nb:List Str}{cp:List (Option Nat)}{fb:WE}{T:Addr}
structure lK(X:Cx)(params:Arguments)(body:Expr)(scope:Scope)(f9:Pos)(T:Addr)(x:Str)(Nb:List Str)(cp:List (Option Nat))(fb:WE):Prop where
 env:Tz X T
 tbl:CT T f9 (X.env.qual++"<lambda>")
 TC:defaultsOf params X.env=([],[])
 kind:scope.kind=.function
 names:yt X.N X.env.scope scope x Nb cp=true
 co:scope.isCoroutine=false
 gen:scope.isGenerator=false
 bind:∀(cl:List (Str×Addr))(pm cd ct u:Value),bindArgs (kla_fn "<lambda>" (X.env.qual++"<lambda>") params body scope cl pm cd ct) ⟨[u],[]⟩=pure [(x,u)]
 room:∃k,aS (k+3) X.A/\∀d:LD,aS k (d.A.deeper (envX (X.env.qual++"<lambda>") scope d.s.heap.objs.size d.f d.cd d.cl))->JE (oE X (X.env.qual++"<lambda>") scope (x::Nb) d) body (tD fb)
end
structure gD(mg:Str->Option Value)(base:Heap)(fd:FuncData)(T:Addr)(pos:Pos)(q:Str):Prop where
 code:∃cc,fd.code=.ref cc/\CodeHd base cc T
 ng:mainGlobals≠T
 blt:base.BuiltinsAt mg T
 tbl:CT T pos q
theorem gg.CU{P:Program}{w:World}{K:xA}{mg:Str->Option Value}{base:Heap}{x qual:Str}{st:Stmt}{f:Addr}{fd:FuncData}{N ps:List Str}{k:Nat}{G:GD}(F:gg K x qual st f fd)(S:kQ N ps (bZ st))
  (dP:∀(aF:Value)(A:Around)(outer:List Env)(s:Shared)(H:Hp)(E:XK),fd.code=aF->aS k (A.deeper (envOfC qual (bZ st) s.heap.objs.size f aF)) →
   ∃B:WS,bz (bq fu P w K mg base N qual (bZ st) f aF A outer s H E).kO (cx st) (b9 B)/\∀ys ovs K',ys.length=ps.length->G ys ovs K'->B (gB ovs.length K') ⟨ys.map some++q0h (N.length-ps.length) none,ovs.map some⟩) :
  bP P w K mg base fu (k+1) f fd ps (lC G ps.length):=by
 obtain⟨oc,od,kV,doc,pm,an,aF,ct,mH,rfl,lk,eK⟩:=F.ex;refine AM lk eK S (fun vs H Q E h=>h.1) fun A outer s H vs Q E hr h=>?_;obtain⟨hl,Fz,ad,ys,ovs,K',S0,g,kk⟩:=h;obtain⟨B,jb,hb⟩:=dP aF A outer s H E rfl hr
 have hy:ys.length=ps.length:=by
  have:=S0.len;rw[qU] at this;rw[<-hl,this];show _=(ys.map some).length;rw[qU]
 refine⟨_,jb.kO,Fz,ad,⟨ys.map some++q0h (N.length-ps.length) none,ovs.map some⟩,gB ovs.length K',by rw[<-hl];exact S0.start,hb ys ovs K' hy g,⟨fun δ' h F' aw σ' H' E' S'=>?_,fun δ' h=>h.elim,fun δ' h=>h.elim,fun y δ' h v F' aw σ' H' E' S' V=>?_,trivial⟩⟩
 ·exact tF (σ':=σ') S0 E' S' (x:=.p .non) (v:=.non) rfl h kk
 ·exact tF (σ':=σ') S0 E' S' V h kk
section
variable{X:Cx}{params:Arguments}{body a e:Expr}{scope:Scope}{f9 p1 p2 q1 q2 jE:Pos}{x:Str}{Nb:List Str}{cp:List (Option Nat)}{fb f:WE}{fa:WA}{T:Addr}
end
end L2
set_option maxHeartbeats 8000000
namespace LJ
open PySem L2 PySem.Spec PySem.W PyProof.Rows
structure Ev where
 P:Program
 w:World
 K:xA
 mg:Str->Option Value
 base:Heap
section
variable[aB]
structure Fx(V:Ev)(k:Nat)(x:Str)(ps:List Str)(n:Nat)(G:GD):Prop where
 ex:∃f fd,Fn V.P V.w V.K V.mg V.base k x ps (lC G n) f fd
def Dx(V:Ev)(x:Str)(st:Stmt):Prop:=∃f fd,V.mg x=some (.ref f)/\gg V.K x x st f fd
def yx(V:Ev)(x:Str)(st:Stmt)(T:Addr)(pos:Pos)(q:Str):Prop:=∃f fd,(V.mg x=some (.ref f)/\gg V.K x x st f fd)/\gD V.mg V.base fd T pos q
def Ct(V:Ev)(x:Str)(i:Int):Prop:=∃u,V.mg x=some u/\RelV (.int i) u
section
variable{X:Cx}{x:Str}{ps:List Str}{G:GD}{e:Expr}{es:List Expr}{fa:WA}{p pos:Pos}{j k n:Nat}
theorem lM(F:Fx ⟨X.prog,X.w,X.K,X.mg,X.base⟩ j x ps n G)(hr:aS k X.A)(ha:JA X (e::es) (bK fa))(hj:q6Y j k=true:=by rfl)(hg:Gl X x:=by rfl)(cV:bA x:=by decide)(he:cQ X e es:=by rfl)(cW:dH X pos es:=by rfl):
  JE X (.Call (.Name x p) (e::es) [] pos) (tD (aj n G fa)):=let⟨_,_,F⟩:=F.ex;RF F.ok (hr.mono (q2e hj)) hg F.vv F.kp F.bd ha cV he cW
theorem TF(F:Fx ⟨X.prog,X.w,X.K,X.mg,X.base⟩ j x ps n G)(hr:aS k X.A)(ha:JA X (e::es) (bK fa))(hj:q6Y j k=true:=by rfl)(hg:Gl X x:=by rfl)(cV:bA x:=by decide)(he:cQ X e es:=by rfl)(cW:dH X pos es:=by rfl):
  JE X (.Call (.Name x p) (e::es) [] pos) (tD (vK n G fa)):=let⟨_,_,F⟩:=F.ex;RG F.ok (hr.mono (q2e hj)) hg F.vv F.kp F.bd ha cV he cW
theorem TH{i:Int}(C:Ct ⟨X.prog,X.w,X.K,X.mg,X.base⟩ x i)(hg:Gl X x:=by rfl)(hd:bA x:=by decide):JE X (.Name x pos) (tD (dC (.int i))):=let⟨_,a,b⟩:=C;Rf hg a b hd
end
theorem _root_.L2.gD.env{mg:Str->Option Value}{base:Heap}{fd:FuncData}{T:Addr}{lp:Pos}{q:Str}{aF:Value}(L:gD mg base fd T lp q)(h:fd.code=aF):∃cc,aF=.ref cc/\CodeHd base cc T:=let⟨cc,e1,e2⟩:=L.code;⟨cc,h.symm.trans e1,e2⟩
noncomputable def TJ:NameKind->Bool
 |.local=>true
 |.cell=>true
 |_=>false
noncomputable def TK:NameKind->Bool
 |.free=>false
 |_=>true
noncomputable def TM:ScopeKind->Bool
 |.function=>true
 |_=>false
noncomputable def we(N P:List Str)(sc:Scope):Bool:=TM sc.kind && !sc.isCoroutine && !sc.isGenerator&&decide N.Nodup&&decide (N.take P.length=P)&&(P.all fun x=>match sc.names.lookup x with
 |some k=>TJ k
 |none=>false)&&sc.names.all fun y=>TK y.2
theorem fF{N P:List Str}{sc:Scope}(h:we N P sc=true):kQ N P sc:=by
 unfold we at h;simp only[q0y,q3I,q0I,q03] at h;obtain⟨⟨⟨⟨⟨⟨h1,h2⟩,h3⟩,h4⟩,h5⟩,h6⟩,h7⟩:=h;refine⟨?_,h2,h3,h4,h5,fun x hx=>?_,fun y hy z=>?_⟩
 ·cases q:sc.kind<;>rw[q] at h1<;>first|rfl|cases h1
 ·have:=h6 x hx
  split at this
  ·rename_i k e
   rw[e];cases k<;>first|exact .inl rfl|exact .inr rfl|cases this
  ·cases this
 ·have:=h7 y hy
  rw[z] at this;cases this
def iZ(x:Str)(st:Stmt)(ps:List Str):Prop:=∀(kV doc pm:Value)(an:Option Addr)(aF ct:Value)(us:List Value),us.length=ps.length->bindArgs (q1T x x (kY st) (cx st) (bZ st) .none kV doc pm an aF ct) ⟨us,[]⟩=pure (ps.zip us)
section
theorem JO{us:List Value}(h:us.length=1):∃a,us=[a]:=q5b.mp h
theorem CV{us:List Value}(h:us.length=2):∃a b,us=[a,b]:=by
 cases us with
 |nil=>cases h
 |cons a r=>obtain⟨b,rfl⟩:=JO (q2V h);exact⟨a,b,rfl⟩
theorem TN{us:List Value}(h:us.length=3):∃a b c,us=[a,b,c]:=by
 cases us with
 |nil=>cases h
 |cons a r=>obtain⟨b,c,rfl⟩:=CV (q2V h);exact⟨a,b,c,rfl⟩
theorem mX{x:Str}{st:Stmt}{ps:List Str}(h:∀(kV doc pm:Value) (an:Option Addr) (aF ct a:Value),bindArgs (q1T x x (kY st) (cx st) (bZ st) .none kV doc pm an aF ct) ⟨[a],[]⟩=pure (ps.zip [a]):=by intros;rfl)(hl:ps.length=1:=by rfl):iZ x st ps:=fun kV doc pm an aF ct us hu=>by
 obtain⟨a,rfl⟩:=JO (hu.trans hl);exact h kV doc pm an aF ct a
theorem fN{x:Str}{st:Stmt}{ps:List Str}(h:∀(kV doc pm:Value) (an:Option Addr) (aF ct a b:Value),bindArgs (q1T x x (kY st) (cx st) (bZ st) .none kV doc pm an aF ct) ⟨[a,b],[]⟩=pure (ps.zip [a,b]):=by intros;rfl)(hl:ps.length=2:=by rfl):iZ x st ps:=fun kV doc pm an aF ct us hu=>by
 obtain⟨a,b,rfl⟩:=CV (hu.trans hl);exact h kV doc pm an aF ct a b
theorem oG{x:Str}{st:Stmt}{ps:List Str}(h:∀(kV doc pm:Value) (an:Option Addr) (aF ct a b c:Value),bindArgs (q1T x x (kY st) (cx st) (bZ st) .none kV doc pm an aF ct) ⟨[a,b,c],[]⟩=pure (ps.zip [a,b,c]):=by intros;rfl)(hl:ps.length=3:=by rfl):iZ x st ps:=fun kV doc pm an aF ct us hu=>by
 obtain⟨a,b,c,rfl⟩:=TN (hu.trans hl);exact h kV doc pm an aF ct a b c
variable{V:Ev}{x:Str}{st:Stmt}{N ps:List Str}{k:Nat}{G:GD}
theorem de(D:Dx V x st)(bd:iZ x st ps)(h:∀{aF:Value} {A:Around} {outer:List Env} {s:Shared} {H:Hp} {E:XK} {f:Addr},aS k (A.deeper (envOfC x (bZ st) s.heap.objs.size f aF))->N.Nodup->(A.deeper (envOfC x (bZ st) s.heap.objs.size f aF)).units+64<cLine →
   ∃B:WS,bz (bq fu V.P V.w V.K V.mg V.base N x (bZ st) f aF A outer s H E).kO (cx st) (b9 B)/\∀ys ovs K',ys.length=ps.length->G ys ovs K'->B (gB ovs.length K') ⟨ys.map some++q0h (N.length-ps.length) none,ovs.map some⟩)(sc:we N ps (bZ st)=true:=by decide +kernel):Fx V (k+1) x ps ps.length G :=
 let⟨f,fd,a,F⟩:=D
 ⟨f,fd,F.RA (fF sc) fun aF A outer s H E hr=>h hr (fF sc).nd hr.units,a,F.kp,F.binds bd⟩
theorem TQ{T:Addr}{lp:Pos}{q:Str}(D:yx V x st T lp q)(bd:iZ x st ps)(h:∀{aF:Value} {A:Around} {outer:List Env} {s:Shared} {H:Hp} {E:XK} {f:Addr} {fd:FuncData},gD V.mg V.base fd T lp q->fd.code=aF->aS k (A.deeper (envOfC x (bZ st) s.heap.objs.size f aF))->N.Nodup->(A.deeper (envOfC x (bZ st) s.heap.objs.size f aF)).units+64<cLine →
   ∃B:WS,bz (bq fu V.P V.w V.K V.mg V.base N x (bZ st) f aF A outer s H E).kO (cx st) (b9 B)/\∀ys ovs K',ys.length=ps.length->G ys ovs K'->B (gB ovs.length K') ⟨ys.map some++q0h (N.length-ps.length) none,ovs.map some⟩)(sc:we N ps (bZ st)=true:=by decide +kernel):Fx V (k+1) x ps ps.length G :=
 let⟨f,fd,⟨a,F⟩,LD⟩:=D
 ⟨f,fd,F.CU (fF sc) fun aF A outer s H E hc hr=>h LD hc hr (fF sc).nd hr.units,a,F.kp,F.binds bd⟩
end
end
section
variable{K:xA}{h:Heap}{mg:Str->Option Value}
def Dk(K:xA)(x:Str)(st:Stmt):Prop:=∃f fd,q0N K mainGlobals x=some (some (.ref f))/\gg K x x st f fd
inductive gE (K:xA):List (Str×Stmt)->Prop
 |nil:gE K []
 |cons {x st r}:Dk K x st->gE K r->gE K ((x,st)::r)
theorem CW{x:Str}{st:Stmt}{r:List (Str×Stmt)}{f:Addr}{od an:Option Addr}{sl:Array (Option Value)}{oc kV dc pm cd ct:Value}(a:q0N K mainGlobals x=some (some (.ref f)))(l:K.lookup f=some ⟨oc,od,.func (q1T x x (kY st) (cx st) (bZ st) .none kV dc pm an cd ct),sl⟩)(q:q28 K cd x=true)(k:q1u K (.ref f)=true)(h:gE K r):gE K ((x,st)::r) :=
 .cons ⟨f,_,a,Bj l q k⟩ h
theorem gE.at{ds:List (Str×Stmt)}(h:gE K ds)(i:Nat){x:Str}{st:Stmt}(e:ds[i]?=some (x,st)):Dk K x st:=by
 induction h generalizing i with
 |nil=>cases e
 |cons d _ ih=>cases i with
  |zero=>cases e;exact d
  |succ i=>exact ih i e
def yy(K:xA)(x:Str)(st:Stmt)(T:Addr):Prop:=∃f fd,(q0N K mainGlobals x=some (some (.ref f))/\gg K x x st f fd)/\∃cc,fd.code=.ref cc/\q7b K cc T=true
inductive eC (K:xA):List (Str×Stmt×Addr)->Prop
 |nil:eC K []
 |cons {x st T r}:yy K x st T->eC K r->eC K ((x,st,T)::r)
theorem wg{x:Str}{st:Stmt}{T:Addr}{r:List (Str×Stmt×Addr)}{f cc:Addr}{od an:Option Addr}{sl:Array (Option Value)}{oc kV dc pm ct:Value}(a:q0N K mainGlobals x=some (some (.ref f)))(l:K.lookup f=some ⟨oc,od,.func (q1T x x (kY st) (cx st) (bZ st) .none kV dc pm an (.ref cc) ct),sl⟩)(q:q28 K (.ref cc) x=true)(k:q1u K (.ref f)=true)(c:q7b K cc T=true)(h:eC K r):eC K ((x,st,T)::r) :=
 .cons ⟨f,_,⟨a,Bj l q k⟩,cc,rfl,c⟩ h
theorem eC.at{ds:List (Str×Stmt×Addr)}(h:eC K ds)(i:Nat){x:Str}{st:Stmt}{T:Addr}(e:ds[i]?=some (x,st,T)):yy K x st T:=by
 induction h generalizing i with
 |nil=>cases e
 |cons d _ ih=>cases i with
  |zero=>cases e;exact d
  |succ i=>exact ih i e
theorem eC.code{ds:List (Str×Stmt×Addr)}(h:eC K ds){hp:Heap}(X:K.In hp):∀T∈ds.map (·.2.2),∃cc,q8b hp cc T:=by
 induction h with
 |nil=>intro T hT;exact nomatch hT
 |cons d _ ih =>
  intro T hT;rcases PD.mp hT with rfl|hT
  ·obtain⟨_,_,_,cc,_,e⟩:=d
   exact⟨cc,q53 X e⟩
  ·exact ih T hT
theorem TR{x:Str}{r:List Str}(a:q0N K mainGlobals x=some none)(h:∀y∈r,q0N K mainGlobals y=some none):∀y∈x::r,q0N K mainGlobals y=some none:=fun y hy=>by
 rcases PD.mp hy with rfl|hy
 ·exact a
 ·exact h y hy
theorem TU{ls:List lJ}(nd:(ls.map (·.T)).Nodup):∀{a b:lJ},a∈ls->b∈ls->a.T=b.T->a=b:=by
 induction ls with
 |nil=>intro a b ha;exact nomatch ha
 |cons c r ih =>
  intro a b ha hb e;rw[q0p,q2w] at nd;rcases PD.mp ha with rfl|ha'<;>rcases PD.mp hb with rfl|hb'
  ·rfl
  ·exact absurd (q0d.mpr ⟨b,hb',e.symm⟩) nd.1
  ·exact absurd (q0d.mpr ⟨a,ha',e⟩) nd.1
  ·exact ih nd.2 ha' hb' e
theorem Dk.v{P:Program}{w:World}{base:Heap}{x:Str}{st:Stmt}(d:Dk K x st)(X:K.In h)(G:h.Ns mainGlobals mg):Dx ⟨P,w,K,mg,base⟩ x st :=
 let⟨f,fd,a,F⟩:=d
 ⟨f,fd,q0U X G a,F⟩
theorem yy.v{P:Program}{w:World}{base:Heap}{x:Str}{st:Stmt}{ls:List lJ}{T:Addr}{lp:Pos}{q:Str}(d:yy K x st T)(X:K.In h)(G:h.Ns mainGlobals mg)(KB:K.In base)(hB:∀t∈ls,base.BuiltinsAt mg t.T)(nd:(ls.map (·.T)).Nodup)(ng:∀t∈ls,mainGlobals≠t.T)(hl:⟨T,lp,q⟩∈ls):@yx (oF ls) ⟨P,w,K,mg,base⟩ x st T lp q :=
 let⟨f,fd,⟨a,F⟩,cc,e1,e2⟩:=d
 letI:aB:=oF ls
 ⟨f,fd,⟨q0U X G a,F⟩,⟨cc,e1,q53 KB e2⟩,ng _ hl,hB _ hl,Tx hl fun a ha b hb e=>TU nd ha hb e⟩
def Ck(K:xA)(x:Str)(i:Int):Prop:=∃u,q0N K mainGlobals x=some (some u)/\RelV (.int i) u
theorem Ck.v{P:Program}{w:World}{base:Heap}{x:Str}{i:Int}(d:Ck K x i)(X:K.In h)(G:h.Ns mainGlobals mg):Ct ⟨P,w,K,mg,base⟩ x i :=
 let⟨u,a,r⟩:=d
 ⟨u,q0U X G a,r⟩
noncomputable def CY:List Str:=["len", "range", "list", "tuple", "set", "sorted", "min", "max", "sum", "all", "any", "enumerate", "zip", "isinstance", "int", "bool", "str"]
theorem TV(X:K.In h)(G:h.Ns mainGlobals mg)(N:∀x∈CY,q0N K mainGlobals x=some none):BT mg :=
 have n:∀i x,CY[i]?=some x->mg x=none:=fun i x e=>q6t X G (N x (q0M e))
 ⟨n 0 _ rfl,n 1 _ rfl,n 2 _ rfl,n 3 _ rfl,n 4 _ rfl,n 5 _ rfl,n 6 _ rfl,n 7 _ rfl,n 8 _ rfl,n 9 _ rfl,n 10 _ rfl,n 11 _ rfl,n 12 _ rfl,n 13 _ rfl,n 14 _ rfl,n 15 _ rfl,n 16 _ rfl⟩
end
end LJ
namespace L2
open PySem PySem.Spec PyProof.Rows
def lN(h:Heap)(a C:Addr)(dx T:Option Addr)(fl:Value):Prop :=
 ∃vs sl,h.get? a=some ⟨.ref C,dx,.fields vs,sl⟩/\vs[1]?=some (T.elim q0v q0C)/\∀t,T=some t->t≠a/\∃oT ts,h.get? t=some oT/\oT.data=.fields ts/\ts[3]?=some fl
structure lO(fs:List Addr)(a:Addr)(T:Option Addr)(h h':Heap):Prop where
 keep:∀b o,b≠a->some b≠T->b∉fs->h.get? b=some o->h'.get? b=some o
 slot:∀b o,b≠a->some b≠T->h.get? b=some o->∃sl,h'.get? b=some {o with slots:=sl}
section
variable{M:Model}{A:Around}{E:aH}{s:Shared}{env:Env}{outer:List Env}{base:Heap}{L a C:Addr}{dx T:Option Addr}{Q:Unit->Shared->Prop}
theorem JP{head:Value}{hn:Bool}{vs:Array Value}{sl:Array (Option Value)}(ki:A.frames=some (env::outer))(hl:s.heap.FunFrames base (env::outer))(hf:env.frame=some L)
  (he:s.heap.get? a=some ⟨.ref C,dx,.fields vs,sl⟩) (hsz:1<vs.size)
  (h:∀h' T',lN h' a C dx (some T') (rawInt L)->s.heap.get? T'=none->lO (d5 (env::outer)) a none s.heap h'->Q () {s with heap:=h'}) :
  wpAny M A (do let x <- frameOf env;let pl <- entryPlaceOf L hn;let b <- q54 head x .none (rawInt L) .none pl;setField (.ref a) 1 b) Q E s:=by
 have na:a∉(env::outer).filterMap (·.frame):=fun hm=>by
  obtain⟨_,o,ho,nf⟩:=hl.mem hm;rw[he] at ho;cases ho;exact nf vs rfl
 refine n_ (wpAny_frameOf_fun ki hl hf fun h1 e1=>?_);refine n_ (wpAny_entryPlaceOf fun pl cW=>?_);unfold q54 newFields;refine n_ (q1c ?_ (cW.sizeOk5 _ _ _ _ _));have CZ:=(e1.2.1 a na).trans he;refine q2I (qT _ CZ) rfl hsz ?_;have nT:h1.objs.size≠a:=q1L (My CZ)
 have keep:∀b o,b≠a->h1.get? b=some o->∀ob f,((h1.push ob).update a f).get? b=some o:=fun b o n e ob f=>by
  rw[q0P _ _ (q1A n)];exact qT _ e
 refine h _ h1.objs.size ⟨_,_,q0J _ (qT _ CZ) rfl,?_,fun t e=>?_⟩ ?_ ⟨fun b o n _ nf e=>?_,fun b o n _ e=>?_⟩
 ·show(vs.setIfInBounds 1 (q0C h1.objs.size))[1]?=_
  simp[hsz]
 ·cases e
  refine⟨nT,_,_,(q0P _ _ (q1A nT)).trans (PG h1 rfl),rfl,?_⟩
  first|(simp;done)|(rcases cW with rfl|⟨_,_,_,_,_,_,_,rfl⟩<;>simp)
 ·rw[q27]
  rw[e1.1];exact Bi _
 ·exact keep b o n ((e1.2.1 b nf).trans e) _ _
 ·obtain⟨mC,e'⟩:=e1.2.2 b o e
  exact⟨mC,keep b _ n e' _ _⟩
theorem C0{t:Addr}{fl:Value}(f:lN s.heap a C dx (some t) fl)(h:∀h',lN h' a C dx (some t) .none->lO [] a (some t) s.heap h'->Q () {s with heap:=h'}):
  wpAny M A (setFlight (.ref a) none) Q E s:=by
 obtain⟨vs,sl,ea,e1,r⟩:=f;obtain⟨n,oT,ts,et,ed,e3⟩:=r t rfl;have h3:=(q15.mp e3).1;have o:∀b,b≠t->(s.heap.update t (q4F (·.setIfInBounds 3 .none))).get? b=s.heap.get? b:=fun b nb=>q0P _ _ (q1A nb);refine wpAny_setFlight_none ea rfl e1 et ed h3 (h _ ⟨vs,sl,(o a (q1A n)).trans ea,e1,fun t' e=>?_⟩ ⟨fun b u _ nb _ e=>?_,fun b u _ nb e=>⟨u.slots,?_⟩⟩)
 ·cases e
  exact⟨n,_,_,q0J _ et (q2u (q1D ed _)),q1D ed _,by simp[h3]⟩
 ·exact(o b fun z=>nb (by rw[z])).trans e
 ·exact(o b fun z=>nb (by rw[z])).trans e
theorem JQ(ki:A.frames=some (env::outer))(hl:s.heap.FunFrames base (env::outer))(hf:env.frame=some L)(f:lN s.heap a C dx T .none)
  (h:∀h' T',lN h' a C dx (some T') (rawInt L)->s.heap.get? T'=none->lO (d5 (env::outer)) a T s.heap h'->Q () {s with heap:=h'}):wpAny M A (noteFrame (.ref a) env) Q E s:=by
 obtain⟨vs,sl,ea,e1,r⟩:=f;have hz:=(q15.mp e1).1;unfold noteFrame;simp only[hf];refine n_ (q1x ea rfl e1 ?_)
 cases T with
 |none =>
  rw[show(none:Option Addr).elim q0v q0C=q0v from rfl,q0a (by decide)];exact JP ki hl hf ea hz h
 |some t =>
  obtain⟨n,oT,ts,et,ed,e3⟩:=r t rfl;have h3:=(q15.mp e3).1;rw[show(some t).elim q0v q0C=q0C t from rfl,q0f (show(q0C t != q0v)=true from by simp)];refine n_ (q1x et ed e3 ?_);rw[q0a (show ¬ ((q0v==rawInt L)=true) from by simp[rawInt])];refine n_ (q2I et ed h3 ?_);have o:∀b,b≠t->(s.heap.update t (q4F (·.setIfInBounds 3 q0v))).get? b=s.heap.get? b:=fun b nb=>q0P _ _ (q1A nb);refine JP ki (hl.of_keeps fun b u e nf=>⟨u,(o b fun z=>?_).trans e,rfl⟩) hf ((o a (q1A n)).trans ea) hz fun h' T' x1 x2 x3=>h h' T' x1 ?_ ⟨fun b u na nb nf e=>x3.keep b u na (by simp) nf ((o b fun z=>nb (by rw[z])).trans e),fun b u na nb e=>x3.slot b u na (by simp) ((o b fun z=>nb (by rw[z])).trans e)⟩
  ·rw[z,et] at e;cases e
   exact nf ts ed
  ·by_cases z:T'=t
   ·rw[z,q0J _ et (q2u (q1D ed _))] at x2;cases x2
   ·exact(o T' z).symm.trans x2
theorem TX(ki:A.frames=some (env::outer))(hl:s.heap.FunFrames base (env::outer))(hf:env.frame=some L)(f:lN s.heap a C dx T .none)
  (h:∀h' T',lN h' a C dx (some T') .none->s.heap.get? T'=none->lO (d5 (env::outer)) a T s.heap h'->Q () {s with heap:=h'}):wpAny M A (leaving env (.ref a)) Q E s:=by
 unfold leaving;refine n_ (JQ ki hl hf f fun h1 T' x1 x2 x3=>C0 x1 fun h2 y1 y2=>h h2 T' y1 x2 ⟨fun b o na nb nf e=>?_,fun b o na nb e=>?_⟩)
 ·exact y2.keep b o na (fun z=>by cases z;rw[x2] at e;cases e) (by simp) (x3.keep b o na nb nf e)
 ·obtain⟨sl,e'⟩:=x3.slot b o na nb e
  exact⟨sl,y2.keep b _ na (fun z=>by cases z;rw[x2] at e;cases e) (by simp) e'⟩
end
def eE(P:Program)(w:World):jD:=fun outer H s E e s'=>∃(a C:Addr)(dx:Option Addr)(T:Addr)(H':Hp),e=.ref a/\s'.os=s.os/\AllBare s'.gens/\Un (d5 outer) [] H H' s.heap s'.heap/\cn P w H' s'.heap ∧
 lN s'.heap a C dx (some T) .none/\H' a=none/\H' T=none/\s.heap.get? a=none/\s.heap.get? T=none/\E (.ref C) dx H'
section
variable{X:Cx}{P:Program}{w:World}{K:xA}{mg:Str->Option Value}{base:Heap}{N:List Str}{qual:Str}{scope:Scope}{f:Addr}{cd:Value}{A:Around}{outer:List Env}{s:Shared}{H:Hp}{E:XK}
theorem Un.r9{fs:List Addr}{H H':Hp}{h g h':Heap}{a:Addr}{T:Option Addr}(u:Un fs [] H H' h g)(na:∀o,h.get? a=some o->H a=none->False)(nT:∀t,T=some t->h.get? t=none)(ea:∃o,h'.get? a=some o)(x:lO fs a T g h'):Un fs [] H H' h h' where
 keep:=fun b o e n nf nx=>x.keep b o (fun z=>by subst z;exact na o e n) (fun z=>by rw[nT b z.symm] at e;cases e) nf (u.keep b o e n nf nx)
 slot:=fun b o e n nf nx=>by
  obtain⟨sl,e1⟩:=u.slot b o e n nf nx;obtain⟨mC,e2⟩:=x.slot b _ (fun z=>by subst z;exact na o e n) (fun z=>by rw[nT b z.symm] at e;cases e) e1;exact⟨mC,e2⟩
 free:=u.free
 there:=fun b o e nx=>by
  obtain⟨o1,e1⟩:=u.there b o e nx
  by_cases c:b=a
  ·rw[c];exact ea
  ·obtain⟨sl,e2⟩:=x.slot b o1 c (fun z=>by rw[nT b z.symm] at e;cases e) e1
   exact⟨_,e2⟩
 cC:=u.cC
 cP:=u.cP
 dq:=u.dq
theorem cn.r9{H':Hp}{g h':Heap}{fs:List Addr}{a:Addr}{T:Option Addr}(k:cn P w H' g)(ha:H' a=none)(hT:∀t,T=some t->H' t=none)(hf:∀b∈fs,H' b=none)(x:lO fs a T g h'):cn P w H' h':=fun b o e=>by
 have ne:∀c,(c=b\/H' c=some (.own b))->H' c≠none:=fun c hc z=>by
  rcases hc with rfl|hc
  ·rw[e] at z;cases z
  ·rw[hc] at z;cases z
 exact(k b o e).dm (fun c v hc z=>x.keep c v (fun q=>ne c hc (by rw[q];exact ha)) (fun q=>ne c hc (hT c q.symm)) (fun q=>ne c hc (hf c q)) z) (fun c z=>z) fun c xs z=>z
theorem C1{h h' base:Heap}:∀{l:List Env},(∀b∈d5 l,∀o,h.get? b=some o->∃sl,h'.get? b=some {o with slots:=sl})->h.FunFrames base l->h'.FunFrames base l
 |[],_,_=>trivial
 |env::r,k,⟨hk,⟨L,o,hf,hn,ho,hd⟩,hr⟩=>by
  have hL:L∈d5 (env::r):=by unfold d5;rw[q2D,hf];exact PE
  obtain⟨sl,e⟩:=k L hL o ho;exact⟨hk,⟨L,_,hf,hn,e,hd⟩,C1 (fun b hb=>k b (by unfold d5;rw[q2D,hf];exact q0c _ hb)) hr⟩
theorem JR{pins:aq}{σ:St}{H1 H':Hp}{s1 s2:Shared}{a C:Addr}{dx T:Option Addr}(eX:X=bq (eE P w) P w K mg base N qual scope f cd A outer s H E)(I:Inv X pins σ H1 s1)(os:s2.os=s1.os)(ba:AllBare s2.gens)(u:Un (d5 X.stack) [] H1 H' s1.heap s2.heap)(ok:cn P w H' s2.heap)(F:lN s2.heap a C dx T .none)
  (ha:H' a=none) (hT:∀t,T=some t->H' t=none/\s1.heap.get? t=none) (na:∀o,s1.heap.get? a=some o->H1 a=none->False) (a0:s.heap.get? a=none) (q:E (.ref C) dx H'):X.xe (.ref a) s2:=by
 subst eX
 have fr:∀b∈d5 (envOfC qual scope s.heap.objs.size f cd::outer),H' b=none:=fun b hb=>by
  obtain⟨_,o,ho,_⟩:=I.stack.mem hb;exact u.free b o ho (I.dI b hb) (by simp)
 have fk:s2.heap.FunFrames base (envOfC qual scope s.heap.objs.size f cd::outer):=C1 (fun b hb o e=>u.any e (I.dI b hb) (by simp)) I.stack;refine TX (base:=base) (outer:=outer) I.ok.frames fk rfl F fun h' T' x1 x2 x3=>?_;have u':=u.r9 na (fun t e=>(hT t e).2) (by obtain⟨vs,sl,e,_⟩:=x1;exact⟨_,e⟩) x3;have TY:=ok.r9 ha (fun t e=>(hT t e).1) fr x3;have J:=I.jf (s':={s2 with heap:=h'}) os u' TY ba (fun b z=>absurd z (by simp))
 have gone:∀b,s2.heap.get? b=none->s.heap.get? b=none:=fun b e=>by
  cases q:s.heap.get? b with
  |none=>rfl
  |some o =>
   obtain⟨o1,e1⟩:=I.base.there b o q (by exact q0s);obtain⟨o2,e2⟩:=u.there b o1 e1 (by simp);rw[e] at e2;cases e2
 refine⟨a,C,dx,T',H',rfl,J.os,J.bare,J.base,J.aD,x1,ha,?_,a0,gone T' x2,q⟩
 cases z:H' T' with
 |none=>rfl
 |some o =>
  obtain⟨ob,e⟩:=HD (ok T' o z);rw[x2] at e;cases e
theorem JU:mG (eE P w) (bq (eE P w) P w K mg base N qual scope f cd A outer s H E) E:=fun pins σ H1 s1 e s' I h=>by
 obtain⟨a,C,dx,T,H',rfl,os,ba,u,ok,F,ha,hT,a0,t0,q⟩:=h;refine JR rfl I os ba u ok F ha (fun t e=>by cases e;exact⟨hT,t0⟩) (fun o e _=>by rw[a0] at e;cases e) ?_ q
 cases z:s.heap.get? a with
 |none=>rfl
 |some o =>
  obtain⟨o1,e1⟩:=I.base.there a o z (by exact q0s);rw[a0] at e1;cases e1
noncomputable def iq(H:Hp)(a:Addr):Hp:=fun b=>if b=a then none else H b
theorem tO{H:Hp}{a b:Addr}(n:b≠a):iq H a b=H b:=q0a n
theorem Un.del{fs:List Addr}{H:Hp}{h:Heap}{a C:Addr}{dx:Option Addr}(e:H a=some (bW a C dx)):Un fs [] H (iq H a) h h where
 keep:=fun _ _ e _ _ _=>e
 slot:=fun _ o e _ _ _=>⟨o.slots,e⟩
 free:=fun b o _ n _=>by
  unfold iq;split
  ·rfl
  ·exact n
 there:=fun b o e _=>⟨o,e⟩
 cC:=fun b xs q=>by rw[tO (pG q e (by unfold bW;intro z;cases z))];exact q
 cP:=fun b o xs q=>by rw[tO (pG q e (by unfold bW;intro z;cases z))];exact q
 dq:=fun b ps q=>⟨#[],by rw[tO (pG q e (by unfold bW;intro z;cases z)),q];simp⟩
theorem cn.del{H:Hp}{h:Heap}{a C:Addr}{dx:Option Addr}(k:cn P w H h)(e:H a=some (bW a C dx)):cn P w (iq H a) h:=fun b o q=>by
 have nb:b≠a:=fun z=>by unfold iq at q;rw[q0f z] at q;cases q
 rw[tO nb] at q;have own:∀c x,H c=some x->(∀φ,x≠.ext φ)->c≠a:=fun c x z n y=>by rw[y,e] at z;cases z;exact n _ rfl
 exact(k b o q).dm (fun c v hc z=>z) (fun c z=>by rw[tO (own c _ z (by intro φ y;cases y))];exact z) fun c xs z=>by rw[tO (own c _ z (by intro φ y;cases y))];exact z
theorem bX.exc{l:List Value}(x:bX K l):l.contains (.type "BaseException")=true:=by
 induction x with
 |base=>decide
 |own _ _ _ ih=>rw[q3v,ih,q5a]
theorem TZ{M:Model}{A:Around}{env:Env}{E:aH}{s:Shared}{x:Sem Value}{Q:Flow->Shared->Prop}(hh:A.handled=none)
  (h:wpAny M A x (fun v s1=>∃a C dx k_,v=.ref a/\vi K C k_/\K.In s1.heap/\lN s1.heap a C dx none .none/\E (.ref a) s1) E s):wpAny M A (raiseStmt env (some x) none) Q E s:=by
 unfold raiseStmt;refine n_ (q1E h (fun v s1 h1=>?_) fun _ _ z=>z);obtain⟨a,C,dx,k_,rfl,m,k,⟨vs,sl,ea,e1,_⟩,hE⟩:=h1;obtain⟨nm,q,N,bs,bm,eR,sn,sub,ab,col,dd,k0,k1,k2,k3,k5,l,t,_⟩:=m.HC;have hC:=k _ _ l;have hB:(q0C C::bm).contains (.type "BaseException")=true:=by rw[q3v,t.exc,q5a]
 obtain⟨hp,g,d,tk,os⟩:=s1
 repeat(first|with_reducible refine q22 ea ?_|with_reducible refine q22 hC ?_|(with_reducible refine q50 hC ?_;rw[hB])|wp_step)
 rw[e1];refine uX ?_;rw[q0a (by decide)];exact uX (wpAny_raiseNew_none hh hE)
def T1(K:xA)(H0:Hp)(te:TE)(E:XK):TS:=fun _ σ H=>te σ H fun v H1=>∃(a C:Addr)(dx:Option Addr)(k_:Option Value),v=.ref a/\H1 a=some (bW a C dx)/\vi K C k_/\H0 a=none/\E (.ref C) dx (iq H1 a)
theorem T2{e:Expr}{te:TE}{pos:Pos}(eX:X=bq (eE P w) P w K mg base N qual scope f cd A outer s H E)(he:JE X e te):JS X (.Raise (some e) none pos) (T1 X.K X.H₀ te E):=by
 refine⟨?_⟩;intro pins s1 σ H1 D I h;show wpAny _ _ (do standAt pos;raiseStmt X.env (some (do let v <- eval e X.env;standAt pos;pure v)) none) _ _ _;have hc:X.calm=true:=by rw[eX];rfl
 refine n_ (q2A (TZ (K:=X.K) (I.ok.hd hc) (n_ (aW (he pins s1 σ H1 _ I h) fun u s2 ⟨v,H2,I2,r,a,C,dx,k_,ev,ea,m,h0,q⟩=>n_ (q2A (uX ?_))))));subst ev;obtain rfl:u=q0C a:=r;obtain⟨t,et⟩:=HB (I2.aD a _ ea);have F:lN s2.heap a C dx none .none:=⟨_,_,et,rfl,fun _ z=>nomatch z⟩;refine⟨a,C,dx,k_,rfl,m,I2.d6,F,?_⟩;have eP:X.prog=P:=by rw[eX];rfl
 have ew:X.w=w:=by rw[eX];rfl
 have ok:=I2.aD;rw[eP,ew] at ok;refine JR eX I2 rfl I2.bare (Un.del ea) (ok.del ea) F (q0f rfl) (fun _ z=>nomatch z) (fun o _ n=>by rw[ea] at n;cases n) ?_ q;have e0:X.s₀=s:=by rw[eX];rfl
 have ex:X.ex=[]:=by rw[eX];rfl
 cases z:s.heap.get? a with
 |none=>rfl
 |some o =>
  have:=I2.base.free a o (by rw[e0];exact z) h0 (by rw[ex];exact q0s);rw[ea] at this;cases this
end
noncomputable def dX(a C:Addr)(dx:Option Addr):HO:=.ext fun h=>∃vs sl,h.get? a=some ⟨.ref C,dx,.fields vs,sl⟩
theorem T3{P:Program}{w:World}{H:Hp}{h:Heap}{a C:Addr}{dx:Option Addr}{vs:Array Value}{sl:Array (Option Value)}(e:h.get? a=some ⟨.ref C,dx,.fields vs,sl⟩):az P w H h a (dX a C dx) :=
 ⟨⟨vs,sl,e⟩,⟨_,e⟩,fun h1 h2 ⟨T5,mC,e1⟩ k=>⟨T5,mC,k _ e1⟩⟩
theorem JV{P:Program}{w:World}{H:Hp}{h:Heap}{a C:Addr}{dx:Option Addr}(x:az P w H h a (dX a C dx)):∃vs sl,h.get? a=some ⟨.ref C,dx,.fields vs,sl⟩:=x.1
theorem lO.more{fs:List Addr}{a t:Addr}{T:Option Addr}{h h1 h2:Heap}(x:lO fs a T h h1)(n:h.get? t=none)(y:lO [] a (some t) h1 h2):lO fs a T h h2 where
 keep:=fun b o na nb nf e=>y.keep b o na (fun z=>by cases z;rw[n] at e;cases e) (by simp) (x.keep b o na nb nf e)
 slot:=fun b o na nb e=>by
  obtain⟨sl,e'⟩:=x.slot b o na nb e;exact⟨sl,y.keep b _ na (fun z=>by cases z;rw[n] at e;cases e) (by simp) e'⟩
section
variable{X:Cx}{pins cq:aq}{σ:St}{H:Hp}{s:Shared}{E:aH}
theorem Inv.wj(I:Inv X pins σ H s):Inv {X with pn:=X.pn++pins,xe:=E} [] σ H s :=
 ⟨⟨I.ok.mod,I.ok.kind,I.ok.glob,I.ok.blt,I.ok.above,I.ok.inj,I.ok.has,I.ok.pH,I.ok.hd,I.ok.frames,I.ok.qv,I.ok.uw,I.ok.bs,I.ok.j7,I.ok.hJ,I.ok.iM,I.ok.cR,I.ok.kJ⟩,I.os,I.bare,I.base,I.loc,I.cell,I.free,I.bx,fun p hp=>I.pin p (by simpa using hp),I.aD,I.len⟩
theorem Inv.gm(I:Inv {X with pn:=X.pn++pins,xe:=E} cq σ H s):Inv X pins σ H s :=
 ⟨⟨I.ok.mod,I.ok.kind,I.ok.glob,I.ok.blt,I.ok.above,I.ok.inj,I.ok.has,I.ok.pH,I.ok.hd,I.ok.frames,I.ok.qv,I.ok.uw,I.ok.bs,I.ok.j7,I.ok.hJ,I.ok.iM,I.ok.cR,I.ok.kJ⟩,I.os,I.bare,I.base,I.loc,I.cell,I.free,I.bx,fun p hp=>I.pin p (q1C _ hp),I.aD,I.len⟩
theorem Inv.toSub{A:Around}(I:Inv X pins σ H s)(e:A.frames=X.A.frames):Inv {X with A:=A,calm:=false,xe:=E} pins σ H s :=
 ⟨⟨I.ok.mod,I.ok.kind,I.ok.glob,I.ok.blt,I.ok.above,I.ok.inj,I.ok.has,I.ok.pH,(fun z=>by cases z),e.trans I.ok.frames,I.ok.qv,I.ok.uw,I.ok.bs,I.ok.j7,I.ok.hJ,I.ok.iM,I.ok.cR,I.ok.kJ⟩,I.os,I.bare,I.base,I.loc,I.cell,I.free,I.bx,I.pin,I.aD,I.len⟩
theorem Inv.wk{A:Around}(I:Inv {X with A:=A,calm:=false,xe:=E} pins σ H s)(k:X.Ok):Inv X pins σ H s :=
 ⟨k,I.os,I.bare,I.base,I.loc,I.cell,I.free,I.bx,I.pin,I.aD,I.len⟩
theorem Inv.blank(I:Inv X pins σ H s):Inv X pins (q0h σ.length none) H s :=
 ⟨I.ok,I.os,I.bare,I.base,let⟨m,hn,_⟩:=I.loc;⟨m,hn,fun i x v _ e _=>by rw[q2K] at e;split at e<;>cases e⟩,I.cell,I.free,I.bx,I.pin,I.aD,by rw[q1N];exact I.len⟩
theorem Inv.locs{σ':St}{h':Heap}{m':Str->Option Value}{t':Nat}(I:Inv X pins σ H s)(hn:h'.Ns X.env.locals m')(hs:q2N X.env.locals s.heap h')
  (hl:∀(i:Nat)(x:Str)(v:V),X.N[i]?=some x->σ'[i]?=some (some v)->sJ X.env.scope x->∃u,RelV v u/\Look X.env h' m' x u) (len:σ'.length=X.N.length):Inv X pins σ' H {s with heap:=h',toks:=t'}:=by
 obtain⟨m,⟨oL,_,_,nK,_⟩,_⟩:=id I.loc;have ne:∀b o,X.s₀.heap.get? b=some o->b≠X.env.locals:=fun b o e=>q0e (q0l (My e) I.ok.above);refine⟨I.ok,I.os,I.bare,⟨fun b o e n hb hx=>(hs.2 b (ne b o e)).trans (I.base.keep b o e n hb hx),fun b o e n hb hx=>?_,I.base.free,fun b o e hx=>?_,I.base.cC,I.base.cP,I.base.dq⟩,⟨m',hn,hl⟩,fun y c e=>?_,I.free,I.bx,fun p hp=>?_,fun b ob e=>?_,len⟩
 ·obtain⟨sl,e1⟩:=I.base.slot b o e n hb hx
  exact⟨sl,(hs.2 b (ne b o e)).trans e1⟩
 ·obtain⟨o',e1⟩:=I.base.there b o e hx
  exact⟨o',(hs.2 b (ne b o e)).trans e1⟩
 ·obtain⟨w',z⟩:=I.cell y c e
  exact⟨w',z.sameBut hs (I.nJ y c e)⟩
 ·obtain⟨e,n,nl,nf,d⟩:=I.pin p hp
  exact⟨(hs.2 p.1 nl).trans e,n,nl,nf,d⟩
 ·refine(I.aD b ob e).dm (fun c w' hc q=>(hs.2 c ?_).trans q) (fun _ q=>q) fun _ _ q=>q
  rintro rfl;rcases hc with rfl|hc
  ·rw[I.free] at e;cases e
  ·rw[I.free] at hc;cases hc
theorem name_goes{M:Model}{A:Around}{E:aH}{Q:Unit->Shared->Prop}{i:Nat}{n:Str}{pos:Pos}(I:Inv X pins σ H s)(nd:X.N.Nodup)(hi:X.N[i]?=some n)(hk:X.env.scope.names.lookup n=some .local)
  (h:∀s',Inv X pins (σ.set i none) H s'->Q () s'):wpAny M A (do bindName X.env n .none;unbindBehindTheSuite X.env n pos) Q E s:=by
 refine n_ (wpAny_bindName (xn (v:=.non) (u:=.none) I nd hi (.inl hk) rfl (fun s1 I1=>?_) (.inr hk)));have hp:(X.env.scope.kind==.class||(X.env.scope.kind==.module&&X.env.locals != X.env.globals))=false:=by rw[I.ok.kind];rfl
 have hl:X.env.kindOf n=some .local:=hk;unfold unbindBehindTheSuite;refine q3W ?_;unfold unbindName;refine n_ (wpAny_point (n_ ?_));unfold deleteName;simp only[hl,hp];rw[q0a (by decide)];obtain⟨m,hn,hm⟩:=id I1.loc;have hlen:i<σ.length:=by rw[I.len];exact(sR.mp hi).1
 obtain⟨u0,r0,l0⟩:=hm i n .non hi (by rw[q0Q hlen]) (.inl hk)
 have C2:(m n).isSome=true:=by
  rcases l0 with⟨_,e⟩|⟨k,_⟩
  ·rw[e];rfl
  ·rcases k with k|k<;>(rw[hl] at k;cases k)
 refine n_ (wpAny_nsDel_keeps hn fun h2 v CL dJ=>?_);rw[C2];simp only[q2x,q2Y,q0G,q1X];refine uX (wpAny_point (h _ (I1.locs (t':=s1.toks) CL dJ (fun j y w e1 e2 e3=>?_) (by rw[q1H];exact I.len))));have nj:j≠i:=fun z=>by rw[z,q0Q hlen] at e2;cases e2
 rw[q0V (q1A nj)] at e2;obtain⟨u,r,l⟩:=hm j y w e1 (by rw[q0V (q1A nj)];exact e2) e3;refine⟨u,r,?_⟩;rcases l with⟨k,e⟩|⟨k,c,e,z⟩
 ·refine .inl ⟨k,?_⟩
  have:y≠n:=fun e=>nj (Ag nd e1 (e▸hi));simp[this,e]
 ·exact .inr ⟨k,c,e,z.sameBut dJ (I.nJ y c e)⟩
end
section
variable{X:Cx}{body gn:List Stmt}{b0:Stmt}{x n:Str}{p1 p2 pos:Pos}{L:Addr}{i:Nat}{tb:XK->TS}{th:TS}
def T6(K:xA)(L:Addr)(i k:Nat)(th:TS)(D:Ends):XK:=fun C dx H'=>∃c,C=.ref c/\q3J K C (.ref L)=some true ∧
 ∀a,H' a=none->th {nx:=fun σ H=>D.nx (σ.set i none) H,rt:=fun _ _=>False} ((q0h k none).set i (some (.ref a))) (upd H' a (dX a c dx))
def C3(K:xA)(L:Addr)(i:Nat)(tb:XK->TS)(th:TS):TS:=fun D σ H=>tb (T6 K L i σ.length th D) D σ H
theorem T7(gP:X.stack=X.env::X.outer)(ki:X.env.frame=some X.env.locals)(nd:X.N.Nodup)(hi:X.N[i]?=some n)(hk:X.env.scope.names.lookup n=some .local)(hg:Gl X x)(hm:X.mg x=some (.ref L))(cV:bA x)
  (hb:∀pn xe E,mG (eE X.prog X.w) {X with pn:=pn,xe:=xe} E->bz {X with pn:=pn,xe:=xe} body (tb E)) (hs:∀A xe,bz {X with A:=A,calm:=false,xe:=xe} (b0::gn) th) :
  JS X (.Try body [.ExceptHandler (some (.Name x p1)) (some n) (b0::gn) p2] [] [] pos) (C3 X.K L i tb th):=by
 refine⟨?_⟩;intro pins s σ H D I h;refine wpAny_Try_except ?_;refine q1E (hb (X.pn++pins) (fun e s1=>wpAny (model X.prog X.w) X.A (noteFrame e X.env) (fun _ s2=>wpAny (model X.prog X.w) X.A (setFlight e none) (fun _ s3=>wpAny (model X.prog X.w) X.A (handleBy e X.env [.ExceptHandler (some (.Name x p1)) (some n) (b0::gn) p2]) (SP X pins D) X.xe s3) X.xe s2) X.xe s1) _ ?_ [] s σ H D I.wj h) (fun f s1 hq=>?_) (fun e s1 z=>z)
 ·intro cq σ' H1 s1 e s' I1 hx
  obtain⟨a,C,dx,T,H',rfl,os,ba,u,ok,F,ha,hT,a0,t0,c,ec,em,q⟩:=hx;cases ec
  have hA:X.A.frames=some (X.env::X.outer):=by rw[<-gP];exact I.ok.frames
  have iK:s1.heap.FunFrames X.base (X.env::X.outer):=by rw[<-gP];exact I1.stack
  have JX:∀b∈d5 (X.env::X.outer),H1 b=none:=by rw[<-gP];exact I1.dI
  have u:Un (d5 (X.env::X.outer)) [] H1 H' s1.heap s'.heap:=by rw[<-gP];exact u
  have fk:s'.heap.FunFrames X.base (X.env::X.outer):=C1 (fun b hb o e=>u.any e (JX b hb) (by simp)) iK
  have fr:∀b∈d5 (X.env::X.outer),H' b=none:=fun b hb=>by
   obtain⟨_,o,ho,_⟩:=iK.mem hb;exact u.free b o ho (JX b hb) (by simp)
  have na:∀o,s1.heap.get? a=some o->H1 a=none->False:=fun o e _=>by rw[a0] at e;cases e
  have inv:∀h,lO (d5 (X.env::X.outer)) a (some T) s'.heap h->(∃o,h.get? a=some o)->Inv X pins σ' H' {s' with heap:=h}:=fun h x e =>
   Inv.gm (I1.jf (s':={s' with heap:=h}) os (by show Un (d5 X.stack) _ _ _ _ _;rw[gP];exact u.r9 na (fun t e=>by cases e;exact t0) e x) (ok.r9 ha (fun t e=>by cases e;exact hT) fr x) ba (fun b z=>absurd z (by simp)))
  refine JQ hA fk ki F fun h4 T4 x1 x2 x3=>?_;refine C0 x1 fun h5 y1 y2=>?_;have e5:=x3.more x2 y2;obtain⟨vs5,sl5,JY,_⟩:=id y1;have J5:=inv h5 e5 ⟨_,JY⟩;refine wpAny_handleBy_cons (codeAny_handlers_test (xp (X:={X with A:=X.A.mark (some (.ref a)),calm:=false,xe:=fun _ _=>False}) (J5.toSub rfl) hg hm ?_ cV)) (by intro q;cases q);have LT:PySem.W.Looks (model X.prog X.w) h5 (typeOf (.ref a)) (.ref C):=(PySem.W.Looks.ld JY).andThen .now;refine PySem.W.Looks.here (PySem.W.exm_one J5.d6 LT em) ?_;show codeAny _ _ _ _ _;refine codeAny_handlers_suite_as ?_;refine C0 y1 fun h6 z1 z2=>?_;have e6:=e5.more x2 z2
  obtain⟨vs6,sl6,JZ,_⟩:=id z1;have T8:=ok.r9 ha (fun t e=>by cases e;exact hT) fr e6;have u6:=u.r9 na (fun t e=>by cases e;exact t0) ⟨_,JZ⟩ e6;have ne:∀b y,H' b=some y->b≠a:=fun b y e z=>by rw[z,ha] at e;cases e
  have J6:Inv X pins (q0h σ.length none) (upd H' a (dX a C dx)) {s' with heap:=h6}:=by
   have:=Inv.blank (Inv.gm (I1.jf (s':={s' with heap:=h6}) (H':=upd H' a (dX a C dx)) os (by
    show Un (d5 X.stack) _ _ _ _ _;rw[gP]
    exact⟨u6.keep,u6.slot,fun b o e n nx=>by rw[av (fun z=>by rw[z,a0] at e;cases e)];exact u6.free b o e n nx,u6.there,fun b xs e=>by rw[av (ne _ _ (u6.cC b xs e))];exact u6.cC b xs e,fun b o xs e=>by rw[av (ne _ _ (u6.cP b o xs e))];exact u6.cP b o xs e,fun b ps e=>by obtain⟨more,e'⟩:=u6.dq b ps e;exact⟨more,by rw[av (ne _ _ e')];exact e'⟩⟩)
    (fun b o e=>by
     by_cases c:b=a
     ·subst c;rw[a_] at e;cases e;exact T3 JZ
     ·rw[av c] at e
      exact(T8 b o e).dm (fun _ _ _ z=>z) (fun c z=>by rw[av (ne _ _ z)];exact z) fun c xs z=>by rw[av (ne _ _ z)];exact z) ba (fun b z=>absurd z (by simp))))
   rwa [show σ'.length=σ.length from I1.len.trans I.len.symm] at this
  have hl:i<(q0h σ.length (none:Option V)).length:=by rw[q1N,I.len];exact(sR.mp hi).1
  refine xn (X:=X) J6 nd hi (.inl hk) (v:=.ref a) rfl (fun s7 I7=>?_) (.inr hk);refine q1E (hs (X.A.mark (some (.ref a))) _ pins s7 _ _ _ (I7.toSub rfl) (q a ha)) (fun f s8 hf=>?_) (fun e s8 z=>z)
  cases f with
  |next =>
   obtain⟨σ9,H9,I9,q9⟩:=hf;exact name_goes (I9.wk I.ok) nd hi hk fun s9 J9=>⟨_,_,J9,q9⟩
  |brk=>obtain⟨_,_,_,q9⟩:=hf;exact q1e q9
  |cont=>obtain⟨_,_,_,q9⟩:=hf;exact q1e q9
  |ret v=>obtain⟨_,_,_,_,_,q9⟩:=hf;exact q1e q9
 ·cases f with
  |next =>
   obtain⟨σ',H',I',q⟩:=hq;exact q33 ⟨σ',H',I'.gm,q⟩
  |brk=>obtain⟨σ',H',I',q⟩:=hq;exact⟨σ',H',I'.gm,q⟩
  |cont=>obtain⟨σ',H',I',q⟩:=hq;exact⟨σ',H',I'.gm,q⟩
  |ret u=>obtain⟨v,σ',H',I',r,q⟩:=hq;exact⟨v,σ',H',I'.gm,r,q⟩
end
section
variable{X:Cx}{pins:aq}{σ:St}{H:Hp}{s:Shared}{e:Expr}{ta:TE}{pos:Pos}
theorem T9{a C4:Addr}{dx:Option Addr}{c:Value}{b:Bool}{A:Around}{E':aH}{Q:aH}(I:Inv X pins σ H s)(ea:H a=some (dX a C4 dx))(cl:bo X.K C4)(hd:∀d,dx=some d->∃fs,H d=some (.xd fs))
  (e:q0q X.K (.ref C4) c=some b) (h:∀tk,Q (.bool b) {s with toks:=tk}):wpAny (model X.prog X.w) A (call (.builtin "isinstance") [.ref a,c]) Q E' s:=by
 obtain⟨vs,sl,ht⟩:=JV (I.aD a _ ea);refine q1t (Qq cl) I.d6 ?_ e (fun z=>nomatch z) h
 cases dx with
 |none=>exact⟨_,none,ht,rfl,rfl,trivial⟩
 |some d =>
  obtain⟨fs,ed⟩:=hd d rfl;obtain⟨mA,hn,_⟩:=(show ∃mA,s.heap.Ns1 d mA/\∀g,fq (fs.lookup g) (mA g) from I.aD d _ ed);obtain⟨od,ho,_⟩:=AH hn;exact⟨_,some od,ht,rfl,rfl,ho⟩
theorem T_:gb X (.builtin "isinstance") (fun xs H Q=>∃a C dx y c b,xs=[.ref a,y]/\oh y=some c/\H a=some (dX a C dx)/\bo X.K C/\(∀d,dx=some d->∃fs,H d=some (.xd fs))/\q0q X.K (.ref C) c=some b/\Q (.bl b) H):=by
 intro pins s σ H xs us Q I rv h;obtain⟨a,C,dx,y,c,b,rfl,hc,ea,cl,hd,e,q⟩:=h;obtain⟨u,w',rfl,rx,ry⟩:=rv.two;cases rx
 rw[HF ry hc];exact T9 I ea cl hd e fun tk=>⟨.bl b,H,I.tok tk,rfl,q⟩
def J0(K:xA)(ta:TE)(f:Str):TE:=fun σ H Q=>ta σ H fun x H1=>∃a C d fs v,x=.ref a/\H1 a=some (dX a C (some d))/\bo K C/\uN K C f/\H1 d=some (.xd fs)/\fs.lookup f=some v/\Q v H1
theorem Ua{fn:Str}(he:JE X e ta)(hb:attributeBase e fn X.env (eval e X.env)=eval e X.env):JE X (.Attribute e fn pos) (J0 X.K ta fn):=by
 refine⟨?_⟩;intro pins s σ H Q I h;refine OZ hb (aW (he pins s σ H _ I h) fun u s1 ⟨x,H1,I1,rx,a,C,d,fs,v,ex,ea,c,n,ed,l,q⟩=>?_);subst ex;obtain rfl:u=q0C a:=rx;obtain⟨vs,sl,ht⟩:=JV (I1.aD a _ ea);obtain⟨mA,hn,hr⟩:=(show ∃mA,s1.heap.Ns1 d mA/\∀g,fq (fs.lookup g) (mA g) from I1.aD d _ ed);obtain⟨od,ho,hl⟩:=AH hn;obtain⟨cd,eK,hm,eR⟩:=c.cd;have Ub:q7W s1.heap a ⟨.ref C,some d,.fields vs,sl⟩ C (some od):=⟨ht,rfl,rfl,ho⟩;have r:=hr fn;rw[l] at r;obtain⟨u,eu,ru⟩:=r.some_of;refine Qf I1.d6 Ub c.ga c.gh c.base (PySem.W.findObj_own (by rw[q6H,eK];simpa using eR) n rfl (by rw[hl,eu])) (OX ru) ?_;exact⟨v,H1,I1.tok _,ru,q⟩
end
theorem gg.wm{P:Program}{w:World}{K:xA}{mg:Str->Option Value}{base:Heap}{x qual:Str}{st:Stmt}{f:Addr}{fd:FuncData}{N ps:List Str}{k:Nat}{sp:Sp}(F:gg K x qual st f fd)(S:kQ N ps (bZ st))(len:∀vs H Q E,sp vs H Q E->vs.length=ps.length)
  (dP:∀(aF:Value)(A:Around)(outer:List Env)(s:Shared)(H:Hp)(vs:List V)(Q:VK)(E:XK),aS k (A.deeper (envOfC qual (bZ st) s.heap.objs.size f aF))->sp vs H Q E →
   ∃t,bz (bq (eE P w) P w K mg base N qual (bZ st) f aF A outer s H E) (cx st) t/\t {nx:=fun _ H'=>Q .non H',rt:=Q} (start N vs) H):bP P w K mg base (eE P w) (k+1) f fd ps sp:=by
 obtain⟨oc,od,kV,doc,pm,an,aF,ct,mH,rfl,lk,eK⟩:=F.ex;refine AM lk eK S len fun A outer s H vs Q E hr h=>?_;obtain⟨t,g,q⟩:=dP aF A outer s H vs Q E hr h;exact⟨t,g,q⟩
variable[aB]
structure Kp(H H':Hp):Prop where
 keep:∀a o,H a=some o->a∉aB.ad->H' a=some o
 tab:aB.ok H'
theorem Kp.none{H H':Hp}(x:Kp H H'){a:Addr}(h:H' a=none):H a=none:=by
 cases e:H a with
 |none=>rfl
 |some o =>
  by_cases c:a∈aB.ad
  ·obtain⟨ps,q⟩:=aB.tb x.tab c
   rw[h] at q;cases q
  ·rw[x.keep a o e c] at h;cases h
abbrev Uc(Kf:xA):List V->Hp->VK->Prop:=fun xs H Q=>∃p ys,xs=[.ref p]/\((aZ Kf H p ys/\∀l,H l=none->Q (.ref l) (upd H l (.tup ys)))\/(bw Kf H p ys/\Q (.ref p) H))
end L2
namespace LJ
open PySem L2
structure ExcAt(H:Hp)(a C:Addr)(dx:Option Addr):Prop where
 ob:H a=some (dX a C dx)
 dd:∀d,dx=some d->∃fs,H d=some (.xd fs)
theorem ExcAt.same{H H':Hp}{a C:Addr}{dx:Option Addr}(x:ExcAt H a C dx)(s:ar H H'):ExcAt H' a C dx:=⟨s _ _ x.ob,fun d e=>let⟨fs,h⟩:=x.dd d e;⟨fs,s _ _ h⟩⟩
structure C5(K:xA)(L:Addr)(Cs:List Addr):Prop where
 len:Cs.length=13
 each:∀(j:Nat)(C:Addr),Cs[j]?=some C->bo K C/\q0q K (.ref C) (.ref L)=some true/\q0q K (.ref C) (.type "ValueError")=some true/\∀(i:Nat)(C':Addr),Cs[i]?=some C'->q0q K (.ref C) (.ref C')=some (decide (i=j))
 above:bo K L/\q0q K (.ref L) (.ref L)=some true/\q0q K (.ref L) (.type "ValueError")=some true/\∀(i:Nat)(C':Addr),Cs[i]?=some C'->q0q K (.ref L) (.ref C')=some false
 jx:∀(j:Nat)(C:Addr),Cs[j]?=some C->uN K C "place"
noncomputable def cK:List Str:=["way", "join", "step", "house", "web", "price", "many", "closed", "free", "nothing", "number", "text", "line"]
theorem lP{H:Hp}{a:Addr}{o:HO}(h:H a=none):ar H (upd H a o):=fun b u e=>by rw[av (bH e h)];exact e
noncomputable def names13:List Str:=["NoWay", "NoJoin", "NoStep", "NoHouse", "NoWeb", "NoPrice", "TooMany", "Closed", "Free", "Nothing", "NoNumber", "NoText", "NoLine"]
noncomputable def dY:List Str:=["way", "join", "step", "house", "web", "price", "many", "closed", "free", "nothing", "number", "text"]
structure C6(mg:Str->Option Value)(L:Addr)(Cs:List Addr):Prop where
 i5:mg "isinstance" = none
 VE:mg "ValueError" = none
 Ud:mg "LotError" = some (.ref L)
 cls:∀(j:Nat)(x:Str),names13[j]?=some x->∃C,Cs[j]?=some C/\mg x=some (.ref C)
theorem Ue:bootBuiltins "ValueError" = some (.type "ValueError"):=by decide +kernel
section
variable{X:Cx}{a C:Addr}{dx:Option Addr}
def ir(a C:Addr)(dx:Option Addr)(v:Bool):TE:=fun σ H Q=>σ[0]?=some (some (.ref a))/\ExcAt H a C dx/\Q (.bl v) H
def oH(a C:Addr)(dx:Option Addr)(vs:List Bool):TA:=fun σ H Q=>σ[0]?=some (some (.ref a))/\ExcAt H a C dx/\Q (vs.map V.bl) H
def r_(a C:Addr)(dx:Option Addr)(vs:List Bool):TE:=fun σ H Q=>σ[0]?=some (some (.ref a))/\ExcAt H a C dx/\∀(l:Addr)(H':Hp),ar H H'->H' l=some (.lst (vs.map V.bl))->Q (.ref l) H'
def lQ(a C:Addr)(dx:Option Addr)(us vs:List Bool):TE:=fun σ H Q=>∃l:Addr,σ[0]?=some (some (.ref a))/\σ[1]?=some (some (.ref l))/\H l=some (.lst (us.map V.bl))/\ExcAt H a C dx/\∀(l':Addr)(H':Hp),ar H H'->H' l'=some (.lst ((us++vs).map V.bl))->Q (.ref l') H'
theorem i7{y z:Str}{p q r pos:Pos}{cv:V}{c:Value}{v:Bool}(h0:JE X (.Name y q) (cS 0))(hz:JE X (.Name z r) (tC cv))(hc:oh cv=some c)(cl:bo X.K C)(kt:q0q X.K (.ref C) c=some v)(hg:Gl X "isinstance")(hm:X.mg "isinstance" = none):
  JE X (.Call (.Name "isinstance" p) [.Name y q,.Name z r] [] pos) (ir a C dx v) :=
 (uR T_ hg hm q37 (fY h0 (fY hz aI)) (by decide) (by decide) rfl rfl).weak fun σ H Q ⟨e0,e,q⟩=>⟨_,e0,a,C,dx,_,_,_,rfl,hc,e.ob,cl,e.dd,kt,q⟩
theorem wo:JA X [] (oH a C dx []):=aI.weak fun σ H Q ⟨_,_,q⟩=>q
theorem jT{f:Expr}{as es:List Expr}{k:List Keyword}{p:Pos}{v:Bool}{vs:List Bool}(h:JE X (.Call f as k p) (ir a C dx v))(r:JA X es (oH a C dx vs)):JA X (.Call f as k p::es) (oH a C dx (v::vs)) :=
 (gy h r).weak fun σ H Q ⟨e0,e,q⟩=>⟨e0,e,e0,e,q⟩
theorem wq{es:List Expr}{pos:Pos}{vs:List Bool}(h:JA X es (oH a C dx vs))(hl:vs.length<=20):JE X (.List es pos) (r_ a C dx vs) :=
 (mF h).weak fun σ H Q ⟨e0,e,q⟩=>⟨e0,e,(by rw[qU];exact hZ hl),fun l hl=>q l _ (lP hl) a_⟩
theorem yz{n:Str}{q p pos:Pos}{es:List Expr}{us vs:List Bool}(h1:JE X (.Name n q) (cS 1))(h:JE X (.List es p) (r_ a C dx vs))(hl:us.length+vs.length<=20):JE X (.BinOp (.Name n q) .Add (.List es p) pos) (lQ a C dx us vs) :=
 (qA xy h1 h).weak fun σ H Q ⟨l,e0,e1,gU,e,q⟩=>⟨_,e1,e0,e,fun m H1 s hm=>⟨l,m,_,_,rfl,rfl,s _ _ gU,hm,(by rw[qU,qU];exact hZ hl),fun p hp=>q p _ (s.trans (lP hp)) (by rw[q0w];exact a_)⟩⟩
theorem Ug{es:List Expr}{pos:Pos}(ss:List Str)(h:strsOf es=some ss)(hl:ss.length<=20):JE X (.List es pos) (fun _ H Q=>∀p,H p=none->Q (.ref p) (upd H p (.lst (ss.map V.str)))):=QM h (hZ hl)
theorem Uh{e:Expr}{ta:TE}{fn:Str}{pos:Pos}(he:JE X e ta)(hb:attributeBase e fn X.env (eval e X.env)=eval e X.env):JE X (.Attribute e fn pos) (J0 X.K ta fn):=⟨Ua he hb⟩
end
noncomputable def dZ(b:Nat->Bool):List Bool:=[b 0,b 1,b 2,b 3,b 4,b 5,b 6,b 7,b 8,b 9,b 10,b 11,b 12]
noncomputable def cnt(us:List Bool):Nat:=(us.map V.bl).countP fun z=>gf z (.bl true)
theorem C7:∀us:List Bool,(us.map V.bl).all ka=true
 |[]=>rfl
 |_::us=>by rw[q0p,q4K,C7 us];rfl
theorem Ui{j:Nat}(h:j<4):(dY.map V.str)[j]?=some (.str (cK.getD j "")):=by
 rcases j with _|_|_|_|j
 ·rfl
 ·rfl
 ·rfl
 ·rfl
 ·omega
theorem Uj{j:Nat}(h:j<13):(dY.map V.str++[V.str "line"])[j]?=some (.str (cK.getD j "")):=by
 rcases j with _|_|_|_|_|_|_|_|_|_|_|_|_|j
 ·rfl
 ·rfl
 ·rfl
 ·rfl
 ·rfl
 ·rfl
 ·rfl
 ·rfl
 ·rfl
 ·rfl
 ·rfl
 ·rfl
 ·rfl
 ·omega
noncomputable def mY(j:Nat)(n:Int):List V:=if j<4 then[.str (cK.getD j ""),.int n] else[.str (cK.getD j "")]
def lR(Cs:List Addr):Sp:=fun vs H Q _=>∃(j:Nat)(n:Int)(a C:Addr)(dx:Option Addr),vs=[.ref a]/\j<13/\Cs[j]?=some C/\ExcAt H a C dx/\(j<4->∃d,dx=some d/\H d=some (.xd [("place",.int n)]))/\∀(l:Addr)(H':Hp),ar H H'->H l=none->H' l=some (.lst (mY j n))->Q (.ref l) H'
theorem Uk:∀j:Nat,j<13->cnt (dZ fun i=>decide (i=j))=1:=by decide
theorem J7{b:Nat->Bool}{i:Nat}{z:V}(h:((dZ b).map V.bl)[i]?=some z):z=.bl (b i):=by
 unfold dZ at h;rcases i with _|_|_|_|_|_|_|_|_|_|_|_|_|i<;>simp at h<;>exact h.symm
end LJ
namespace LJ
open PySem L2 PySem.Spec PySem.W PyProof.Rows
def wt(C:Addr):Sp:=fun vs H Q _=>∃(a:Addr)(n:Int),vs=[.ref a,.int n]/\H a=some (bW a C none)/\∀d,H d=none->Q .non (upd (upd H d (.xd [("place",.int n)])) a (bW a C (some d)))
def C8(c:Nat)(n:Int)(dx:Option Addr)(H:Hp):Prop:=(c<4/\∃d,dx=some d/\H d=some (.xd [("place",.int n)]))\/(4<=c/\dx=none)
abbrev gW:=Nat->Int->Prop
section
variable[aB]
def Kept(H0:Hp):List Addr->List (Option OV)->Hp->Prop:=fun ad mu H=>∀b o,H0 b=some o->b∉aB.ad->H b=some o/\¬ Lv ad mu b
@[reducible] noncomputable def J8 (ok:gW) (H0:Hp):bL:=⟨ok,Kept H0,fun E k b o e n=>by
 obtain⟨h1,h2⟩:=k b o e n;refine⟨E.keep b o h1 h2 n,fun l=>?_⟩;rcases E.bV b l with z|z
 ·exact h2 z
 ·rw[h1] at z;cases z⟩
def J_(Cs:List Addr)(G:gW->GD)(n:Nat):Sp:=fun vs H Q E=>∃ok:gW,lC (G ok) n vs H Q E/\∀c p,ok c p->∀C dx H',Cs[c]?=some C->Kp H H'->C8 c p dx H'->E (.ref C) dx H'
structure f_[bL](Cs:List Addr)(E:XK)(H0:Hp):Prop where
 go:∀{c p C dx ad mu H'},bL.ok c p->bL.kp ad mu H'->aB.ok H'->Cs[c]?=some C->C8 c p dx H'->E (.ref C) dx H'
 fr:∀{ad mu H' a},bL.kp ad mu H'->aB.ok H'->H' a=none->H0 a=none
structure Ka(P:Program)(w:World)(K:xA)(mg:Str->Option Value)(base:Heap)(x:Str)(C:Addr):Prop where
 m:mg x=some (.ref C)
 ex:∃f fd,vi K C (some (.ref f))/\q6W K (.ref f)=true/\bP P w K mg base fu 1 f fd ["self", "place"] (wt C)/\Binds K fd ["self", "place"] []
def tP(ok:gW)(c:Nat)(fa:WA):WS:=fun _ δ=>fa δ fun xs _=>∃n,xs=[.p (.int n)]/\ok c n
section
variable{P:Program}{w:World}{K:xA}{mg:Str->Option Value}{base:Heap}{N:List Str}{qual:Str}{scope:Scope}{f:Addr}{cd:Value}{A:Around}{outer:List Env}{s:Shared}{H:Hp}{E:XK}{Cs:List Addr}{c:Nat}{C:Addr}{x:Str}{e:Expr}{fe:WA}{p p2 pos:Pos}
theorem Ul[bL](I:Ka P w K mg base x C)(R:f_ Cs E H)(hC:Cs[c]?=some C)(h4:c<4)(hr:aS 2 (A.deeper (envOfC qual scope s.heap.objs.size f cd)))(he:JA (bq (eE P w) P w K mg base N qual scope f cd A outer s H E) [e] (bK fe))
  (hg:Gl (bq (eE P w) P w K mg base N qual scope f cd A outer s H E) x:=by rfl) (cV:bA x:=by decide)
  (hs:starEach [e] (bq (eE P w) P w K mg base N qual scope f cd A outer s H E).env=(false,eval e (bq (eE P w) P w K mg base N qual scope f cd A outer s H E).env)::starEach [] (bq (eE P w) P w K mg base N qual scope f cd A outer s H E).env:=by rfl) (cW:(backTo p2 (starEach [] (bq (eE P w) P w K mg base N qual scope f cd A outer s H E).env)).any (·.1)=false:=by rfl) :
  JS (bq (eE P w) P w K mg base N qual scope f cd A outer s H E) (.Raise (some (.Call (.Name x p) [e] [] p2)) none pos) (b9 (tP bL.ok c fe)):=by
 obtain⟨hm,fi,fdi,M,iN,FI,bI⟩:=I;refine JS.weak ⟨T2 rfl (Qy M iN FI hr bI sS hg hm he cV hs cW)⟩ fun D σ H1 ⟨F,ad,δ,K1,S,q,k⟩=>?_;refine⟨F,ad,δ,fun xs _=>∃n,xs=[.p (.int n)]/\bL.ok c n,S,q,fun xs δ1 h1 vs F1 aN H2 E1 S1 V1=>?_⟩;obtain⟨n,rfl,o⟩:=h1;obtain⟨v,r,rfl,W1,W2⟩:=V1;have W2:r=[]:=W2;subst W2;have W1:v=.int n:=W1;subst W1;refine⟨by show 1<=sizeLine;decide,fun a ha=>⟨a,n,rfl,a_,fun d hd=>⟨rfl,a,C,some d,_,rfl,a_,M,?_,?_⟩⟩⟩
 ·exact R.fr (k.ext E1).kp S1.tab ha
 ·have aw:d≠a:=fun z=>by rw[z,a_] at hd;cases hd
  have ur:H2 d=none:=by rw[av aw] at hd;exact hd
  have eq:iq (upd (upd (upd H2 a (bW a C none)) d (.xd [("place",.int n)])) a (bW a C (some d))) a=upd H2 d (.xd [("place",.int n)]):=by
   funext b;unfold iq;split
   ·rename_i z;subst z;rw[av (fun z=>aw z.symm)];exact ha.symm
   ·rename_i z
    rw[av z]
    by_cases y:b=d
    ·subst y;rw[a_,a_]
    ·rw[av y,av y,av z]
  rw[eq];have sm:ar H2 (upd H2 d (.xd [("place",.int n)])):=b7 ur;exact R.go o (bL.st (Ext.al S1 sm) (k.ext E1).kp) (aB.same S1.tab sm) hC (.inl ⟨h4,d,rfl,a_⟩)
structure Fy(V:Ev)(Cs:List Addr)(k:Nat)(x:Str)(ps:List Str)(n:Nat)(G:gW->GD):Prop where
 ex:∃f fd,bP V.P V.w V.K V.mg V.base (eE V.P V.w) k f fd ps (J_ Cs G n)/\V.mg x=some (.ref f)/\q1u V.K (.ref f)=true/\Binds V.K fd ps []
section
variable{X:Cx}{j k n:Nat}{ps:List Str}{G:gW->GD}{es:List Expr}{fa:WA}
theorem C9[bL](R:f_ Cs E H){σ:L2.St}{H1:Hp}{Q:VK}{F:Hp}{ad:List Addr}{δ:au}{K1:DV->au->Prop}(S:SR F ad δ σ H1)(q:aj n (G bL.ok) fa δ K1)(kp:bL.kp ad δ.mu H1)(kk:∀x δ',K1 x δ'->∀v F' aw H',Ext F ad δ.mu H1 F' aw δ'.mu H'->SR F' aw δ' σ H'->fD F' aw x v->Q v H'):qF (J_ Cs G n) [] E (bK fa) σ H1 Q :=
 ⟨F,ad,δ,_,S,q,fun xs δ1 h1 vs F1 aN H2 E1 S1 V1=>⟨bL.ok,II kk h1 E1 S1 V1,fun c p o C dx H' hC z pl=>R.go o (bL.st (Ext.yw S1 z.keep z.tab) (bL.st E1 kp)) z.tab hC pl⟩⟩
theorem Um[bL](Fy:Fy ⟨X.prog,X.w,X.K,X.mg,X.base⟩ Cs j x ps n G)(R:f_ Cs E H)(hp:mG (eE X.prog X.w) X E)(hr:aS k X.A)(ha:JA X (e::es) (bK fa))(hj:q6Y j k=true:=by rfl)(hg:Gl X x:=by rfl)(cV:bA x:=by decide)
  (hs:cQ X e es:=by rfl) (cW:dH X p2 es:=by rfl) (hw:swapsWith (.Call (.Name x p) (e::es) [] p2) none pos.line X.env=pure false:=by rfl) :
  JS X (.Expr (.Call (.Name x p) (e::es) [] p2) pos) (b9 (lB (aj n (G bL.ok) fa))):=by
 obtain⟨g,fd,F1,hm,hk,hb⟩:=Fy.ex;exact(Aq (pN F1 (hr.mono (q2e hj)) hg hm hk hb .nil hp ha cV hs cW) hw).weak fun D σ H1 ⟨F,ad,δ,K1,S,q,k⟩=>C9 R S q k.kp fun x δ1 h1 v F1 aN H1 E1 S1 V1=>k.nx _ h1 _ _ _ _ E1 S1
theorem Uo[bL]{i:Nat}{y:Str}{pos':Pos}(Fy:Fy ⟨X.prog,X.w,X.K,X.mg,X.base⟩ Cs j x ps n G)(R:f_ Cs E H)(hp:mG (eE X.prog X.w) X E)(hr:aS k X.A)(hN:X.N.Nodup)(hi:X.N[i]?=some y)(hx:Loc X.env.scope y)(ha:JA X (e::es) (bK fa))(hj:q6Y j k=true:=by rfl)(hg:Gl X x:=by rfl)(cV:bA x:=by decide)
  (hs:cQ X e es:=by rfl) (cW:dH X p2 es:=by rfl) (hw:swapsWith (.Call (.Name x p) (e::es) [] p2) (some (.Name y pos')) pos.line X.env=pure false:=by rfl)
  (hf:dG X y:=by first|exact .inl rfl|exact .inr rfl) :
  JS X (.Assign [.Name y pos'] (.Call (.Name x p) (e::es) [] p2) pos) (b9 (aE i (aj n (G bL.ok) fa))):=by
 obtain⟨g,fd,F1,hm,hk,hb⟩:=Fy.ex;exact(nP hN hi hx (pN F1 (hr.mono (q2e hj)) hg hm hk hb .nil hp ha cV hs cW) hw hf).weak fun D σ H1 ⟨F,ad,δ,K1,S,q,k⟩=>C9 R S q k.kp fun x δ1 h1 v F1 aN H1 E1 S1 V1=>k.nx _ h1 _ _ _ _ E1 (S1.set V1)
def C_(n:Nat)(G:GD)(fa:WA):WS:=fun _ δ=>aj n G fa δ fun _ _=>False
theorem Uq[bL]{tg elt:Expr}{ifs:List Expr}{scope:Scope}{g:BD->TG}{tf:BD->TT}{te:BD->TE}(cp:List (Option Nat))(Nb:List Str){i:Nat}{y:Str}{pos' fw:Pos}(Fy:Fy ⟨X.prog,X.w,X.K,X.mg,X.base⟩ Cs j x ps n G)(R:f_ Cs E H)(hp:mG (eE X.prog X.w) X E)(hr:aS k X.A)(hN:X.N.Nodup)(hi:X.N[i]?=some y)(hx:Loc X.env.scope y)(hc:X.calm=true)(ha:JA X (e::es) (bK fa))
  (Ur:∀d,JG (bQ X scope Nb d) tg (g d)) (tQ:∀d,JF (bQ X scope Nb d) ifs (tf d)) (mZ:∀d,JE (bQ X scope Nb d) elt (te d)) (hj:q6Y j k=true:=by rfl) (hg:Gl X x:=by rfl) (cV:bA x:=by decide)
  (hs:cQ X e es:=by rfl) (cW:dH X p2 es:=by rfl)
  (hk:scope.kind=.function:=by rfl) (ho:kh X.N X.env.scope scope Nb cp=true:=by first|rfl|kernel_rfl) (sW:∀z,foldedSetIterable (.Call (.Name x p) (e::es) [] p2) X.env z=pure z:=by intro _;rfl)
  (qY:swapsWith (.ListComp elt [⟨tg,.Call (.Name x p) (e::es) [] p2,ifs,0⟩] scope pos) (some (.Name y pos')) fw.line X.env=pure true:=by rfl)
  (iN:dG X y:=by first|exact .inl rfl|exact .inr rfl) :
  JS X (.Assign [.Name y pos'] (.ListComp elt [⟨tg,.Call (.Name x p) (e::es) [] p2,ifs,0⟩] scope pos) fw) (b9 (C_ n (G bL.ok) fa)):=by
 obtain⟨g1,fd,F1,hm,Us,hb⟩:=Fy.ex;exact(Ho cp Nb hN hi hx hc (IK (pN F1 (hr.mono (q2e hj)) hg hm Us hb .nil hp ha cV hs cW)) Ur tQ mZ hk ho sW qY iN).weak fun D σ H1 ⟨F,ad,δ,K1,S,q,k⟩=>C9 R S q k.kp fun x δ1 h1=>h1.elim
def wu(A B:WS):WS:=fun K δ=>A K δ\/B K δ
theorem Ut[bL]{X:Cx}{b:List Stmt}{A B:WS}(h1:bz X b (b9 A))(h2:bz X b (b9 B)):bz X b (b9 (wu A B)):=⟨fun pins s σ H D I h0_=>el7 h0_ fun F ad δ K S q k =>q.elim (fun q=>h1 pins s σ H D I ⟨F,ad,δ,K,S,q,k⟩) fun q=>h2 pins s σ H D I ⟨F,ad,δ,K,S,q,k⟩⟩
end
end
def EI(V:Ev)(Cs:List Addr)(c:Nat)(x:Str):Prop:=c<4/\∃C,Cs[c]?=some C/\Ka V.P V.w V.K V.mg V.base x C
section
variable{V:Ev}{N:List Str}{qual:Str}{scope:Scope}{f:Addr}{cd:Value}{A:Around}{outer:List Env}{s:Shared}{H:Hp}{E:XK}{Cs:List Addr}{x:Str}{e:Expr}{fe:WA}{p p2 pos:Pos}{k:Nat}
theorem Uu[bL]{c:Nat}(XS:EI V Cs c x)(R:f_ Cs E H)(hr:aS k (A.deeper (envOfC qual scope s.heap.objs.size f cd)))(he:JA (bq (eE V.P V.w) V.P V.w V.K V.mg V.base N qual scope f cd A outer s H E) [e] (bK fe))(hk:q6Y 2 k=true:=by rfl)
  (hg:Gl (bq (eE V.P V.w) V.P V.w V.K V.mg V.base N qual scope f cd A outer s H E) x:=by rfl) (cV:bA x:=by decide)
  (hs:starEach [e] (bq (eE V.P V.w) V.P V.w V.K V.mg V.base N qual scope f cd A outer s H E).env=(false,eval e (bq (eE V.P V.w) V.P V.w V.K V.mg V.base N qual scope f cd A outer s H E).env)::starEach [] (bq (eE V.P V.w) V.P V.w V.K V.mg V.base N qual scope f cd A outer s H E).env:=by rfl) (cW:(backTo p2 (starEach [] (bq (eE V.P V.w) V.P V.w V.K V.mg V.base N qual scope f cd A outer s H E).env)).any (·.1)=false:=by rfl) :
  JS (bq (eE V.P V.w) V.P V.w V.K V.mg V.base N qual scope f cd A outer s H E) (.Raise (some (.Call (.Name x p) [e] [] p2)) none pos) (b9 (tP bL.ok c fe)) :=
 let⟨h4,_,hC,I⟩:=XS
 Ul I R hC h4 (hr.mono (q2e hk)) he hg cV hs cW
end
theorem wm{V:Ev}{Cs:List Addr}{x:Str}{st:Stmt}{N ps:List Str}{k:Nat}{G:gW->GD}(D:Dx V x st)(bd:iZ x st ps)(hG:∀ok ys ovs K,G ok ys ovs K->ovs=[])(h:∀{aF:Value} {A:Around} {outer:List Env} {s:Shared} {H:Hp} {E:XK} {f:Addr} [bL],f_ Cs E H->aS k (A.deeper (envOfC x (bZ st) s.heap.objs.size f aF))->N.Nodup->(A.deeper (envOfC x (bZ st) s.heap.objs.size f aF)).units+64<cLine →
   ∃B:WS,bz (bq (eE V.P V.w) V.P V.w V.K V.mg V.base N x (bZ st) f aF A outer s H E) (cx st) (b9 B)/\∀ys ovs K',ys.length=ps.length->G bL.ok ys ovs K'->B (gB ovs.length K') ⟨ys.map some++q0h (N.length-ps.length) none,ovs.map some⟩)(sc:we N ps (bZ st)=true:=by decide +kernel):Fy V Cs (k+1) x ps ps.length G:=by
 obtain⟨f,fd,a,F⟩:=D;refine⟨f,fd,F.wm (fF sc) (fun vs H Q E h=>let⟨_,h,_⟩:=h;h.1) (fun aF A outer s H vs Q E hr hh=>?_),a,F.kp,F.binds bd⟩;obtain⟨ok,⟨hl,Fz,ad,ys,ovs,K',S0,g,kk⟩,hE⟩:=hh;have ho:=hG ok ys ovs K' g;subst ho;have ea:ad=[]:=q1W.mp S0.cb;subst ea;letI:bL:=J8 ok H;have R:f_ Cs E H:=⟨fun{c p C dx ad mu H'} o kp tb hC pl=>hE c p o C dx H' hC ⟨fun b u e n=>(kp b u e n).1,tb⟩ pl,fun{ad mu H' a} kp tb e=>Kp.none ⟨fun b u e n=>(kp b u e n).1,tb⟩ e⟩;obtain⟨B,jb,hb⟩:=h R hr (fF sc).nd hr.units
 have hy:ys.length=ps.length:=by
  have:=S0.len;rw[qU] at this;rw[<-hl,this];show _=(ys.map some).length;rw[qU]
 refine⟨_,jb,Fz,[],⟨ys.map some++q0h (N.length-ps.length) none,[]⟩,gB 0 K',by rw[<-hl];exact S0.start,hb ys [] K' hy g,⟨fun δ' h F' aw σ' H' E' S'=>?_,fun δ' h=>h.elim,fun δ' h=>h.elim,fun y δ' h v F' aw σ' H' E' S' V=>?_,fun b o e n=>⟨e,fun⟨k,ov,z,_⟩=>by simp at z⟩⟩⟩
 ·exact tF (ovs:=[]) (σ':=σ') S0 E' S' (x:=.p .non) (v:=.non) rfl h kk
 ·exact tF (ovs:=[]) (σ':=σ') S0 E' S' V h kk
end
end LJ
namespace LJ
open PySem L2 PySem.Spec PySem.W
variable[aB]
noncomputable def yA(c:Nat)(n:Int):List D:=if c<4 then[.str (cK.getD c ""),.int n] else[.str (cK.getD c "")]
noncomputable def tR(tup:Bool)(c:Nat)(n:Int):D:=if tup then .tup (yA c n) else .lst (yA c n)
noncomputable def Dc(tup:Bool)(c:Nat)(n:Int):HO:=if tup then .tup (mY c n) else .lst (mY c n)
theorem Kb{F:Hp}(c:Nat)(n:Int):ae F (yA c n) (mY c n):=by
 unfold yA mY;split
 ·exact⟨_,_,rfl,rfl,⟨_,_,rfl,rfl,rfl⟩⟩
 ·exact⟨_,_,rfl,rfl,rfl⟩
def Kc(ic ie:Nat)(B:gW->WS)(f1:WE)(tup:Bool):WS:=fun K δ=>(δ.mu=[]/\ic<δ.sl.length/\ie<δ.sl.length)/\B (fun c p=>K.rt (.p (tR tup c p)) ⟨[],[]⟩) ⟨fun δ1=>δ1.sl[ic]?=some (some (.p .non))/\f1 δ1 K.rt,fun _ _=>False,fun _=>False,fun _=>False⟩ δ
theorem Kd{F H H' H4:Hp}{ad:List Addr}{mu:List (Option OV)}{δ:au}{σ:St}{K:KS}{D:Ends}{tup:Bool}{c:Nat}{n:Int}{z:Addr}(S:SR F [] δ σ H)(hm:δ.mu=[])(k:tw F [] δ.mu H K D)(kp:Kept H ad mu H')(tb:aB.ok H')(sm:ar H' H4)(hz:H' z=none)(ez:H4 z=some (Dc tup c n))(h:K.rt (.p (tR tup c n)) ⟨[],[]⟩):D.rt (.ref z) H4:=by
 have t4:aB.ok H4:=aB.same tb sm
 have zt:z∉aB.ad:=fun y=>by
  obtain⟨ps,q⟩:=aB.tb tb y;rw[hz] at q;cases q
 have De:H z=none:=by
  cases q:H z with
  |none=>rfl
  |some o=>rw[(kp z o q zt).1] at hz;cases hz
 have fz:F z=none:=by
  cases q:F z with
  |none=>rfl
  |some o=>rw[S.sub z o q] at De;cases De
 have keep:∀b o,H b=some o->b∉aB.ad->H4 b=some o:=fun b o e n=>sm b o (kp b o e n).1
 have E':Ext F [] δ.mu H (upd F z (Dc tup c n)) [] [] H4:=by
  refine⟨fun b o e=>?_,fun b o e=>?_,fun b o e _ nt=>keep b o e nt,fun k a e=>e,fun a ⟨k,ov,y,_⟩=>by simp at y,fun b o e=>?_⟩
  ·rw[av (bH e fz)];exact e
  ·by_cases y:b=z
   ·subst y;exact .inr (.inl De)
   ·rw[av y] at e;exact .inl e
  ·by_cases y:b∈aB.ad
   ·obtain⟨ps,q⟩:=aB.tb t4 y;exact⟨_,q⟩
   ·exact⟨o,keep b o e y⟩
 have S':SR (upd F z (Dc tup c n)) [] ⟨[],[]⟩ [] H4:=by
  refine⟨fun b o e=>?_,fun a ⟨k,ov,y,_⟩=>by simp at y,rfl,fun k l a ov ow e=>by simp at e,fun k ov e=>by simp at e,fun i x e=>by simp at e,rfl,t4,fun a ha=>?_⟩
  ·by_cases y:b=z
   ·subst y;rw[a_] at e;cases e;exact ez
   ·rw[av y] at e
    exact keep b o (S.sub b o e) fun w=>by rw[S.nt b w] at e;cases e
  ·rw[av (fun y=>zt (by rw[<-y];exact ha))];exact S.nt a ha
 refine k.rt _ _ h (.ref z) _ _ _ _ E' S' ?_;show Is _ (tR tup c n) _;unfold tR;cases tup
 ·rw[q0a PH]
  simp only[Is];exact⟨z,mY c n,rfl,a_,Kb c n⟩
 ·rw[q0f rfl]
  simp only[Is];exact⟨z,mY c n,rfl,a_,Kb c n⟩
def Ke(Kf:xA)(Cs:List Addr)(ic:Nat):Bool->TE
 |false=>qF (lR Cs) [] E0 (gw (cS ic) fW)
 |true=>uQ (Uc Kf) (gw (qF (lR Cs) [] E0 (gw (cS ic) fW)) fW)
theorem Uv{F H H':Hp}{ad:List Addr}{mu:List (Option OV)}{δ:au}{σ σ':St}{K:KS}{D:Ends}{Kf:xA}{Cs:List Addr}{tup:Bool}{c ic:Nat}{n:Int}{a C:Addr}{dx:Option Addr}(S:SR F [] δ σ H)(hm:δ.mu=[])(k:tw F [] δ.mu H K D)(kp:Kept H ad mu H')(tb:aB.ok H')(h:K.rt (.p (tR tup c n)) ⟨[],[]⟩)(hc:c<13)(hC:Cs[c]?=some C)(pl:C8 c n dx H')(ha:H' a=none)(hs:σ'[ic]?=some (some (.ref a))):
  Ke Kf Cs ic tup σ' (upd H' a (dX a C dx)) D.rt:=by
 have s1:ar H' (upd H' a (dX a C dx)):=b7 ha
 have E:ExcAt (upd H' a (dX a C dx)) a C dx:=by
  refine⟨a_,fun d e=>?_⟩;rcases pl with⟨_,d',e',h'⟩|⟨_,e'⟩
  ·rw[e] at e';cases e';exact⟨_,s1 _ _ h'⟩
  ·rw[e] at e';cases e'
 have P:c<4->∃d,dx=some d/\upd H' a (dX a C dx) d=some (.xd [("place",.int n)]):=fun h4=>by
  rcases pl with⟨_,d',e',h'⟩|⟨g4,_⟩
  ·exact⟨d',e',s1 _ _ h'⟩
  ·omega
 have nn:∀{l},upd H' a (dX a C dx) l=none->H' l=none:=fun{l} e=>by
  cases q:H' l with
  |none=>rfl
  |some o=>rw[s1 l o q] at e;cases e
 cases tup
 ·exact⟨.ref a,hs,c,n,a,C,dx,rfl,hc,hC,E,P,fun l H3 sm hl e=>Kd (tup:=false) S hm k kp tb (s1.trans sm) (nn hl) e h⟩
 ·refine⟨.ref a,hs,c,n,a,C,dx,rfl,hc,hC,E,P,fun l H3 sm hl e=>⟨l,_,rfl,.inl ⟨aZ.of e,fun t ht=>?_⟩⟩⟩
  have s3:ar H3 (upd H3 t (.tup (mY c n))):=b7 ht;refine Kd (tup:=true) S hm k kp tb ((s1.trans sm).trans s3) ?_ a_ h
  cases q:H' t with
  |none=>rfl
  |some o=>rw[(s1.trans sm) t o q] at ht;cases ht
section
variable{X:Cx}{body gn:List Stmt}{b0 st:Stmt}{x n:Str}{p1 p2 pos:Pos}{L:Addr}{ic ie:Nat}{B:gW->WS}{f1:WE}{tup:Bool}{Cs:List Addr}
theorem Uw(gP:X.stack=X.env::X.outer)(ki:X.env.frame=some X.env.locals)(nd:X.N.Nodup)(hi:X.N[ie]?=some n)(hk:X.env.scope.names.lookup n=some .local)(hg:Gl X x)(hm:X.mg x=some (.ref L))(hL:∀(c:Nat) (C:Addr),Cs[c]?=some C->c<13/\q3J X.K (.ref C) (.ref L)=some true)(fj:ic≠ie)
  (hb:∀{pn xe E H0}[bL],mG (eE X.prog X.w) {X with pn:=pn,xe:=xe} E->f_ Cs E H0->bz {X with pn:=pn,xe:=xe} body (b9 (B bL.ok))) (hs:∀A xe,bz {X with A:=A,calm:=false,xe:=xe} (b0::gn) (cU (cS ie) (hU ic)))
  (hr:JS X st (qw (Gw (tB (uy (cS ic))) (tD f1) (Ke X.K Cs ic tup)))) (cV:bA x:=by decide) :
  bz X [.Try body [.ExceptHandler (some (.Name x p1)) (some n) (b0::gn) p2] [] [] pos,st] (b9 (Kc ic ie B f1 tup)):=by
 refine(nN (T7 (tb:=fun E D σ H=>∃ex:bL,@f_ _ ex Cs E H/\@b9 _ ex (B ex.ok) D σ H) gP ki nd hi hk hg hm cV (fun pn xe E hp=>⟨fun pins s σ H D I h=>?_⟩) fun A xe=>(hs A xe)) (mE hr)).weak fun D σ H ⟨F,ad,δ,K,S,⟨⟨Bx,cB,hle⟩,q⟩,k⟩=>?_
 ·obtain⟨ex,R,h⟩:=h
  exact(hb hp R) pins s σ H D I h
 ·have ea:ad=[]:=q1W.mp (by rw[S.cb,Bx];rfl)
  subst ea;have Ux:=k.rt;letI ex:bL:=J8 (fun c p=>K.rt (.p (tR tup c p)) ⟨[],[]⟩) H;refine⟨ex,?_,F,[],δ,⟨fun δ1=>δ1.sl[ic]?=some (some (.p .non))/\f1 δ1 K.rt,fun _ _=>False,fun _=>False,fun _=>False⟩,S,q,?_⟩
  ·refine⟨fun{c p C dx ad mu H'} o kp tb hC pl=>?_,fun{ad mu H' a} kp tb e=>Kp.none ⟨fun b u e n=>((show Kept H ad mu H' from kp) b u e n).1,tb⟩ e⟩
   obtain⟨Uy,hx⟩:=hL c C hC;refine⟨C,rfl,hx,fun a ha=>?_⟩;have hl:=S.len;have e0:((q0h σ.length (none:Option V)).set ie (some (.ref a)))[ie]?=some (some (.ref a)):=q0Q (by rw[q1N];omega)
   have e1:((((q0h σ.length (none:Option V)).set ie (some (.ref a))).set ic (some (.ref a))).set ie none)[ic]?=some (some (.ref a)):=by
    rw[q0V (fun z=>fj z.symm),q0Q (by rw[q1H,q1N];omega)]
   refine⟨.ref a,e0,.ref a,e1,false,rfl,?_⟩;dsimp only;rw[q0a PH];exact Uv S Bx k kp tb o Uy hC pl ha e1
  ·refine⟨fun δ1 ⟨h1,h2⟩ F' aw σ' H' E' S'=>?_,fun δ' h=>h.elim,fun δ' h=>h.elim,fun x δ' h=>h.elim,fun b o e n=>⟨e,fun⟨k,ov,z,_⟩=>by simp at z⟩⟩
   obtain⟨v,e1,e2⟩:=S'.sl ic _ h1;have e2:v=.non:=e2;subst e2;refine⟨.non,e1,true,rfl,?_⟩;dsimp only;rw[q0f rfl];exact⟨F',aw,δ1,_,S',h2,fun x δ' h v F2 cw H2 E2 S2 V2=>Ux _ _ h _ _ _ _ _ (E'.trans E2) S2 V2⟩
end
end LJ
open L2
open Lean in
local macro_rules
 | `(tactic| simp? only [$ls,*] $[$loc:location]?)=>do
  let a ← ("q2M dep aQ q06 Nat.max_self Nat.max_zero Nat.zero_max Nat.reduceLeDiff ak aE dN ag af d1 d2 dC aa lj gz oj jO au.fix Io eS b8 s_ dT tj lz iE bS tu jm xP cG lB aC bf bj ij dR iF iV cY eA p9 cI bE mQ mR B_ iW Ca cH aj vK passes lE fL ou rE aV rM cJ rY dy lH ym pY oB qd f6 oI dF oEq mU oLt jP Co kn bC yc tI tK yd lF bB ye yk CD dw iX rW f7 lG rV yf ya gB vZ au.trim fK vH q7c Option.join_none q0p q1_ q3V q5j q1y q55 q2n q10 List.getElem?_nil q0Y q0Z Hc q09 q51 q4s List.take_nil List.any_nil q2p Bool.not_false q2Y q4O q8C q6a q0G Bool.true_eq_false q2x q1X true_and and_true and_self reduceCtorEq q4Z q00 q6e Nat.reduceLT Nat.reduceEqDiff Nat.reduceSub qU Hd".splitOn " ").toArray.mapM fun s => `(Parser.Tactic.simpLemma| $(mkIdent s.toName):ident)
  let r ← `(Parser.Tactic.simpLemma| ↓reduceIte)
  let a:Syntax.TSepArray [`Lean.Parser.Tactic.simpStar, `Lean.Parser.Tactic.simpErase, `Lean.Parser.Tactic.simpLemma] "," := ⟨(Syntax.SepArray.ofElems (sep:=",") ((a.push r).map (·.raw)++ls.getElems.map (·.raw))).elemsAndSeps⟩
  `(tactic| simp only [$a,*] $[$loc]?)
namespace LJ
open PySem L2
variable[aB]
theorem Kg{ns:List Int}{k:Int}(h0:0<=k)(h1:k<(ns.length:Int)):∃n,eO (ns.map D.int) k=some (.int n):=by
 obtain⟨i,rfl⟩:∃i:Nat,k=i:=⟨k.toNat,by omega⟩;have hi:i<ns.length:=by omega
 refine⟨ns[i],kS ?_⟩;rw[q0b,qV hi];rfl
theorem fO{α:Type}{x:α}{r:List α}:eO (x::r) 0=some x:=kS (j:=0) rfl
theorem eT{α:Type}{x y:α}{r:List α}:eO (x::y::r) 1=some y:=kS (j:=1) rfl
theorem at2{α:Type}{x y z:α}{r:List α}:eO (x::y::z::r) 2=some z:=kS (j:=2) rfl
theorem wx{a b A B:Int}(h0:0<=a)(h1:a<=A)(h2:0<=b)(h3:b<=B):0<=a*b/\a*b<=A*B :=
 ⟨Int.mul_nonneg h0 h2,Int.mul_le_mul h1 h3 h2 (Int.le_trans h0 h1)⟩
noncomputable def iw:List Int:=[2147483629,2147483587,2147483579,2147483563,2147483549,2147483543,2147483497,2147483489,2147483477,2147483423,2147483399,2147483353,2147483323]
theorem Df(n:Int):∃q:Int,eO (iw.map D.int) (n%13)=some (.int q)/\0<q/\q<2147483648:=by
 have h0:0<=n%13:=q1R _ (by decide);have h1:n%13<13:=q1n _ (by decide);generalize n%13=j at h0 h1;obtain⟨i,rfl⟩:∃i:Nat,j=i:=⟨j.toNat,by omega⟩;have hi:i<13:=by omega
 have hl:(iw.map D.int)[i]?=some (.int (iw[i]'(by show i<13;exact hi))):=by
  rw[q0b,qV (by show i<13;exact hi)];rfl
 refine⟨_,kS hl,?_⟩;have all:∀q∈iw,0<q/\q<2147483648:=by decide
 exact all _ (q1K _)
theorem Uz:jG 3 1=some 1:=rfl
theorem Kh:jG 3 2=some 2:=rfl
abbrev Sem(n m:Nat)(g:GD)(b:WS):Prop:=∀ys ovs K',ys.length=n->g ys ovs K'->b (gB ovs.length K') ⟨ys.map some++q0h m none,ovs.map some⟩
theorem aO{A B:WS}{K:KS}{δ:au}(h:∀N:au->Prop,N=B K->A {K with nx:=N} δ):ak A B K δ:=h _ rfl
theorem oJ{t:WT}{G G':WS}{K:KS}{δ:au}(h:∀A B:au->Prop,A=G K->B=G' K->t δ fun b δ1=>if b=true then A δ1 else B δ1):bf t G G' K δ:=h _ _ rfl rfl
theorem oK{w:WI}{g:WG}{b:WS}{K:KS}{δ:au}(h:∀g' b' K',g'=g->b'=b->K'=K->w δ fun it δ1=>km δ1 it.bp g' b' K' it.items δ1):cY w g b K δ:=h _ _ _ rfl rfl rfl
theorem yB{f:WE}{g:WA}{δ:au}{K:List DV->au->Prop}(h:∀K',K'=(fun x δ1=>g δ1 fun xs δ2=>K (x::xs) δ2)->f δ K'):ag f g δ K:=h _ rfl
def Dg:GD:=fun ys ovs K=>∃cell at_:Int,ys=[.p (.int cell),.p (.int at_)]/\ovs=[]/\0<=at_/\at_<2 ^ 30/\∀z:Int,K (.p (.int z)) []
def Dh:WS:=(ak (bf (dT (d2 (aa 0) (d2 (dC (.int 10)) (dC (.int 18)) (dF eN fun i j=>.int (i ^ j.toNat))) (oI fun i j=>.bl (decide (j<=i))))) (aC (aa 0)) cG) (ak (aE 2 (b8 (ag (dC (.int 2147483629)) (ag (dC (.int 2147483587)) (ag (dC (.int 2147483579)) (ag (dC (.int 2147483563)) (ag (dC (.int 2147483549)) (ag (dC (.int 2147483543)) (ag (dC (.int 2147483497)) (ag (dC (.int 2147483489)) af)))))))))) (ak (aE 2 (d2 (aa 2) (b8 (ag (dC (.int 2147483477)) (ag (dC (.int 2147483423)) (ag (dC (.int 2147483399)) (ag (dC (.int 2147483353)) (ag (dC (.int 2147483323)) af)))))) cJ)) (ak (aE 3 (d2 (d2 (d2 (d2 (d2 (d2 (aa 0) (dC (.int 1000000007)) (dF (fun _ j=>0<j) fun i j=>.int (i%j))) (d2 (d2 (dC (.int 2)) (aa 1) f6) (dC (.int 69069)) cJ) f6) (d2 (aa 1) (dC (.int 40503)) f6) cJ) (dC (.int 977)) cJ) (dC (.int 3)) (dF eN fun i j=>.int (i ^ j.toNat))) (d2 (aa 2) (d2 (aa 1) (dC (.int 13)) (dF (fun _ j=>0<j) fun i j=>.int (i%j))) aV) (dF (fun _ j=>0<j) fun i j=>.int (i%j)))) (ak (aE 4 (d2 (d2 (d2 (d2 (d2 (aa 3) (d2 (aa 1) (dC (.int 3)) cJ) f6) (d2 (aa 0) (dC (.int 65537)) (dF (fun _ j=>0<j) fun i j=>.int (i%j))) cJ) (dC (.int 5)) cJ) (dC (.int 5)) (dF eN fun i j=>.int (i ^ j.toNat))) (d2 (aa 2) (d2 (d2 (aa 1) (dC (.int 5)) cJ) (dC (.int 13)) (dF (fun _ j=>0<j) fun i j=>.int (i%j))) aV) (dF (fun _ j=>0<j) fun i j=>.int (i%j)))) (ak (aE 5 (d2 (d2 (d2 (d2 (aa 4) (d2 (aa 3) (dC (.int 1009)) (dF (fun _ j=>0<j) fun i j=>.int (i%j))) cJ) (aa 1) cJ) (dC (.int 3)) (dF eN fun i j=>.int (i ^ j.toNat))) (d2 (aa 2) (d2 (d2 (aa 1) (dC (.int 7)) cJ) (dC (.int 13)) (dF (fun _ j=>0<j) fun i j=>.int (i%j))) aV) (dF (fun _ j=>0<j) fun i j=>.int (i%j)))) (aC (d2 (d2 (d2 (d2 (aa 3) (dC (.int 2147483647)) f6) (aa 4) cJ) (dC (.int 2147483647)) f6) (aa 5) cJ))))))))
theorem UA:Sem 2 4 Dg Dh:=by
 rintro ys ovs K'-⟨cell,k,rfl,rfl,h0,h1,fin⟩;unfold Dh;have lT:∀(z:Int)(sl:List (Option DV)),gA 0 K' (.p (.int z)) ⟨sl,[]⟩:=fun z sl=>⟨[],rfl,rfl,fin z⟩;simp? only [];refine⟨⟨by decide,by decide,by decide⟩,?_⟩;split
 ·exact lT _ _
 obtain⟨q1,e1,p1,b1⟩:=Df k;obtain⟨q2,e2,p2,b2⟩:=Df (k+5);obtain⟨q3,e3,p3,b3⟩:=Df (k+7);simp only[iw,q0p,q1_] at e1 e2 e3;simp only[e1,e2,e3];have c0:0<=cell%1000000007:=q1R _ (by decide);have c1:cell%1000000007<1000000007:=q1n _ (by decide);have m1:=wx c0 (Int.le_of_lt c1) (show(0:Int)<=2*k+69069 by omega) (show 2*k+69069<=2147552717 by omega);refine⟨by decide,.inl ⟨by decide,by decide⟩,.inl ⟨by omega,by omega⟩,.inr ⟨by decide,by decide⟩,⟨by decide,by decide,?cp1⟩,by decide,p1,?_⟩
 case cp1 =>
  generalize cell%1000000007*(2*k+69069)=m at m1 ⊢;omega
 generalize(cell%1000000007*(2*k+69069)+k*40503+977) ^ (3:Int).toNat=x1;have o0:0<=x1%q1:=q1R _ (by omega);have o1:x1%q1<q1:=q1n _ p1;have d0:0<=cell%65537:=q1R _ (by decide);have d1:cell%65537<65537:=q1n _ (by decide);have m2:=wx o0 (show x1%q1<=2147483648 by omega) (show(0:Int)<=k+3 by omega) (show k+3<=1073741827 by omega);refine⟨.inl ⟨by omega,by omega⟩,by decide,⟨by decide,by decide,?cp2⟩,by decide,p2,?_⟩
 case cp2 =>
  generalize x1%q1*(k+3)=m at m2 ⊢;omega
 have t0:0<=(x1%q1*(k+3)+cell%65537+5) ^ (5:Int).toNat%q2:=q1R _ (by omega);have t1:(x1%q1*(k+3)+cell%65537+5) ^ (5:Int).toNat%q2<q2:=q1n _ p2;have u0:0<=x1%q1%1009:=q1R _ (by decide);have u1:x1%q1%1009<1009:=q1n _ (by decide);generalize(x1%q1*(k+3)+cell%65537+5) ^ (5:Int).toNat%q2=m at t0 t1 ⊢;exact⟨by decide,⟨by decide,by decide,by omega⟩,by decide,p3,.inr ⟨by decide,by decide⟩,.inr ⟨by decide,by decide⟩,lT _ _⟩
noncomputable def i8(ns:List Int)(k z:Int):OV:=.lst [.lst (ns.map D.int),.int k,.int z]
structure bh(n:Int)(o:OV):Prop where
 out:∃ns k z,o=i8 ns k z/\ns.length<=63/\0<=k/\k<=n
theorem bh.mono{n m:Int}{o:OV}(h:bh n o)(l:n<=m):bh m o:=by
 obtain⟨ns,k,z,e,h1,h2,h3⟩:=h.out;exact⟨ns,k,z,e,h1,h2,by omega⟩
def Di:GD:=fun ys ovs K=>∃n o,ys=[.o 0]/\ovs=[o]/\bh n o/\∀o',bh n o'->K (.a 0) [o']
def Dj:WS:=(ak (rW (dC (.int 0)) (aa 0) (dC (.int 2))) (aC (aa 0)))
theorem UB:Sem 1 0 Di Dj:=by
 rintro ys ovs K'-⟨n,o,rfl,rfl,P,fin⟩;obtain⟨ns,k,z,rfl,h1,h2,h3⟩:=P.out;unfold Dj i8;simp? only [];exact⟨[i8 ns k 0],rfl,rfl,fin _ ⟨ns,k,0,rfl,h1,h2,h3⟩⟩
def gX:GD:=fun ys ovs K=>∃(n m:Int)(o:OV),ys=[.o 0,.p (.int m)]/\ovs=[o]/\bh n o/\n<2 ^ 30/\0<m/\m<1073741824/\∀r o',0<=r->r<m->bh (n+1) o'->K (.p (.int r)) [o']
def Dl:WS:=(ak (bf (dT (d2 (d2 (aa 0) (dC (.int 2)) aV) (aa 1) oLt)) (ak (aE 2 (d2 (aa 0) (dC (.int 1)) aV)) (ak (aE 3 (dC (.int 0))) (ak (bf (dT (d2 (aa 2) (dN (ag (d2 (aa 0) (dC (.int 0)) aV) af) bC) oLt)) (aE 3 (d2 (d2 (aa 0) (dC (.int 0)) aV) (aa 2) aV)) (bf (dT (d2 (dN (ag (d2 (aa 0) (dC (.int 0)) aV) af) bC) (dC (.int 0)) (oI fun i j=>.bl (decide (j<i))))) (aE 3 (d2 (d2 (d2 (aa 0) (dC (.int 0)) aV) (d2 (d2 (d2 (aa 2) (dC (.int 5)) f6) (dC (.int 3)) cJ) (dN (ag (d2 (aa 0) (dC (.int 0)) aV) af) bC) (dF (fun _ j=>0<j) fun i j=>.int (i%j))) aV) (d2 (d2 (dC (.int 10)) (dC (.int 17)) (dF eN fun i j=>.int (i ^ j.toNat))) (aa 2) cJ) (dF (fun _ j=>0<j) fun i j=>.int (i%j)))) cG)) (ak (rW (d2 (aa 2) (dC (.int 1)) cJ) (aa 0) (dC (.int 1))) (rW (aj 2 Dg (ag (aa 3) (ag (aa 2) af))) (aa 0) (dC (.int 2))))))) cG) (ak (aE 4 (d2 (d2 (aa 0) (dC (.int 2)) aV) (aa 1) (dF (fun _ j=>0<j) fun i j=>.int (i%j)))) (ak (rW (d2 (d2 (aa 0) (dC (.int 2)) aV) (aa 1) (dF uM fun i j=>.int (i.fdiv j))) (aa 0) (dC (.int 2))) (aC (aa 4)))))
theorem UC:Sem 2 3 gX Dl:=by
 rintro ys ovs K'-⟨n,m,o,rfl,rfl,P,hn,Ki,hm1,fin⟩;obtain⟨ns,k,z,rfl,h1,h2,h3⟩:=P.out;unfold Dl i8
 have last:∀(k' z':Int)(sl:List (Option DV)),0<=k'->k'<=n+1->gA 1 K' (.p (.int (z'%m))) ⟨sl,[some (.lst [.lst (ns.map D.int),.int k',.int (z'.fdiv m)])]⟩:=fun k' z' sl a b =>
  ⟨[i8 ns k' (z'.fdiv m)],rfl,rfl,fin _ _ (q1R _ (by omega)) (q1n _ Ki) ⟨ns,k',_,rfl,h1,a,b⟩⟩
 have UD:∀z,uM z m:=fun z=>⟨by omega,by omega⟩
 have rest:∀(k' z':Int)(s2 s3 s4:Option DV),0<=k'->k'<=n+1->(ak (aE 4 (d2 (d2 (aa 0) (dC (.int 2)) aV) (aa 1) (dF (fun _ j=>0<j) fun i j=>.int (i%j)))) (ak (rW (d2 (d2 (aa 0) (dC (.int 2)) aV) (aa 1) (dF uM fun i j=>.int (i.fdiv j))) (aa 0) (dC (.int 2))) (aC (aa 4)))) (gB 1 K') ⟨[some (.o 0),some (.p (.int m)),s2,s3,s4],[some (.lst [.lst (ns.map D.int),.int k',.int z'])]⟩:=fun k' z' s2 s3 s4 a b=>by
  simp? only [at2,Kh];exact⟨Ki,UD _,last _ _ _ a b⟩
 refine aO fun N hN=>?_;refine oJ fun A B hA hB=>?_;simp? only [at2];split
 ·subst hA
  refine aO fun N2 eU=>?_;simp? only [eT];subst eU;refine aO fun N2 eU=>?_;simp? only [];subst eU;refine aO fun N2 eU=>?_
  have go:∀(c:Int)(s4:Option DV),N2 ⟨[some (.o 0),some (.p (.int m)),some (.p (.int k)),some (.p (.int c)),s4],[some (.lst [.lst (ns.map D.int),.int k,.int z])]⟩:=fun c s4=>by
   subst eU;simp? only [Uz];refine⟨c,k,rfl,rfl,h2,by omega,fun z'=>?_⟩;simp? only [Kh];subst hN;exact rest _ _ _ _ _ (by omega) (by omega)
  refine oJ fun A B hA hB=>?_;simp? only [fO];split
  ·rename_i cB
   obtain⟨c,ec⟩:=Kg h2 (q05 cB);subst hA;simp? only [fO];rw[ec];exact go _ _
  ·subst hB
   refine oJ fun A B hA hB=>?_;simp? only [fO];split
   ·rename_i oM
    have oM:=q05 oM;obtain⟨c,ec⟩:=Kg (ns:=ns) (k:=(k*5+3)%(ns.length:Int)) (q1R _ (by omega)) (q1n _ oM);subst hA;simp? only [fO];refine⟨.inr ⟨by decide,by decide⟩,oM,?_⟩;rw[ec];exact⟨⟨by decide,by decide,by decide⟩,by show(0:Int)<10 ^ 17+k;omega,go _ _⟩
   ·subst hB
    exact go _ _
 ·subst hB hN
  exact rest _ _ _ _ _ (by omega) (by omega)
theorem UE(ns:List Int)(lo hi:Option Int):cutD (ns.map D.int) lo hi=((ns.drop (HT.aU ns.length 0 lo)).take (HT.aU ns.length ns.length hi-HT.aU ns.length 0 lo)).map D.int:=by
 unfold cutD;rw[qU,q4Q,q6d]
noncomputable def bM(p:Int×Int):D:=.tup [.int p.1,.int p.2]
structure dj(many:Int)(ps:List (Int×Int)):Prop where
 ends:∀p∈ps,0<=p.1/\p.1<p.2/\p.2<many
 kF:ps.Nodup
 gZ:ps.length<=66
theorem dj.sub{many:Int}{ps qs:List (Int×Int)}(h:dj many ps)(s:qs.Sublist ps):dj many qs :=
 ⟨fun p hp=>h.ends p (s.subset hp),h.kF.sublist s,q02 s.length_le h.gZ⟩
def Dm:GD:=fun ys ovs K=>∃(n kind many:Int)(o:OV),ys=[.o 0,.p (.int kind),.p (.int many)]/\ovs=[o]/\bh n o/\n+100<2 ^ 30/\1<=many/\many<=12/\∀ps o',dj many ps->bh (n+67) o'->K (.n (ps.map bM)) [o']
def Dp:WS:=(ak (aE 3 (s_ af)) (ak (cY (mR (ag (aa 2) af)) (bj 4) (lB (rV (aa 3) (ag (eA (mR (ag (aa 4) af)) [none,some 4] (bj 0) cI (eS (ag (aa 0) (ag (aa 1) af)))) af)))) (ak (bf (dT (d2 (aa 1) (dC (.int 1)) oEq)) (aC (p9 (B_ (ag (dC (.int 1)) (ag (aa 2) af))) [none,some 0] (bj 0) cI (eS (ag (aj 2 gX (ag (aa 1) (ag (aa 0) af))) (ag (aa 0) af))))) cG) (ak (bf (dT (d2 (aa 1) (dC (.int 2)) oEq)) (ak (aE 5 (eA (mR (ag (d2 (aa 2) (dC (.int 1)) (oI fun i j=>.int (i-j))) af)) [none] (bj 0) cI (eS (ag (aa 0) (ag (d2 (aa 0) (dC (.int 1)) cJ) af))))) (aC (CD (aa 5) (eA (bE (aa 3)) [none,some 2] (bj 0) (lz (dT (d2 (aa 0) (eS (ag (dC (.int 0)) (ag (d2 (aa 1) (dC (.int 1)) (oI fun i j=>.int (i-j))) af))) oEq)) (dT (d2 (aa 1) (dC (.int 2)) (oI fun i j=>.bl (decide (j<i)))))) (aa 0))))) cG) (ak (bf (dT (d2 (aa 1) (dC (.int 3)) oEq)) (aC (aa 3)) cG) (ak (bf (dT (d2 (aa 1) (dC (.int 4)) oEq)) (aC (p9 (bE (aa 3)) [none,some 0] (bj 0) (dT (d2 (aj 2 gX (ag (aa 1) (ag (dC (.int 4)) af))) (dC (.int 0)) oEq)) (aa 0))) cG) (ak (bf (dT (d2 (aa 1) (dC (.int 5)) oEq)) (ak (aE 6 (aj 2 gX (ag (aa 0) (ag (d2 (aa 2) (dC (.int 1)) cJ) af)))) (aC (p9 (bE (aa 3)) [none,some 6,some 0] (bj 0) (lz (dT (d2 (d2 (d2 (aa 0) (dC (.int 0)) aV) (aa 1) oLt) (d2 (d2 (aa 0) (dC (.int 1)) aV) (aa 1) oLt) oEq)) (dT (d2 (aj 2 gX (ag (aa 2) (ag (dC (.int 3)) af))) (dC (.int 0)) (oI fun i j=>.bl (decide (j<i)))))) (aa 0)))) cG) (aC (p9 (bE (aa 3)) [none,some 0] (bj 0) (dT (d2 (aj 2 gX (ag (aa 1) (ag (dC (.int 2)) af))) (dC (.int 0)) oEq)) (aa 0))))))))))
theorem sub_snoc{α:Type}{zs ps:List α}{i:Nat}{x:α}(h:zs.Sublist (ps.take i))(e:ps[i]?=some x):(zs++[x]).Sublist (ps.take (i+1))/\zs.Sublist (ps.take (i+1)):=by
 have:ps.take (i+1)=ps.take i++[x]:=by rw[q2j,e];rfl
 rw[this];exact⟨h.append (q6Z _),h.trans (List.sublist_append_left _ _)⟩
theorem UG{α:Type}{l:List α}{c:α}(h:l.Nodup)(hc:∀x∈l,x=c):l.length<=1:=by
 match l,h,hc with
 |[],_,_=>exact q06 _
 |[_],_,_=>exact Bi _
 |x::y::r,h,hc =>
  have:=(q1p.mp h).1 y (PE);exact absurd ((hc x PE).trans (hc y (q0c _ PE)).symm) this
theorem Dq{n:Int}{o:OV}{ps:List (Int×Int)}{t:WT}{K:List D->au->Prop}{rest:List (Option DV)}{ev:Option OV}{bp:au->Prop}(hc:∀sl o',bp ⟨sl,[some o',ev]⟩)(hw:ps.length<=66)(P:bh n o)(hn:n+70<2 ^ 30)
  (ht:∀(p:Int×Int)(i:Nat)(o':OV)(Q:Bool->au->Prop),p∈ps->i<=66->bh (n+i) o'->(∀b lU,bh (n+i+1) lU->Q b ⟨some (.p (bM p))::rest,[some lU,ev]⟩)->t ⟨some (.p (bM p))::rest,[some o',ev]⟩ Q)
  (hr:fK 2 rest rest=rest)
  (fin:∀(zs:List (Int×Int)) o',zs.Sublist ps->bh (n+ps.length) o'->K (zs.map bM) ⟨none::rest,[some o',ev]⟩) :
  jq ⟨none::rest,[some o,ev]⟩ bp (bj 0) t (aa 0) K (ps.map bM) [] ⟨none::rest,[some o,ev]⟩:=by
 refine CB (fun i acc δ=>∃(zs:List (Int×Int))(o':OV),zs.Sublist (ps.take i)/\acc=zs.map bM/\bh (n+i) o'/\δ=⟨none::rest,[some o',ev]⟩) ⟨[],o,q6Z _,rfl,P.mono (by omega),rfl⟩ ?_ ?_
 ·rintro j d acc δ L hj ⟨zs,o',hz,rfl,P',rfl⟩ hL
  rw[q0b] at hj;obtain⟨p,hp,rfl⟩:=q0g.mp hj;have hjl:j<ps.length:=(sR.mp hp).1;refine⟨hc _ _,?_⟩;show t ⟨some (.p (bM p))::rest,[some o',ev]⟩ _;refine ht p j o' _ (q0M hp) (by omega) P' fun b lU oN=>?_
  have hlen:(zs.map bM).length<1000:=by
   rw[qU];have:=hz.length_le;rw[q0L] at this;omega
  have P3:bh (n+((j+1:Nat):Int)) lU:=oN.mono (by omega)
  cases b with
  |true =>
   rw[q0f rfl];refine⟨hlen,hL _ _ ⟨zs++[p],lU,(sub_snoc hz hp).1,by rw[q0w];rfl,P3,?_⟩⟩;show(⟨none::fK 2 rest rest,_⟩:au)=_;rw[hr];rfl
  |false =>
   rw[q0a (by decide)];refine hL _ _ ⟨zs,lU,(sub_snoc hz hp).2,rfl,P3,?_⟩;show(⟨none::fK 2 rest rest,_⟩:au)=_;rw[hr];rfl
 ·rintro acc δ ⟨zs,o',hz,rfl,P',rfl⟩
  rw[qU] at P' hz;rw[q1o (Bi _)] at hz;exact⟨hc _ _,fin zs o' hz P'⟩
theorem UH:Sem 3 4 Dm Dp:=by
 rintro ys ovs K'-⟨n,kind,many,o,rfl,rfl,P,hn,m1,h_,fin⟩;obtain⟨mm,rfl⟩:∃mm:Nat,many=mm:=⟨many.toNat,by omega⟩;have Dr:mm<=12:=by omega
 unfold Dp;have bU:dj mm (jk mm):=⟨fun p hp=>BK hp,HY mm,HZ mm Dr⟩;refine aO fun N hN=>?_;simp? only [];subst hN;refine aO fun N hN=>?_;simp? only [];refine⟨by omega,?_⟩;refine kq (fun i δ=>δ=⟨[some (.o 0),some (.p (.int kind)),some (.p (.int mm)),some (.o 1),none,none,none],[some o,some (.lst ((jk i).map bM))]⟩) rfl ?_ ?_
 ·rintro j d δ L hj rfl hL
  obtain⟨hj,rfl⟩:=oz hj;simp? only [];have e:(0+(j:Int))=j:=by omega
  rw[e];refine⟨by omega,?_⟩
  refine kr (fun d=>match d with
   |.int a=>bM (a,j)
   |_=>.non) (by rw[mS];omega) trivial ?_ ?_
  ·intro d hd acc L' ha h
   obtain⟨i,hi⟩:=q0i.mp hd;obtain⟨hi,rfl⟩:=oz hi;simp? only [];exact⟨ha,h⟩
  ·have e2:(jk j).map bM++(b_ 0 (j:Int).toNat).map (fun d=>match d with
    |.int a=>bM (a,j)
    |_=>.non)=(jk (j+1)).map bM:=by
    show _=(jk j++_).map bM;unfold b_;rw[q0w,q0o,q0o];congr 1;refine q0R fun a _=>?_;simp[q8D]
   simp? only [];have l66:=HZ j (by omega);refine⟨by rw[mS];omega,?_⟩;rw[e2];exact hL _ rfl
 ·rintro δ rfl
  refine⟨trivial,?_⟩;subst hN;have eL:((mm:Int)).toNat=mm:=by omega
  rw[mS,eL];dsimp only
  have back:∀(ps:List (Int×Int))(o':OV)(sl:List (Option DV))(m:List (Option OV)),dj mm ps->bh (n+67) o'->gA 1 K' (.o (m.length+1)) ⟨sl,some o'::(m++[some (.lst (ps.map bM))])⟩:=fun ps o' sl m h1 h2=>by
   refine⟨[o'],rfl,rfl,?_⟩;show if m.length+1<1 then _ else _;rw[q0a (by omega)]
   have:(some o'::(m++[some (OV.lst (ps.map bM))]))[m.length+1]?=some (some (.lst (ps.map bM))):=by
    rw[q10,q0k (Bi _),q1r];rfl
   dsimp only;rw[this];exact .inl (fin ps o' h1 h2)
  refine aO fun N hN=>?_;simp? only [ax];split
  ·refine⟨by omega,?_⟩
   refine CB (fun i acc δ=>∃(zs:List (Int×Int))(o':OV),zs.length=i/\(∀(q:Nat)(p:Int×Int),zs[q]?=some p->p.2=q+1/\0<=p.1/\p.1<p.2)/\acc=zs.map bM/\bh (n+i) o'/\δ=⟨[none,some (.o 0)],[some o',some (.lst ((jk mm).map bM))]⟩) ⟨[],o,rfl,fun q p e=>by simp at e,rfl,P.mono (by omega),rfl⟩ ?_ ?_
   ·rintro j d acc δ L hj ⟨zs,o',hz,hq,rfl,P',rfl⟩ hL
    obtain⟨hj,rfl⟩:=oz hj;simp? only [];refine⟨n+j,1+j,o',rfl,rfl,P',by omega,by omega,by omega,fun r lU r0 r1 oN=>?_⟩;simp? only [];refine⟨by omega,hL _ _ ⟨zs++[(r,1+(j:Int))],lU,by rw[Hd,hz];rfl,fun q p e=>?_,by rw[q0w];rfl,oN.mono (by omega),rfl⟩⟩
    by_cases c:q<zs.length
    ·rw[q0j c] at e
     exact hq q p e
    ·have hl:=(sR.mp e).1
     rw[Hd,q0O] at hl;have:q=zs.length:=by omega
     subst this;rw[q0k (Bi _),q1r] at e;cases(show some (r,1+(j:Int))=some p by simpa using e)
     exact⟨by show 1+(j:Int)=_;omega,r0,r1⟩
   ·rintro acc δ ⟨zs,o',hz,hq,rfl,P',rfl⟩
    rw[mS] at hz P';refine⟨trivial,?_⟩;refine back zs o' _ [_] ⟨fun p hp=>?_,?_,by omega⟩ (P'.mono (by omega))
    ·obtain⟨q,pT⟩:=q0i.mp hp
     have:=hq q p pT;have hl:=(sR.mp pT).1;omega
    ·refine q3d.mpr fun i j hi hj jQ e=>?_
     have q1:=hq i _ (qV hi);have q2:=hq j _ (qV hj);rw[e] at q1;omega
  subst hN;refine aO fun N hN=>?_;simp? only [ax];split
  ·clear hN
   refine⟨by omega,?_⟩
   refine kr (fun d=>match d with
    |.int a=>bM (a,a+1)
    |_=>.non) (by rw[mS];omega) trivial ?_ ?_
   ·intro d hd acc L' ha h
    obtain⟨i,hi⟩:=q0i.mp hd;obtain⟨hi,rfl⟩:=oz hi;simp? only [];exact⟨ha,h⟩
   ·simp? only []
    refine tM (fun d=>ax d (bM (0,mm-1))&&decide ((2:Int)<mm)) id (by rw[qU];have:=bU.gZ;omega) rfl ?_ ?_
    ·intro d hd acc L' ha h h'
     obtain⟨p,hp,rfl⟩:=q0d.mp hd;simp only[bM] at h h';simp? only [bM];split
     ·rename_i q1
      split
      ·rename_i q2
       exact⟨ha,h (by rw[q1,q2];rfl)⟩
      ·rename_i q2
       exact h' (by rw[q1,q7d _ |>.mp q2];rfl)
     ·rename_i q1
      exact h' (by rw[q7d _ |>.mp q1];rfl)
    ·simp? only []
     have er:(b_ 0 ((mm:Int)-1).toNat).map (fun d=>match d with
       |D.int a=>bM (a,a+1)
       |x=>D.non)=((q0A (mm-1)).map fun i:Nat=>((i:Int),(i:Int)+1)).map bM:=by
      unfold b_;rw[q0o,q0o];have:((mm:Int)-1).toNat=mm-1:=by omega
      rw[this];refine q0R fun a _=>?_;simp[q8D]
     have ef:(((jk mm).map bM).filter fun d=>ax d (bM (0,mm-1))&&decide ((2:Int)<mm))=((jk mm).filter fun p=>ax (bM p) (bM (0,mm-1))&&decide ((2:Int)<mm)).map bM:=by
      rw[q2X];rfl
     rw[er,q4C,ef,<-q0w]
     have hf:∀p∈(jk mm).filter (fun p=>ax (bM p) (bM (0,mm-1))&&decide ((2:Int)<mm)),p=(0,(mm:Int)-1)/\(2:Int)<mm:=fun p hp=>by
      have:=(q0S.mp hp).2;simp[bM,ax,du] at this;obtain⟨a,b⟩:=p;simp at this ⊢;omega
     have h1:((jk mm).filter (fun p=>ax (bM p) (bM (0,mm-1))&&decide ((2:Int)<mm))).length<=1:=UG (bU.kF.sublist q56) fun p hp=>(hf p hp).1;refine⟨by rw[mS,qU];omega,back _ o _ [_] ⟨fun p hp=>?_,?_,?_⟩ (P.mono (by omega))⟩
     ·rcases q04.mp hp with hp|hp
      ·obtain⟨i,hi,rfl⟩:=q0d.mp hp
       have:=q0B.mp hi;exact⟨by omega,by omega,by show(i:Int)+1<mm;omega⟩
      ·exact bU.ends p (q0S.mp hp).1
     ·refine q1b.mpr ⟨?_,bU.kF.sublist q56,fun a ha b hb e=>?_⟩
      ·refine q1l.mpr (q3O.imp fun{a b} ne e=>ne ?_)
       have:=congrArg x0k e;exact q4M this
      ·subst e
       obtain⟨i,hi,rfl⟩:=q0d.mp ha;have:=hf _ hb;have h2:=congrArg x0k this.1;have h3:=congrArg Prod.snd this.1;simp at h2 h3;omega
     ·rw[Hd,qU,q0_];omega
  subst hN;refine aO fun N hN=>?_;simp? only [ax];split
  ·exact⟨[o],rfl,rfl,.inl (fin _ _ bU (P.mono (by omega)))⟩
  subst hN;refine aO fun N hN=>?_;simp? only [ax];split
  ·refine Dq (fun _ _=>rfl) bU.gZ P (by omega) (fun p i o' Q hp hi P' hQ=>?_) rfl fun zs o' hz P'=>?_
   ·simp? only [ax]
    refine⟨n+i,4,o',rfl,rfl,P',by omega,by omega,by omega,fun r lU r0 r1 oN=>?_⟩;simp? only [];exact hQ _ _ oN
   ·exact back zs o' _ [_] (bU.sub hz) (P'.mono (by have:=bU.gZ;omega))
  subst hN;refine aO fun N hN=>?_;simp? only [ax];split
  ·refine⟨n,mm+1,o,rfl,rfl,P,by omega,by omega,by omega,fun half o1 r0 r1 P1=>?_⟩
   simp? only [];refine Dq (n:=n+1) (fun _ _=>rfl) bU.gZ P1 (by omega) (fun p i o' Q hp hi P' hQ=>?_) rfl fun zs o' hz P'=>?_
   ·simp? only [ax,bM,fO,eT]
    split
    ·refine⟨n+1+i,3,o',rfl,rfl,P',by omega,by omega,by omega,fun r lU r0 r1 oN=>?_⟩
     simp? only [];exact hQ _ _ oN
    ·exact hQ _ _ (P'.mono (by omega))
   ·exact back zs o' _ [_] (bU.sub hz) (P'.mono (by have:=bU.gZ;omega))
  subst hN;simp? only [ax];refine Dq (fun _ _=>rfl) bU.gZ P (by omega) (fun p i o' Q hp hi P' hQ=>?_) rfl fun zs o' hz P'=>?_
  ·simp? only [ax]
   refine⟨n+i,2,o',rfl,rfl,P',by omega,by omega,by omega,fun r lU r0 r1 oN=>?_⟩;simp? only [];exact hQ _ _ oN
  ·exact back zs o' _ [_] (bU.sub hz) (P'.mono (by have:=bU.gZ;omega))
theorem Ds{α:Type}:∀{l:List α}{j:Nat}(h:j<l.length),q8J (l[j]::l.eraseIdx j) l
 |x::r,0,h=>q2F _
 |x::r,j+1,h=>by
  have hj:j<r.length:=by simpa using h
  show q8J (r[j]::x::r.eraseIdx j) (x::r);exact(q4i x r[j] _).trans ((Ds hj).cons x)
theorem Dt{α β:Type}(f:α->β):∀(l:List α)(j:Nat),(l.map f).eraseIdx j=(l.eraseIdx j).map f
 |[],_=>rfl
 |_::_,0=>rfl
 |x::r,j+1=>by
  show f x::(r.map f).eraseIdx j=f x::(r.eraseIdx j).map f;rw[Dt f r j]
noncomputable def bt(y:Int×Int×Int):D:=.tup [.int y.1,.int y.2.1,.int y.2.2]
noncomputable def ay(m:Int)(ys:List (Int×Int×Int)):D:=.tup [.int m,.tup (ys.map bt)]
noncomputable def eV(y:Int×Int×Int):Int×Int:=(y.1,y.2.1)
theorem dj.perm{many:Int}{ps qs:List (Int×Int)}(h:dj many ps)(p:qs.Perm ps):dj many qs :=
 ⟨fun x hx=>h.ends x (p.mem_iff.mp hx),p.nodup_iff.mpr h.kF,by rw[p.length_eq];exact h.gZ⟩
def Du:GD:=fun ys ovs K=>∃(n dz most:Int)(o:OV),ys=[.o 0,.p (.int dz),.p (.int most)]/\ovs=[o]/\bh n o/\n+400<2 ^ 30/\1<=dz/\dz<=12/\0<=most/\most<=30 ∧
 ∀m ws o',aG m ws->m<=dz->(ws.length:Int)<=most->bh (n+300) o'->K (.p (ay m ws)) [o']
def Dv:WS:=(ak (aE 3 (aj 2 gX (ag (aa 0) (ag (dC (.int 8)) af)))) (ak (aE 4 (aj 2 gX (ag (aa 0) (ag (dC (.int 4)) af)))) (ak (aE 5 (d2 (dC (.int 1)) (aj 2 gX (ag (aa 0) (ag (aa 1) af))) cJ)) (ak (aE 6 (vK 3 Dm (ag (aa 0) (ag (aa 3) (ag (aa 5) af))))) (ak (aE 7 (s_ af)) (ak (cY (mR (ag (dN (ag (aa 2) (ag (dN (ag (aa 6) af) bC) af)) tK) af)) (bj 8) (ak (iV (yf (aa 6) (ag (aj 2 gX (ag (aa 0) (ag (dN (ag (aa 6) af) bC) af))) af)) (iF 2 (dR (bj 9) (dR (bj 10) ij)))) (ak (aE 11 (d2 (b8 (ag (dC (.int 7)) (ag (aj 2 gX (ag (aa 0) (ag (dC (.int 3)) af))) (ag (d2 (d2 (dC (.int 10)) (dC (.int 9)) (dF eN fun i j=>.int (i ^ j.toNat))) (aj 2 gX (ag (aa 0) (ag (dC (.int 2)) af))) (oI fun i j=>.int (i-j))) (ag (aj 2 gX (ag (aa 0) (ag (d2 (d2 (dC (.int 10)) (dC (.int 9)) (dF eN fun i j=>.int (i ^ j.toNat))) (dC (.int 1)) cJ) af))) af))))) (aa 4) aV)) (lB (lG (aa 7) (ag (eS (ag (aa 9) (ag (aa 10) (ag (aa 11) af)))) af)))))) (aC (eS (ag (aa 5) (ag (dN (ag (aa 7) af) tI) af))))))))))
theorem UI:Sem 3 9 Du Dv:=by
 rintro ys ovs K'-⟨n,dz,most,o,rfl,rfl,P,hn,h1,Kj,s0,s30,fin⟩;unfold Dv;refine aO fun N hN=>?_;simp? only [];refine⟨n,8,o,rfl,rfl,P,by omega,by omega,by omega,fun kind o1 _ _ P1=>?_⟩;simp? only [];subst hN;refine aO fun N hN=>?_;simp? only [];refine⟨n+1,4,o1,rfl,rfl,P1,by omega,by omega,by omega,fun eF o2 p0 p4 P2=>?_⟩;simp? only [];subst hN;refine aO fun N hN=>?_;simp? only [];refine⟨n+1+1,dz,o2,rfl,rfl,P2,by omega,by omega,by omega,fun mm o3 m0 mh P3=>?_⟩;simp? only [];subst hN;refine aO fun N hN=>?_;simp? only [];refine⟨n+1+1+1,kind,1+mm,o3,rfl,rfl,P3,by omega,by omega,by omega,fun ps o4 Kk P4=>?_⟩
 simp? only [];subst hN;refine aO fun N hN=>?_;simp? only [];subst hN;refine aO fun N hN=>?_;have f66:=Kk.gZ;simp? only [];refine⟨by omega,?_⟩;have ek:(min most (ps.length:Int)).toNat=min most.toNat ps.length:=by omega
 rw[ek];generalize hk:min most.toNat ps.length=k
 refine kq (fun i δ=>∃(qs:List (Int×Int))(ws:List (Int×Int×Int))(o':OV),qs.length+i=ps.length/\ws.length=i/\dj (1+mm) (ws.map eV++qs)/\(∀y∈ws,0<=y.2.2/\y.2.2<=1000000000)/\bh (n+70+4*i) o' ∧
  δ=⟨[some (.o 0),some (.p (.int dz)),some (.p (.int most)),some (.p (.int kind)),some (.p (.int eF)),some (.p (.int (1+mm))),some (.o 1),some (.o 2),none,none,none,none],[some o',some (.lst (qs.map bM)),some (.lst (ws.map bt))]⟩)
  ⟨ps,[],o4,by omega,rfl,Kk,fun y hy=>absurd hy q0s,P4.mono (by omega),rfl⟩ ?_ ?_
 ·rintro j d δ L hj ⟨qs,ws,o',hq,hw,hp,hy,P',rfl⟩ hL
  obtain⟨hj,rfl⟩:=oz hj;have q0:0<qs.length:=by omega
  have UJ:=hp.gZ;rw[Hd,qU] at UJ;refine⟨trivial,?_⟩;simp only[bj,q0Y,q0Z];refine aO fun N2 eU=>?_;simp? only [];refine⟨n+70+4*j,qs.length,o',rfl,rfl,P',by omega,by omega,by omega,fun r o1 r0 r1 P1=>?_⟩;obtain⟨rn,rfl⟩:∃rn:Nat,r=rn:=⟨r.toNat,by omega⟩;have hr:rn<qs.length:=by omega
  have ix:seqIndex? (rn:Int) qs.length=some rn:=H_ hr;have eq:(qs.map bM)[rn]?=some (.tup [.int qs[rn].1,.int qs[rn].2]):=by rw[q0b,qV hr];rfl
  simp? only [ix,eq];refine⟨⟨by omega,by omega⟩,?_⟩;subst eU;refine aO fun N2 eU=>?_;simp only[aE,d2,b8];refine yB fun K3 sd=>?_;simp? only [];subst sd;refine yB fun K3 sd=>?_;simp? only [];refine⟨n+70+4*j+1,3,o1,rfl,rfl,P1,by omega,by omega,by omega,fun a1 o2 a10 a11 P2=>?_⟩;simp? only [];subst sd;refine yB fun K3 sd=>?_;simp? only [];refine⟨⟨by decide,by decide,by decide⟩,n+70+4*j+1+1,2,o2,rfl,rfl,P2,by omega,by omega,by omega,fun a2 o3 a20 a21 P3=>?_⟩;simp? only [];subst sd;refine yB fun K3 sd=>?_;simp? only [];refine⟨⟨by decide,by decide,by decide⟩,n+70+4*j+1+1+1,10 ^ q7e 9+1,o3,rfl,rfl,P3,by omega,by decide,by decide,fun a3 o4 a30 UK P4=>?_⟩
  simp? only [];subst sd;simp? only [];have e9:(10:Int) ^ q7e 9=1000000000:=by decide
  rw[e9] at UK ⊢
  obtain⟨pr,UL,UM,UN⟩:∃pr:Int,eO [D.int 7,D.int a1,D.int (1000000000-a2),D.int a3] eF=some (.int pr)/\0<=pr/\pr<=1000000000:=by
   have:eF=0\/eF=1\/eF=2\/eF=3:=by omega
   rcases this with rfl|rfl|rfl|rfl
   ·exact⟨7,rfl,by omega,by omega⟩
   ·exact⟨a1,rfl,by omega,by omega⟩
   ·exact⟨1000000000-a2,rfl,by omega,by omega⟩
   ·exact⟨a3,rfl,by omega,by omega⟩
  rw[UL];show N2 _;subst eU;simp? only [];refine⟨by omega,hL _ ⟨qs.eraseIdx rn,ws++[(qs[rn].1,qs[rn].2,pr)],o4,?_,?_,?_,?_,P4.mono (by omega),?_⟩⟩
  ·rw[q25 hr];omega
  ·rw[Hd,hw];rfl
  ·refine hp.perm ?_
   rw[q0w,q18];refine q3M _ ?_;exact Ds hr
  ·intro y tT
   rcases q04.mp tT with h|h
   ·exact hy y h
   ·rw[q0K.mp h];exact⟨UM,UN⟩
  ·rw[q0w,Dt];rfl
 ·rintro δ ⟨qs,ws,o',hq,hw,hp,hy,P',rfl⟩
  refine⟨trivial,?_⟩;subst hN;simp? only [];rw[mS] at hw P';refine⟨[o'],rfl,rfl,?_⟩;refine fin (1+mm) ws o' ⟨by omega,by omega,by omega,fun y tT=>?_,?_⟩ (by omega) (by omega) (P'.mono (by omega))
  ·have:=hp.ends (eV y) (q1C _ (q0d.mpr ⟨y,tT,rfl⟩))
   have h2:=hy y tT;simp only[eV] at this;omega
  ·exact(q1b.mp hp.kF).1
end LJ
namespace L2
open PySem PySem.Spec PyProof.Rows
variable[aB]
section
variable{X:Cx}{fa:WA}
end
end L2
namespace LJ
open PySem L2
variable[aB]
noncomputable def Kl:D->Bool
 |.int _=>true
 |_=>false
noncomputable def lV:D->Int->Int->Bool
 |.int i,lo,hi=>decide (lo<=i)&&decide (i<=hi)
 |_,_,_=>false
noncomputable def yC:D->Int->Bool
 |.tup ds,n=>(ds.length:Int)==n
 |_,_=>false
theorem gF{K:RV->List OV->Prop}{d:D}{sl:List (Option DV)}(h:K (.p d) []):gA 0 K (.p d) ⟨sl,[]⟩:=⟨[],rfl,rfl,h⟩
def yD:GD:=fun ys ovs K=>∃d,ys=[.p d]/\ovs=[]/\K (.p (.bl (Kl d))) []
def Dw:WS:=(aC (jm (d1 (aa 0) (bB "int")) (xP (d1 (aa 0) (bB "bool")))))
theorem Km:Sem 1 0 yD Dw:=by
 rintro ys ovs K'-⟨d,rfl,rfl,k⟩;unfold Dw;simp? only [];cases d<;>simp only[bG,aJ]<;>exact gF k
def oO:GD:=fun ys ovs K=>∃d lo hi,ys=[.p d,.p (.int lo),.p (.int hi)]/\ovs=[]/\K (.p (.bl (lV d lo hi))) []
def Dy:WS:=(aC (jm (aj 1 yD (ag (aa 0) af)) (ya (aa 1) (aa 0) (aa 2) (oI fun i j=>.bl (decide (i<=j))) (oI fun i j=>.bl (decide (i<=j))))))
theorem Kn:Sem 3 0 oO Dy:=by
 rintro ys ovs K'-⟨d,lo,hi,rfl,rfl,k⟩;unfold Dy;simp? only [];refine⟨d,rfl,rfl,?_⟩;cases d<;>simp? only [Kl,lV] at k ⊢ <;> first|exact gF k|skip
 rename_i i
 by_cases c:lo<=i
 ·rw[q0x c] at k ⊢
  simp only[Bool.true_and] at k;exact gF k
 ·rw[q0r c] at k ⊢
  simp only[q5B] at k;exact gF k
def yE:GD:=fun ys ovs K=>∃d n,ys=[.p d,.p (.int n)]/\ovs=[]/\K (.p (.bl (yC d n))) []
def Dz:WS:=(aC (jm (d1 (aa 0) (bB "tuple")) (d2 (dN (ag (aa 0) af) bC) (aa 1) oEq)))
theorem UO:Sem 2 0 yE Dz:=by
 rintro ys ovs K'-⟨d,n,rfl,rfl,k⟩;unfold Dz;simp? only [];cases d<;>simp? only [bG,aJ,yC,ax] at k ⊢ <;> exact gF k
theorem i9{K:RV->List OV->Prop}{d:D}{sl:List (Option DV)}{mu:List (Option OV)}(h:K (.p d) []):gA 0 K (.p d) ⟨sl,mu⟩:=⟨[],rfl,rfl,h⟩
def DA:GD:=yD
def Ko:WS:=(aC (jm (d1 (aa 0) (bB "int")) (xP (d1 (aa 0) (bB "bool")))))
theorem UP:Sem 1 0 DA Ko:=Km
def sf:GD:=oO
def Kq:WS:=(aC (jm (aj 1 DA (ag (aa 0) af)) (ya (aa 1) (aa 0) (aa 2) (oI fun i j=>.bl (decide (i<=j))) (oI fun i j=>.bl (decide (i<=j))))))
theorem UQ:Sem 3 0 sf Kq:=Kn
theorem UR(p q:Int×Int):ax (bM p) (bM q)=decide (p=q):=by
 obtain⟨a,b⟩:=p;obtain⟨c,d⟩:=q;simp only[bM,ax,du,q4O]
 by_cases h1:a=c<;>by_cases h2:b=d<;>simp[h1,h2]
theorem Kr:∀ps:List (Int×Int),aQ (ps.map bM)<=1
 |[]=>q06 _
 |p::r=>by
  rw[q0p];have:=Kr r;simp only[aQ,bM,dep];omega
theorem Ks:∀(ps:List (Int×Int))(q:Int×Int),((ps.map bM).any fun e=>ax e (.tup [.int q.1,.int q.2]))=decide (q∈ps)
 |[],q=>by simp
 |p::r,q=>by
  rw[q0p,q2p,Ks r q,show ax (bM p) (.tup [.int q.1,.int q.2])=decide (p=q) from UR p q]
  by_cases c:p=q
  ·subst c;simp
  ·have c':¬ q=p:=fun z=>c z.symm
   simp[c,c']
theorem DB:∀{ds:List D}{d:D},d∈ds->dep d<=aQ ds
 |a::r,d,h=>by
  simp only[aQ];rcases PD.mp h with rfl|h
  ·omega
  ·have:=DB h;omega
theorem oP:aJ "NoneType" "bool" = false:=rfl
theorem oQ:aJ "NoneType" "int" = false:=rfl
theorem oR:aJ "NoneType" "str" = false:=rfl
theorem oS:aJ "NoneType" "tuple" = false:=rfl
theorem oU:aJ "NoneType" "list" = false:=rfl
theorem m_:aJ "bool" "bool" = true:=rfl
theorem nh:aJ "bool" "int" = true:=rfl
theorem ni:aJ "bool" "str" = false:=rfl
theorem nk:aJ "bool" "tuple" = false:=rfl
theorem nq:aJ "bool" "list" = false:=rfl
theorem lW:aJ "int" "bool" = false:=rfl
theorem lX:aJ "int" "int" = true:=rfl
theorem lY:aJ "int" "str" = false:=rfl
theorem lZ:aJ "int" "tuple" = false:=rfl
theorem l6:aJ "int" "list" = false:=rfl
theorem ku:aJ "str" "bool" = false:=rfl
theorem ky:aJ "str" "int" = false:=rfl
theorem kz:aJ "str" "str" = true:=rfl
theorem kA:aJ "str" "tuple" = false:=rfl
theorem kB:aJ "str" "list" = false:=rfl
theorem oV:aJ "tuple" "bool" = false:=rfl
theorem oW:aJ "tuple" "int" = false:=rfl
theorem oX:aJ "tuple" "str" = false:=rfl
theorem oY:aJ "tuple" "tuple" = true:=rfl
theorem oZ:aJ "tuple" "list" = false:=rfl
theorem o6:aJ "list" "bool" = false:=rfl
theorem o7:aJ "list" "int" = false:=rfl
theorem o8:aJ "list" "str" = false:=rfl
theorem o9:aJ "list" "tuple" = false:=rfl
theorem o_:aJ "list" "list" = true:=rfl
theorem DC:∀{as:List D}{d:D},d∈cj as as->∃a,d=.tup [a,a]/\a∈as
 |[],d,h=>nomatch h
 |x::r,d,h=>by
  simp only[cj] at h;rcases PD.mp h with rfl|h
  ·exact⟨x,rfl,PE⟩
  ·obtain⟨a,e,m⟩:=DC h
   exact⟨a,e,q0c _ m⟩
theorem DD:∀l:List D,aQ (l.map fun _=>D.bl true)<=55
 |[]=>q06 _
 |_::r=>by
  rw[q0p];have:=DD r;simp only[aQ,dep];omega
end LJ
namespace L2
open PySem PySem.Spec PyProof.Rows
variable[aB]
def Kt:List D->(D->Prop)->Prop:=fun ds K=>∃ps:List (Int×Int),ds=[.lst (ps.map fun p=>.tup [.int p.1,.int p.2])]/\ps.length<=30/\(∀p∈ps,0<=p.1/\p.1<p.2/\p.2<12)/\ps.Nodup/\K (.int ps.length)
section
variable{X:Cx}{fa:WA}
theorem US{a:Expr}{p1 p2 q1 q2:Pos}(hc:X.calm=true)(hu:X.A.units+64<cLine)(rO:Gl X "len")(hl:X.mg "len" = none)(rP:bootBuiltins "len" = some (.builtin "len"))(rQ:Gl X "set")(hr:X.mg "set" = none)(rR:bootBuiltins "set" = some (.type "set"))(ha:JA X [a] (bK fa))
  (he:starEach [a] X.env=[(false,eval a X.env)]:=by rfl) (rS:starEach [.Call (.Name "set" p2) [a] [] q2] X.env=[(false,eval (.Call (.Name "set" p2) [a] [] q2) X.env)]:=by rfl):JE X (.Call (.Name "len" p1) [.Call (.Name "set" p2) [a] [] q2] [] q1) (tD (dN fa Kt)) :=
 (uR (Q3) rO hl rP (gy (mJ (Q0 hc hu) rQ hr rR ha (he:=he)) aI) (he:=rS)).weak fun σ H Q h0_=>el7 h0_ fun F ad δ K S q k =>⟨F,ad,δ,_,S,q,fun xs δ1 h1 vs F1 aN H1 E1 S1 V1=>by
  obtain⟨ds,⟨ps,rfl,gN,bd,kF,h2⟩,rq⟩:=xK S1 V1 h1;obtain⟨v,rfl,a,vs,rfl,g1,g2⟩:=cO rq;obtain⟨as,rfl,hl,g⟩:=Jz g2;refine⟨a,as,ps,rfl,aZ.of g1,hl,fun i b k' e1 e2=>S1.sub _ _ (g i b k' e1 e2),bd,kF,gN,fun p hp=>⟨p,ps.length,rfl,a_,by omega,?_⟩⟩;have s1:ar H1 (upd H1 p (lh p ps.length)):=b7 hp
  exact k _ _ h2 _ _ _ _ (E1.trans (Ext.al S1 s1)) (S1.al s1) rfl⟩
end
end L2
namespace LJ
open PySem L2
variable[aB]
theorem qg{i lo hi:Int}(h:lo<=i)(h':i<=hi):lV (.int i) lo hi=true:=by
 show(decide (lo<=i)&&decide (i<=hi))=true;rw[q0x h,q0x h'];rfl
def DE:GD:=fun ys ovs K=>∃m i j:Int,ys=[.p (.int m),.p (.int i),.p (.int j)]/\ovs=[]/\0<=i/\i<j/\j<m/\K (.p (.bl true)) []
def DF:WS:=(aC (jm (aj 3 oO (ag (aa 1) (ag (dC (.int 0)) (ag (d2 (aa 0) (dC (.int 1)) (oI fun i j=>.int (i-j))) af)))) (aj 3 oO (ag (aa 2) (ag (d2 (aa 1) (dC (.int 1)) cJ) (ag (d2 (aa 0) (dC (.int 1)) (oI fun i j=>.int (i-j))) af))))))
theorem UT:Sem 3 0 DE DF:=by
 rintro ys ovs K'-⟨m,i,j,rfl,rfl,h1,h2,h3,k⟩;unfold DF;simp? only [];refine⟨.int i,0,m-1,rfl,rfl,?_⟩;rw[qg h1 (by omega)];simp? only [];refine⟨.int j,i+1,m-1,rfl,rfl,?_⟩;rw[qg (by omega) (by omega)];simp? only [];exact gF k
structure Ku(m:Int)(y:Int×Int×Int):Prop where
 low:0<=y.1
 up:y.1<y.2.1
 most:y.2.1<m
 pr:0<=y.2.2/\y.2.2<=1000000000
def DG:GD:=fun ys ovs K=>∃m y,Ku m y/\ys=[.p (.int m),.p (bt y)]/\ovs=[]/\K (.p (.bl true)) []
def DH:WS:=(ak (bf (bS (dT (aj 2 yE (ag (aa 1) (ag (dC (.int 3)) af))))) (aC (dC (.bl false))) cG) (aC (jm (aj 3 DE (ag (aa 0) (ag (d2 (aa 1) (dC (.int 0)) aV) (ag (d2 (aa 1) (dC (.int 1)) aV) af)))) (aj 3 oO (ag (d2 (aa 1) (dC (.int 2)) aV) (ag (dC (.int 0)) (ag (dC (.int 1000000000)) af)))))))
theorem UU:Sem 2 0 DG DH:=by
 rintro ys ovs K'-⟨m,y,W,rfl,rfl,k⟩;unfold DH;refine aO fun N hN=>?_;simp? only [];refine⟨bt y,3,rfl,rfl,?_⟩;rw[show yC (bt y) 3=true from rfl];simp? only [];subst hN;simp? only [bt,fO,eT,at2];refine⟨m,_,_,rfl,rfl,W.low,W.up,W.most,?_⟩;simp? only [];refine⟨_,0,1000000000,rfl,rfl,?_⟩;rw[qg W.pr.1 W.pr.2];simp? only [];exact gF k
theorem aG.way{m:Int}{ws:List (Int×Int×Int)}(W:aG m ws){y:Int×Int×Int}(h:y∈ws):Ku m y :=
 let⟨a,b,c,d,e⟩:=W.ends y h
 ⟨a,by omega,by omega,d,e⟩
def DI:GD:=fun ys ovs K=>∃m ws,aG m ws/\ys=[.p (.int m),.p (.tup (ws.map bt))]/\ovs=[]/\K (.p (.bl true)) []
def DJ:WS:=(ak (bf (iE (bS (dT (d1 (aa 1) (bB "tuple")))) (dT (d2 (dN (ag (aa 1) af) bC) (dC (.int 30)) (oI fun i j=>.bl (decide (j<i)))))) (aC (dC (.bl false))) cG) (ak (bf (bS (dT (dN (ag (eA (bE (aa 1)) [none,some 0] (bj 0) cI (aj 2 DG (ag (aa 1) (ag (aa 0) af)))) af) oB))) (aC (dC (.bl false))) cG) (aC (d2 (dN (ag (eA (bE (aa 1)) [none] (bj 0) cI (dy (aa 0) dw (iX (dC (.int 2))))) af) Kt) (dN (ag (aa 1) af) bC) oEq))))
theorem UW:Sem 2 0 DI DJ:=by
 rintro ys ovs K'-⟨m,ws,W,rfl,rfl,k⟩;have pb:=W.gN;have h_:=W.h_;unfold DJ;refine aO fun N hN=>?_;simp? only [bG,show aJ "tuple" "tuple" = true from rfl];rw[q0a (by rw[q0r (by omega)];decide)];subst hN;refine aO fun N hN=>?_;simp? only [];refine kr (fun _=>.bl true) (by rw[qU];omega) trivial ?_ ?_
 ·intro d hd acc L ha h
  obtain⟨y,hy,rfl⟩:=q0d.mp hd;simp? only [];refine⟨m,y,W.way hy,rfl,rfl,?_⟩;simp? only [];exact⟨ha,h⟩
 rw[show(ws.map bt).map (fun _=>D.bl true)=(ws.map fun _=>true).map D.bl by rw[q0o,q0o];rfl];simp? only [Je];rw[show(ws.map fun _=>true).all id=true from q03.mpr fun b hb=>by obtain⟨_,_,rfl⟩:=q0d.mp hb;rfl];simp? only [];subst hN;simp? only []
 refine kr (fun d=>match d with
  |.tup [a,b,_]=>.tup [a,b]
  |_=>.non) (by rw[qU];omega) trivial ?_ ?_
 ·intro d hd acc L ha h
  obtain⟨y,hy,rfl⟩:=q0d.mp hd;have ec:cutD [D.int y.1,D.int y.2.1,D.int y.2.2] none (some 2)=[D.int y.1,D.int y.2.1]:=by unfold cutD;rfl
  simp? only [bt,ec] at h ⊢;exact⟨ha,h⟩
 simp? only [];refine⟨ws.map eV,by rw[q0o,q0o];rfl,by rw[qU];exact pb,fun p hp=>?_,W.unlike,?_⟩
 ·obtain⟨y,hy,rfl⟩:=q0d.mp hp
  have Y:=W.way hy;have:=Y.most;exact⟨Y.low,Y.up,by show y.2.1<12;omega⟩
 rw[qU];simp? only [ax];exact gF k
def DK:GD:=fun ys ovs K=>∃m ws,aG m ws/\ys=[.p (ay m ws)]/\ovs=[]/\K (.p (.bl true)) []
def DL:WS:=(ak (bf (bS (dT (aj 2 yE (ag (aa 0) (ag (dC (.int 2)) af))))) (aC (dC (.bl false))) cG) (aC (jm (aj 3 oO (ag (d2 (aa 0) (dC (.int 0)) aV) (ag (dC (.int 1)) (ag (dC (.int 12)) af)))) (aj 2 DI (ag (d2 (aa 0) (dC (.int 0)) aV) (ag (d2 (aa 0) (dC (.int 1)) aV) af))))))
theorem UX:Sem 1 0 DK DL:=by
 rintro ys ovs K'-⟨m,ws,W,rfl,rfl,k⟩;unfold DL;refine aO fun N hN=>?_;simp? only [];refine⟨ay m ws,2,rfl,rfl,?_⟩;rw[show yC (ay m ws) 2=true from rfl];simp? only [];subst hN;simp? only [ay,fO,eT];refine⟨.int m,1,12,rfl,rfl,?_⟩;rw[qg W.m1 W.h_];simp? only [];refine⟨m,ws,W,rfl,rfl,?_⟩;simp? only [];exact gF k
noncomputable def aX(ns:List Int):D:=.lst (ns.map D.int)
noncomputable def gq(fs:List Int)(i j:Nat):List Int:=fs.map fun x=>if x=max (fs.getD i 0) (fs.getD j 0) then min (fs.getD i 0) (fs.getD j 0) else x
theorem wy(fs:List Int)(i j:Nat):(gq fs i j).length=fs.length:=by unfold gq;rw[qU]
theorem wz{ns:List Int}{i:Nat}(h:i<ns.length):eO (ns.map D.int) (i:Int)=some (.int (ns.getD i 0)):=by
 refine kS ?_;rw[q0b,qV h,He,qV h];rfl
theorem bN{K:RV->List OV->Prop}{d:D}{sl:List (Option DV)}{mu:List (Option OV)}(h:K (.p d) []):gA 0 K (.p d) ⟨sl,mu⟩:=⟨[],rfl,rfl,h⟩
def yF:GD:=fun ys ovs K=>∃(fs:List Int)(i j:Nat),ys=[.p (aX fs),.p (.int i),.p (.int j)]/\ovs=[]/\i<fs.length/\j<fs.length/\fs.length<=12/\K (.p (aX (gq fs i j))) []
def DM:WS:=(ak (aE 3 (dN (ag (d2 (aa 0) (aa 1) aV) (ag (d2 (aa 0) (aa 2) aV) af)) yd)) (ak (aE 4 (dN (ag (d2 (aa 0) (aa 1) aV) (ag (d2 (aa 0) (aa 2) aV) af)) tK)) (aC (eA (bE (aa 0)) [none,some 4,some 3] (bj 0) cI (tu (dT (d2 (aa 0) (aa 2) oEq)) (aa 1) (aa 0))))))
theorem UY:Sem 3 2 yF DM:=by
 rintro ys ovs K'-⟨fs,i,j,rfl,rfl,hi,hj,Kj,k⟩;have a1:=wz hi;have a2:=wz hj;unfold DM aX;refine aO fun N hN=>?_;simp? only [a1,a2];subst hN;refine aO fun N hN=>?_;simp? only [a1,a2];subst hN;simp? only []
 refine kr (fun d=>match d with
  |.int x=>.int (if x=max (fs.getD i 0) (fs.getD j 0) then min (fs.getD i 0) (fs.getD j 0) else x)
  |_=>.non) (by rw[qU];omega) trivial ?_ ?_
 ·intro d hd acc L ha h
  obtain⟨x,_,rfl⟩:=q0d.mp hd;simp? only [];cases q:ax (.int x) (.int (max (fs.getD i 0) (fs.getD j 0)))
  ·have:¬ x=max (fs.getD i 0) (fs.getD j 0):=fun z=>by rw[z,fM] at q;cases q
   simp only[this,q1X] at h;exact⟨ha,h⟩
  ·have:x=max (fs.getD i 0) (fs.getD j 0):=by simp only[ax] at q;exact q0m q
   simp only[this,q2x] at h;exact⟨ha,h⟩
 ·refine bN ?_
  have e:(fs.map D.int).map (fun d=>match d with
   |.int x=>D.int (if x=max (fs.getD i 0) (fs.getD j 0) then min (fs.getD i 0) (fs.getD j 0) else x)
   |_=>.non)=(gq fs i j).map D.int:=by
   unfold gq;rw[q0o,q0o];rfl
  rw[e];exact k
noncomputable def df(ws:List (Int×Int×Int))(n:Int):Nat×Nat:=((ws.getD n.toNat (0,0,0)).1.toNat,(ws.getD n.toNat (0,0,0)).2.1.toNat)
noncomputable def fP(ws:List (Int×Int×Int))(fs:List Int)(ns:List Int):List Int:=ns.foldl (fun fs n=>gq fs (df ws n).1 (df ws n).2) fs
theorem yG(ws:List (Int×Int×Int)):∀(ns:List Int)(fs:List Int),(fP ws fs ns).length=fs.length
 |[],fs=>rfl
 |n::r,fs=>by
  show(fP ws (gq fs _ _) r).length=_;rw[yG ws r,wy]
noncomputable def eG(m:Int)(ws:List (Int×Int×Int))(ns:List Int):List Int:=fP ws (bg m.toNat) ns
def Nums(ws:List (Int×Int×Int))(ns:List Int):Prop:=∀n∈ns,0<=n/\n<(ws.length:Int)
theorem tU{m:Int}{ws:List (Int×Int×Int)}(W:aG m ws){n:Int}(h0:0<=n)(h1:n<(ws.length:Int)):∃y,ws.getD n.toNat (0,0,0)=y/\y∈ws/\eO (ws.map bt) n=some (bt y)/\∃i j:Nat,y.1=i/\y.2.1=j/\i<m.toNat/\j<m.toNat/\i<j:=by
 obtain⟨k,rfl⟩:∃k:Nat,n=k:=⟨n.toNat,by omega⟩;have hk:k<ws.length:=by omega
 refine⟨ws[k],?_,q1K hk,kS ?_,?_⟩
 ·rw[q0u,He,qV hk];rfl
 ·rw[q0b,qV hk];rfl
 ·obtain⟨a,b,c,_,_⟩:=W.ends _ (q1K hk)
  exact⟨ws[k].1.toNat,ws[k].2.1.toNat,by omega,by omega,by omega,by omega,by omega⟩
def yH:GD:=fun ys ovs K=>∃(m:Int)(ws:List (Int×Int×Int))(ns:List Int),aG m ws/\Nums ws ns/\((ys=[.p (ay m ws),.p (aX ns)]/\ovs=[]/\K (.p (aX (eG m ws ns))) [])\/(ys=[.p (ay m ws),.o 0]/\ovs=[.lst (ns.map D.int)]/\K (.p (aX (eG m ws ns))) [.lst (ns.map D.int)]))
def yI:WS:=(ak (aE 2 (ye (ag (d2 (aa 0) (dC (.int 0)) aV) af))) (ak (cY (bE (aa 1)) (bj 3) (ak (aE 4 (d2 (d2 (aa 0) (dC (.int 1)) aV) (aa 3) aV)) (aE 2 (aj 3 yF (ag (aa 2) (ag (d2 (aa 4) (dC (.int 0)) aV) (ag (d2 (aa 4) (dC (.int 1)) aV) af))))))) (aC (aa 2))))
theorem UZ:Sem 2 3 yH yI:=by
 rintro ys ovs K'-⟨m,ws,ns,W,hn,h⟩;have m1:=W.m1;have h_:=W.h_;have il:(bg m.toNat).length=m.toNat:=by unfold bg;simp
 have core:∀(x:DV)(mu:List (Option OV))(bp:au->Prop)(K:KS),(∀sl,bp ⟨sl,mu⟩)->(∀fs,fs=eG m ws ns->K.nx ⟨[some (.p (ay m ws)),some x,some (.p (aX fs)),none,none],mu⟩)->(∀k,x=.o k->k<mu.length) →
   km ⟨[some (.p (ay m ws)),some x,some (.p (aX (bg m.toNat))),none,none],mu⟩ bp (bj 3) (ak (aE 4 (d2 (d2 (aa 0) (dC (.int 1)) aV) (aa 3) aV)) (aE 2 (aj 3 yF (ag (aa 2) (ag (d2 (aa 4) (dC (.int 0)) aV) (ag (d2 (aa 4) (dC (.int 1)) aV) af)))))) K (ns.map D.int) ⟨[some (.p (ay m ws)),some x,some (.p (aX (bg m.toNat))),none,none],mu⟩:=by
  intro x mu bp K hc hK hx;refine kq (fun i δ=>δ=⟨[some (.p (ay m ws)),some x,some (.p (aX (fP ws (bg m.toNat) (ns.take i)))),none,none],mu⟩) rfl ?_ ?_
  ·rintro j d δ L hj rfl hL
   rw[q0b] at hj;obtain⟨n,nr,rfl⟩:=q0g.mp hj;obtain⟨n0,n1⟩:=hn n (q0M nr);obtain⟨y,ey,hy,ea,i,k,e1,e2,h1,h2,_⟩:=tU W n0 n1;refine⟨hc _,?_⟩;simp only[bj,q0Y,q0Z];refine aO fun N hN=>?_;simp? only [eT,ay,ea];subst hN;simp? only [fO,eT,bt];have hlen:(fP ws (bg m.toNat) (ns.take j)).length=m.toNat:=by rw[yG,il]
   refine⟨fP ws (bg m.toNat) (ns.take j),i,k,by rw[e1,e2],rfl,by omega,by omega,by omega,?_⟩
   have ej:gq (fP ws (bg m.toNat) (ns.take j)) i k=fP ws (bg m.toNat) (ns.take (j+1)):=by
    have:ns.take (j+1)=ns.take j++[n]:=by rw[q2j,nr];rfl
    rw[this];unfold fP;rw[q60];show _=gq _ (df ws n).1 (df ws n).2
    have:df ws n=(i,k):=by
     unfold df;rw[ey,e1,e2,q0u,q0u]
    rw[this]
   rw[ej]
   have eq:(au.trim ⟨[some (.p (ay m ws)),some x,some (.p (aX (bg m.toNat))),none,none],mu⟩ ⟨[some (.p (ay m ws)),some x,some (.p (aX (fP ws (bg m.toNat) (ns.take (j+1))))),some (.p (.int n)),some (.p (bt y))],mu⟩)=⟨[some (.p (ay m ws)),some x,some (.p (aX (fP ws (bg m.toNat) (ns.take (j+1))))),none,none],mu⟩:=by
    unfold au.trim;rw[q2M]
    cases x with
    |p d=>rfl
    |o q =>
     have:=hx q rfl;simp only[fK,vH,this,q2x]
   have:=hL _ rfl;rw[<-eq] at this;exact this
  ·rintro δ rfl
   rw[qU,q1o (Bi _)];exact⟨hc _,hK _ rfl⟩
 have rg:b_ 0 m.toNat=(bg m.toNat).map D.int:=rN m.toNat;rcases h with⟨rfl,rfl,k⟩|⟨rfl,rfl,k⟩
 ·unfold yI
  refine aO fun N hN=>?_;simp? only [fO,ay];refine⟨⟨by omega,by omega⟩,?_⟩;subst hN;rw[rg];refine aO fun N hN=>oK fun g' b' K2 hg hb' hK=>?_;simp? only [aX];subst hg hb' hK;refine core (.p (aX ns)) [] _ _ (fun _=>trivial) (fun fs e=>?_) (fun k z=>by cases z);subst e;show N _;subst hN;simp? only [];exact bN k
 ·unfold yI
  refine aO fun N hN=>?_;simp? only [fO,ay];refine⟨⟨by omega,by omega⟩,?_⟩;subst hN;rw[rg];refine aO fun N hN=>oK fun g' b' K2 hg hb' hK=>?_;simp? only [];subst hg hb' hK;refine core (.o 0) [some (.lst (ns.map D.int))] _ _ (fun _=>rfl) (fun fs e=>?_) (fun k z=>by cases z;exact q7G);subst e;show N _;subst hN;simp? only [];exact⟨[.lst (ns.map D.int)],rfl,rfl,k⟩
theorem U0(a b:Int):sortI [a,b]=[min a b,max a b]:=by
 refine(yb (as:=[min a b,max a b]) ?_ ?_).symm
 ·by_cases c:a<=b
  ·rw[q7H c,q7f c]
  ·rw[q7g (by omega),q7I (by omega)]
   exact q4i ..
 ·refine List.Pairwise.cons (fun x hx=>?_) (List.pairwise_singleton _ _)
  rw[q0K.mp hx];omega
def DN:GD:=yH
def yJ:WS:=(ak (aE 2 (ye (ag (d2 (aa 0) (dC (.int 0)) aV) af))) (ak (cY (bE (aa 1)) (bj 3) (ak (iV (dN (ag (eA (bE (dy (d2 (d2 (aa 0) (dC (.int 1)) aV) (aa 3) aV) dw (iX (dC (.int 2))))) [none,some 2] (bj 0) cI (d2 (aa 1) (aa 0) aV)) af) vV) (iF 2 (dR (bj 4) (dR (bj 5) ij)))) (aE 2 (eA (bE (aa 2)) [none,some 4,some 5] (bj 0) cI (tu (dT (d2 (aa 0) (aa 2) oEq)) (aa 1) (aa 0)))))) (aC (aa 2))))
theorem U1:Sem 2 4 DN yJ:=by
 rintro ys ovs K'-⟨m,ws,ns,W,hn,h⟩;have m1:=W.m1;have h_:=W.h_;have il:(bg m.toNat).length=m.toNat:=by unfold bg;simp
 have core:∀(x:DV)(mu:List (Option OV))(bp:au->Prop)(K:KS),(∀sl,bp ⟨sl,mu⟩)->(∀fs,fs=eG m ws ns->K.nx ⟨[some (.p (ay m ws)),some x,some (.p (aX fs)),none,none,none],mu⟩)->(∀k,x=.o k->k<mu.length) →
   km ⟨[some (.p (ay m ws)),some x,some (.p (aX (bg m.toNat))),none,none,none],mu⟩ bp (bj 3) (ak (iV (dN (ag (eA (bE (dy (d2 (d2 (aa 0) (dC (.int 1)) aV) (aa 3) aV) dw (iX (dC (.int 2))))) [none,some 2] (bj 0) cI (d2 (aa 1) (aa 0) aV)) af) vV) (iF 2 (dR (bj 4) (dR (bj 5) ij)))) (aE 2 (eA (bE (aa 2)) [none,some 4,some 5] (bj 0) cI (tu (dT (d2 (aa 0) (aa 2) oEq)) (aa 1) (aa 0))))) K (ns.map D.int) ⟨[some (.p (ay m ws)),some x,some (.p (aX (bg m.toNat))),none,none,none],mu⟩:=by
  intro x mu bp K hc hK hx;refine kq (fun i δ=>δ=⟨[some (.p (ay m ws)),some x,some (.p (aX (fP ws (bg m.toNat) (ns.take i)))),none,none,none],mu⟩) rfl ?_ ?_
  ·rintro j d δ L hj rfl hL
   rw[q0b] at hj;obtain⟨n,nr,rfl⟩:=q0g.mp hj;obtain⟨n0,n1⟩:=hn n (q0M nr);obtain⟨y,ey,hy,ea,i,k,e1,e2,h1,h2,_⟩:=tU W n0 n1;refine⟨hc _,?_⟩;have hlen:(fP ws (bg m.toNat) (ns.take j)).length=m.toNat:=by rw[yG,il]
   have ej:gq (fP ws (bg m.toNat) (ns.take j)) i k=fP ws (bg m.toNat) (ns.take (j+1)):=by
    have:ns.take (j+1)=ns.take j++[n]:=by rw[q2j,nr];rfl
    rw[this];unfold fP;rw[q60];show _=gq _ (df ws n).1 (df ws n).2
    have:df ws n=(i,k):=by
     unfold df;rw[ey,e1,e2,q0u,q0u]
    rw[this]
   generalize hfs:fP ws (bg m.toNat) (ns.take j)=fs at hlen ej;have a1:=wz (ns:=fs) (i:=i) (by omega);have a2:=wz (ns:=fs) (i:=k) (by omega);simp only[bj,q0Y,q0Z];refine aO fun N hN=>?_;have ec:cutD [D.int y.1,D.int y.2.1,D.int y.2.2] none (some 2)=[D.int i,D.int k]:=by rw[<-e1,<-e2];rfl
   simp? only [eT,ay,ea,bt,ec]
   refine L2.kr (fun d=>match d with
    |.int z=>.int (fs.getD z.toNat 0)
    |_=>.non) (by show 2<=1000;decide) trivial ?_ ?_
   ·intro d hd acc L' ha h'
    simp only[PD,q0s,q1Z] at hd;rcases hd with rfl|rfl
    ·simp? only [aX,a1]
     simp only[q0u] at h';exact⟨ha,h'⟩
    ·simp? only [aX,a2]
     simp only[q0u] at h';exact⟨ha,h'⟩
   ·have es:intsOf [D.int (fs.getD i 0),D.int (fs.getD k 0)]=some [fs.getD i 0,fs.getD k 0]:=rfl
    simp? only [q0u,vV,es,U0];subst hN;simp? only [aX]
    refine L2.kr (fun d=>match d with
     |.int x=>.int (if x=max (fs.getD i 0) (fs.getD k 0) then min (fs.getD i 0) (fs.getD k 0) else x)
     |_=>.non) (by rw[qU];omega) trivial ?_ ?_
    ·intro d hd acc L' ha h'
     obtain⟨z,_,rfl⟩:=q0d.mp hd;simp? only [];cases q:ax (.int z) (.int (max (fs.getD i 0) (fs.getD k 0)))
     ·have:¬ z=max (fs.getD i 0) (fs.getD k 0):=fun w=>by rw[w,fM] at q;cases q
      simp only[this,q1X] at h';exact⟨ha,h'⟩
     ·have:z=max (fs.getD i 0) (fs.getD k 0):=by simp only[ax] at q;exact q0m q
      simp only[this,q2x] at h';exact⟨ha,h'⟩
    ·have e:(fs.map D.int).map (fun d=>match d with
      |.int x=>D.int (if x=max (fs.getD i 0) (fs.getD k 0) then min (fs.getD i 0) (fs.getD k 0) else x)
      |_=>.non)=(gq fs i k).map D.int:=by
      unfold gq;rw[q0o,q0o];rfl
     rw[e,ej]
     have eq:(au.trim ⟨[some (.p (ay m ws)),some x,some (.p (aX (bg m.toNat))),none,none,none],mu⟩ ⟨[some (.p (ay m ws)),some x,some (.p (aX (fP ws (bg m.toNat) (ns.take (j+1))))),some (.p (.int n)),some (.p (.int (min (fs.getD i 0) (fs.getD k 0)))),some (.p (.int (max (fs.getD i 0) (fs.getD k 0))))],mu⟩)=⟨[some (.p (ay m ws)),some x,some (.p (aX (fP ws (bg m.toNat) (ns.take (j+1))))),none,none,none],mu⟩:=by
      unfold au.trim;rw[q2M]
      cases x with
      |p d=>rfl
      |o q =>
       have:=hx q rfl;simp only[fK,vH,this,q2x]
     have:=hL _ rfl;rw[<-eq] at this;exact this
  ·rintro δ rfl
   rw[qU,q1o (Bi _)];exact⟨hc _,hK _ rfl⟩
 have rg:b_ 0 m.toNat=(bg m.toNat).map D.int:=rN m.toNat;rcases h with⟨rfl,rfl,k⟩|⟨rfl,rfl,k⟩
 ·unfold yJ
  refine aO fun N hN=>?_;simp? only [fO,ay];refine⟨⟨by omega,by omega⟩,?_⟩;subst hN;rw[rg];refine aO fun N hN=>oK fun g' b' K2 hg hb' hK=>?_;simp? only [aX];subst hg hb' hK;refine core (.p (aX ns)) [] _ _ (fun _=>trivial) (fun fs e=>?_) (fun k z=>by cases z);subst e;show N _;subst hN;simp? only [];exact bN k
 ·unfold yJ
  refine aO fun N hN=>?_;simp? only [fO,ay];refine⟨⟨by omega,by omega⟩,?_⟩;subst hN;rw[rg];refine aO fun N hN=>oK fun g' b' K2 hg hb' hK=>?_;simp? only [];subst hg hb' hK;refine core (.o 0) [some (.lst (ns.map D.int))] _ _ (fun _=>rfl) (fun fs e=>?_) (fun k z=>by cases z;exact q7G);subst e;show N _;subst hN;simp? only [];exact⟨[.lst (ns.map D.int)],rfl,rfl,k⟩
def yK:GD:=fun ys ovs K=>∃(m:Int)(ws:List (Int×Int×Int)),aG m ws/\ys=[.p (ay m ws)]/\ovs=[]/\K (.n ((bg ws.length).map D.int)) []
def DO:WS:=(aC (yk (ag (dN (ag (d2 (aa 0) (dC (.int 1)) aV) af) bC) af)))
theorem U2:Sem 1 0 yK DO:=by
 rintro ys ovs K'-⟨m,ws,W,rfl,rfl,k⟩;have:=W.gN;unfold DO;simp? only [eT,ay];refine⟨⟨by omega,by omega⟩,[],rfl,rfl,.inl ?_⟩;rw[q0u,rN];exact k
noncomputable def tV(marks:List Int)(f:Int):List Int:=(bg marks.length).filter fun h=>decide (marks.getD h.toNat 0=f)
noncomputable def sg(marks:List Int):List (List Int):=(sortI (ju marks)).map (tV marks)
noncomputable def si(ls:List (List Int)):D:=.lst (ls.map aX)
def DP:GD:=fun ys ovs K=>∃(m:Int)(ws:List (Int×Int×Int))(ns:List Int),aG m ws/\Nums ws ns/\((ys=[.p (ay m ws),.p (aX ns)]/\ovs=[]/\K (.p (si (sg (eG m ws ns)))) [])\/(ys=[.p (ay m ws),.o 0]/\ovs=[.lst (ns.map D.int)]/\K (.p (si (sg (eG m ws ns)))) [.lst (ns.map D.int)]))
def yL:WS:=(ak (aE 2 (aj 2 DN (ag (aa 0) (ag (aa 1) af)))) (aC (eA (bE (dN (ag (aa 2) af) qd)) [none,some 0,some 2] (bj 0) cI (eA (mR (ag (d2 (aa 1) (dC (.int 0)) aV) af)) [none,some 0,some 2] (bj 0) (dT (d2 (d2 (aa 2) (aa 0) aV) (aa 1) oEq)) (aa 0)))))
theorem DQ{m:Int}{ws:List (Int×Int×Int)}{ns:List Int}:(eG m ws ns).length=m.toNat:=by
 unfold eG;rw[yG];unfold bg;simp
theorem U3:Sem 2 1 DP yL:=by
 rintro ys ovs K'-⟨m,ws,ns,W,hn,h⟩;have m1:=W.m1;have h_:=W.h_;have ml:=DQ (m:=m) (ws:=ws) (ns:=ns)
 have core:∀(x:DV)(mu:List (Option OV))(K:KS),K.rt (.p (si (sg (eG m ws ns)))) ⟨[some (.p (ay m ws)),some x,some (.p (aX (eG m ws ns)))],mu⟩ →
   (aC (eA (bE (dN (ag (aa 2) af) qd)) [none,some 0,some 2] (bj 0) cI (eA (mR (ag (d2 (aa 1) (dC (.int 0)) aV) af)) [none,some 0,some 2] (bj 0) (dT (d2 (d2 (aa 2) (aa 0) aV) (aa 1) oEq)) (aa 0)))) K ⟨[some (.p (ay m ws)),some x,some (.p (aX (eG m ws ns)))],mu⟩:=by
  intro x mu K k;generalize eG m ws ns=marks at ml k;have ei:intsOf (marks.map D.int)=some marks:=oA marks;have ol:=Jy marks;simp only[aC,eA,bE,dN,ag,af,aa,q2n,q10,lj,gz,qd,aX,ei,mQ,cH,q0p,q1_,q7c];refine⟨by omega,?_⟩
  refine L2.kr (fun d=>match d with
   |.int f=>aX (tV marks f)
   |_=>.non) (by rw[qU,Jd];omega) trivial ?_ ?_
  ·intro d hd acc L ha h
   obtain⟨f,_,rfl⟩:=q0d.mp hd;simp? only [fO,ay];refine⟨by omega,?_⟩
   refine L2.tM (fun d=>match d with
    |.int z=>decide (marks.getD z.toNat 0=f)
    |_=>false) id (by rw[mS];omega) trivial ?_ ?_
   ·intro d hd d9 L' ha' h1 h2
    obtain⟨i,hi⟩:=q0i.mp hd;obtain⟨hi,rfl⟩:=oz hi;have e0:(0+(i:Int))=i:=by omega
    rw[e0] at h1 h2 ⊢;have ai:=wz (ns:=marks) (i:=i) (by omega);simp? only [ai];cases q:ax (.int (marks.getD i 0)) (.int f)
    ·refine h2 ?_
     show decide (marks.getD (i:Int).toNat 0=f)=false;rw[q0u];refine q0r fun z=>?_;rw[z,fM] at q;cases q
    ·refine⟨ha',h1 ?_⟩
     show decide (marks.getD (i:Int).toNat 0=f)=true;rw[q0u];simp only[ax] at q;exact q0x (q0m q)
   ·simp? only []
    refine⟨ha,?_⟩
    have e:((b_ 0 m.toNat).filter fun d=>match d with
     |.int z=>decide (marks.getD z.toNat 0=f)
     |_=>false).map id=(tV marks f).map D.int:=by
     rw[q4C,rN,q2X];unfold tV;rw[ml];rfl
    rw[e];exact h
  ·have e:((sortI (ju marks)).map D.int).map (fun d=>match d with
    |.int f=>aX (tV marks f)
    |_=>.non)=(sg marks).map aX:=by
    unfold sg;rw[q0o,q0o];rfl
   rw[e];exact k
 rcases h with⟨rfl,rfl,k⟩|⟨rfl,rfl,k⟩
 ·unfold yL
  refine aO fun N hN=>?_;simp? only [];refine⟨m,ws,ns,W,hn,.inl ⟨rfl,rfl,?_⟩⟩;simp? only [];subst hN;exact core _ _ _ (bN k)
 ·unfold yL
  refine aO fun N hN=>?_;simp? only [];refine⟨m,ws,ns,W,hn,.inr ⟨rfl,rfl,?_⟩⟩;simp? only [];subst hN;exact core _ _ _ ⟨[.lst (ns.map D.int)],rfl,rfl,k⟩
theorem DR{n:Nat}{z:Int}(h:z∈bg n):0<=z/\z<(n:Int):=by
 unfold bg at h;obtain⟨i,hi,rfl⟩:=q0d.mp h;have:=q0B.mp hi;simp;omega
theorem U4(n:Nat):(bg n).Nodup:=by
 unfold bg;refine q1l.mpr (q3O.imp fun{a b} ne e=>ne ?_);exact q4M e
def DT:GD:=fun ys ovs K=>∃(n m most:Int)(ws:List (Int×Int×Int))(o:OV),aG m ws/\ys=[.o 0,.p (ay m ws),.p (.int most)]/\ovs=[o]/\bh n o/\n+100<2 ^ 30/\0<=most/\most<=1000 ∧
 ∀ns o',Nums ws ns->ns.Nodup->(ns.length:Int)<=most->ns.length<=ws.length->bh (n+31) o'->K (.n (ns.map D.int)) [o']
def DU:WS:=(ak (aE 3 (yk (ag (dN (ag (d2 (aa 1) (dC (.int 1)) aV) af) bC) af))) (ak (aE 4 (s_ af)) (ak (cY (mR (ag (dN (ag (dN (ag (aa 3) af) bC) (ag (aj 2 gX (ag (aa 0) (ag (d2 (aa 2) (dC (.int 1)) cJ) af))) af)) tK) af)) (bj 5) (lB (lG (aa 4) (ag (yf (aa 3) (ag (aj 2 gX (ag (aa 0) (ag (dN (ag (aa 3) af) bC) af))) af)) af)))) (aC (aa 4)))))
theorem U5:Sem 3 3 DT DU:=by
 rintro ys ovs K'-⟨n,m,most,ws,o,W,rfl,rfl,P,hn,s0,s1,fin⟩;have pb:=W.gN;unfold DU;refine aO fun N hN=>?_;simp? only [eT,ay];refine⟨⟨by omega,by omega⟩,?_⟩;subst hN;rw[q0u,rN];refine aO fun N hN=>?_;simp? only [];subst hN;refine aO fun N hN=>oK fun g' b' K2 hg hb' hK=>?_;simp? only [];refine⟨n,most+1,o,rfl,rfl,P,by omega,by omega,by omega,fun r o1 r0 r1 P1=>?_⟩;have il:(bg ws.length).length=ws.length:=by unfold bg;simp
 simp? only [il];refine⟨by omega,?_⟩;subst hg hb' hK;have ek:(min (ws.length:Int) r).toNat=min ws.length r.toNat:=by omega
 rw[ek];generalize hk:min ws.length r.toNat=k
 refine kq (fun i δ=>∃(ls fs:List Int)(o':OV),ls.length+i=ws.length/\fs.length=i/\(fs++ls).Nodup/\Nums ws (fs++ls)/\bh (n+1+i) o' ∧
  δ=⟨[some (.o 0),some (.p (.tup [.int m,.tup (ws.map bt)])),some (.p (.int most)),some (.o 1),some (.o 2),none],[some o',some (.lst (ls.map D.int)),some (.lst (fs.map D.int))]⟩)
  ⟨bg ws.length,[],o1,by omega,rfl,U4 _,fun z hz=>DR hz,P1.mono (by omega),rfl⟩ ?_ ?_
 ·rintro j d δ L hj ⟨ls,fs,o',hl,hf,nd,nu,P',rfl⟩ hL
  obtain⟨hj,rfl⟩:=oz hj;have q0:0<ls.length:=by omega
  simp? only [];refine⟨n+1+j,ls.length,o',rfl,rfl,P',by omega,by omega,by omega,fun z o2 z0 z1 P2=>?_⟩;obtain⟨zn,rfl⟩:∃zn:Nat,z=zn:=⟨z.toNat,by omega⟩;have hz:zn<ls.length:=by omega
  have ix:seqIndex? (zn:Int) ls.length=some zn:=H_ hz;have eq:(ls.map D.int)[zn]?=some (.int ls[zn]):=by rw[q0b,qV hz];rfl
  simp? only [ix,eq]
  have pm:((fs++[ls[zn]])++ls.eraseIdx zn).Perm (fs++ls):=by
   rw[q18];exact q3M _ (Ds hz)
  refine⟨⟨by omega,by omega⟩,by omega,hL _ ⟨ls.eraseIdx zn,fs++[ls[zn]],o2,?_,?_,pm.nodup_iff.mpr nd,fun x hx=>nu x (pm.mem_iff.mp hx),P2.mono (by omega),?_⟩⟩
  ·rw[q25 hz];omega
  ·rw[Hd,hf];rfl
  ·rw[q0w,Dt];rfl
 ·rintro δ ⟨ls,fs,o',hl,hf,nd,nu,P',rfl⟩
  refine⟨trivial,?_⟩;show N _;subst hN;simp? only [];rw[mS] at hf P';refine⟨[o'],rfl,rfl,.inl (fin fs o' (fun x hx=>nu x (q1C _ hx)) (q1b.mp nd).1 (by omega) (by omega) (P'.mono (by omega)))⟩
end LJ
namespace L2
open PySem PySem.Spec PyProof.Rows PySem.W
theorem DW:∀{k l:LK}(n m:Int),k.length=l.length->HT.lexLt (k++[n]) (l++[m])=if k=l then decide (n<m) else HT.lexLt k l
 |[],[],n,m,_=>by
  show(if n=m then HT.lexLt [] [] else decide (n<m))=_;rw[q0f rfl]
  by_cases h:n=m
  ·rw[q0f h];subst h;simp[HT.lexLt]
  ·rw[q0a h]
 |[],_::_,_,_,h=>by simp at h
 |_::_,[],_,_,h=>by simp at h
 |a::k,b::l,n,m,h=>by
  rw[q3V,q3V,HT.mK,HT.mK,DW n m (by simpa using h)]
  by_cases e:a=b
  ·subst e
   rw[q0f rfl,q0f rfl]
   by_cases e2:k=l
   ·subst e2;rw[q0f rfl,q0f rfl]
   ·rw[q0a e2,q0a fun z=>e2 (q6f z).2]
  ·rw[q0a e,q0a e,q0a fun z=>e (q6f z).1]
def l7(h:Heap)(L:Nat)(k:LK)(v:Value):Prop:=∃a o xs n b kb m t,v=.ref a/\h.get? a=some o/\o.cls=.type "tuple" /\ o.data=.seq xs n/\xs.toList=[.ref b,.int m t]/\jR h kb (.ref b)/\kb.length=L/\k=kb++[m]
section
variable{prog:Program}{w:World}{A:Around}{E:aH}{s:Shared}{Q:Bool->Shared->Prop}
theorem DX:∀{us:List Value}{ns:List Int},IntsAre us ns->ItemsAre (intKind prog w) ns us
 |_,_,.nil=>.nil
 |_,_,.cons n t r=>.cons (q3R ..) (DX r)
theorem U6{L:Nat}{k l:LK}{x y:Value}(hu:A.units<cLine)(hx:l7 s.heap L k x)(hy:l7 s.heap L l y)(h:Q (HT.lexLt k l) s):wpAny (model prog w) A (keyLt' (tuples' false) x y) Q E s:=by
 obtain⟨a,o,xs,n,b,kb,m,t,rfl,h1,_,h2,h3,⟨b',ob,bs,nb,eb,g1,gc,g2,g3⟩,hL,rfl⟩:=hx;obtain⟨a',o',U7,n',c,kc,m',t',rfl,oa,_,fm,z9,⟨c',oc,cs,nc,ec,f1,fc,f2,f3⟩,U8,rfl⟩:=hy;cases eb
 cases ec
 have hz:xs.size=2:=by rw[<-PF,h3];rfl
 have U9:U7.size=2:=by rw[<-PF,z9];rfl
 rw[DW m m' (by rw[hL,U8])] at h;have k1:IsTupleKey (intKind prog w) s.heap kb b:=⟨ob,bs,nb,g1,gc,g2,DX g3⟩;have k2:IsTupleKey (intKind prog w) s.heap kc c:=⟨oc,cs,nc,f1,fc,f2,DX f3⟩;refine kat_lt h1 h2 oa fm ?_;rw[h3,z9,hz,U9,q2g,q2g,q21];refine kat_cons (wpAny_eqBool_tuple hu k1 k2 (kat_go (fun e=>?_) fun e=>?_))
 ·have e:kb=kc:=by simpa using e
  rw[q0f e] at h;refine kat_yes (kat_cons (q4W (kat_go (fun e2=>?_) fun e2=>?_)))
  ·have e2:m=m':=q0m e2
   subst e2;refine kat_yes (kat_nil ?_);simpa using h
  ·exact kat_no (kat_one _ _ (q3_ h))
 ·have e:¬ kb=kc:=by simpa using e
  rw[q0a e] at h;exact kat_no (kat_one _ _ (HT.AQ ⟨ob,g1,gc,nb,g2⟩ ⟨oc,f1,fc,nc,f2⟩ g3 f3 hu h))
theorem U_{M:Model}{L:Nat}{vs:List Value}{ks:List LK}{Q:SortKind->Shared->Prop}(h0:0<vs.length)(hl:vs.length=ks.length)(ht:∀(i:Nat) (k:LK) (v:Value),ks[i]?=some k->vs[i]?=some v->l7 s.heap L k v)(h:Q (tuples' false) s):
  wpAny M A (keyKind' vs.toArray) Q E s:=by
 have key:∀(vs:List Value)(ks:List LK),vs.length=ks.length->(∀(i:Nat)(k:LK)(v:Value),ks[i]?=some k->vs[i]?=some v->l7 s.heap L k v)->∃fs,KatTups s.heap vs fs/\fs.length=vs.length/\∀v∈fs,Looks M s.heap (typeOf v) (.type "tuple"):=by
  intro vs
  induction vs with
  |nil=>exact fun ks _ _=>⟨[],.nil,rfl,fun v hv=>nomatch hv⟩
  |cons v vs ih =>
   intro ks hl ht
   match ks,hl,ht with
   |k::ks,hl,ht =>
    obtain⟨fs,t,hf,hi⟩:=ih ks (by simpa using hl) fun i k v e1 e2=>ht (i+1) k v (by simpa using e1) (by simpa using e2);obtain⟨a,o,xs,n,b,kb,m,t',rfl,h1,hc,h2,h3,⟨b',ob,bs,nb,eb,g1,gc,g2,g3⟩,_⟩:=ht 0 k v rfl rfl;cases eb
    have h0:xs[0]?=some (.ref b):=by rw[<-q0F,h3];rfl
    refine⟨.ref b::fs,.cons h1 hc h2 h0 t,by rw[Hc,Hc,hf],fun v hv=>?_⟩;rcases PD.mp hv with rfl|hv
    ·rw[<-gc];exact(Looks.ld g1).andThen .now
    ·exact hi v hv
 obtain⟨fs,t,hf,hi⟩:=key vs ks hl ht;exact kat_kind (T:=.type "tuple") t (by omega) hi (by decide) h
end
section
variable{X:Cx}{pins:aq}{σ:St}{H:Hp}{s:Shared}{A:Around}{E:aH}{a:Addr}{vs:List Value}{ks:List LK}{κ:SortKind}
theorem Va{n0:Nat}{R:PySem.Fin->Shared->Prop}(I:Inv X pins σ H s)(fa:br X pins H a)(ha:s.heap.get? a=some (seqObj "list" vs.toArray n0))(pW:vs.length<64)
  (kind:∀s':Shared,Inv X pins σ H s'->2<=vs.length->∀Q:SortKind->Shared->Prop,Q κ s'->wpAny (model X.prog X.w) A (keyKind' vs.toArray) Q E s')
  (ask:∀s':Shared,Inv X pins σ H s'->∀(i j:Nat)(C:Bool->Shared->Prop),i<vs.length->j<vs.length->C (HT.lexLt (ks.getD i []) (ks.getD j [])) s'->wpAny (model X.prog X.w) A (keyLt' κ (vs.getD i q0v) (vs.getD j q0v)) C (fun _ _=>False) s')
  (fin:∀(p:Array Nat)(s':Shared)(c:Nat),di vs.length p->Up (fun i=>ks.getD i []) p vs.length->Inv X pins σ H s'->s'.heap.get? a=some (seqObj "list" (q2y (p.toList.map fun i=>vs.getD i q0v)) c)->R (.done (.ret .none)) s') :
  wpAny (model X.prog X.w) A (Builtin.«list.sort» ⟨[.ref a],[]⟩) R E s:=by
 have sb:=q0T s.heap a (q1d fun _=>(#[]:Array Value));obtain⟨e1,gr⟩:∃e1,(s.heap.update a (q1d fun _=>(#[]:Array Value))).get? a=some (seqObj "list" #[] e1):=⟨_,q5l ha fun _ => #[]⟩;have I1:Inv X pins σ H {s with heap:=s.heap.update a (q1d fun _=>(#[]:Array Value))}:=I.gj (t':=s.toks) fa fun c o n e=>(sb.2 c n).trans e;rw[list_sort_plain];refine n_ (listItems_at ha rfl ?_);refine n_ (listUpdate_at ha rfl ?_ (by rw[Hb,q2c];omega) (q06 _));refine n_ (seqEpoch_at gr rfl ?_);refine n_ (q8c ?_ (by show vs.length<=_;rw[q2c];omega));refine n_ (q4P ?_ (q06 _));refine q0D ?_;generalize hh0:s.heap.update a (q1d fun _=>(#[]:Array Value))=g0 at gr I1 sb
 show wpAny (model X.prog X.w) A _ R E {s with heap:=(g0.push (seqObj "tuple" vs.toArray 0)).push (seqObj "list" #[] 0)};have I2:Inv X pins σ H {s with heap:=(g0.push (seqObj "tuple" vs.toArray 0)).push (seqObj "list" #[] 0)}:=I1.kept (h':=(g0.push (seqObj "tuple" vs.toArray 0)).push (seqObj "list" #[] 0)) (t':=s.toks) fun b u e=>qT _ (qT _ e);have eZ:((g0.push (seqObj "tuple" vs.toArray 0)).push (seqObj "list" #[] 0)).get? a=some (seqObj "list" #[] e1):=qT _ (qT _ gr);have kp:∀b o,b≠a->s.heap.get? b=some o->((g0.push (seqObj "tuple" vs.toArray 0)).push (seqObj "list" #[] 0)).get? b=some o:=fun b o n e=>qT _ (qT _ ((sb.2 b n).trans e))
 generalize(g0.push (seqObj "tuple" vs.toArray 0)).push (seqObj "list" #[] 0)=g1 at I2 eZ kp;dsimp only
 have tail:∀(st:SortSt)(p:Array Nat),(arrOf st).map (·.2)=q2y (p.toList.map fun i=>vs.getD i q0v)->failedOf st=none->di vs.length p->Up (fun i=>ks.getD i []) p vs.length->wpAny (model X.prog X.w) A (do
   let touched:=(<- seqEpoch a) != e1
   Builtin.List.listUpdate (.ref a) fun _=>(arrOf st).map (·.2)
   if let some e:=failedOf st then rule "list.sort.comparison-raised";throw e
   if touched then rule "list.sort.modified";raiseError "ValueError" "list modified during sort"
   ret .none) R E {s with heap:=g1}:=by
  intro st p DY hf hp up;have hz:(p.toList.map fun i=>vs.getD i q0v).length=vs.length:=by rw[qU,PF,hp.size]
  rw[DY];have s2:=q0T g1 a (q1d fun _=>q2y (p.toList.map fun i=>vs.getD i q0v));obtain⟨c2,iS⟩:∃c2,(g1.update a (q1d fun _=>q2y (p.toList.map fun i=>vs.getD i q0v))).get? a=some (seqObj "list" (q2y (p.toList.map fun i=>vs.getD i q0v)) c2):=⟨_,q5l eZ fun _=>q2y (p.toList.map fun i=>vs.getD i q0v)⟩;have J:Inv X pins σ H {s with heap:=g1.update a (q1d fun _=>q2y (p.toList.map fun i=>vs.getD i q0v))}:=I2.gj (h':=g1.update a (q1d fun _=>q2y (p.toList.map fun i=>vs.getD i q0v))) (t':=s.toks) fa fun c o n e=>(s2.2 c n).trans e;refine n_ (seqEpoch_at eZ rfl ?_);refine n_ (listUpdate_at eZ rfl ?_ (q06 _) (q02 (q9t (by rw[Hb,hz])) (by rw[q2c];omega)))
  rw[hf];simp only[bne_self_eq_false,q0G,q1X];exact uX (fin p _ c2 hp up J iS)
 by_cases h2:vs.toArray.size<2
 ·rw[q0f h2,q0f h2]
  refine n_ (uX ?_);rw[StateT.run_pure];refine n_ (uX ?_);rw[Hb] at h2;refine tail (SortSt.mk' general' (vs.toArray.zip vs.toArray) #[] 7 none) (q0A vs.length).toArray ?_ rfl ⟨q7D _⟩ fun i j jQ hj=>?_
  ·have Vb:arrOf (SortSt.mk' general' (vs.toArray.zip vs.toArray) #[] 7 none)=(q2y (q0A vs.length)).map (kas_item (vs.toArray.zip vs.toArray)):=by
    have e:=kas_range (vs.toArray.zip vs.toArray);rw[show(vs.toArray.zip vs.toArray).size=vs.length by simp] at e;rw[e]
   exact kat_snds rfl Vb
  ·have:i=j:=by omega
   subst this;exact kle_refl _
 ·rw[q0a h2,q0a h2]
  rw[Hb] at h2;refine n_ (kind _ I2 (by omega) _ ?_)
  refine n_ (q1E (kat_run (κ:=κ) (E:=E) (Q:=fun fH s'=>s'={s with heap:=g1}/\∃p:Array Nat,arrOf fH=p.map (kas_item (vs.toArray.zip vs.toArray))/\failedOf fH=none/\di vs.length p/\Up (fun i=>ks.getD i []) p vs.length)
   (G:=fun p s'=>s'={s with heap:=g1}/\di vs.length p/\Up (fun i=>ks.getD i []) p vs.length) rfl (by omega) pW (fun p fH s' a1 a2 a3 a4=>⟨a4.1,p,a2,a3,a4.2.1,a4.2.2⟩) ?_) ?_ fun _ _ x=>x)
  ·refine Ss (k:=fun i=>ks.getD i []) (I:=fun s'=>s'={s with heap:=g1}) (fun i j C s' hi hj e hC=>?_) (by omega) rfl fun p s' a1 a2 a3=>⟨a3,a1,a2⟩
   subst e;exact ask _ I2 i j C hi hj (hC _ rfl)
  ·rintro⟨⟨⟩,fH⟩ s' ⟨rfl,p,a1,a2,a3,a4⟩
   exact tail fH p (kat_snds rfl a1) a2 a3 a4
theorem Kv{l:Addr}{xs:List V}{Q:aH}(I:Inv X pins σ H s)
  (col:∀Q':List Value->Shared->Prop,(∀h' tk vs,(∀b o,s.heap.get? b=some o->h'.get? b=some o)->Vals xs vs->Q' vs {s with heap:=h',toks:=tk})->wpAny (model X.prog X.w) X.A.in1 (collect (.ref l)) Q' E s) (pW:xs.length<64)
  (kind:∀(s':Shared)(vs:List Value),Vals xs vs->Inv X pins σ H s'->2<=vs.length->∀Q:SortKind->Shared->Prop,Q κ s'->wpAny (model X.prog X.w) X.A.in1.in1 (keyKind' vs.toArray) Q E s')
  (ask:∀(s':Shared)(vs:List Value),Vals xs vs->Inv X pins σ H s'->∀(i j:Nat)(C:Bool->Shared->Prop),i<vs.length->j<vs.length->C (HT.lexLt (ks.getD i []) (ks.getD j [])) s'->wpAny (model X.prog X.w) X.A.in1.in1 (keyLt' κ (vs.getD i q0v) (vs.getD j q0v)) C (fun _ _=>False) s')
  (fin:∀(p:Array Nat)(s':Shared)(a:Addr),di xs.length p->Up (fun i=>ks.getD i []) p xs.length->H a=none->Inv X pins σ (upd H a (.lst (p.toList.map fun i=>xs.getD i .non))) s'->Q (.ref a) s') :
  wpAny (model X.prog X.w) X.A (call (.builtin "sorted") [.ref l]) Q E s:=by
 refine q4y kind_sorted plain_sorted entry_sorted (args_sorted1 _) ?_;unfold Builtin.«sorted»;refine n_ (m:=checkCount "sorted" 1 1 _) (uX ?_);refine n_ (col _ fun h' tk ah kp rv=>?_);have lv:ah.length=xs.length:=rv.length.symm;refine n_ (q4P ?_ (by rw[q2c];omega));have I1:Inv X pins σ H {s with heap:=h',toks:=tk}:=I.kept kp;have fa:br X pins H h'.objs.size:=I1.gv (Bi _) (I1.aD.fresh (Bi _));have C2:X.s₀.heap.objs.size<=h'.objs.size:=I1.sz;have I2:Inv X pins σ H {s with heap:=h'.push (seqObj "list" ah.toArray 0),toks:=tk}:=I1.kept (h':=h'.push (seqObj "list" ah.toArray 0)) (t':=tk) fun b u e=>qT _ e
 have nK:(h'.push (seqObj "list" ah.toArray 0)).get? h'.objs.size=some (seqObj "list" ah.toArray 0):=PG _ rfl;refine n_ (q0D (q1k slot_list_sort ⟨_,nK,rfl⟩ entry_list_sort ?body (args_list_sort _)))
 case body =>
  refine Va (κ:=κ) (ks:=ks) I2 fa nK (by omega) (fun s' J h2 Q' hq=>kind s' ah rv J h2 Q' hq) (fun s' J i j C hi hj hC=>ask s' ah rv J i j C hi hj hC) fun p s' c hp up J e=>⟨_,rfl,?_⟩;rw[lv] at hp up;refine uX ⟨_,rfl,fin p s' h'.objs.size hp up fa.1 (J.wa fa C2 ?_)⟩;have hz:(p.toList.map fun i=>xs.getD i V.non).length=xs.length:=by rw[qU,PF,hp.size]
  exact⟨by rw[hz,q2c];omega,_,c,Tw rv fun i hi=>by rw[lv];exact hp.mem hi,e⟩
end
def DZ(ds:List D)(key:D->LK):Prop :=
 (∀d∈ds,key d≠[]/\d=.tup ((key d).map D.int))\/∃L:Nat,∀d∈ds,∃(k:LK)(n:Int),k.length=L/\d=.tup [.tup (k.map D.int),.int n]/\key d=k++[n]
def yM:List D->(D->Prop)->Prop
 |[.lst ds],K=>ds.length<64/\∃key:D->LK,DZ ds key/\∀out:List D,out.Perm ds->(out.map key).Pairwise kle->K (.lst out)
 |[.tup ds],K=>ds.length<64/\∃key:D->LK,DZ ds key/\∀out:List D,out.Perm ds->(out.map key).Pairwise kle->K (.lst out)
 |_,_=>False
theorem Vc{ds:List D}{key:D->LK}{p:Array Nat}{n:Nat}(hn:ds.length=n)(hp:di n p)(up:Up (fun i=>(ds.map key).getD i []) p n):(p.toList.map fun i=>ds.getD i .non).Perm ds/\((p.toList.map fun i=>ds.getD i .non).map key).Pairwise kle:=by
 subst hn
 constructor
 ·have h1:=(q4t.mp hp.perm).map fun i=>ds.getD i D.non
  have h2:(q0A ds.length).map (fun i=>ds.getD i D.non)=ds:=by
   refine q20 fun i=>?_;rw[q0b]
   by_cases hi:i<ds.length
   ·rw[q2b hi,q5f,qV hi,He,qV hi];rfl
   ·rw[q2d (by rw[q0_];omega),q2d (by omega)];rfl
  rw[show(q0A ds.length).toArray.toList=q0A ds.length from rfl,h2] at h1;exact h1
 ·rw[q0o,q3d]
  intro i j hi hj jQ;rw[qU,PF,hp.size] at hi hj;have:=up i j (q1z jQ) hj;unfold KA at this;rw[q11,q11]
  have gp:∀{i:Nat}(h:i<p.toList.length),p.getD i 0=p.toList[i]:=fun{i} h=>by
   have h':i<p.size:=by rw[<-PF];exact h
   simp[q6m,h']
  have gk:∀{i:Nat},i<ds.length->(ds.map key).getD i []=key (ds.getD i .non):=fun{i} h=>by
   rw[He,q0b,qV h,He,qV h];rfl
  have pi:=hp.lt hi;have pj:=hp.lt hj;dsimp only at this;rw[gk pi,gk pj,gp (by rw[PF,hp.size];exact hi),gp (by rw[PF,hp.size];exact hj)] at this;exact this
theorem Vd{F:Hp}{ds:List D}{xs:List V}{p:List Nat}(h:ae F ds xs)(hp:∀i∈p,i<ds.length):ae F (p.map fun i=>ds.getD i .non) (p.map fun i=>xs.getD i .non):=by
 refine ae.wc (by rw[qU,qU]) fun i d e=>?_;rw[q0b] at e ⊢;obtain⟨z,e1,rfl⟩:=q0g.mp e;rw[e1];have hz:=hp z (q0M e1);exact⟨_,rfl,ae.at h (getD_some hz) (getD_some (by rw[h.length];exact hz))⟩
section
variable[aB]{X:Cx}
theorem yN{pins:aq}{σ:St}{H F:Hp}{s:Shared}{k:LK}{v:V}{u:Value}(I:Inv X pins σ H s)(sub:ar F H)(h:Is F (.tup (k.map D.int)) v)(r:RelV v u):jR s.heap k u:=by
 simp only[Is] at h;obtain⟨a,us,rfl,e,i⟩:=h;cases r
 rw[qb i] at e;obtain⟨ah,rv,⟨o,o1,o2,n,o3⟩,_⟩:=I.tuple (bw.of (sub _ _ e));exact⟨a,o,_,n,rfl,o1,o2,o3,by simpa using intsAre_of rv⟩
theorem D0{pins:aq}{σ:St}{H F:Hp}{s:Shared}{k:LK}{m:Int}{v:V}{u:Value}(I:Inv X pins σ H s)(sub:ar F H)(h:Is F (.tup [.tup (k.map D.int),.int m]) v)(r:RelV v u):l7 s.heap k.length (k++[m]) u:=by
 simp only[Is,ae] at h;obtain⟨a,us,rfl,e,v1,r1,rfl,h1,v2,r2,rfl,h2,rfl⟩:=h;cases r
 obtain⟨ah,rv,⟨o,o1,o2,n,o3⟩,_⟩:=I.tuple (bw.of (sub _ _ e));have h2:v2=.int m:=h2;subst h2;have oa:Is F (.tup (k.map D.int)) v1:=by simp only[Is];exact h1
 cases rv with
 |cons q1 rv =>
  cases rv with
  |cons q2 rv =>
   cases rv
   have t1:=yN I sub oa q1;obtain⟨b,_,_,_,rfl,_⟩:=id t1;obtain⟨t,rfl⟩:=q2;exact⟨a,o,_,n,b,k,m,t,rfl,o1,o2,o3,rfl,t1,rfl,rfl⟩
theorem Kw{pins:aq}{σ:St}{H F:Hp}{s:Shared}{E:aH}{l:Addr}{ds:List D}{us:List V}{key:D->LK}{Q:aH}(hu:X.A.units+64<cLine)(I:Inv X pins σ H s)(sub:ar F H)(hl:H l=some (.lst us)\/H l=some (.tup us))(hi:ae F ds us)(pW:ds.length<64)(sh:DZ ds key)
  (fin:∀(out:List D)(ws:List V)(a:Addr)(s':Shared),out.Perm ds->(out.map key).Pairwise kle->ae F out ws->H a=none->Inv X pins σ (upd H a (.lst ws)) s'->Q (.ref a) s'):wpAny (model X.prog X.w) X.A (call (.builtin "sorted") [.ref l]) Q E s:=by
 have col:∀Q':List Value->Shared->Prop,(∀h' tk vs,(∀b o,s.heap.get? b=some o->h'.get? b=some o)->Vals us vs->Q' vs {s with heap:=h',toks:=tk})->wpAny (model X.prog X.w) X.A.in1 (collect (.ref l)) Q' E s:=fun Q' hQ=>by
  rcases hl with hl|hl
  ·obtain⟨ah,rv,pl,hz⟩:=I.list (aZ.of hl)
   obtain⟨o,o1,o2,n,o3⟩:=pl.isList;exact q61 l (.inl rfl) o1 o2 o3 (fun h' kp=>hQ h' s.toks _ kp (by simpa using rv)) (by rw[Hb,<-rv.length];exact hz)
  ·obtain⟨ah,rv,⟨o,o1,o2,n,o3⟩,hz⟩:=I.tuple (bw.of hl)
   exact q61 l (.inr rfl) o1 o2 o3 (fun h' kp=>hQ h' s.toks _ kp (by simpa using rv)) (by rw[Hb,<-rv.length];exact hz)
 have lu:=hi.length;have Ve:X.A.in1.in1.units<cLine:=by show X.A.units+1+1<cLine;omega
 have gk:∀{i:Nat},i<ds.length->(ds.map key).getD i []=key (ds.getD i .non):=fun{i} h=>by
  rw[He,q0b,qV h,He,qV h];rfl
 have isAt:∀{i:Nat},i<ds.length->∀{vs:List Value},Vals us vs->∃v,Is F (ds.getD i .non) v/\RelV v (vs.getD i q0v):=fun{i} h {vs} rv=>by
  obtain⟨u,e1,e2⟩:=rv.get (getD_some (l:=us) (d:=V.non) (i:=i) (by omega));have:=getD_some (l:=vs) (d:=q0v) (i:=i) (by rw[<-rv.length];omega);rw[this] at e1;cases e1;exact⟨_,ae.at hi (getD_some h) (getD_some (by omega)),e2⟩
 have mem:∀{i:Nat},i<ds.length->ds.getD i .non∈ds:=fun{i} h=>q0M (getD_some h)
 have ke:∀{i:Nat}{k:LK},(ds.map key)[i]?=some k->i<ds.length/\k=key (ds.getD i .non):=fun{i k} e=>by
  have h:i<ds.length:=by have:=(sR.mp e).1;rwa [qU] at this
  refine⟨h,?_⟩;have:=getD_some (l:=ds.map key) (d:=[]) (i:=i) (by rw[qU];exact h);rw[e,gk h] at this;exact q0E this
 have ve:∀{i:Nat}{v:Value}{vs:List Value},vs[i]?=some v->v=vs.getD i q0v:=fun{i v vs} e=>by
  rw[He,e];rfl
 have lT:∀(p:Array Nat)(s':Shared)(a:Addr),di us.length p->Up (fun i=>(ds.map key).getD i []) p us.length->H a=none->Inv X pins σ (upd H a (.lst (p.toList.map fun i=>us.getD i .non))) s'->Q (.ref a) s':=fun p s' a hp up ha J=>by
  obtain⟨o1,o2⟩:=Vc lu.symm hp up;exact fin _ _ a s' o1 o2 (Vd hi fun i cz=>by rw[<-lu];exact hp.mem cz) ha J
 rcases sh with sh|⟨L,sh⟩
 ·refine Kv (κ:=tuples' true) (ks:=ds.map key) I col (by omega) (fun s' vs rv J h2 Q' hq=>?_) (fun s' vs rv J i j C cz vt hC=>?_) lT
  ·refine Tv (ks:=ds.map key) (by omega) (fun k hk=>?_) (by rw[qU,<-rv.length];omega) (fun i k v e1 e2=>?_) hq
   ·obtain⟨d,hd,rfl⟩:=q0d.mp hk
    exact(sh d hd).1
   ·obtain⟨h,rfl⟩:=ke e1
    obtain⟨w,i1,r1⟩:=isAt h rv;rw[(sh _ (mem h)).2] at i1;rw[<-ve e2] at r1;exact yN J sub i1 r1
  ·rw[<-rv.length] at cz vt
   rw[gk (by omega),gk (by omega)] at hC;obtain⟨w,i1,r1⟩:=isAt (i:=i) (by omega) rv;obtain⟨w',i2,r2⟩:=isAt (i:=j) (by omega) rv;rw[(sh _ (mem (by omega))).2] at i1 i2;exact Tu (yN J sub i1 r1) (yN J sub i2 r2) hC
 ·refine Kv (κ:=tuples' false) (ks:=ds.map key) I col (by omega) (fun s' vs rv J h2 Q' hq=>?_) (fun s' vs rv J i j C cz vt hC=>?_) lT
  ·refine U_ (L:=L) (ks:=ds.map key) (by omega) (by rw[qU,<-rv.length];omega) (fun i k v e1 e2=>?_) hq
   obtain⟨h,rfl⟩:=ke e1;obtain⟨w,i1,r1⟩:=isAt h rv;obtain⟨k,n,hk,e3,e4⟩:=sh _ (mem h);rw[e3] at i1;rw[<-ve e2] at r1;rw[e4,<-hk];exact D0 J sub i1 r1
  ·rw[<-rv.length] at cz vt
   rw[gk (by omega),gk (by omega)] at hC;obtain⟨w,i1,r1⟩:=isAt (i:=i) (by omega) rv;obtain⟨w',i2,r2⟩:=isAt (i:=j) (by omega) rv;obtain⟨k,n,hk,e3,e4⟩:=sh _ (mem (i:=i) (by omega));obtain⟨k',n',gR,Vf,Vg⟩:=sh _ (mem (i:=j) (by omega));rw[e3] at i1;rw[Vf] at i2;rw[e4,Vg] at hC;have t1:=D0 J sub i1 r1;have t2:=D0 J sub i2 r2;rw[hk] at t1;rw[gR] at t2;exact U6 Ve t1 t2 hC
theorem Vh(hu:X.A.units+64<cLine):dh X (.builtin "sorted") yM:=by
 rintro pins s σ H xs us Q I r ⟨F,ds,K,sub,rd,q,md⟩;unfold yM at q;split at q
 ·rename_i es
  obtain⟨pW,key,sh,hK⟩:=q;obtain⟨v,rfl,a,vs,rfl,h1,h2⟩:=cO rd;obtain⟨u,rfl,rx⟩:=vals1 r;cases rx
  exact Kw hu I sub (.inl h1) h2 pW sh fun out ws b s' o1 o2 o3 hb J=>⟨.ref b,_,J,rfl,md _ _ _ (hK out o1 o2) (b7 hb) (mT sub hb o3)⟩
 ·rename_i es
  obtain⟨pW,key,sh,hK⟩:=q;obtain⟨v,rfl,h⟩:=cO rd;have h:Is F (.tup es) v:=h;simp only[Is] at h;obtain⟨a,vs,rfl,h1,h2⟩:=h;obtain⟨u,rfl,rx⟩:=vals1 r;cases rx
  exact Kw hu I sub (.inr (sub _ _ h1)) h2 pW sh fun out ws b s' o1 o2 o3 hb J=>⟨.ref b,_,J,rfl,md _ _ _ (hK out o1 o2) (b7 hb) (mT sub hb o3)⟩
 ·exact q.elim
end
end L2
namespace LJ
open PySem L2 PySem.W
theorem Vi{ls:List lJ}{b:Addr}{ps:Array Value}:(ls.map fun l=>(l.T,(#[]:Array Value))).lookup b=some ps->(∃l∈ls,l.T=b)/\ps = #[]:=by
 induction ls with
 |nil=>intro h;cases h
 |cons l ls ih =>
  intro h;rw[q0p,q0z] at h
  cases q:b==l.T with
  |true =>
   rw[q] at h;exact⟨⟨l,PE,(q0m q).symm⟩,(q0E h).symm⟩
  |false =>
   rw[q] at h;obtain⟨⟨l',h1,h2⟩,h3⟩:=ih h;exact⟨⟨l',q0c _ h1,h2⟩,h3⟩
theorem D1{ls:List lJ}{l:lJ}(h:l∈ls):(ls.map fun l=>(l.T,(#[]:Array Value))).lookup l.T=some #[]:=by
 induction ls with
 |nil=>cases h
 |cons l' ls ih =>
  rw[q0p,q0z]
  cases q:l.T==l'.T with
  |true=>rfl
  |false =>
   rcases PD.mp h with rfl|h
   ·simp at q
   ·exact ih h
theorem Vj{l:OpenLaw}{q:Program}{loose:List Str}{XP:(Str->Option Value)->Heap->Prop}{d:DefRec}{K:Params->Frag}{as:List Addr}{e:∀P,as=(K P).map (·.1)}{ts:List Addr}{kk:Nat}(ls:List lJ)(Vk:ls.map (·.T)=ts)(hn:l.most=some 63)(uY:d.params.defaults=[])(hr:aS kk callerA)
  (eK:∀(w:World)(h:Heap),(K w.params).In h->∀t∈ls,∃cc,CodeHd h cc t.T) (Vl:∀P,noTabs (K P)=true)
  (F:∀(w:World)(mg:Str->Option Value)(fa:Addr)(h:Heap),(K w.params).In h->h.Ns mainGlobals mg->mg d.name=some (.ref fa) →
   ∃fd:FuncData,(∀(s:Shared)(u:Value),BindsTo s fd ⟨[u],[]⟩ [("script",u)])/\∀base:Heap,(K w.params).In base->base.Ns mainGlobals mg->(∀t∈ls,base.BuiltinsAt mg t.T)->bP l.prog w (K w.params) mg base fu kk fa fd ["script"] (@yo (oF ls) (K w.params))) :
  WalkO q loose XP (kmHook K as e ts).says l.row.toRowW d [] (fun f vs=>q73 f vs) :=
 L2.Tc (n:=63) (k:=kk) (x:="script") (K:=fun w=>K w.params) (CX:=fun _=>fu) (sp:=fun w=>@yo (oF ls) (K w.params)) (Ts:=fun _=>ls.map fun l=>(l.T,#[])) hn (by decide) uY hr (fun w h Y=>km_in_of Y)
  (fun w h Y b ps hl=>by
   obtain⟨⟨t,ht,rfl⟩,rfl⟩:=Vi hl;have e1:h.get? t.T=some (tabObj #[]):=km_tabs_of Y t.T (by rw[<-Vk];exact q3f ht);refine⟨e1,?_,?_⟩
   ·obtain⟨cc,o,vs,_,_,_,_,_,_,_,c1,c2,c3,c4,_⟩:=eK w h (km_in_of Y) t ht
    exact⟨cc,o,vs,c1,c2,c3,c4⟩
   ·cases z:(K w.params).lookup t.T with
    |none=>rfl
    |some o =>
     have e2:=km_in_of Y t.T o z;rw[e1] at e2;cases e2;have h2:=q03.mp (Vl w.params) (t.T,tabObj #[]) (mem_of_lookupK z)
     exact absurd (show false=true from h2) PH)
  (fun w mg fa h KX G nZ=>by
   obtain⟨fd,hb,hF⟩:=F w mg fa h KX G nZ
   exact⟨fd,hb,fun base k1 k2 k3=>hF base k1 k2 fun t ht=>k3 t.T #[] (D1 ht)⟩)
  (fun w H a ns hl hO hS=>by
   letI:aB:=oF ls;refine⟨a,ns,rfl,hS,hl,fun t ht=>?_,fun _=>rfl⟩;rcases hO t.T with⟨ps,z1,z2⟩|⟨z1,_⟩
   ·rw[D1 ht] at z1;cases z1
    exact⟨#[],z2,trivial,.inl rfl⟩
   ·rw[D1 ht] at z1;cases z1)
  fun _ _ _ _ _ z=>z
end LJ
namespace LJ
open PySem L2
variable[aB]
def yO:GD:=fun ys ovs K=>∃(m:Int)(ws:List (Int×Int×Int)),aG m ws/\ys=[.p (ay m ws)]/\ovs=[]/\K (.p .non) []
def D2:WS:=(bf (bS (dT (aj 1 DK (ag (aa 0) af)))) pY cG)
theorem Vm:Sem 1 0 yO D2:=by
 rintro ys ovs K'-⟨m,ws,W,rfl,rfl,k⟩;unfold D2;simp? only [];refine⟨m,ws,W,rfl,rfl,?_⟩;simp? only [];exact bN k
def D3:GD:=fun ys ovs K=>∃y:Int×Int×Int,ys=[.p (bt y)]/\ovs=[]/\K (.p (.tup [.int y.2.2,.int y.1,.int y.2.1])) []
def D4:WS:=(aC (eS (ag (d2 (aa 0) (dC (.int 2)) aV) (ag (d2 (aa 0) (dC (.int 0)) aV) (ag (d2 (aa 0) (dC (.int 1)) aV) af)))))
theorem Vn:Sem 1 0 D3 D4:=by
 rintro ys ovs K'-⟨y,rfl,rfl,k⟩;unfold D4;simp? only [bt,fO,eT,at2];exact bN k
noncomputable def dA(ws:List (Int×Int×Int))(n:Int):LK:=[(ws.getD n.toNat (0,0,0)).2.2,(ws.getD n.toNat (0,0,0)).1,(ws.getD n.toNat (0,0,0)).2.1]
theorem Vo{m:Int}{ws:List (Int×Int×Int)}(W:aG m ws){a b:Int}(ha:0<=a/\a<(ws.length:Int))(hb:0<=b/\b<(ws.length:Int))(e:dA ws a=dA ws b):a=b:=by
 obtain⟨i,rfl⟩:∃i:Nat,a=i:=⟨a.toNat,by omega⟩;obtain⟨j,rfl⟩:∃j:Nat,b=j:=⟨b.toNat,by omega⟩;have hi:i<ws.length:=by omega
 have hj:j<ws.length:=by omega
 unfold dA at e;rw[q0u,q0u,He,qV hi,He,qV hj] at e;simp only[Option.getD_some,List.cons.injEq,and_true] at e
 have q:(ws.map fun y=>(y.1,y.2.1))[i]'(by rw[qU];exact hi)=(ws.map fun y=>(y.1,y.2.1))[j]'(by rw[qU];exact hj):=by
  rw[q11,q11,e.2.1,e.2.2]
 have:=(q2J W.unlike).mp q;rw[this]
def D5:GD:=fun ys ovs K=>∃(m:Int)(ws:List (Int×Int×Int))(n:Int),aG m ws/\(0<=n/\n<(ws.length:Int))/\ys=[.p (ay m ws),.p (.int n)]/\ovs=[]/\K (.p (.tup ((dA ws n).map D.int))) []
def D6:WS:=(ak (iV (d2 (d2 (aa 0) (dC (.int 1)) aV) (aa 1) aV) (iF 3 (dR (bj 2) (dR (bj 3) (dR (bj 4) ij))))) (aC (eS (ag (aa 4) (ag (aa 2) (ag (aa 3) af))))))
theorem Vp:Sem 2 3 D5 D6:=by
 rintro ys ovs K'-⟨m,ws,n,W,⟨n0,n1⟩,rfl,rfl,k⟩;obtain⟨y,ey,hy,ea,_⟩:=tU W n0 n1;unfold D6;simp? only [eT,ay,ea,bt];unfold dA at k;rw[ey] at k;exact bN k
noncomputable def jU(ws:List (Int×Int×Int))(n:Int):D:=.tup [.tup ((dA ws n).map D.int),.int n]
theorem Vq{a b:LK}{n m:Int}(hl:a.length=b.length)(h:kle (a++[n]) (b++[m])):kle a b:=by
 unfold kle at h ⊢;rw[DW _ _ hl.symm] at h
 by_cases e:b=a
 ·rw[e];exact yg a
 ·rw[q0a e] at h;exact h
end LJ
namespace L2
open PySem PySem.Spec PyProof.Rows
variable[aB]
noncomputable def bT(kvs:List (Key×D))(k:Key):Option D:=(kvs.find? fun kv=>decide (kv.1=k)).map (·.2)
noncomputable def putD(kvs:List (Key×D))(k:Key)(d:D):List (Key×D) :=
 if(kvs.any fun kv=>decide (kv.1=k))=true then kvs.map (fun kv=>if kv.1=k then(kv.1,d) else kv) else kvs++[(k,d)]
theorem fB.val{F:Hp}(k:Key):∀{fZ:List (Key×D)}{ws:List (Key×V)},fB F fZ ws->(bT fZ k=none/\bR ws k=none)\/∃d v,bT fZ k=some d/\bR ws k=some v/\Is F d v
 |[],_,h=>by have h:_=[]:=h;subst h;exact .inl ⟨rfl,rfl⟩
 |kd::r,_,⟨v,t,e,h1,h2⟩=>by
  subst e
  by_cases c:kd.1=k
  ·refine .inr ⟨kd.2,v,?_,vo c,h1⟩
   unfold bT;rw[q5c (by simpa using c)];rfl
  ·rw[vp c]
   have e:bT (kd::r) k=bT r k:=by unfold bT;rw[q5d (by simpa using c)]
   rw[e];exact fB.val k h2
theorem fB.length{F:Hp}:∀{fZ:List (Key×D)}{ws:List (Key×V)},fB F fZ ws->ws.length=fZ.length
 |[],_,h=>by have h:_=[]:=h;subst h;rfl
 |kd::r,_,⟨v,t,e,h1,h2⟩=>by subst e;rw[Hc,Hc,h2.length]
theorem fB.any{F:Hp}(k:Key):∀{fZ:List (Key×D)}{ws:List (Key×V)},fB F fZ ws->(ws.any fun kv=>decide (kv.1=k))=fZ.any fun kv=>decide (kv.1=k)
 |[],_,h=>by have h:_=[]:=h;subst h;rfl
 |kd::r,_,⟨v,t,e,h1,h2⟩=>by subst e;rw[q2p,q2p,h2.any k]
theorem fB.iU{F:Hp}(k:Key){d:D}{v:V}(hd:Is F d v):∀{fZ:List (Key×D)}{ws:List (Key×V)},fB F fZ ws->fB F (fZ.map fun kv=>if kv.1=k then(kv.1,d) else kv) (ws.map fun kv=>if kv.1=k then(kv.1,v) else kv)
 |[],_,h=>by have h:_=[]:=h;subst h;rfl
 |kd::r,_,⟨u,t,e,h1,h2⟩=>by
  subst e
  by_cases c:kd.1=k
  ·rw[q0p,q0p,q0f c,q0f c]
   exact⟨v,_,rfl,hd,h2.iU k hd⟩
  ·rw[q0p,q0p,q0a c,q0a c]
   exact⟨u,_,rfl,h1,h2.iU k hd⟩
theorem fB.snoc{F:Hp}{k:Key}{d:D}{v:V}(hd:Is F d v):∀{fZ:List (Key×D)}{ws:List (Key×V)},fB F fZ ws->fB F (fZ++[(k,d)]) (ws++[(k,v)])
 |[],_,h=>by have h:_=[]:=h;subst h;exact⟨v,[],rfl,hd,rfl⟩
 |kd::r,_,⟨u,t,e,h1,h2⟩=>by subst e;exact⟨u,_,rfl,h1,h2.snoc hd⟩
theorem fB.put{F:Hp}{fZ:List (Key×D)}{ws:List (Key×V)}{k:Key}{d:D}{v:V}(h:fB F fZ ws)(hd:Is F d v):fB F (putD fZ k d) (putK ws k v):=by
 unfold putD putK;rw[h.any k];split
 ·exact h.iU k hd
 ·exact h.snoc hd
def iy(x:DV)(δ:au)(K:Nat->List (Key×D)->Prop):Prop:=match x with
 |.o k=>match δ.mu[k]? with
  |some (some (.dct kvs))=>K k kvs
  |_=>False
 |_=>False
theorem Kx{F H:Hp}{ad:List Addr}{δ:au}{σ:St}{x:DV}{v:V}{K:Nat->List (Key×D)->Prop}(S:SR F ad δ σ H)(V1:fD F ad x v)(h:iy x δ K):∃k kvs a ws,x=.o k/\K k kvs/\v=.ref a/\ad[k]?=some a/\H a=some (.dK ws)/\fB F kvs ws/\δ.mu[k]?=some (some (.dct kvs)):=by
 unfold iy at h;split at h
 ·rename_i k
  split at h
  ·rename_i kvs e
   obtain⟨a,e1,rfl⟩:=V1;obtain⟨a',o,e2,e3,ws,rfl,h4⟩:=S.mu k _ e;rw[e1] at e2;cases e2;exact⟨k,kvs,a,ws,rfl,h,rfl,e1,e3,h4,e⟩
  ·exact h.elim
 ·exact h.elim
def iz(x:DV)(P:Int->Prop):Prop:=match x with
 |.p (.int i)=>P i
 |_=>False
theorem Ky{F:Hp}{ad:List Addr}{x:DV}{v:V}{P:Int->Prop}(hv:fD F ad x v)(h:iz x P):∃i,v=kV (.inl i)/\P i:=by
 unfold iz at h;split at h
 ·rename_i i;exact⟨i,hv,h⟩
 ·exact h.elim
def wA:WE:=fun δ K=>K (.o δ.mu.length) ⟨δ.sl,δ.mu++[some (.dct [])]⟩
def jV(neg:Bool)(fi fo:WE):WE:=fun δ K=>fi δ fun x δ1=>fo δ1 fun y δ2=>iz x fun i=>iy y δ2 fun _ kvs=>K (.p (.bl (neg != (bT kvs (.inl i)).isSome))) δ2
def wB(fv fo fi:WE):WS:=fun K δ=>fv δ fun z δ1=>fo δ1 fun x δ2=>fi δ2 fun y δ3=>oj z δ3 fun d δ4=>iz y fun i=>iy x δ4 fun k kvs=>kvs.length<1000/\K.nx ⟨δ4.sl,δ4.mu.set k (some (.dct (putD kvs (.inl i) d)))⟩
section
variable{X:Cx}{o i e v:Expr}{fo fi fv fk fe:WE}{pos:Pos}
theorem Vr:JE X (.Dict [] [] pos) (tD wA):=h9.weak fun σ H Q ⟨F,ad,δ,K,S,q,k⟩ p hp=>by
 have oi:fJ F (.dct []) (.dK []):=⟨[],rfl,rfl⟩;refine k _ _ q _ _ _ _ (Ext.own S hp) (S.own hp oi) ⟨p,?_,rfl⟩;rw[<-S.cb,q0k (Bi _),q1r];rfl
theorem Vs{neg:Bool}(td:TE)(hn:∀σ H (Q:VK),(tD fi σ H fun y H1=>tD fo σ H1 fun x H2=>∃a o,x=.ref a/\jL H2 a y o/\Q (.bl (neg != o.isSome)) H2)->td σ H Q):∀σ H Q,tD (jV neg fi fo) σ H Q->td σ H Q:=fun σ H Q h0_=>el7 h0_ fun F ad δ K S q k =>hn σ H Q ⟨F,ad,δ,_,S,q,fun x δ1 h1 v F1 aN H1 E1 S1 V1=>⟨F1,aN,δ1,_,S1,h1,fun y δ2 h2 u F2 cw H2 E2 S2 V2=>by
  obtain⟨i,rfl,h3⟩:=Ky (V1.ext E2) h2;obtain⟨k0,kvs,a,ws,rfl,h4,rfl,e1,e2,i1,m1⟩:=Kx S2 V2 h3;refine⟨a,_,rfl,jL.k e2,?_⟩
  have es:(bR ws (q3b i:Key)).isSome=(bT kvs (.inl i)).isSome:=by
   rcases i1.val (.inl i) with⟨z1,z2⟩|⟨d,v,z1,z2,_⟩
   ·rw[z1,z2];rfl
   ·rw[z1,z2];rfl
  rw[es]
  exact k _ _ h4 _ _ _ _ (E1.trans E2) S2 rfl⟩⟩
theorem Vt{t:TE}{f:WE}(h:∀σ H Q,tD f σ H Q->t σ H Q):∀σ H Q,cA (dT f) σ H Q->tB t σ H Q:=fun σ H Q h0_=>el7 h0_ fun F ad δ K S q k =>h σ H _ ⟨F,ad,δ,_,S,q,fun x δ1 h1 v F1 aN H1 E1 S1 V1=>by
  obtain⟨b,rfl,h2⟩:=vE V1 h1
  exact⟨b,rfl,k _ _ h2 _ _ _ E1 S1⟩⟩
theorem Vu(hu:X.A.units+64<cLine)(hi:JE X i (tD fi))(ho:JE X o (tD fo))(hm:behindInMarks .In o=false:=by rfl):JT X (.Compare i [.In] [o] pos) (cA (dT (jV false fi fo))) :=
 (Gs (QV (by omega) hi ho) hm).weak (Vt (Vs (vq (tD fi) (tD fo)) fun σ H Q h=>by simp only[q8d] at h;exact h))
theorem Vv[bL]{pos':Pos}(hu:X.A.units+64<cLine)(ho:JE X o (tD fo))(hi:JE X i (tD fi))(hv:JE X v (tD fv))(hs:swapsWith v (some (.Subscript o i pos')) pos.line X.env=pure false:=by rfl):JS X (.Assign [.Subscript o i pos'] v pos) (b9 (wB fv fo fi)) :=
 (QW (by omega) ho hi hv hs).weak fun D σ H h0_=>el7 h0_ fun F ad δ K S q k =>⟨F,ad,δ,_,S,q,fun z δ1 h1 w F1 aN H1 E1 S1 V1=>⟨F1,aN,δ1,_,S1,h1,fun x δ2 h2 u F2 cw H2 E2 S2 V2=>⟨F2,cw,δ2,_,S2,h2,fun y δ3 h3 t F3 tE H3 E3 S3 V3=>by
  obtain⟨d,δ4,F4,h4,E4,S4,i4⟩:=vD S3 ((V1.ext E2).ext E3) h3;obtain⟨i,rfl,h5⟩:=Ky V3 h4;obtain⟨k0,kvs,a,ws,rfl,h6,rfl,e1,e2,i1,m1⟩:=Kx S4 ((V2.ext E3).ext E4) h5;have oi:fJ F4 (.dct (putD kvs (.inl i) d)) (.dK (putK ws (.inl i) w)):=⟨_,rfl,i1.put i4⟩;refine⟨a,_,rfl,lg.k e2 (kZ (by rw[i1.length];exact q1z h6.1)),?_⟩
  exact k.nx _ h6.2 _ _ _ _ ((((E1.trans E2).trans E3).trans E4).trans (Ext.put S4 m1 e1)) (S4.put m1 e1 oi)⟩⟩⟩
end
end L2
namespace LJ
open PySem L2
variable[aB]
theorem Kz{kvs:List (Key×D)}{k l:Key}{d:D}(h:bT kvs k=none):bT (putD kvs k d) l=if l=k then some d else bT kvs l:=by
 have na:(kvs.any fun kv=>decide (kv.1=k))=false:=by
  cases q:kvs.any fun kv=>decide (kv.1=k) with
  |false=>rfl
  |true =>
   obtain⟨kv,h1,h2⟩:=q7h.mp q;unfold bT at h;rw[Option.map_eq_none_iff] at h;exact absurd h2 (q4f.mp h kv h1)
 unfold putD;rw[na,q0a PH];unfold bT;rw[List.find?_append]
 cases q:kvs.find? fun kv=>decide (kv.1=l) with
 |some kv =>
  have e:=q30 q;have e:kv.1=l:=by simpa using e
  rw[q0a]
  ·rfl
  ·intro z
   subst z;have hm:=q4z q;have:=q2l.mp na kv hm;exact this (by simpa using e)
 |none =>
  by_cases c:l=k
  ·subst c
   rw[q0f rfl];simp
  ·rw[q0a c]
   simp[show ¬ k=l from fun z=>c z.symm]
theorem KC{kvs:List (Key×D)}{k:Key}{d:D}:(putD kvs k d).length<=kvs.length+1:=by
 unfold putD;split
 ·rw[qU];omega
 ·rw[Hd];simp
def D7:GD:=fun ys ovs K=>∃(m:Int)(ws:List (Int×Int×Int))(ns:List Int),aG m ws/\Nums ws ns/\ns.Nodup/\ns.length<=900/\ys=[.p (ay m ws),.p (aX ns)]/\ovs=[]/\K (.p .non) []
def D8:WS:=(ak (lB (aj 1 yO (ag (aa 0) af))) (ak (bf (bS (dT (d1 (aa 1) (bB "list")))) pY cG) (ak (aE 2 (d2 (dN (ag (d2 (aa 0) (dC (.int 1)) aV) af) bC) (dC (.int 1)) (oI fun i j=>.int (i-j)))) (ak (aE 3 wA) (cY (iW (ag (aa 1) af)) (iF 2 (dR (bj 4) (dR (bj 5) ij))) (ak (bf (iE (bS (dT (aj 3 oO (ag (aa 5) (ag (dC (.int 0)) (ag (aa 2) af)))))) (dT (jV false (aa 5) (aa 3)))) pY cG) (wB (dC (.bl true)) (aa 3) (aa 5))))))))
theorem Vw:Sem 2 4 D7 D8:=by
 rintro ys ovs K'-⟨m,ws,ns,W,hn,nd,hl,rfl,rfl,k⟩;unfold D8;refine aO fun N hN=>?_;simp? only [];refine⟨m,ws,W,rfl,rfl,?_⟩;show N _;subst hN;refine aO fun N hN=>?_;simp? only [];rw[show aX ns=.lst (ns.map D.int) from rfl];simp? only [bG,aJ,q4c];subst hN;refine aO fun N hN=>?_;simp? only [eT,ay];subst hN;refine aO fun N hN=>?_;simp? only [wA];subst hN
 have il:∀(j:Nat)(d:D),(jr 0 (ns.map D.int))[j]?=some d->∃n:Int,ns[j]?=some n/\d=D.tup [.int (j:Int),.int n]:=fun j d hd=>by
  obtain⟨e,h1,h2⟩:=rJ hd;rw[q0b] at h1;obtain⟨n,h3,rfl⟩:=q0g.mp h1;exact⟨n,h3,by rw[h2,q00]⟩
 have el:(jr 0 (ns.map D.int)).length=ns.length:=by rw[rH,qU]
 simp only[cY,iW,ag,aa,af,q2n,q10,mQ];refine kq (fun i δ=>∃kvs:List (Key×D),kvs.length<=i/\(∀n:Int,(bT kvs (.inl n)).isSome=decide (n∈ns.take i))/\δ=⟨[some (.p (.tup [.int m,.tup (ws.map bt)])),some (.p (.lst (ns.map D.int))),some (.p (.int (ws.length-1))),some (.o 0),none,none],[some (.dct kvs)]⟩) ?_ ?_ ?_
 ·refine⟨[],Bi _,fun n=>by simp[bT],?_⟩
  simp only[qU]
 ·rintro j d δ L hj ⟨kvs,kl,kv,rfl⟩ hL
  obtain⟨n,nr,rfl⟩:=il j d hj;obtain⟨n0,n1⟩:=hn n (q0M nr);have jl:j<ns.length:=(sR.mp nr).1
  have ff:(bT kvs (.inl n)).isSome=false:=by
   rw[kv n];refine q0r fun hm=>?_;obtain⟨i,hi,ei⟩:=q1a.mp hm;rw[q0L] at hi;rw[q6y] at ei;have e2:ns[j]=n:=(sR.mp nr).2;have:=(q2J (h₀:=by omega) (h₁:=jl) nd).mp (ei.trans e2.symm);omega
  have fn:bT kvs (.inl n)=none:=by
   cases q:bT kvs (.inl n) with
   |none=>rfl
   |some d=>rw[q] at ff;cases ff
  have wb:lV (.int n) 0 (ws.length-1)=true:=by
   show(decide (0<=n)&&decide (n<=(ws.length:Int)-1))=true;rw[q0x n0,q0x (by omega)];rfl
  refine⟨trivial,?_⟩;simp only[iF,dR,ij,bj,gz,q0Y,q0Z,Hc,q09];refine⟨trivial,?_⟩;refine aO fun N hN=>?_;simp? only [];refine⟨.int n,0,ws.length-1,rfl,rfl,?_⟩;simp? only [wb,jV,iz,iy,ff,q8d];subst hN;simp? only [wB,iz,iy];refine⟨by omega,hL _ ⟨putD kvs (.inl n) (.bl true),?_,fun l=>?_,?_⟩⟩
  ·have:=KC (kvs:=kvs) (k:=.inl n) (d:=.bl true);omega
  ·rw[Kz fn,q2j,nr]
   by_cases c:l=n
   ·subst c
    rw[q0f rfl];exact(q0x (by simp)).symm
   ·rw[q0a (fun z=>c (q7o z)),kv l]
    simp[c]
  ·simp? only []
 ·rintro δ ⟨kvs,_,_,rfl⟩
  exact⟨trivial,bN k⟩
end LJ
namespace L2
open PySem PySem.Spec PyProof.Rows PySem.W
section
open PySem.SeqAt
open PySem.AutoSeq1 (wpAny_loadPart')
open PySem.MeetsSeq PySem.MeetsSeq2 PySem.MeetsSeq3
end
section
variable{prog:Program}{w:World}{A:Around}{E:aH}{s:Shared}{Q:Bool->Shared->Prop}
end
section
variable[aB]{X:Cx}
end
end L2
namespace LJ
open PySem L2
abbrev Lt:=Int×(Addr×List Int)
noncomputable def d4(es:List Lt):List (Key×V):=es.map fun e=>(q3b e.1,V.ref e.2.1)
structure cL(H:Hp)(es:List Lt):Prop where
 at_:∀e∈es,H e.2.1=some (.lst (e.2.2.map V.int))
 pd:(es.map (·.2.1)).Nodup
 pe:(es.map (·.1)).Nodup
noncomputable def strip(es:List Lt):List (Int×List Int):=es.map fun e=>(e.1,e.2.2)
noncomputable def nv(g:List (Int×List Int))(x h:Int):List (Int×List Int):=if x∈g.map (·.1) then g.map (fun e=>if e.1=x then(e.1,e.2++[h]) else e) else g++[(x,[h])]
noncomputable def cM(fs:List Int):Nat->List (Int×List Int)
 |0=>[]
 |i+1=>nv (cM fs i) (fs.getD i 0) i
theorem KD(x:Int):∀es:List Lt,bR (d4 es) (q3b x:Key)=(es.find? fun e=>decide (e.1=x)).map fun e=>V.ref e.2.1
 |[]=>rfl
 |e::es=>by
  by_cases c:e.1=x
  ·rw[q5c (by simpa using c)]
   exact vo (congrArg q3b c)
  ·rw[q5d (by simpa using c)]
   have:=KD x es;rw[<-this];exact vp (fun z=>c (q7o z))
theorem Vx(es:List Lt):(strip es).map (·.1)=es.map (·.1):=by unfold strip;rw[q0o];rfl
noncomputable def grow(es:List Lt)(x h:Int):List Lt:=es.map fun e=>if e.1=x then(e.1,e.2.1,e.2.2++[h]) else e
theorem Vy(es:List Lt)(x h:Int):d4 (grow es x h)=d4 es:=by
 unfold d4 grow;rw[q0o];refine q0R fun e _=>?_;show((q3b (if e.1=x then(e.1,e.2.1,e.2.2++[h]) else e).1:Key),V.ref (if e.1=x then(e.1,e.2.1,e.2.2++[h]) else e).2.1)=_;split<;>rfl
theorem Vz(es:List Lt)(x h:Int):(grow es x h).map (·.2.1)=es.map (·.2.1):=by
 unfold grow;rw[q0o];refine q0R fun e _=>?_;show(if e.1=x then(e.1,e.2.1,e.2.2++[h]) else e).2.1=_;split<;>rfl
theorem VA(es:List Lt)(x h:Int):(grow es x h).map (·.1)=es.map (·.1):=by
 unfold grow;rw[q0o];refine q0R fun e _=>?_;show(if e.1=x then(e.1,e.2.1,e.2.2++[h]) else e).1=_;split<;>rfl
theorem VB{es:List Lt}{x h:Int}(hx:x∈es.map (·.1)):strip (grow es x h)=nv (strip es) x h:=by
 unfold nv;rw[q0f (by rw[Vx];exact hx)];unfold strip grow;rw[q0o,q0o];refine q0R fun e _=>?_;show((if e.1=x then(e.1,e.2.1,e.2.2++[h]) else e).1,(if e.1=x then(e.1,e.2.1,e.2.2++[h]) else e).2.2)=if e.1=x then(e.1,e.2.2++[h]) else(e.1,e.2.2);split<;>rfl
theorem VC{es:List Lt}(n:(es.map (·.1)).Nodup){e e':Lt}(h:e∈es)(h':e'∈es)(q:e.1=e'.1):e=e':=by
 obtain⟨i,hi,rfl⟩:=q1a.mp h;obtain⟨j,hj,rfl⟩:=q1a.mp h';have:=(q2J (h₀:=by rw[qU];exact hi) (h₁:=by rw[qU];exact hj) n).mp (by rw[q11,q11];exact q);subst this;rfl
theorem VD{es:List Lt}(n:(es.map (·.2.1)).Nodup){e e':Lt}(h:e∈es)(h':e'∈es)(q:e.2.1=e'.2.1):e=e':=by
 obtain⟨i,hi,rfl⟩:=q1a.mp h;obtain⟨j,hj,rfl⟩:=q1a.mp h';have:=(q2J (h₀:=by rw[qU];exact hi) (h₁:=by rw[qU];exact hj) n).mp (by rw[q11,q11];exact q);subst this;rfl
theorem cL.grow{H:Hp}{es:List Lt}{e:Lt}{h:Int}(L:cL H es)(he:e∈es):cL (upd H e.2.1 (.lst (e.2.2.map V.int++[V.int h]))) (grow es e.1 h):=by
 refine⟨fun e' mZ=>?_,by rw[Vz];exact L.pd,by rw[VA];exact L.pe⟩;unfold LJ.grow at mZ;obtain⟨d,hd,rfl⟩:=q0d.mp mZ
 by_cases c:d.1=e.1
 ·obtain rfl:=VC L.pe hd he c
  rw[q0f rfl];show upd H d.2.1 _ d.2.1=some (.lst ((d.2.2++[h]).map V.int));rw[a_,q0w];rfl
 ·rw[q0a c]
  rw[av fun z=>c (by rw[VD L.pd hd he z])];exact L.at_ d hd
theorem cL.snoc{H H':Hp}{es:List Lt}{x h:Int}{n:Addr}(L:cL H es)(hn:H n=none)(hx:x∉es.map (·.1))(kp:∀e∈es,H' e.2.1=H e.2.1)(h':H' n=some (.lst [V.int h])):cL H' (es++[(x,n,[h])]):=by
 refine⟨fun e he=>?_,?_,?_⟩
 ·rcases q04.mp he with q|q
  ·rw[kp e q];exact L.at_ e q
  ·rw[q0K.mp q];exact h'
 ·rw[q0w]
  refine q1b.mpr ⟨L.pd,by simp,fun a ha b hb z=>?_⟩;subst z;obtain⟨e,he,rfl⟩:=q0d.mp ha;have:e.2.1=n:=by simpa using hb
  rw[<-this,L.at_ e he] at hn;cases hn
 ·rw[q0w]
  refine q1b.mpr ⟨L.pe,by simp,fun a ha b hb z=>?_⟩;subst z;have:a=x:=by simpa using hb
  exact hx (by rw[<-this];exact ha)
variable[aB]
def KG:GD:=fun ys ovs K=>∃(m:Int)(ws:List (Int×Int×Int))(ns:List Int),aG m ws/\Nums ws ns/\ns.Nodup/\ns.length<=900/\ys=[.p (ay m ws),.p (aX ns)]/\ovs=[]/\K (.p (si ((cM (eG m ws ns) m.toNat).map (·.2)))) []
end LJ
namespace L2
open PySem
variable[aB]
noncomputable def z6(δ:au):au:=⟨δ.sl,δ.mu.map fun _=>none⟩
section
variable{F F' H H':Hp}{ad aw:List Addr}{δ δ':au}{σ σ':St}
def KH(H:Hp)(v:V)(H':Hp):Prop:=∃a b r,v=.ref a/\H a=none/\H' a=some (.lst (.ref b::r))/\H b=none
end
section
variable{X:Cx}{st0 iK iL pL:Stmt}{i n:Nat}{G:GD}{fa:WA}{t:WT}{B:TS}{E:XK}
end
end L2
namespace LJ
open PySem L2
variable[aB]
def VF:V->List V->Hp->VK->Prop:=fun x vs H Q=>∃(d:Addr)(kvs:List (Key×V))(k:Key)(dv:V),x=.ref d/\vs=[kV k,dv]/\H d=some (.dK kvs)/\kvs.length<sizeLine/\(∀v,bR kvs k=some v->Q v H)/\(bR kvs k=none->Q dv (upd H d (.dK (putK kvs k dv))))
def VG:V->List V->Hp->VK->Prop:=fun x vs H Q=>∃(d:Addr)(kvs:List (Key×V)),x=.ref d/\vs=[]/\H d=some (.dK kvs)/\∀r,H r=none->Q (.ref r) (upd H r (ib r d))
def VH:List V->Hp->VK->Prop:=fun xs H Q=>∃(r d:Addr)(kvs:List (Key×V)),xs=[.ref r]/\H r=some (ib r d)/\H d=some (.dK kvs)/\∀l,H l=none->Q (.ref l) (upd H l (.lst (kvs.map (·.2))))
def VI:TS:=b9 (lB (aj 2 D7 (ag (aa 0) (ag (aa 1) af))))
def VJ(Kf:xA):TS:=kP (cU HQ (hU 2)) (kP (uH (Hr Kf (gw (qF (lC yH 2) [] E0 (gw (cS 0) (gw (cS 1) fW))) fW)) (uE Kf 2 (As (hU 3) (As (hU 4) uC)))
 (Gx (sP Kf "list" Ba (sP Kf "dict" VF (cS 2) (gw (cS 4) (gw (uO fW) fW))) (gw (cS 3) fW))))
 (qw (uQ VH (gw (uW Kf "dict" VG (cS 2)) fW))))
theorem VL{fs:List Int}:∀{i:Nat},0<i->cM fs i≠[]
 |i+1,_,z=>by
  unfold cM nv at z;split at z
  ·rename_i c
   rw[q57] at z;rw[z] at c;exact nomatch c
  ·simp at z
theorem VM{Kf:xA}{H F0:Hp}{ad:List Addr}{vs:List V}{m:Int}{ws:List (Int×Int×Int)}{ns:List Int}{K':RV->List OV->Prop}{Q:VK}{Dd:Ends}(hl:vs.length=2)(W:aG m ws)(hn:Nums ws ns)(hd:ns.Nodup)(D9:ns.length<=900)
  (hK:K' (.p (si ((cM (eG m ws ns) m.toNat).map (·.2)))) []) (S0:SR F0 ad ⟨[DV.p (ay m ws),DV.p (aX ns)].map some,([]:List OV).map some⟩ (vs.map some) H) (kk:∀r ows,K' r ows->∀v F' H',xX F0 ad H r ows v F' H'->KH H v H'->Q v H') (hD:∀v H',Q v H'->Dd.rt v H') :
  kP VI (VJ Kf) Dd (start ["web", "ways", "lots", "house", "first"] vs) H:=by
 have ea:ad=[]:=by have:=S0.cb;simpa using this
 subst ea;have S1:=S0.start (N:=["web", "ways", "lots", "house", "first"]);rw[hl] at S1;refine⟨F0,[],_,{nx:=fun δ'=>δ'=⟨[some (.p (ay m ws)),some (.p (aX ns)),none,none,none],[]⟩,rt:=fun _ _=>False},S1,?_,⟨?_,fun _ h=>h.elim,fun _ h=>h.elim,fun _ _ h=>h.elim,trivial⟩⟩
 ·simp? only []
  exact⟨m,ws,ns,W,hn,hd,D9,rfl,rfl,rfl⟩
 rintro δ' rfl F1 aN σ1 H1 E1 S1;have ea:aN=[]:=by have:=S1.cb;simpa using this
 subst ea;obtain⟨v0,e0,i0⟩:=S1.sl 0 _ rfl;obtain⟨v1,e1,i1⟩:=S1.sl 1 _ rfl;have hlen:=S1.len
 obtain⟨w2,w3,w4,rfl⟩:∃w2 w3 w4,σ1=[some v0,some v1,w2,w3,w4]:=by
  obtain⟨a,r,rfl⟩:=q1M hlen;obtain⟨b,r,rfl⟩:=q1M (q2V hlen);have hlen:=q2V (q2V hlen);obtain⟨c,r,rfl⟩:=q1M hlen;obtain⟨d,r,rfl⟩:=q1M (q2V hlen);obtain⟨e,rfl⟩:=q5b.mp (q2V (q2V hlen));cases(show some a=some (some v0) from e0)
  cases(show some b=some (some v1) from e1)
  exact⟨c,d,e,rfl⟩
 intro dl oy
 have wC:H dl=none:=by
  cases q:H dl with
  |none=>rfl
  |some u=>obtain⟨u',h'⟩:=E1.ig dl u q;rw[oy] at h';cases h'
 have fl:F1 dl=none:=by
  cases q:F1 dl with
  |none=>rfl
  |some u=>rw[S1.sub dl u q] at oy;cases oy
 have nl:¬ Lv [] ([]:List (Option OV)) dl:=fun⟨k,ov,z,_⟩=>by simp at z
 have S2:=S1.other (o:=.dK []) fl nl (aB.same S1.tab (b7 oy));have E2:=E1.other (o:=.dK []) wC;refine⟨_,rfl,_,rfl,?_⟩;refine B3 (E:=E0) (xs:=[.p (ay m ws),.p (aX ns)]) (K:=fun r ows=>r=.p (aX (eG m ws ns))/\ows=[]) S2 ⟨v0,_,rfl,i0,v1,_,rfl,i1,rfl⟩ rfl rfl rfl ⟨m,ws,ns,W,hn,.inl ⟨rfl,rfl,rfl,rfl⟩⟩ fun res ows v F3 H3 ⟨er,eo⟩ X3 S3 fE=>?_;subst er eo;have wD:(eG m ws ns).length=m.toNat:=DQ;have h_:=W.h_;generalize eG m ws ns=fs at hK fE wD;have fE:Is F3 (.lst (fs.map D.int)) v:=fE;simp only[Is] at fE;obtain⟨g,us,rfl,hg,iu⟩:=fE;have VN:=qb iu;subst VN;have D_:Ext F1 [] [] (upd H1 dl (.dK [])) F3 [] [] H3:=X3
 have E3:Ext F0 [] [] H F3 [] [] H3:=E2.trans D_;have yP:∀a,¬ Lv [] ([]:List (Option OV)) a:=fun a ⟨k,ov,z,_⟩=>by simp at z
 have VO:dl∉aB.ad:=fun z=>by obtain⟨ps,q⟩:=aB.tb S1.tab z;rw[oy] at q;cases q
 have yQ:H3 dl=some (.dK []):=D_.keep dl _ a_ (yP _) VO;have yR:H3 g=some (.lst (fs.map V.int)):=S3.sub _ _ hg
 have VP:F3 dl=none:=by
  cases q:F3 dl with
  |none=>rfl
  |some u =>
   rcases D_.new dl u q with z|z|z
   ·rw[fl] at z;cases z
   ·rw[a_] at z;cases z
   ·exact absurd z (yP _)
 have gd:g≠dl:=fun z=>by rw[z,yQ] at yR;cases yR
 refine⟨g,rfl,⟨_,aZ.of yR⟩,?_⟩;refine HH (K:=Kf) (a:=g) (xs:=fs.map V.int) (fun i σ H4=>∃(es:List Lt)(w3 w4:Option V),σ=[some v0,some v1,some (.ref dl),w3,w4]/\(∀a o,H3 a=some o->a≠dl->H4 a=some o)/\aB.ok H4/\H4 dl=some (.dK (d4 es))/\cL H4 es/\(∀e∈es,H3 e.2.1=none)/\strip es=cM fs i/\es.length<=i/\∀e∈es,e.2.2.length<=i) ?_ (fun i σ H4 _ ⟨_,_,_,_,kp,_⟩=>aZ.of (kp g _ yR gd)) ?_ ?_
 ·exact⟨[],w3,w4,rfl,fun a o e _=>e,S3.tab,yQ,⟨(fun e he=>nomatch he),q2H,q2H⟩,(fun e he=>nomatch he),rfl,Bi _,fun e he=>nomatch he⟩
 ·rintro i x T' σ H4 hx ⟨es,w3,w4,rfl,kp,tk,qh,L4,fr,st,le,ll⟩ yq
  rw[q0b] at hx;obtain⟨y,ey,rfl⟩:=q0g.mp hx;have hi:=(sR.mp ey).1;have eD:fs.getD i 0=y:=by rw[He,ey];rfl
  have s5:ar H4 (upd H4 T' (.tup [.int (i:Int),.int y])):=mV yq;refine⟨T',_,rfl,bw.of a_,rfl,_,_,rfl,_,_,rfl,rfl,?_⟩;have VQ:=s5 _ _ qh;refine⟨_,rfl,.inr (.inr (.inl ⟨rfl,.inl ⟨_,VQ⟩⟩)),_,rfl,q06 _,fun en xE=>?_⟩;have s6:=s5.trans (mV (o:=.lst []) xE);have yS:=s6 _ _ qh;have wF:upd (upd H4 T' (.tup [.int (i:Int),.int y])) en (.lst []) en=some (.lst []):=a_;have jW:H4 en=none:=s5.free xE;have tW:=aB.same tk s6;generalize upd (upd H4 T' (.tup [.int (i:Int),.int y])) en (.lst [])=H6 at s6 yS wF tW;have L6:cL H6 es:=⟨fun e he=>s6 _ _ (L4.at_ e he),L4.pd,L4.pe⟩;have Ea:en≠dl:=fun z=>by rw[z,qh] at jW;cases jW
  have wG:H3 en=none:=by
   cases q:H3 en with
   |none=>rfl
   |some u=>rw[kp en u q Ea] at jW;cases jW
  have fv:=KD y es;refine⟨dl,d4 es,q3b y,.ref en,rfl,rfl,yS,kZ (by unfold d4;rw[qU];omega),fun v hv=>?_,fun hv=>?_⟩
  ·rw[hv] at fv
   cases ff:es.find? fun e=>decide (e.1=y) with
   |none=>rw[ff] at fv;cases fv
   |some e =>
    rw[ff] at fv;obtain rfl:v=V.ref e.2.1:=by simpa using fv
    have he:e∈es:=q4z ff;have ek:e.1=y:=by simpa using q30 ff
    have gQ:y∈es.map (·.1):=q0d.mpr ⟨e,he,ek⟩;have Eb:=L6.at_ e he;have Ec:e.2.1≠dl:=fun z=>by have:=fr e he;rw[z,yQ] at this;cases this
    refine⟨.inl ⟨rfl,_,aZ.of Eb⟩,_,rfl,e.2.1,_,_,rfl,rfl,Eb,?_,?_⟩
    ·refine kZ ?_
     rw[qU];have:=ll e he;omega
    ·refine⟨LJ.grow es y i,_,_,rfl,fun b' o eb nb=>?_,aB.put tW Eb (.inl ⟨_,rfl⟩),?_,?_,?_,?_,?_,?_⟩
     ·rw[av (bH eb (fr e he))];exact s6 _ _ (kp _ _ eb nb)
     ·rw[av (q1A Ec),Vy];exact yS
     ·rw[<-ek];exact L6.grow he
     ·intro e' mZ
      unfold LJ.grow at mZ;obtain⟨d,hd,rfl⟩:=q0d.mp mZ;have:=fr d hd;split<;>exact this
     ·rw[VB gQ,st];show nv (cM fs i) y i=nv (cM fs i) (fs.getD i 0) i;rw[eD]
     ·unfold LJ.grow;rw[qU];omega
     ·intro e' mZ
      unfold LJ.grow at mZ;obtain⟨d,hd,rfl⟩:=q0d.mp mZ;have:=ll d hd;split
      ·show(d.2.2++[(i:Int)]).length<=i+1
       rw[Hd,q0O];omega
      ·omega
  ·rw[hv] at fv
   have gQ:y∉es.map (·.1):=fun z=>by
    obtain⟨e,he,ek⟩:=q0d.mp z
    cases ff:es.find? fun e=>decide (e.1=y) with
    |none=>exact absurd (q4f.mp ff e he) (by simpa using ek)
    |some e'=>rw[ff] at fv;cases fv
   have sj:upd H6 dl (.dK (putK (d4 es) (q3b y) (.ref en))) en=some (.lst []):=by rw[av Ea];exact wF
   refine⟨.inl ⟨rfl,_,aZ.of sj⟩,_,rfl,en,_,_,rfl,rfl,sj,kZ (q06 _),?_⟩;refine⟨es++[(y,en,[(i:Int)])],_,_,rfl,fun b' o eb nb=>?_,aB.put (aB.put tW yS (.inr ⟨_,rfl⟩)) sj (.inl ⟨_,rfl⟩),?_,?_,?_,?_,?_,?_⟩
   ·rw[av (bH eb wG),av nb];exact s6 _ _ (kp _ _ eb nb)
   ·rw[av (q1A Ea),a_,QR _ hv];unfold d4;rw[q0w];rfl
   ·refine L4.snoc jW gQ (fun e he=>?_) (by rw[a_];rfl)
    have ne1:e.2.1≠en:=bH (L4.at_ e he) jW;have Ec:e.2.1≠dl:=fun z=>by have:=fr e he;rw[z,yQ] at this;cases this
    rw[av ne1,av Ec,L4.at_ e he];exact s6 _ _ (L4.at_ e he)
   ·intro e he
    rcases q04.mp he with q|q
    ·exact fr e q
    ·rw[q0K.mp q];exact wG
   ·unfold strip at st ⊢
    rw[q0w,st];show cM fs i++[(y,[(i:Int)])]=nv (cM fs i) (fs.getD i 0) i;unfold nv;rw[eD,q0a (by rw[<-st,q0o];exact gQ)]
   ·rw[Hd,q0O];omega
   ·intro e he
    rcases q04.mp he with q|q
    ·have:=ll e q;omega
    ·rw[q0K.mp q];show 1<=i+1;omega
 ·rintro σ H4 ⟨es,w3,w4,rfl,kp,tk,qh,L4,fr,st,le,ll⟩
  rw[qU,wD] at st;refine⟨_,rfl,.inr (.inr (.inl ⟨rfl,.inl ⟨_,qh⟩⟩)),dl,_,rfl,rfl,qh,fun v hv=>?_⟩;have s5:ar H4 (upd H4 v (ib v dl)):=mV hv;refine⟨v,dl,_,rfl,a_,s5 _ _ qh,fun r KI=>?_⟩;have s6:=s5.trans (mV (o:=.lst ((d4 es).map (·.2))) KI);have yT:H4 r=none:=s5.free KI;have Ed:upd (upd H4 v (ib v dl)) r (.lst ((d4 es).map (·.2))) r=some (.lst ((d4 es).map (·.2))):=a_;have tW:=aB.same tk s6;generalize upd (upd H4 v (ib v dl)) r (.lst ((d4 es).map (·.2)))=H5 at s6 Ed tW;have VR:r≠dl:=fun z=>by rw[z,qh] at yT;cases yT
  have KJ:H3 r=none:=by
   cases q:H3 r with
   |none=>rfl
   |some u=>rw[kp r u q VR] at yT;cases yT
  have non:∀{x:Addr},H3 x=none->H x=none:=fun{x} e=>by
   cases q:H x with
   |none=>rfl
   |some u=>obtain⟨u',z⟩:=E3.ig x u q;rw[e] at z;cases z
  have VS:KH H (.ref r) H5:=by
   cases es with
   |nil=>exact absurd st.symm (VL (by have:=W.m1;omega))
   |cons e es=>exact⟨r,e.2.1,_,rfl,non KJ,Ed,non (fr e PE)⟩
  refine hD _ _ (kk _ _ hK _ (Nw F3 H3 H5) _ ?_ VS);have sm:ar F3 (Nw F3 H3 H5):=Nw.same S3.sub;refine⟨fun a o e=>?_,E3.same.trans sm,fun a o e=>?_,fun a o e _ t=>?_,tW,fun a ha=>?_,rfl,fun j ow e=>by simp at e,fun a ha=>by simp at ha,?_⟩
  ·unfold Nw at e
   cases q:H3 a with
   |none=>rw[q] at e;exact e
   |some u =>
    rw[q] at e;have e:F3 a=some o:=e;exact s6 _ _ (kp _ _ (S3.sub _ _ e) fun z=>by rw[z,VP] at e;cases e)
  ·unfold Nw at e
   cases q:H3 a with
   |none =>
    refine .inr ?_
    cases q0:H a with
    |none=>rfl
    |some u=>obtain⟨u',h'⟩:=E3.ig a u q0;rw[q] at h';cases h'
   |some u =>
    rw[q] at e;have e:F3 a=some o:=e;rcases E3.new a o e with z|z|z
    ·exact .inl z
    ·exact .inr z
    ·exact absurd z (yP _)
  ·exact s6 _ _ (kp _ _ (E3.keep a o e (yP _) t) fun z=>by rw[z,wC] at e;cases e)
  ·obtain⟨ps,q⟩:=aB.tb S3.tab ha
   unfold Nw;rw[q];exact S3.nt a ha
  ·show Is (Nw F3 H3 H5) (.lst (((cM fs m.toNat).map (·.2)).map aX)) _
   simp only[Is];refine⟨r,_,rfl,by unfold Nw;rw[KJ];exact Ed,?_⟩;rw[<-st]
   have key:∀xs:List Lt,(∀e∈xs,e∈es)->ae (Nw F3 H3 H5) (((strip xs).map (·.2)).map aX) ((d4 xs).map (·.2)):=by
    intro xs
    induction xs with
    |nil=>intro _;exact .nil
    |cons e xs ih =>
     intro h;show ae _ (aX e.2.2::_) (V.ref e.2.1::_);simp only[ae];refine⟨_,_,rfl,?_,ih fun x hx=>h x (q0c _ hx)⟩;have he:=h e PE;show Is _ (.lst (e.2.2.map D.int)) _;simp only[Is];refine⟨e.2.1,e.2.2.map V.int,rfl,by unfold Nw;rw[fr e he];exact s6 _ _ (L4.at_ e he),rL⟩
   exact key es fun _ h=>h
noncomputable def Ee(p q:Int)(fs:List Int):List Int:=fs.map fun x=>if x=p then q else x
theorem VT{p q x y:Int}:(if x=p then q else x)=(if y=p then q else y)↔x=y\/((x=p\/x=q)/\(y=p\/y=q)):=by
 by_cases h1:x=p<;>by_cases h2:y=p
 ·rw[q0f h1,q0f h2];constructor<;>intro h<;>omega
 ·rw[q0f h1,q0a h2];constructor<;>intro h<;>omega
 ·rw[q0a h1,q0f h2];constructor<;>intro h<;>omega
 ·rw[q0a h1,q0a h2];constructor<;>intro h<;>omega
theorem KN{f:Int->Int}{fs:List Int}{i:Nat}(h:i<fs.length):(fs.map f).getD i 0=f (fs.getD i 0):=by
 rw[He,q0b,qV h,He,qV h];rfl
theorem VU{a b:Int}:ax (.int a) (.int b)=decide (a=b):=by
 cases q:ax (.int a) (.int b)
 ·exact(q0r fun z=>by rw[z,fM] at q;cases q).symm
 ·simp only[ax] at q
  exact(q0x (q0m q)).symm
end LJ
namespace LJ
open PySem L2
abbrev Wy:=Int×Int×Int
def yU(S:Wy->Prop)(a b:Int):Prop:=∃w,S w/\((w.1=a/\w.2.1=b)\/(w.1=b/\w.2.1=a))
inductive bc (S:Wy->Prop) (a:Int):Int->Prop
 |rf:bc S a a
 |st {b c:Int}:bc S a b->yU S b c->bc S a c
section
variable{S S':Wy->Prop}{a b c:Int}
theorem yU.symm(h:yU S a b):yU S b a:=let⟨w,h1,h2⟩:=h;⟨w,h1,h2.symm⟩
theorem bc.trans(h:bc S a b)(h':bc S b c):bc S a c:=by
 induction h' with
 |rf=>exact h
 |st _ e ih=>exact .st ih e
theorem bc.symm(h:bc S a b):bc S b a:=by
 induction h with
 |rf=>exact .rf
 |st _ e ih=>exact(bc.st .rf e.symm).trans ih
theorem bc.bind(h:bc S a b)(k:∀w,S w->bc S' w.1 w.2.1):bc S' a b:=by
 induction h with
 |rf=>exact .rf
 |st _ e ih =>
  obtain⟨w,h1,h2⟩:=e;rcases h2 with⟨rfl,rfl⟩|⟨rfl,rfl⟩
  ·exact ih.trans (k w h1)
  ·exact ih.trans (k w h1).symm
theorem bc.one{w:Wy}(h:S w):bc S w.1 w.2.1:=.st .rf ⟨w,h,.inl ⟨rfl,rfl⟩⟩
theorem bc.mono(h:bc S a b)(k:∀w,S w->S' w):bc S' a b:=h.bind fun w hw=>.one (k w hw)
theorem bc.none(h:bc S a b)(k:∀w,¬ S w):a=b:=by
 cases h with
 |rf=>rfl
 |st _ e=>obtain⟨w,h1,_⟩:=e;exact absurd h1 (k w)
theorem bc.add{w:Wy}(k:∀v,S' v↔S v\/v=w):bc S' a b↔bc S a b\/(bc S a w.1/\bc S w.2.1 b)\/(bc S a w.2.1/\bc S w.1 b):=by
 constructor
 ·intro h
  induction h with
  |rf=>exact .inl .rf
  |st _ e ih =>
   rename_i b c _;obtain⟨v,h1,h2⟩:=e;rcases(k v).mp h1 with h1|rfl
   ·have e':bc S b c:=.st .rf ⟨v,h1,h2⟩
    rcases ih with i|⟨i,j⟩|⟨i,j⟩
    ·exact .inl (i.trans e')
    ·exact .inr (.inl ⟨i,j.trans e'⟩)
    ·exact .inr (.inr ⟨i,j.trans e'⟩)
   ·rcases h2 with⟨rfl,rfl⟩|⟨rfl,rfl⟩
    ·rcases ih with i|⟨i,j⟩|⟨i,j⟩
     ·exact .inr (.inl ⟨i,.rf⟩)
     ·exact .inr (.inl ⟨i,.rf⟩)
     ·exact .inl i
    ·rcases ih with i|⟨i,j⟩|⟨i,j⟩
     ·exact .inr (.inr ⟨i,.rf⟩)
     ·exact .inl i
     ·exact .inr (.inr ⟨i,.rf⟩)
 ·have up:∀{x y},bc S x y->bc S' x y:=fun h=>h.mono fun v hv=>(k v).mpr (.inl hv)
  have o:bc S' w.1 w.2.1:=.one ((k w).mpr (.inr rfl));rintro(h|⟨h,h'⟩|⟨h,h'⟩)
  ·exact up h
  ·exact((up h).trans o).trans (up h')
  ·exact((up h).trans o.symm).trans (up h')
end
variable[aB]
def bu(n:Nat)(fs:List Int)(S:Wy->Prop):Prop:=fs.length=n/\∀i j:Nat,i<n->j<n->(fs.getD i 0=fs.getD j 0↔bc S i j)
theorem KO{n i:Nat}(h:i<n):(bg n).getD i 0=i:=by
 unfold bg;rw[He,q0b,q2b h];rfl
theorem bu.start(n:Nat):bu n (bg n) (fun _=>False):=by
 refine⟨by unfold bg;simp,fun i j hi hj=>?_⟩;rw[KO hi,KO hj];exact⟨fun e=>by rw[e];exact .rf,fun h=>h.none fun _ z=>z⟩
theorem bu.join{n i j:Nat}{fs:List Int}{S S':Wy->Prop}{w:Wy}{p q:Int}(h:bu n fs S)(hi:i<n)(hj:j<n)(e1:w.1=i)(e2:w.2.1=j)(k:∀v,S' v↔S v\/v=w)(pq:(p=fs.getD i 0/\q=fs.getD j 0)\/(p=fs.getD j 0/\q=fs.getD i 0)):bu n (Ee p q fs) S':=by
 refine⟨by unfold Ee;rw[qU,h.1],fun x y hx hy=>?_⟩;unfold Ee;rw[KN (by rw[h.1];exact hx),KN (by rw[h.1];exact hy),VT,bc.add k,e1,e2,<-h.2 x y hx hy,<-h.2 x i hx hi,<-h.2 x j hx hj,<-h.2 j y hj hy,<-h.2 i y hi hy];rcases pq with⟨rfl,rfl⟩|⟨rfl,rfl⟩
 ·constructor
  ·rintro(h|⟨h1|h1,h2|h2⟩)
   ·exact .inl h
   ·exact .inl (h1.trans h2.symm)
   ·exact .inr (.inl ⟨h1,h2.symm⟩)
   ·exact .inr (.inr ⟨h1,h2.symm⟩)
   ·exact .inl (h1.trans h2.symm)
  ·rintro(h|⟨h1,h2⟩|⟨h1,h2⟩)
   ·exact .inl h
   ·exact .inr ⟨.inl h1,.inr h2.symm⟩
   ·exact .inr ⟨.inr h1,.inl h2.symm⟩
 ·constructor
  ·rintro(h|⟨h1|h1,h2|h2⟩)
   ·exact .inl h
   ·exact .inl (h1.trans h2.symm)
   ·exact .inr (.inr ⟨h1,h2.symm⟩)
   ·exact .inr (.inl ⟨h1,h2.symm⟩)
   ·exact .inl (h1.trans h2.symm)
  ·rintro(h|⟨h1,h2⟩|⟨h1,h2⟩)
   ·exact .inl h
   ·exact .inr ⟨.inr h1,.inl h2.symm⟩
   ·exact .inr ⟨.inl h1,.inr h2.symm⟩
noncomputable def bF(ws:List Wy)(n:Int):Wy:=ws.getD n.toNat (0,0,0)
theorem sk(n:Nat):(bg n).length=n:=by unfold bg;simp
structure Good(fs:List Int):Prop where
 le:∀h:Nat,h<fs.length->0<=fs.getD h 0/\fs.getD h 0<=h
 own:∀h:Nat,h<fs.length->fs.getD (fs.getD h 0).toNat 0=fs.getD h 0
theorem getD_at{fs:List Int}{h:Nat}(hl:h<fs.length):fs.getD h 0=fs[h]:=by rw[He,qV hl];rfl
theorem VV{fs:List Int}{i j h:Nat}(hl:h<fs.length):(gq fs i j).getD h 0=if fs.getD h 0=max (fs.getD i 0) (fs.getD j 0) then min (fs.getD i 0) (fs.getD j 0) else fs.getD h 0:=by
 rw[getD_at (by rw[wy];exact hl),getD_at hl];unfold gq;rw[q11]
theorem VW(n:Nat):Good (bg n):=by
 have e:∀h:Nat,h<(bg n).length->(bg n).getD h 0=h:=fun h hl=>by
  rw[sk] at hl;rw[bg,He,q0b,q2b hl];rfl
 refine⟨fun h hl=>by rw[e h hl];omega,fun h hl=>?_⟩;rw[e h hl,q0u,e h hl]
theorem Good.join{fs:List Int}(G:Good fs){i j:Nat}(hi:i<fs.length)(hj:j<fs.length):Good (gq fs i j):=by
 have a1:=G.le i hi;have a2:=G.le j hj;have o1:=G.own i hi;have o2:=G.own j hj;generalize hg:max (fs.getD i 0) (fs.getD j 0)=g;generalize hk:min (fs.getD i 0) (fs.getD j 0)=k
 have gk:0<=k/\k<=g/\k.toNat<fs.length/\fs.getD k.toNat 0=k:=by
  rw[<-hg,<-hk];rcases Int.le_total (fs.getD i 0) (fs.getD j 0) with c|c
  ·rw[q7H c,q7f c];exact⟨a1.1,c,by omega,o1⟩
  ·rw[q7g c,q7I c];exact⟨a2.1,c,by omega,o2⟩
 have at_:∀h,h<fs.length->(gq fs i j).getD h 0=if fs.getD h 0=g then k else fs.getD h 0:=fun h hl=>by rw[VV hl,hg,hk]
 refine⟨fun h hl=>?_,fun h hl=>?_⟩
 ·rw[wy] at hl
  have:=G.le h hl;rw[at_ h hl];split<;>omega
 ·rw[wy] at hl
  have b:=G.le h hl;have c:=G.own h hl;rw[at_ h hl]
  by_cases d:fs.getD h 0=g
  ·rw[q0f d,at_ _ gk.2.2.1,gk.2.2.2]
   split<;>rfl
  ·rw[q0a d,at_ _ (by omega),c,q0a d]
theorem KP{m:Int}{ws:List Wy}(W:aG m ws){n:Int}(h0:0<=n)(h1:n<(ws.length:Int)):∃i k:Nat,df ws n=(i,k)/\(bF ws n).1=i/\(bF ws n).2.1=k/\i<m.toNat/\k<m.toNat:=by
 obtain⟨y,ey,hy,_,i,k,e1,e2,h1,h2,_⟩:=tU W h0 h1;refine⟨i,k,?_,by unfold bF;rw[ey];exact e1,by unfold bF;rw[ey];exact e2,h1,h2⟩;unfold df;rw[ey,e1,e2,q0u,q0u]
theorem KQ{m:Int}{ws:List Wy}(W:aG m ws):∀(ns fs:List Int),Nums ws ns->fs.length=m.toNat->Good fs->Good (fP ws fs ns)
 |[],_,_,_,G=>G
 |n::ns,fs,hn,hl,G=>by
  have b:=hn n (PE ..);obtain⟨i,k,e,_,_,h1,h2⟩:=KP W b.1 b.2;refine KQ W ns _ (fun x hx=>hn x (q0c _ hx)) (by rw[wy];exact hl) ?_;show Good (gq fs (df ws n).1 (df ws n).2);rw[e];exact G.join (by omega) (by omega)
theorem KR{m:Int}{ws:List Wy}(W:aG m ws):∀(ns fs:List Int)(S:Wy->Prop),Nums ws ns->bu m.toNat fs S->bu m.toNat (fP ws fs ns) (fun v=>S v\/∃k∈ns,v=bF ws k)
 |[],fs,S,_,h=>by
  have:(fun v=>S v\/∃k∈([]:List Int),v=bF ws k)=S:=funext fun v=>propext (by simp);rw[this];exact h
 |n::ns,fs,S,hn,h=>by
  have b:=hn n (PE ..);obtain⟨i,k,e,e1,e2,h1,h2⟩:=KP W b.1 b.2
  have step:bu m.toNat (gq fs i k) (fun v=>S v\/v=bF ws n):=by
   refine bu.join (w:=bF ws n) (p:=max (fs.getD i 0) (fs.getD k 0)) (q:=min (fs.getD i 0) (fs.getD k 0)) h h1 h2 e1 e2 (fun v=>Iff.rfl) ?_;omega
  have:=KR W ns _ _ (fun x hx=>hn x (q0c _ hx)) step
  have eq:(fun v=>(S v\/v=bF ws n)\/∃k∈ns,v=bF ws k)=(fun v=>S v\/∃k∈n::ns,v=bF ws k):=funext fun v=>propext (by
   constructor
   ·rintro((h|h)|⟨k,hk,h⟩)
    ·exact .inl h
    ·exact .inr ⟨n,PE,h⟩
    ·exact .inr ⟨k,q0c _ hk,h⟩
   ·rintro(h|⟨k,hk,h⟩)
    ·exact .inl (.inl h)
    ·rcases PD.mp hk with rfl|hk
     ·exact .inl (.inr h)
     ·exact .inr ⟨k,hk,h⟩)
  rw[eq] at this;show bu _ (fP ws (gq fs (df ws n).1 (df ws n).2) ns) _;rw[e];exact this
def yV(ws:List Wy)(ns:List Int):Wy->Prop:=fun v=>∃k∈ns,v=bF ws k
theorem VX{m:Int}{ws:List Wy}(W:aG m ws){ns:List Int}(hn:Nums ws ns):bu m.toNat (eG m ws ns) (yV ws ns):=by
 have:=KR W ns _ _ hn (bu.start m.toNat);have eq:(fun v=>False\/∃k∈ns,v=bF ws k)=yV ws ns:=funext fun v=>propext (by unfold yV;simp);rw[eq] at this;exact this
theorem KU{m:Int}{ws:List Wy}(W:aG m ws){ns:List Int}(hn:Nums ws ns):Good (eG m ws ns):=KQ W ns _ hn (sk _) (VW _)
noncomputable def bD(fs:List Int)(i:Nat)(x:Int):List Int:=((q0A i).filter fun h=>decide (fs.getD h 0=x)).map fun h:Nat=>(h:Int)
noncomputable def roots(fs:List Int)(i:Nat):List Nat:=(q0A i).filter fun h=>decide (fs.getD h 0=(h:Int))
theorem Ef{fs:List Int}(G:Good fs):∀i,i<=fs.length->cM fs i=(roots fs i).map fun r:Nat=>((r:Int),bD fs i (r:Int))
 |0,_=>rfl
 |i+1,hi=>by
  have ih:=Ef G i (by omega);have le:=G.le i (by omega);have own:=G.own i (by omega);show nv (cM fs i) (fs.getD i 0) i=_;rw[ih];have keys:((roots fs i).map fun r:Nat=>((r:Int),bD fs i (r:Int))).map (·.1)=(roots fs i).map fun r:Nat=>(r:Int):=by rw[q0o];rfl
  have l8:∀x,bD fs (i+1) x=if fs.getD i 0=x then bD fs i x++[(i:Int)] else bD fs i x:=fun x=>by
   unfold bD;rw[q3m,q2s]
   by_cases c:fs.getD i 0=x
   ·rw[q0f c,q0w,q42 (by simpa using c)];rfl
   ·rw[q0a c,q43 (by simpa using c),q7J,q1S]
  have l9:∀r,r∈roots fs i↔r<i/\fs.getD r 0=(r:Int):=fun r=>by
   unfold roots;rw[q0S,q0B,q0I]
  unfold nv;rw[keys]
  by_cases c:fs.getD i 0=(i:Int)
  ·have no:fs.getD i 0∉(roots fs i).map fun r:Nat=>(r:Int):=fun z=>by
    obtain⟨r,hr,e⟩:=q0d.mp z;have:=((l9 r).mp hr).1;omega
   rw[q0a no]
   have er:roots fs (i+1)=roots fs i++[i]:=by
    unfold roots;rw[q3m,q2s,q42 (by simpa using c)];rfl
   rw[er,q0w];congr 1
   ·refine q0R fun r hr=>?_
    have:=((l9 r).mp hr).1;rw[l8,q0a (by omega)]
   ·show[(fs.getD i 0,[(i:Int)])]=[((i:Int),bD fs (i+1) i)]
    rw[l8,q0f c,c]
    have:bD fs i (i:Int)=[]:=by
     unfold bD;rw[List.filter_eq_nil_iff.mpr fun h hh=>?_]
     ·rfl
     ·have h1:=q0B.mp hh
      have:=G.le h (by omega);rw[q0I];omega
    rw[this];rfl
  ·obtain⟨x,ex⟩:∃x:Nat,fs.getD i 0=x:=⟨(fs.getD i 0).toNat,by omega⟩
   rw[ex] at own le c ⊢;rw[q0u] at own;have hx:x∈roots fs i:=(l9 x).mpr ⟨by omega,own⟩;rw[q0f (q0d.mpr ⟨x,hx,rfl⟩)]
   have er:roots fs (i+1)=roots fs i:=by
    unfold roots;rw[q3m,q2s,q43 (by rw[ex];simpa using c),q7J,q1S]
   rw[er,q0o];refine q0R fun r hr=>?_;show(if(r:Int)=(x:Int) then((r:Int),bD fs i r++[(i:Int)]) else((r:Int),bD fs i r))=((r:Int),bD fs (i+1) r);rw[l8,ex]
   by_cases d:(r:Int)=(x:Int)
   ·rw[q0f d,q0f d.symm]
   ·rw[q0a d,q0a (q1A d)]
theorem yW:∀{a b:List Int},a.Pairwise (· < ·)->b.Pairwise (· < ·)->(∀x,x∈a↔x∈b)->a=b
 |[],[],_,_,_=>rfl
 |[],y::_,_,_,h=>absurd ((h y).mpr (PE ..)) (by simp)
 |x::_,[],_,_,h=>absurd ((h x).mp (PE ..)) (by simp)
 |x::a,y::b,ha,hb,h=>by
  obtain⟨h1,h2⟩:=q1p.mp ha;obtain⟨h3,h4⟩:=q1p.mp hb
  have VY:x=y:=by
   rcases PD.mp ((h x).mp (PE ..)) with e|e
   ·exact e
   ·rcases PD.mp ((h y).mpr (PE ..)) with e'|e'
    ·exact e'.symm
    ·have:=h3 x e
     have:=h1 y e';omega
  subst VY;rw[yW h2 h4 fun z=>?_]
  constructor
  ·intro hz
   rcases PD.mp ((h z).mp (q0c _ hz)) with e|e
   ·have:=h1 z hz;omega
   ·exact e
  ·intro hz
   rcases PD.mp ((h z).mpr (q0c _ hz)) with e|e
   ·have:=h3 z hz;omega
   ·exact e
theorem VZ{fs:List Int}(G:Good fs){S:List Int}(up:S.Pairwise (· < ·))(mem:∀x,x∈S↔x∈fs):S=(roots fs fs.length).map fun r:Nat=>(r:Int):=by
 refine yW up ?_ fun x=>?_
 ·refine q1l.mpr ?_
  unfold roots;exact((q1J (n:=fs.length)).filter _).imp fun h=>by omega
 ·rw[mem]
  constructor
  ·intro h
   obtain⟨i,hi,e⟩:=q1a.mp h;have e':fs.getD i 0=x:=by rw[getD_at hi,e]
   have le:=G.le i hi;have own:=G.own i hi;rw[e'] at le own;refine q0d.mpr ⟨x.toNat,?_,by omega⟩;unfold roots;rw[q0S,q0B,q0I,own];omega
  ·intro h
   obtain⟨r,hr,rfl⟩:=q0d.mp h;unfold roots at hr;rw[q0S,q0B,q0I] at hr;rw[<-hr.2,getD_at hr.1];exact q1K hr.1
theorem V0{fs:List Int}(G:Good fs){S:List Int}(up:S.Pairwise (· < ·))(mem:∀x,x∈S↔x∈fs):(cM fs fs.length).map (·.2)=S.map fun x=>bD fs fs.length x:=by
 rw[Ef G fs.length (Bi _),VZ G up mem,q0o,q0o];rfl
open Classical in
noncomputable def cls (n:Nat) (S:Wy->Prop) (h:Int):List Int:=(bg n).filter fun x=>decide (bc S h x)
theorem eI{n:Nat}{x:Int}:x∈bg n↔0<=x/\x<n:=by
 unfold bg
 constructor
 ·intro h
  obtain⟨k,hk,rfl⟩:=q0d.mp h;have:=q0B.mp hk;omega
 ·intro h
  exact q0d.mpr ⟨x.toNat,q0B.mpr (by omega),by omega⟩
theorem KW(n:Nat):(bg n).Pairwise (· < ·):=by
 unfold bg;exact q1l.mpr ((q1J (n:=n)).imp fun h=>by omega)
open Classical in
theorem cm {n:Nat} {S:Wy->Prop} {h x:Int}:x∈cls n S h↔(0<=x/\x<n)/\bc S h x:=by
 unfold cls;rw[q0S,eI,q0I]
open Classical in
theorem yX (n:Nat) (S:Wy->Prop) (h:Int):(cls n S h).Pairwise (· < ·):=(KW n).filter _
structure wH(n:Nat)(S:Wy->Prop)(L:List (List Int)):Prop where
 nd:L.Nodup
 mem:∀l,l∈L↔∃h:Int,(0<=h/\h<n)/\l=cls n S h
theorem KY{n:Nat}{S:Wy->Prop}{a b:Int}(h:bc S a b):cls n S a=cls n S b :=
 yW (yX _ _ _) (yX _ _ _) fun x=>by
  rw[cm,cm];exact⟨fun⟨h1,h2⟩=>⟨h1,h.symm.trans h2⟩,fun⟨h1,h2⟩=>⟨h1,h.trans h2⟩⟩
theorem KZ{n:Nat}{S:Wy->Prop}{a:Int}(h:0<=a/\a<n):a∈cls n S a:=cm.mpr ⟨h,.rf⟩
theorem V6{x y:Int}{xs ys:List Int}(h:x<y):kle (x::xs) (y::ys):=by
 unfold kle;rw[HT.mK,q0a (by omega)];exact q0r (by omega)
theorem K4{n:Nat}{fs:List Int}{S:Wy->Prop}(M:bu n fs S){r:Nat}(hr:r<n)(e:fs.getD r 0=r):bD fs n r=cls n S r:=by
 refine yW ?_ (yX _ _ _) fun x=>?_
 ·unfold bD
  exact q1l.mpr (((q1J (n:=n)).filter _).imp fun h=>by omega)
 ·rw[cm]
  unfold bD
  constructor
  ·intro h
   obtain⟨k,hk,rfl⟩:=q0d.mp h;rw[q0S,q0B,q0I] at hk;exact⟨by omega,(M.2 r k hr hk.1).mp (by rw[e,hk.2])⟩
  ·rintro⟨⟨h0,h1⟩,hc⟩
   obtain⟨k,rfl⟩:∃k:Nat,x=k:=⟨x.toNat,by omega⟩;refine q0d.mpr ⟨k,?_,rfl⟩;rw[q0S,q0B,q0I];have:=(M.2 r k hr (by omega)).mpr hc;exact⟨by omega,by rw[<-this,e]⟩
noncomputable def so(fs:List Int)(n:Nat):List (List Int):=(roots fs n).map fun r:Nat=>bD fs n (r:Int)
theorem V7{fs:List Int}(G:Good fs):(cM fs fs.length).map (·.2)=so fs fs.length:=by
 rw[Ef G fs.length (Bi _),q0o];rfl
theorem yY{n:Nat}{fs:List Int}(G:Good fs)(hl:fs.length=n){r:Nat}(hr:r<n)(e:fs.getD r 0=r):∃t,bD fs n r=(r:Int)::t:=by
 have mem:(r:Int)∈bD fs n r:=by
  unfold bD;refine q0d.mpr ⟨r,?_,rfl⟩;rw[q0S,q0B,q0I];exact⟨hr,e⟩
 have up:(bD fs n r).Pairwise (· < ·):=by
  unfold bD;exact q1l.mpr (((q1J (n:=n)).filter _).imp fun h=>by omega)
 cases q:bD fs n r with
 |nil=>rw[q] at mem;simp at mem
 |cons x t =>
  refine⟨t,?_⟩;have hx:x∈bD fs n r:=by rw[q];exact PE
  unfold bD at hx;obtain⟨k,hk,rfl⟩:=q0d.mp hx;rw[q0S,q0B,q0I] at hk;have l:=G.le k (by omega);rw[hk.2] at l;rw[q] at mem up;rcases PD.mp mem with z|z
  ·rw[z]
  ·have:=(q1p.mp up).1 _ z
   omega
theorem V8{fs:List Int}(G:Good fs):(so fs fs.length).Pairwise kle:=by
 unfold so;refine q1l.mpr ?_
 have:(roots fs fs.length).Pairwise fun a b=>a<b/\(a<fs.length/\fs.getD a 0=a)/\b<fs.length/\fs.getD b 0=b:=by
  have h1:(roots fs fs.length).Pairwise (· < ·):=(q1J (n:=fs.length)).filter _
  have hm:∀a∈roots fs fs.length,a<fs.length/\fs.getD a 0=a:=fun a ha=>by
   unfold roots at ha;rw[q0S,q0B,q0I] at ha;exact ha
  exact h1.imp_of_mem fun ha hb h=>⟨h,hm _ ha,hm _ hb⟩
 refine this.imp fun{a b} h=>?_;obtain⟨t,e⟩:=yY G rfl h.2.1.1 h.2.1.2;obtain⟨u,e'⟩:=yY G rfl h.2.2.1 h.2.2.2;rw[e,e'];exact V6 (by omega)
theorem V9{n:Nat}{fs:List Int}{S:Wy->Prop}(G:Good fs)(M:bu n fs S):wH n S (so fs n):=by
 have hl:=M.1
 have hm:∀a∈roots fs n,a<n/\fs.getD a 0=a:=fun a ha=>by
  unfold roots at ha;rw[q0S,q0B,q0I] at ha;exact ha
 refine⟨?_,fun l=>?_⟩
 ·unfold so
  refine q1l.mpr ?_;have h1:(roots fs n).Pairwise (· < ·):=(q1J (n:=n)).filter _;refine h1.imp_of_mem fun{a b} ha hb h z=>?_;obtain⟨t,e⟩:=yY G hl (hm a ha).1 (hm a ha).2;obtain⟨u,e'⟩:=yY G hl (hm b hb).1 (hm b hb).2;rw[e,e'] at z;have:=(q6f z).1;omega
 ·unfold so
  constructor
  ·intro h
   obtain⟨r,hr,rfl⟩:=q0d.mp h;obtain⟨h1,h2⟩:=hm r hr;exact⟨r,by omega,K4 M h1 h2⟩
  ·rintro⟨h,hh,rfl⟩
   obtain⟨k,rfl⟩:∃k:Nat,h=k:=⟨h.toNat,by omega⟩;have le:=G.le k (by omega);have own:=G.own k (by omega);obtain⟨r,er⟩:∃r:Nat,fs.getD k 0=r:=⟨(fs.getD k 0).toNat,by omega⟩;rw[er] at le own;rw[q0u] at own;refine q0d.mpr ⟨r,?_,?_⟩
   ·unfold roots
    rw[q0S,q0B,q0I];exact⟨by omega,own⟩
   ·rw[K4 M (by omega) own]
    exact KY ((M.2 r k (by omega) (by omega)).mp (by rw[own,er]))
noncomputable def eJ(m:Int)(ws:List Wy)(ns:List Int):List (List Int):=(cM (eG m ws ns) m.toNat).map (·.2)
theorem V_{m:Int}{ws:List Wy}(W:aG m ws){ns:List Int}(hn:Nums ws ns):wH m.toNat (yV ws ns) (eJ m ws ns)/\(eJ m ws ns).Pairwise kle:=by
 have M:=VX W hn;have G:=KU W hn
 have e:eJ m ws ns=so (eG m ws ns) m.toNat:=by
  unfold eJ;have:=V7 G;rw[M.1] at this;exact this
 rw[e];refine⟨V9 G M,?_⟩;have:=V8 G;rw[M.1] at this;exact this
theorem Wa{n:Nat}{S:Wy->Prop}{L:List (List Int)}(h:wH n S L){l l':List Int}{x:Int}(hl:l∈L)(gU:l'∈L)(hx:x∈l)(gQ:x∈l'):l=l':=by
 obtain⟨a,_,rfl⟩:=(h.mem l).mp hl;obtain⟨b,_,rfl⟩:=(h.mem l').mp gU;exact KY ((cm.mp hx).2.trans (cm.mp gQ).2.symm)
theorem K5{n:Nat}{S:Wy->Prop}:∀{L L0:List (List Int)},wH n S L0->(∀l∈L,l∈L0)->L.Nodup->L.flatten.Nodup
 |[],_,_,_,_=>q2H
 |l::L,L0,h,hs,nd=>by
  rw[q2a,q1b];rw[q2w] at nd;refine⟨?_,K5 h (fun x hx=>hs x (q0c _ hx)) nd.2,fun x hx y hy e=>?_⟩
  ·obtain⟨a,_,rfl⟩:=(h.mem l).mp (hs l PE)
   exact(yX _ _ _).imp fun h=>by omega
  ·subst e
   obtain⟨l',h1,h2⟩:=q7i.mp hy;exact nd.1 (by rw[Wa h (hs l PE) (hs l' (q0c _ h1)) hx h2];exact h1)
theorem Wb{l:List Int}(h:l.Pairwise (· < ·)):l.Nodup:=h.imp fun h=>by omega
theorem Wc{xs ys:List Int}(nd:xs.Nodup)(up:ys.Pairwise (· < ·))(h:∀x,x∈xs↔x∈ys):sortI xs=ys :=
 (yb ((List.perm_ext_iff_of_nodup (Wb up) nd).mpr fun x=>(h x).symm) (up.imp fun h=>by omega)).symm
theorem Wd{n:Nat}{S:Wy->Prop}{L:List (List Int)}(h:wH n S L):sortI L.flatten=bg n:=by
 refine Wc (K5 h (fun _ hx=>hx) h.nd) (KW n) fun x=>?_;rw[q7i,eI]
 constructor
 ·rintro⟨l,hl,hx⟩
  obtain⟨a,_,rfl⟩:=(h.mem l).mp hl;exact(cm.mp hx).1
 ·intro hx
  exact⟨_,(h.mem _).mpr ⟨x,hx,rfl⟩,KZ hx⟩
theorem tX:∀us:List Int,aQ (us.map D.int)=0
 |[]=>by simp[aQ]
 |u::r=>by rw[q0p];simp only[aQ,dep];rw[tX r];rfl
theorem wI(l:List Int)(x:Int):((l.map D.int).any fun e=>ax e (.int x))=decide (x∈l):=by
 rw[List.any_map]
 cases q:decide (x∈l) with
 |true=>exact q7h.mpr ⟨x,q05 q,fM _⟩
 |false =>
  refine q2l.mpr fun y hy=>?_;show ¬ ax (.int y) (.int x)=true;rw[VU];intro z;have:=q05 z;subst this;exact q4g q hy
noncomputable def intOf:D->Int
 |.int k=>k
 |_=>0
noncomputable def ny(n:Nat):List Int->Nat->List D->Option Int
 |_,_,[]=>none
 |seen,i,d::r=>if lV d 0 ((n:Int)-1)=false\/intOf d∈seen then some i else ny n (seen++[intOf d]) (i+1) r
noncomputable def gY(n:Nat):D->Option Int
 |.lst ds=>ny n [] 0 ds
 |_=>some 0
theorem within_int{n:Nat}{d:D}(h:lV d 0 ((n:Int)-1)=true):d=.int (intOf d)/\0<=intOf d/\intOf d<n:=by
 cases d with
 |int i =>
  have h:(decide (0<=i)&&decide (i<=(n:Int)-1))=true:=h;rw[q0y,decide_eq_true_iff,decide_eq_true_iff] at h;exact⟨rfl,h.1,show i<n by omega⟩
 |_=>cases h
theorem K6{n:Nat}:∀{ds:List D}{seen:List Int}{i:Nat},ny n seen i ds=none->seen.Nodup->∃us:List Int,ds=us.map D.int/\(seen++us).Nodup/\∀x∈us,0<=x/\x<(n:Int)
 |[],seen,i,_,nd=>⟨[],rfl,by rw[q1S];exact nd,fun x h=>nomatch h⟩
 |d::r,seen,i,h,nd=>by
  unfold ny at h;split at h
  ·cases h
  ·rename_i c
   have c1:lV d 0 ((n:Int)-1)=true:=by
    cases q:lV d 0 ((n:Int)-1) with
    |true=>rfl
    |false=>exact absurd (.inl q) c
   obtain⟨e,h0,h1⟩:=within_int c1;obtain⟨us,e2,n2,u2⟩:=K6 h (q1b.mpr ⟨nd,by simp,fun a ha b hb z=>c (.inr (by rw[q0K] at hb;rw[<-hb,<-z];exact ha))⟩);refine⟨intOf d::us,by rw[q0p,<-e,e2],by rw[q18] at n2;exact n2,fun x hx=>?_⟩;rcases PD.mp hx with rfl|hx
   ·exact⟨h0,h1⟩
   ·exact u2 x hx
theorem K7{n:Nat}:∀{us seen:List Int}{i:Nat},(∀x∈us,0<=x/\x<(n:Int))->(seen++us).Nodup->ny n seen i (us.map D.int)=none
 |[],_,_,_,_=>rfl
 |x::r,seen,i,hu,nd=>by
  obtain⟨h0,h1⟩:=hu x PE;rw[q0p];unfold ny;have nx:x∉seen:=fun h=>(q1b.mp nd).2.2 x h x PE rfl
  have wi:lV (.int x) 0 ((n:Int)-1)=true:=by
   show(decide (0<=x)&&decide (x<=(n:Int)-1))=true;rw[q0x h0,q0x (show x<=(n:Int)-1 by omega)];rfl
  rw[q0a (fun z=>z.elim (fun z=>by rw[wi] at z;cases z) nx)];exact K7 (fun y hy=>hu y (q0c _ hy)) (by rw[q18];exact nd)
theorem Eg{n:Nat}{d:D}(h:gY n d=none):∃us:List Int,d=aX us/\us.Nodup/\∀x∈us,0<=x/\x<(n:Int):=by
 cases d with
 |lst ds =>
  obtain⟨us,rfl,nd,hu⟩:=K6 (seen:=[]) h q2H;exact⟨us,rfl,nd,hu⟩
 |_=>cases h
def yZ(ok:gW):GD:=fun ys ovs K=>∃(m:Int)(ws:List Wy)(d:D),aG m ws/\ys=[.p (ay m ws),.p d]/\ovs=[]/\(∀ds,d=.lst ds->ds.length<=900)/\(∀p,gY ws.length d=some p->ok 0 p)/\(gY ws.length d=none->K (.p .non) [])
theorem We:∀ok ys ovs K,yZ ok ys ovs K->ovs=[]:=fun ok ys ovs K ⟨_,_,_,_,_,h,_⟩=>h
def Eh(ok:gW):WS:=(ak (lB (aj 1 yO (ag (aa 0) af))) (ak (bf (bS (dT (d1 (aa 1) (bB "list")))) (tP ok 0 (ag (dC (.int 0)) af)) cG) (ak (aE 2 (d2 (dN (ag (d2 (aa 0) (dC (.int 1)) aV) af) bC) (dC (.int 1)) (oI fun i j=>.int (i-j)))) (ak (aE 3 wA) (cY (iW (ag (aa 1) af)) (iF 2 (dR (bj 4) (dR (bj 5) ij))) (ak (bf (iE (bS (dT (aj 3 oO (ag (aa 5) (ag (dC (.int 0)) (ag (aa 2) af)))))) (dT (jV false (aa 5) (aa 3)))) (tP ok 0 (ag (aa 4) af)) cG) (wB (dC (.bl true)) (aa 3) (aa 5))))))))
theorem Wf(ok:gW):Sem 2 4 (yZ ok) (Eh ok):=by
 rintro ys ovs K'-⟨m,ws,d,W,rfl,rfl,dl,kb,kg⟩;unfold Eh;refine aO fun N hN=>?_;simp? only [];refine⟨m,ws,W,rfl,rfl,?_⟩;show N _;subst hN;refine aO fun N hN=>?_;refine oJ fun A1 B1 hA hB=>?_
 have no:(∀ds,d≠.lst ds)->A1 ⟨[some (.p (ay m ws)),some (.p d),none,none,none,none],[]⟩:=fun h=>by
  have:gY ws.length d=some 0:=by
   cases d with
   |lst ds=>exact absurd rfl (h ds)
   |_=>rfl
  subst hA;simp? only [tP];exact⟨0,rfl,kb 0 this⟩
 cases d with
 |lst ds =>
  simp? only [bG,aJ,q4c];subst hB;show N _;subst hN;have dl:=dl ds rfl;refine aO fun N hN=>?_;simp? only [eT,ay];subst hN;refine aO fun N hN=>?_;simp? only [wA];subst hN;have el:(jr 0 ds).length=ds.length:=by rw[rH]
  refine oK fun g' b' K2 hg hb' hK=>?_;simp? only [];subst hg hb' hK;refine kq (fun i δ=>∃(kvs:List (Key×D))(ns:List Int),kvs.length<=i/\(∀n:Int,(bT kvs (.inl n)).isSome=decide (n∈ns))/\gY ws.length (.lst ds)=ny ws.length ns i (ds.drop i)/\δ=⟨[some (.p (.tup [.int m,.tup (ws.map bt)])),some (.p (.lst ds)),some (.p (.int (ws.length-1))),some (.o 0),none,none],[some (.dct kvs)]⟩) ⟨[],[],Bi _,fun n=>by simp[bT],rfl,rfl⟩ ?_ ?_
  ·rintro i d δ L hi ⟨kvs,ns,kl,kv,eb,rfl⟩ hL
   obtain⟨e,h1,h2⟩:=rJ hi;rw[q00] at h2;subst h2;obtain⟨il,ei⟩:=sR.mp h1;rw[q07 il,ei] at eb;unfold ny at eb;refine⟨trivial,?_⟩;simp only[iF,dR,ij,bj,gz,gB,Hc,q09,q0p,q1_,q0Y,q0Z,q00,q6e,and_self,true_and,q2n,q10];refine aO fun N2 eU=>?_;refine oJ fun A1 B1 hA hB=>?_
   have bad:gY ws.length (.lst ds)=some (i:Int)->A1 ⟨[some (.p (.tup [.int m,.tup (ws.map bt)])),some (.p (.lst ds)),some (.p (.int (ws.length-1))),some (.o 0),some (.p (.int (i:Nat))),some (.p e)],[some (.dct kvs)]⟩:=fun h=>by
    subst hA;simp? only [tP];exact⟨i,rfl,kb i h⟩
   simp? only [];refine⟨e,0,ws.length-1,rfl,rfl,?_⟩
   cases q:lV e 0 ((ws.length:Int)-1) with
   |false =>
    rw[q0f (.inl q)] at eb;simp? only [];exact bad eb
   |true =>
    obtain⟨ee,e0,e1⟩:=within_int q;rw[ee] at bad ⊢;generalize intOf e=x at ee e0 e1 eb bad;simp? only [jV,iz,iy];rw[kv x]
    by_cases c:x∈ns
    ·rw[q0f (.inr c)] at eb
     rw[q0x c,q0f (by decide)];exact bad eb
    ·rw[q0a (fun z=>z.elim (fun z=>by rw[q] at z;cases z) c)] at eb
     rw[q0r c,q0a (by decide)];subst hB;show N2 _;subst eU
     have vn:bT kvs (.inl x)=none:=by
      cases y:bT kvs (.inl x) with
      |none=>rfl
      |some d=>have:=kv x;rw[y,q0r c] at this;cases this
     simp? only [wB,iz,iy];refine⟨by rw[el] at *;omega,?_⟩;refine hL _ ⟨putD kvs (.inl x) (.bl true),ns++[x],q02 KC (by omega),fun n=>?_,eb,rfl⟩;rw[Kz vn]
     by_cases y:n=x
     ·subst y;rw[q0f rfl,q0x (q0n _ (.head _))];rfl
     ·rw[q0a (fun z=>y (by cases z;rfl)),kv n]
      by_cases w:n∈ns
      ·rw[q0x w,q0x (q1C _ w)]
      ·rw[q0r w,q0r fun z=>(q04.mp z).elim w fun z=>y (q0K.mp z)]
  ·rintro δ ⟨kvs,ns,kl,kv,eb,rfl⟩
   rw[el,q7j] at eb;exact⟨trivial,bN (kg eb)⟩
 |_=>simp? only [bG,aJ];exact no fun ds z=>nomatch z
def Ei:GD:=fun ys ovs K=>∃m ws,aG m ws/\ys=[.p (ay m ws)]/\ovs=[]/\K (.p (.bl true)) []
def Ej:WS:=(ak (bf (iE (bS (dT (d1 (aa 0) (bB "tuple")))) (iE (dT (d2 (dN (ag (aa 0) af) bC) (dC (.int 2)) mU)) (bS (dT (aj 3 sf (ag (d2 (aa 0) (dC (.int 0)) aV) (ag (dC (.int 1)) (ag (dC (.int 12)) af)))))))) (aC (dC (.bl false))) cG) (ak (bf (iE (bS (dT (d1 (d2 (aa 0) (dC (.int 1)) aV) (bB "tuple")))) (dT (d2 (dN (ag (d2 (aa 0) (dC (.int 1)) aV) af) bC) (dC (.int 30)) (oI fun i j=>.bl (decide (j<i)))))) (aC (dC (.bl false))) cG) (ak (aE 1 (s_ af)) (ak (cY (bE (d2 (aa 0) (dC (.int 1)) aV)) (bj 2) (ak (bf (iE (bS (dT (d1 (aa 2) (bB "tuple")))) (iE (dT (d2 (dN (ag (aa 2) af) bC) (dC (.int 3)) mU)) (bS (dT (aj 3 sf (ag (d2 (aa 2) (dC (.int 2)) aV) (ag (dC (.int 0)) (ag (d2 (dC (.int 10)) (dC (.int 9)) (dF eN fun i j=>.int (i ^ j.toNat))) af)))))))) (aC (dC (.bl false))) cG) (ak (bf (iE (bS (dT (aj 3 sf (ag (d2 (aa 2) (dC (.int 0)) aV) (ag (dC (.int 0)) (ag (d2 (d2 (aa 0) (dC (.int 0)) aV) (dC (.int 1)) (oI fun i j=>.int (i-j))) af)))))) (bS (dT (aj 3 sf (ag (d2 (aa 2) (dC (.int 1)) aV) (ag (d2 (d2 (aa 2) (dC (.int 0)) aV) (dC (.int 1)) cJ) (ag (d2 (d2 (aa 0) (dC (.int 0)) aV) (dC (.int 1)) (oI fun i j=>.int (i-j))) af))))))) (aC (dC (.bl false))) cG) (ak (bf (dT (d2 (dy (aa 2) dw (iX (dC (.int 2)))) (aa 1) (kn false))) (aC (dC (.bl false))) cG) (lB (lG (aa 1) (ag (dy (aa 2) dw (iX (dC (.int 2)))) af))))))) (aC (dC (.bl true)))))))
theorem Wg:Sem 1 2 Ei Ej:=by
 rintro ys ovs K'-⟨m,ws,W,rfl,rfl,k⟩;have pb:=W.gN;unfold Ej;refine aO fun N hN=>?_;simp? only [ay,bG,show aJ "tuple" "tuple" = true from rfl,fO,eT,ax];simp only[show(((1+1:Nat):Int)==2)=true from rfl,q2Y,q0G,q1X];refine⟨.int m,1,12,rfl,rfl,?_⟩;rw[qg W.m1 W.h_];simp? only [];subst hN;refine aO fun N hN=>?_;simp? only [bG,show aJ "tuple" "tuple" = true from rfl,fO,eT,ax];rw[q0a (by rw[q0r (by omega)];decide)];subst hN;refine aO fun N hN=>?_;simp? only [];subst hN;refine aO fun N hN=>?_;simp? only [eT];refine kq (fun j δ=>δ=⟨[some (.p (.tup [.int m,.tup (ws.map bt)])),some (.o 0),none],[some (.lst (((ws.take j).map eV).map bM))]⟩) rfl ?_ ?_
 ·rintro j w δ L hj rfl hL
  have hL:=hL _ rfl;rw[q0b] at hj;obtain⟨y,hy,rfl⟩:=q0g.mp hj;obtain⟨jl,ej⟩:=sR.mp hy;have Y:=W.way (q0M hy);have:=Y.up;have:=Y.most;have:=Y.low
  have c:eV y∉(ws.take j).map eV:=fun h=>by
   have nd:(ws.map eV).Nodup:=W.unlike;rw[<-List.take_append_drop j ws,q0w,q07 jl,ej] at nd;exact(q1b.mp nd).2.2 _ h _ PE rfl
  refine⟨trivial,?_⟩;simp only[bj,q0Y,q0Z];refine aO fun N hN=>?_;simp? only [bt,bG,show aJ "tuple" "tuple" = true from rfl,fO,eT,at2,ax];simp only[show(((2+1:Nat):Int)==3)=true from rfl,q2Y,q0G,q1X];refine⟨⟨by decide,by decide,by decide⟩,_,0,_,rfl,rfl,?_⟩;rw[qg Y.pr.1 (show y.2.2<=10 ^ q7e 9 from Y.pr.2)];simp? only [];subst hN;refine aO fun N hN=>?_;simp? only [fO,eT];refine⟨_,0,m-1,rfl,rfl,?_⟩;rw[qg Y.low (by omega)];simp? only [fO,eT];refine⟨_,y.1+1,m-1,rfl,rfl,?_⟩;rw[qg (by omega) (by omega)];simp? only [];subst hN;have ec:cutD [D.int y.1,D.int y.2.1,D.int y.2.2] none (some 2)=[D.int y.1,D.int y.2.1]:=rfl
  refine aO fun N hN=>?_;simp? only [ec];refine⟨q02 (Kr _) (by decide),?_⟩;rw[show((((ws.take j).map eV).map bM).any fun e=>ax e (.tup [.int y.1,.int y.2.1]))=decide (eV y∈(ws.take j).map eV) from Ks _ (eV y),q0r c];simp? only [];subst hN;simp? only [ec];refine⟨by rw[q0L];omega,?_⟩;rw[q2j,hy,q0w,q0w] at hL;exact hL
 ·rintro δ rfl
  refine⟨trivial,?_⟩;subst hN;simp? only [];exact i9 k
theorem K8{m:Int}{ws:List Wy}(W:aG m ws){ns:List Int}(hn:Nums ws ns):(eJ m ws ns).length<=12/\(eJ m ws ns).flatten.length<=12:=by
 have h_:=W.h_;obtain⟨h,_⟩:=V_ W hn;have e:=Wd h
 have fl:(eJ m ws ns).flatten.length=m.toNat:=by
  have:=Jd (eJ m ws ns).flatten;rw[e,sk] at this;exact this.symm
 refine⟨?_,by omega⟩
 have key:∀L:List (List Int),(∀l∈L,l≠[])->L.length<=L.flatten.length:=by
  intro L
  induction L with
  |nil=>intro _;simp
  |cons l r ih =>
   intro h;have h1:=ih fun x hx=>h x (q0c _ hx);have h2:l≠[]:=h l PE;have h3:0<l.length:=q58.mpr h2;rw[q2a,Hd,Hc];omega
 have:=key (eJ m ws ns) fun l hl=>by
  obtain⟨a,ha,rfl⟩:=(h.mem l).mp hl;exact List.ne_nil_of_mem (KZ ha)
 omega
end LJ
namespace HT
open PySem PySem.Spec PyProof.Rows
theorem Wh(A:Around)(s:Shared)(a:Int)(t:Tok)(c:Int)(u:Tok)(prog:Program)(w:World)(E:aH)(Q:aH)(h:Q (.bool (decide (c<a))) s):
  wpAny (model prog w) A (richCompare .Gt (.int a t) (.int c u)) Q E s :=
 (PyProof.Rows.gt_int h:wpAny (model prog w) A (compareOp .Gt (.int a t) (.int c u)) Q E s)
section
open PySem.SeqAt
open PySem.AutoSeq1 (wpAny_loadPart')
open PySem.MeetsSeq PySem.MeetsSeq2 PySem.MeetsSeq3
theorem Wi(l b:Addr)(items aP:Array Value)(n n2:Nat)(dd j9:Option Addr)(sl j_:Array (Option Value))(ns ms:List Int)(hi:IntsAre items.toList ns)(hj:IntsAre aP.toList ms):
  Meets (Builtin.«tuple.__gt__» ⟨[.ref l,.ref b],[]⟩)
   (fun _ R s=>s.heap.get? l=some {cls:=.type "tuple",dict:=dd,data:=.seq items n,slots:=sl}/\s.heap.get? b=some {cls:=.type "tuple",dict:=j9,data:=.seq aP n2,slots:=j_} ∧
    R (.ok (.ret (.bool (lexLt ms ns)))) s) :=
 .of_wp fun prog w A R s h=>by
  obtain⟨hp,g,d,tk,os⟩:=s;obtain⟨hl,hb,h⟩:=h;have f2:=q4J;have z1:items.size=ns.length:=by rw[<-hi.length];simp
  have z2:aP.size=ms.length:=by rw[<-hj.length];simp
  wp_walk using q1v hl,q1v hb,q4U _ (fun rest b s'=>b.1=none/\s'=⟨hp,g,d,tk,os⟩/\∃(vs ws:List Value)(cE jF:List Int),rest=vs.zip ws ∧
   IntsAre vs cE/\IntsAre ws jF/\cE.length+aP.size=jF.length+items.size/\R (.ok (.ret (.bool (lexLt jF cE)))) ⟨hp,g,d,tk,os⟩) _
  case turn =>
   rintro⟨y,x⟩ rest b s' ⟨hb',rfl,vs,ws,cE,jF,hz,qH,nX,hlen,hR⟩
   cases qH with
   |nil=>rw[q21] at hz;cases hz
   |cons a t qJ =>
    cases nX with
    |nil=>rw[q4o] at hz;cases hz
    |cons c u qK =>
     rw[q2g] at hz;injection hz with AN hrest;injection AN with hy hx;subst hy hx;rw[mK] at hR;simp only[Hc] at hlen;obtain⟨e,he,kR⟩:=GW A.in1 ⟨hp,g,d,tk,os⟩ a t c u;refine n_ (he prog w _ _ ?_)
     cases e with
     |true =>
      rw[q0f (kR.mp rfl).symm] at hR
      wp_walk
      exact⟨rfl,rfl,_,_,_,_,hrest,qJ,qK,by omega,hR⟩
     |false =>
      rw[q0a (fun q=>absurd (kR.mpr q.symm) PH)] at hR;have AO:=Wh A.in1 ⟨hp,g,d,tk,os⟩ a t c u prog w
      wp_walk using AO
      exact⟨_,rfl,by simpa using hR⟩
  case fin =>
   rintro⟨b1,b2⟩ s' ⟨hb',rfl,vs,ws,cE,jF,hz,qH,nX,hlen,hR⟩;simp only at hb';subst hb'
   have hv:lexLt jF cE=decide (aP.size<items.size):=by
    cases qH with
    |nil =>
     cases nX with
     |nil =>
      simp only[q09] at hlen;rw[GS];exact(q0r (by omega)).symm
     |cons c u hw =>
      simp only[q09,Hc] at hlen;rw[GV];exact(q0r (by omega)).symm
    |cons a t hv =>
     cases nX with
     |nil =>
      simp only[q09,Hc] at hlen;rw[GU];exact(q0x (by omega)).symm
     |cons c u hw =>
      rw[q2g] at hz;cases hz
   rw[hv] at hR
   wp_walk
   exact⟨_,rfl,by simpa[q3L] using hR⟩
  case h =>
   exact⟨rfl,rfl,items.toList,aP.toList,ns,ms,rfl,hi,hj,by omega,h⟩
end
section
variable{prog:Program}{w:World}{A:Around}{E:aH}{s:Shared}
theorem Wj{l b:Addr}{items aP:Array Value}{ns ms:List Int}{Q:aH}(hl:IsTup s.heap l items)(hb:IsTup s.heap b aP)(hi:IntsAre items.toList ns)(hj:IntsAre aP.toList ms)
  (hu:A.units<cLine) (h:Q (.bool (lexLt ms ns)) s):wpAny (model prog w) A (compareOp .Gt (.ref l) (.ref b)) Q E s:=by
 obtain⟨⟨cls,dd,data,sl⟩,ho,hc,n,hd⟩:=id hl;obtain⟨⟨qL,j9,data2,j_⟩,eZ,iS,n2,hd2⟩:=id hb;simp only at hc hd iS hd2;subst hc hd iS hd2
 exact q48 (op:=.Gt) ⟨_,ho,rfl⟩ ⟨_,eZ,rfl⟩ PySem.F.slot_tuple_gt PySem.F.entry_tuple_gt (PySem.F.args_tuple_gt_2 _ _) (Wi l b items aP n n2 dd j9 sl j_ ns ms hi hj)
  ⟨ho,eZ,show q2Q (lexLt ms ns)≠q5E/\Q (.bool (lexLt ms ns)) s from⟨(fun x=>nomatch x),h⟩⟩ hu
end
end HT
namespace L2
open PySem PySem.Spec PyProof.Rows PySem.W
noncomputable def i_:Bool->String
 |false=>"min"
 |true=>"max"
noncomputable def tY:Bool->String
 |false=>"min.loop"
 |true=>"max.loop"
noncomputable def K9:Bool->CmpOp
 |false=>.Lt
 |true=>.Gt
noncomputable def Wk:String->CmpOp->Builtin:=(fun(f:String->CmpOp->Builtin) (_:f "min" .Lt=Builtin.«min.loop»)=>f) _ rfl
noncomputable def Wl:String->Builtin:=(fun(f:String->Builtin) (_:f "min" = Builtin.«min»)=>f) _ rfl
theorem K_(mx:Bool):entryFor table (tY mx)=some (Wk (i_ mx) (K9 mx)):=by cases mx;exact PySem.F.entry_min_loop;exact PySem.F.entry_max_loop
theorem Wm(mx:Bool):entryFor table (i_ mx)=some (Wl (i_ mx)):=by cases mx;exact PySem.F.entry_min;exact PySem.F.entry_max
theorem Wn(mx:Bool):builtinKind (i_ mx)=none:=by cases mx;exact PySem.F.kind_min;exact PySem.F.kind_max
theorem Wo(mx:Bool):plainId (i_ mx)=true:=by cases mx;exact PySem.F.plain_min;exact PySem.F.plain_max
theorem tZ(mx:Bool):plainId (tY mx)=true:=by cases mx;exact PySem.F.plain_min_loop;exact PySem.F.plain_max_loop
def pf:Bool->LK->LK->Prop
 |false,a,b=>kle a b
 |true,a,b=>kle b a
noncomputable def Ek:Bool->LK->LK->Bool
 |false,a,b=>HT.lexLt a b
 |true,a,b=>HT.lexLt b a
theorem La(mx:Bool)(a:LK):pf mx a a:=by cases mx<;>exact kle_refl _
theorem Wq{mx:Bool}{a b c:LK}(h:Ek mx a b=true)(k:pf mx b c):pf mx a c:=by
 cases mx
 ·exact kle_trans (rX h) k
 ·exact kle_trans k (rX h)
theorem Wr{mx:Bool}{a b:LK}(h:¬ Ek mx a b=true):pf mx b a:=by cases mx<;>exact q6V.mpr h
theorem Ws{prog:Program}{w:World}{A:Around}{E:aH}{s:Shared}{mx:Bool}{l b:Addr}{items aP:Array Value}{ns ms:List Int}{Q:aH}(hl:IsTup s.heap l items)(hb:IsTup s.heap b aP)(hi:IntsAre items.toList ns)(hj:IntsAre aP.toList ms)
  (hu:A.units<cLine) (h:Q (.bool (Ek mx ns ms)) s):wpAny (model prog w) A (richCompare (K9 mx) (.ref l) (.ref b)) Q E s:=by
 cases mx
 ·exact HT.AQ hl hb hi hj hu h
 ·exact HT.Wj hl hb hi hj hu h
theorem Wt(mx:Bool)(a v d:Value):argsOk (i_ mx) ⟨[a],[(q0X "key",v),(q0X "default",d)]⟩:=by cases mx<;>(unfold argsOk;kernel_rfl)
section
variable{X:Cx}{pins:aq}{σ:St}{H:Hp}{s:Shared}{E:aH}{l q I S:Addr}{P:List V->Hp->Prop}{xs:List V}{d:Value}{R:Result->Shared->Prop}
def Wu(mx:Bool)(kf:Nat->LK)(xs kvs:List V)(nA:Array Value):Prop :=
 (kvs=[]/\nA = #[])\/∃(b:Nat)(x:V)(vb:Value)(t:Addr),b<kvs.length/\xs[b]?=some x/\RelV x vb/\kvs[b]?=some (.ref t)/\nA = #[vb,.ref t]/\∀j,j<kvs.length->pf mx (kf b) (kf j)
theorem Wv(mx:Bool)(kf:Nat->LK)(hh:X.A.handled=none)(hu:X.A.units+1<cLine)(wJ:l≠I)(wK:S≠I)(fI:∀H',H' I=none->br X pins H' I)(fS:∀H',H' S=none->br X pins H' S)
  (hl:∀kvs H',P kvs H'->H' l=some (.lst xs)) (hP:∀kvs H',P kvs H'->∀i,i<kvs.length->∃t,kvs[i]?=some (.ref t)/\H' t=some (.tup ((kf i).map V.int)))
  (su:∀(cq:aq)(x:V)(u:Value)(kvs:List V)(H':Hp)(s':Shared),xs[kvs.length]?=some x->RelV x u->Inv X cq σ H' s'->P kvs H'->wpAny (model X.prog X.w) X.A.in1 (call (.ref q) [u]) (EP X cq σ fun k kj=>P (kvs++[k]) kj) (fun _ _=>False) s')
  (fin:∀kvs H' s',kvs.length=xs.length->P kvs H'->Inv X pins σ H' s'->(xs=[]->R (.ok (.ret d)) s')/\∀(b:Nat)(x:V)(u:Value),xs[b]?=some x->RelV x u->(∀j,j<xs.length->pf mx (kf b) (kf j))->R (.ok (.ret u)) s') :
  ∀(r:Nat)(kvs:List V)(H':Hp)(s':Shared)(nA:Array Value)(c:Nat)(oI:Obj),kvs.length+r=xs.length->Inv X ((S,seqObj "list" nA c)::(I,oI)::pins) σ H' s'->P kvs H'->oI.cls=.type "list_iterator" -> oI.data=.fields #[.ref l,.int kvs.length 0]->Wu mx kf xs kvs nA →
   codeAny (model X.prog X.w) X.A (.builtin (tY mx) ⟨[.ref I,.ref q,.ref S],[(q0X "default",d)]⟩) R s':=by
 have iA:(toString (i_ mx)++toString ".loop" : String)=tY mx:=by cases mx<;>decide
 intro r
 induction r with
 |zero =>
  intro kvs H' s' nA c oI hr J pk sL El hb;have pS:=J.pin (S,seqObj "list" nA c) (q0n _ (.head _));have pI:=J.pin (I,oI) (q0n _ (.tail _ (.head _)));have Jn:=J.eB.eB;obtain⟨ah,rv,pl,_⟩:=Jn.list (aZ.of (hl kvs H' pk));have lv:ah.length=xs.length:=rv.length.symm;have Ww:kvs.length=ah.length:=by omega
  refine q1G (K_ mx) ?_;rw[q1m (tZ mx) _];show wpAny _ X.A.in1 (seqItems? (.ref S) >>= _) _ _ _;refine n_ (q1O pS.1 rfl ?_);show wpAny _ X.A.in1 (tryCatch (pyNext (.ref I)) _ >>= _) _ _ _;have W:=q4j (prog:=X.prog) (w:=X.w) (A:=X.A.in1) hh I l wJ ah.toArray;refine n_ (q4u (W.done _ _ _ ⟨⟨oI,pI.1,sL,by rw[El,Hb,<-Ww]⟩,q6g pl⟩ fun h' je gR=>?_));have J1:Inv X pins σ H' {s' with heap:=h',toks:=je}:=Jn.gj (fI H' pI.2.1) fun c o n e=>gR c o (by simpa using n) e;have sG:=gR S _ (by simpa using wK) pS.1;rcases hb with⟨wL,rfl⟩|⟨b,x,vb,t,hb,hx,rx,ht,rfl,best⟩
  ·refine n_ (q3S (uX ?_))
   refine(fin kvs H' _ (by omega) pk J1).1 ?_
   cases xs with
   |nil=>rfl
   |cons _ _=>rw[wL] at hr;simp at hr
  ·have s1:=q0T h' S (q1d fun _=>(#[]:Array Value))
   show wpAny _ X.A.in1 (updateSeq S (fun _ => #[]) >>= _) _ _ _;refine n_ (q3o sG rfl (n_ (q3x (uX ?_))));exact(fin kvs H' _ (by omega) pk (J1.gj (fS H' pS.2.1) fun c o n e=>(s1.2 c n).trans e)).2 b x vb hx rx fun j hj=>best j (by omega)
 |succ r ih =>
  intro kvs H' s' nA c oI hr J pk sL El hb;have pS:=J.pin (S,seqObj "list" nA c) (q0n _ (.head _));have pI:=J.pin (I,oI) (q0n _ (.tail _ (.head _)));have Jn:=J.eB.eB;obtain⟨ah,rv,pl,_⟩:=Jn.list (aZ.of (hl kvs H' pk));have lv:ah.length=xs.length:=rv.length.symm;have cB:kvs.length<ah.length:=by omega
  refine q1G (K_ mx) ?_;rw[q1m (tZ mx) _];show wpAny _ X.A.in1 (seqItems? (.ref S) >>= _) _ _ _;refine n_ (q1O pS.1 rfl ?_);show wpAny _ X.A.in1 (tryCatch (pyNext (.ref I)) _ >>= _) _ _ _;have W:=q4j (prog:=X.prog) (w:=X.w) (A:=X.A.in1) hh I l wJ ah.toArray;refine n_ (q4u (W.item kvs.length _ _ _ (by rw[Hb];exact cB) ⟨⟨oI,pI.1,sL,El⟩,q6g pl⟩ fun v h' je hv Em gR=>?_));have hv:ah[kvs.length]?=some v:=by simpa using hv
  obtain⟨sv,En,wM,wN⟩:=id Em.1;have hi:kvs.length<xs.length:=by omega
  obtain⟨u,e1,rx⟩:=rv.get (qV hi);rw[hv] at e1;cases e1
  have hx:=qV hi;generalize xs[kvs.length]=x at hx rx;have sG:=gR S _ (by simpa using wK) pS.1;have nI:∀z,sv.data≠.cell z:=fun z e=>by rw[wN] at e;cases e
  have J1:Inv X pins σ H' {s' with heap:=h',toks:=je}:=Jn.gj (fI H' pI.2.1) fun c o n e=>gR c o (by simpa using n) e;have J2:=(J1.jS (fI H' pI.2.1) En nI).jS ((fS H' pS.2.1).cons (p:=(I,sv)) wK.symm) sG CS;show wpAny _ X.A.in1 (tryCatch (holding [v] (call (.ref q) [v])) _ >>= _) _ _ _;refine n_ (q4u (q0D (q1E (su _ x v kvs H' _ hx rx J2 pk) (fun kv s2 he=>?_) fun _ _ hF=>hF.elim)));obtain⟨kx,H2,J3,rk,y0⟩:=he;obtain⟨t2,et,kE⟩:=hP _ H2 y0 kvs.length (by rw[Hd];exact q1h _)
  have ek:kx=.ref t2:=by
   rw[q0k (Bi _),q1r] at et;simpa using et
  subst ek;cases rk
  have qS:=J3.pin (S,seqObj "list" nA c) (q0n _ (.head _));have qI:=J3.pin (I,sv) (q0n _ (.tail _ (.head _)));have Jm:=J3.eB.eB;have Lb:(kvs++[V.ref t2]).length+r=xs.length:=by rw[Hd,q0O];omega
  have wO:sv.data=.fields #[.ref l,.int ((kvs++[V.ref t2]).length:Nat) 0]:=by rw[wN,Hd];rfl
  have put:∀(b:Nat),b<kvs.length+1->b=kvs.length->(∀j,j<kvs.length+1->pf mx (kf b) (kf j))->codeAny (model X.prog X.w) X.A (.builtin (tY mx) ⟨[.ref I,.ref q,.ref S],[(q0X "default",d)]⟩) R {s2 with heap:=s2.heap.update S (q1d fun _ => #[v,.ref t2])}:=fun b hb eb best=>by
   subst eb;have s1:=q0T s2.heap S (q1d fun _ => #[v,q0C t2]);obtain⟨c2,iS⟩:∃c2,(s2.heap.update S (q1d fun _ => #[v,q0C t2])).get? S=some (seqObj "list" #[v,.ref t2] c2):=⟨_,q5l qS.1 fun _ => #[v,q0C t2]⟩;have J4:Inv X pins σ H2 {s2 with heap:=s2.heap.update S (q1d fun _ => #[v,q0C t2])}:=Jm.gj (t':=s2.toks) (fS H2 qS.2.1) fun c o n e=>(s1.2 c n).trans e;have J5:=(J4.jS (fI H2 qI.2.1) ((s1.2 I wK.symm).trans qI.1) nI).jS ((fS H2 qS.2.1).cons (p:=(I,sv)) wK.symm) iS CS;refine ih _ H2 _ _ c2 sv Lb J5 y0 wM wO (.inr ⟨kvs.length,x,v,t2,by rw[Hd];exact q1h _,hx,rx,et,rfl,fun j hj=>best j (by rw[Hd] at hj;exact hj)⟩)
  rcases hb with⟨wL,rfl⟩|⟨b,y,vb,t,hb,hy,ry,ht,rfl,best⟩
  ·show wpAny _ X.A.in1 (updateSeq S (fun _ => #[v,.ref t2]) >>= _) _ _ _
   refine n_ (q3o qS.1 rfl ?_);rw[iA];refine uX ⟨q2h (tZ mx) _,put kvs.length (q1h _) rfl fun j hj=>?_⟩;rw[wL] at hj ⊢;have:j=0:=by simp at hj;omega
   subst this;exact La _ _
  ·obtain⟨t',Lc,Wx⟩:=hP _ H2 y0 b (by rw[Hd];omega)
   rw[q0j hb,ht] at Lc;cases Lc
   obtain⟨i1,r1,Wz,_⟩:=Jm.tuple (bw.of kE);obtain⟨i2,r2,WB,_⟩:=Jm.tuple (bw.of Wx);show wpAny _ X.A.in1 (tryCatch (holding [v,.ref t2] (richCompare _ (.ref t2) (.ref t) >>= _)) _ >>= _) _ _ _;refine n_ (q4u (q0D (n_ ?_)));refine Ws (A:=X.A.in1) (mx:=mx) (ns:=kf kvs.length) (ms:=kf b) Wz WB (by simpa using intsAre_of r1) (by simpa using intsAre_of r2) hu ?_;refine n_ (q0D (q19 ?_));refine n_ (q3x (uX ?_));split
   ·rename_i hq
    refine n_ (q3o qS.1 rfl (n_ (q3x ?_)));rw[iA];refine uX ⟨q2h (tZ mx) _,put kvs.length (q1h _) rfl fun j hj=>?_⟩
    by_cases e:j=kvs.length
    ·subst e;exact La _ _
    ·exact Wq hq (best j (by omega))
   ·rename_i hq
    refine n_ (q3x ?_);rw[iA];refine uX ⟨q2h (tZ mx) _,ih _ H2 _ _ c sv Lb J3 y0 wM wO (.inr ⟨b,y,vb,t,by rw[Hd];omega,hy,ry,by rw[q0j hb];exact ht,rfl,fun j hj=>?_⟩)⟩
    by_cases e:j=kvs.length
    ·subst e;exact Wr hq
    ·exact best j (by rw[Hd,q0O] at hj;omega)
theorem WC(mx:Bool){Q:aH}(kf:Nat->LK)(J:Inv X pins σ H s)(hh:X.A.handled=none)(hu:X.A.units+1<cLine)(p0:P [] H)
  (hl:∀kvs H',P kvs H'->H' l=some (.lst xs)) (hP:∀kvs H',P kvs H'->∀i,i<kvs.length->∃t,kvs[i]?=some (.ref t)/\H' t=some (.tup ((kf i).map V.int)))
  (su:∀(cq:aq)(x:V)(u:Value)(kvs:List V)(H':Hp)(s':Shared),xs[kvs.length]?=some x->RelV x u->Inv X cq σ H' s'->P kvs H'->wpAny (model X.prog X.w) X.A.in1 (call (.ref q) [u]) (EP X cq σ fun k kj=>P (kvs++[k]) kj) (fun _ _=>False) s')
  (fin:∀kvs H' s',kvs.length=xs.length->P kvs H'->Inv X pins σ H' s'->(xs=[]->Q d s')/\∀(b:Nat)(x:V)(u:Value),xs[b]?=some x->RelV x u->(∀j,j<xs.length->pf mx (kf b) (kf j))->Q u s') :
  wpAny (model X.prog X.w) X.A (call (.builtin (i_ mx)) [.ref l] [(q0X "key",.ref q),(q0X "default",d)]) Q E s:=by
 have iA:(toString (i_ mx)++toString ".loop" : String)=tY mx:=by cases mx<;>decide
 obtain⟨ah,rv,pl,_⟩:=J.list (aZ.of (hl _ _ p0));have x5:=PlainL.lt pl;refine kmk_tree (Wn mx) (Wo mx) (Wm mx) (Wt _ _ _ _) ?_;show wpAny _ X.A.in1 (q4e (i_ mx) ["key", "default"] 0 ⟨[],[(q0X "key",.ref q),(q0X "default",d)]⟩ >>= _) _ _ s;refine n_ (q5z (show q4e (i_ mx) ["key", "default"] 0 ⟨[],[(q0X "key",.ref q),(q0X "default",d)]⟩=pure [some (.ref q),some d] from rfl) ?_);refine n_ (uX ?_);refine n_ (q2k (q6g pl) ?_);refine n_ (q4P ?_ (q06 _));rw[iA];refine uX ⟨q2h (tZ mx) _,?_⟩;have J1:Inv X pins σ H {s with heap:=s.heap.push {cls:=.type "list_iterator",data:=.fields #[.ref l,.int 0 0]}}:=J.kept (h':=s.heap.push {cls:=.type "list_iterator",data:=.fields #[.ref l,.int 0 0]}) (t':=s.toks) fun b u e=>qT _ e
 have gI:(s.heap.push {cls:=.type "list_iterator",data:=.fields #[.ref l,.int 0 0]}).get? s.heap.objs.size=some {cls:=.type "list_iterator",data:=.fields #[.ref l,.int 0 0]}:=PG _ rfl;have hS:(s.heap.push {cls:=.type "list_iterator",data:=.fields #[.ref l,.int 0 0]}).objs.size≠s.heap.objs.size:=fun z=>q13 _ (Nat.lt_of_lt_of_eq (My gI) z);have fI:∀H',H' s.heap.objs.size=none->br X pins H' s.heap.objs.size:=fun H' e=>J.gv (Bi _) e;have Ld:H s.heap.objs.size=none:=J.aD.fresh (Bi _);have wJ:l≠s.heap.objs.size:=q0e x5;generalize s.heap.objs.size=I at gI hS fI Ld wJ;generalize s.heap.push {cls:=.type "list_iterator",data:=.fields #[.ref l,.int 0 0]}=g1 at J1 gI hS
 have fS:∀H',H' g1.objs.size=none->br X pins H' g1.objs.size:=fun H' e=>J1.gv (Bi _) e;have WD:H g1.objs.size=none:=J1.aD.fresh (Bi _);have J2:Inv X pins σ H {s with heap:=g1.push (seqObj "list" #[] 0)}:=J1.kept (h':=g1.push (seqObj "list" #[] 0)) (t':=s.toks) fun b u e=>qT _ e;have J3:=(J2.jS (fI H Ld) (qT _ gI) (fun z e=>by cases e)).jS ((fS H WD).cons (p:=(I,_)) hS.symm) (PG _ rfl) CS;exact Wv mx kf hh hu wJ hS fI fS hl hP su fin xs.length [] H _ #[] 0 _ (by simp) J3 p0 rfl rfl (.inl ⟨rfl,rfl⟩)
end
variable[aB]
def ph(mx:Bool)(cp:List (Option Nat))(fb:WE)(δ:au)(ds:List D)(K:D->Prop):Prop :=
 ∃key:D->LK,TB cp fb δ ds key/\(ds=[]->K .non)/\∀d∈ds,(∀e∈ds,pf mx (key d) (key e))->K d
def pz(mx:Bool)(cp:List (Option Nat))(fb:WE)(x:DV)(δ:au)(K:D->Prop):Prop:=∃ds,x=.p (.lst ds)/\ph mx cp fb δ ds K
theorem WH{mx:Bool}{cp:List (Option Nat)}{fb:WE}{x:DV}{δ:au}{K:D->Prop}(h:pz mx cp fb x δ K):∃ds,x=.p (.lst ds)/\ph mx cp fb δ ds K:=h
def Eo(mx:Bool)(f:WE)(cp:List (Option Nat))(fb:WE):WE:=fun δ K=>f δ fun x δ1=>pz mx cp fb x δ1 fun d=>K (.p d) δ1
noncomputable def y4(mx:Bool):Str:=q0X (i_ mx)
section
variable{X:Cx}{params:Arguments}{body:Expr}{scope:Scope}{f9:Pos}{x:Str}{Nb:List Str}{cp:List (Option Nat)}{fb:WE}{T:Addr}
theorem WJ{mx:Bool}{pins:aq}{σ:St}{H:Hp}{s:Shared}{E:aH}{l:Addr}{F:Hp}{ad:List Addr}{δ:au}{ds:List D}{xs:List V}{jE pA pos j p2}{Q:VK}(L:lK X params body scope f9 T x Nb cp fb)(hu:X.A.units+64<cLine)
  (I:Inv X pins σ H s) (S:SR F ad δ σ H) (hl:F l=some (.lst xs)) (hx:ae F ds xs)
  (hs:ph mx cp fb δ ds fun d=>∀v F' H',Ext F ad δ.mu H F' ad δ.mu H'->SR F' ad δ σ H'->Is F' d v->Q v H') :
  wpAny (model X.prog X.w) X.A (evalAll ((backToKw pos (keywordEach [⟨some "key",.Lambda params body scope f9,jE⟩,⟨some "default",.Constant .none j p2,pA⟩] X.env)).map (·.2))) (fun kvs s₂=>wpAny (model X.prog X.w) X.A (call (.builtin (i_ mx)) [.ref l] (((backToKw pos (keywordEach [⟨some "key",.Lambda params body scope f9,jE⟩,⟨some "default",.Constant .none j p2,pA⟩] X.env)).filterMap (·.1)).zip kvs)) (EP X pins σ Q) E s₂) E s:=by
 obtain⟨key,hk,K0,K⟩:=hs;obtain⟨k,wQ,J⟩:=L.room;obtain⟨cc,jw,hC⟩:=L.env.code;show wpAny _ _ (evalAll [do let v <- eval (.Lambda params body scope f9) X.env;standAt pos;pure v,do let v <- eval (.Constant .none j p2) X.env;standAt pos;pure v]) _ _ _;refine evalAll_cons (n_ ?_);have Ep:=L.names;unfold yt at Ep;simp only[q0y,q03,q0I] at Ep;have SC:=x1N L.kind Ep.1.1.1;obtain⟨cl,pV,rZ,yu⟩:=Hf (scope:=scope) (env:=X.env) fun y hy e=>I.ok.has y.1 (SC.free y hy e);refine Ti I (L.tbl.get H S.tab) L.TC pV jw (hC.keeps I.bk) L.env.ng (I.mod.glob.keeps I.bk) (L.env.blt.keeps I.bk) fun f H1 s1 c I1 t1 k1 Tf hf hc=>?_
 refine n_ (q2A (uX ?_));refine evalAll_cons (n_ (uX ?_));refine n_ (q2A (uX ?_));refine evalAll_nil ?_;show wpAny _ _ (call (.builtin (i_ mx)) [.ref l] [(q0X "key",.ref f),(q0X "default",.none)]) _ _ _;have kT:∀b o,H b=some o->b∉aB.ad->H1 b=some o:=fun b o e t=>k1 b o e fun z=>t (by rw[z];exact L.tbl.mem);have my:=L.tbl.put H H1 S.tab t1 k1;have S1:=S.yw kT my;have E1:=Ext.yw S kT my;have lx:=hx.length;have r1:aS (k+2) X.A.in1:=aS.in1 (k:=k+2) wQ;have gd:∀{i:Nat}{d:D},ds[i]?=some d->ds.getD i .non=d:=fun{i d} e=>by rw[He,e];rfl
 refine WC mx (l:=l) (xs:=xs) (d:=.none) (fun i=>key (ds.getD i .non)) (P:=fun kvs H'=>∃F',Ext F ad δ.mu H F' ad δ.mu H'/\SR F' ad δ σ H'/\H' f=some (iY f "<lambda>" (X.env.qual++"<lambda>") params body scope cl ((X.mg "__name__").getD .none) (.ref c))/\H' c=some (mW c (X.env.qual++"<lambda>"))/\kvs.length<=ds.length/\∀(i:Nat)(d:D)(kv:V),ds[i]?=some d->kvs[i]?=some kv->Is F' (.tup ((key d).map D.int)) kv)
  I1 r1.hd (by omega) ⟨_,E1,S1,hf,hc,q06 _,fun i d kv _ e=>by simp at e⟩ (fun kvs H' ⟨F',E',S',_⟩=>S'.sub _ _ (E'.same _ _ hl)) (fun kvs H' ⟨F',E',S',tQ,jB,hle,y6⟩ i hi=>?_) (fun cq v u kvs H' s' hv rv I' ⟨F',E',S',tQ,jB,hle,y6⟩=>?_) fun kvs H' s' gU ⟨F',E',S',tQ,jB,hle,y6⟩ I'=>⟨fun h0=>?_,fun b y u hy ry best=>?_⟩
 ·have hd:=qV (show i<ds.length by omega)
  have is:=y6 i _ _ hd (qV hi);simp only[Is] at is;obtain⟨t,us,e1,e2,e3⟩:=is;refine⟨t,by rw[qV hi,e1],?_⟩;rw[gd hd,<-qb e3];exact S'.sub _ _ e2
 ·have hi:kvs.length<ds.length:=by rw[<-lx];exact(sR.mp hv).1
  have hd:=qV hi;have WK:Is F' ds[kvs.length] v:=ae.at (hx.same E'.same) hd hv;obtain⟨kne,WL⟩:=hk _ (q1K hi);refine Tq I' tQ jB (by rw[show X.A.in1.frames=X.A.frames from rfl];exact I'.ok.frames) r1.hd (aS.depth (r1.mono (by omega:k+1<=k+2))) L.kind L.names L.co L.gen rZ yu (fun ct=>L.bind cl _ _ ct u) rv (J ⟨X.A.in1,cl,f,.ref c,s',H'⟩ ((r1.mono (by omega:k+1<=k+2)).deeper _)) ?_;refine⟨F',ad,_,_,(S'.vI (cp:=cp)).wd WK,WL,fun y δ' ⟨ey,em⟩ w F2 cw H2 E2 S2 V2=>?_⟩;subst ey
  have ea:cw=ad:=by
   have l2:cw.length=ad.length:=by rw[S2.cb,em,S'.cb]
   refine q20 fun i=>?_
   by_cases hi:i<ad.length
   ·rw[qV hi];exact E2.pre i _ (qV hi)
   ·rw[q2d (by omega),q2d (by omega)]
  subst ea;obtain⟨mC,cN⟩:=δ';have em:cN=δ.mu:=em;subst em;refine⟨F2,E'.trans E2,SR.back S' E2 S2,E2.qf S' tQ (fun _ z=>by cases z) (fun _ z=>by cases z) (fun _ z=>by cases z),E2.qf S' jB (fun _ z=>by cases z) (fun _ z=>by cases z) (fun _ z=>by cases z),by rw[Hd,q0O];exact hi,fun i d kv e1 e2=>?_⟩
  by_cases oC:i<kvs.length
  ·rw[q0j oC] at e2
   exact Is.same E2.same (y6 i d kv e1 e2)
  ·have:i=kvs.length:=by
    have:=(sR.mp e2).1;rw[Hd,q0O] at this;omega
   subst this;rw[q0k (Bi _),q1r] at e2;cases(show some w=some kv from e2)
   rw[hd] at e1;cases e1;exact V2
 ·have WM:ds=[]:=q1W.mp (by rw[<-lx,h0];rfl)
  exact⟨.non,H',I',rfl,K0 WM _ F' H' E' S' (by simp only[Is])⟩
 ·have hb:b<ds.length:=by rw[<-lx];exact(sR.mp hy).1
  have hd:=qV hb;refine⟨y,H',I',ry,K ds[b] (q1K hb) (fun e he=>?_) _ F' H' E' S' (ae.at (hx.same E'.same) hd hy)⟩;obtain⟨j,hj,rfl⟩:=q1a.mp he;have:=best j (by omega);rw[gd hd,gd (qV hj)] at this;exact this
variable{e:Expr}{f:WE}{p1 q1 jE pA:Pos}
theorem WN{j p2}(mx:Bool)(L:lK X params body scope f9 T x Nb cp fb)(hu:X.A.units+64<cLine)(WQ:Gl X (y4 mx))(hs:X.mg (y4 mx)=none)(WR:bootBuiltins (y4 mx)=some (.builtin (i_ mx)))(ha:JA X [e] (bK (ag f af)))
  (he:starEach [e] X.env=[(false,eval e X.env)]:=by rfl):JE X (.Call (.Name (y4 mx) p1) [e] [⟨some "key",.Lambda params body scope f9,jE⟩,⟨some "default",.Constant .none j p2,pA⟩] q1) (tD (Eo mx f cp fb)) :=
 ⟨fun pins s σ H Q I h0_=>el7 h0_ fun F ad δ K S q k =>by
  refine q2S (nM I WQ hs WR ?_ (hn:=by cases mx<;>decide) (hd:=by cases mx<;>decide));refine callWith_kw ?_ (he:=by rw[he];rfl) (hplain:=by rw[he];rfl);refine aW (ha q1 pins s σ H (fun vs H1=>∃(l:Addr)(F1:Hp)(aN:List Addr)(δ1:au)(ds:List D)(us:List V),vs=[.ref l]/\F1 l=some (.lst us)/\ae F1 ds us/\Ext F ad δ.mu H F1 aN δ1.mu H1/\SR F1 aN δ1 σ H1/\ph mx cp fb δ1 ds fun d=>K (.p d) δ1) I ?_) fun us s1 WU=>?_
  ·refine⟨F,ad,δ,fun xs δ1=>match xs with
    |[x]=>pz mx cp fb x δ1 fun d=>K (.p d) δ1
    |_=>False,S,q,fun xs δ1 h1 vs F1 aN H1 E1 S1 V1=>?_⟩
   cases xs with
   |nil=>exact h1.elim
   |cons x xs =>
    cases xs with
    |cons _ _=>exact h1.elim
    |nil =>
     obtain⟨v,r,rfl,W1,W2⟩:=V1;have W2:r=[]:=W2;subst W2;obtain⟨ds,rfl,h2⟩:=WH h1;have W1:Is F1 (.lst ds) v:=W1;simp only[Is] at W1;obtain⟨a,us,rfl,g1,g2⟩:=W1;exact⟨a,F1,aN,δ1,ds,us,rfl,g1,g2,E1,S1,h2⟩
  ·obtain⟨vs,H1,I1,r1,l,F1,aN,δ1,ds,ws,ev,hl,hi,E1,S1,WV⟩:=WU
   subst ev;obtain⟨u,rfl,rx⟩:=vals1 r1;cases rx
   refine WJ L hu I1 S1 hl hi ?_;obtain⟨key,hk,K0,hK⟩:=WV
   exact⟨key,hk,fun h0 v F' H' E' S' is=>k _ _ (K0 h0) _ _ _ _ (E1.trans E') S' is,fun d hd hb v F' H' E' S' is=>k _ _ (hK d hd hb) _ _ _ _ (E1.trans E') S' is⟩⟩
end
end L2
namespace LJ
open PySem L2
variable[aB]
noncomputable def Er:D->D
 |.tup [.int i,_]=>.int i
 |_=>.non
noncomputable def Es(p:Int->Bool):D->Bool
 |.tup [.int i,_]=>p i
 |_=>false
theorem Le(p:Int->Bool):∀(ds:List D)(i:Nat),((jr i ds).filter (Es p)).map Er=((x0P i ds.length).filter fun k:Nat=>p k).map fun k:Nat=>D.int k
 |[],_=>rfl
 |d::r,i=>by
  have ih:=Le p r (i+1);show(((D.tup [.int i,d])::jr (i+1) r).filter _).map _=_;rw[Hc,List.range'_succ,q44,q44];show(if p i=true then _ else _:List D).map _=_
  cases q:p i with
  |true=>simp only[q2x,q0p,ih];rfl
  |false=>simp only[q0G,q1X,ih]
noncomputable def jX(l:List Int)(y:Wy):Bool:=decide (y.1∈l) != decide (y.2.1∈l)
noncomputable def eW(ws:List Wy)(l:List Int):List Int:=(bg ws.length).filter fun n=>jX l (bF ws n)
def Et:GD:=fun ys ovs K=>∃(y:Wy)(l:List Int),ys=[.p (bt y),.p (aX l)]/\ovs=[]/\K (.p (.bl (jX l y))) []
def Eu:WS:=(aC (d2 (d2 (d2 (aa 0) (dC (.int 0)) aV) (aa 1) (kn false)) (d2 (d2 (aa 0) (dC (.int 1)) aV) (aa 1) (kn false)) mU))
theorem WW:Sem 2 0 Et Eu:=by
 rintro ys ovs K'-⟨y,l,rfl,rfl,k⟩;unfold Eu;simp? only [bt,aX,fO,eT];have d0:=tX l;refine⟨by omega,by omega,?_⟩;rw[wI,wI];unfold jX at k;generalize decide (y.1∈l)=p at k;generalize decide (y.2.1∈l)=q at k;cases p<;>cases q<;>exact bN k
def Ew:GD:=fun ys ovs K=>∃(m:Int)(ws:List Wy)(l:List Int),aG m ws/\ys=[.p (ay m ws),.p (aX l)]/\ovs=[]/\K (.p (aX (eW ws l))) []
def Ex:WS:=(aC (eA (iW (ag (d2 (aa 0) (dC (.int 1)) aV) af)) [none,none,some 1] (iF 2 (dR (bj 0) (dR (bj 1) ij))) (dT (aj 2 Et (ag (aa 1) (ag (aa 2) af)))) (aa 0)))
theorem WX:Sem 2 0 Ew Ex:=by
 rintro ys ovs K'-⟨m,ws,l,W,rfl,rfl,k⟩;have pb:=W.gN;unfold Ex;simp? only [ay,eT];refine tM (Es fun i=>jX l (bF ws i)) Er (by rw[rH,qU];omega) trivial ?_ ?_
 ·intro d hd acc L' ha h1 h2
  obtain⟨z,hz⟩:=q0i.mp hd;obtain⟨e,z1,z2⟩:=rJ hz;rw[q0b] at z1;obtain⟨y,z3,rfl⟩:=q0g.mp z1;rw[q00] at z2;subst z2;have ew:bF ws (z:Int)=y:=by unfold bF;rw[q0u,He,z3];rfl
  simp only[Es,Er] at h1 h2;rw[ew] at h1 h2;simp? only [];refine⟨y,l,rfl,rfl,?_⟩;simp? only []
  cases q:jX l y with
  |true=>simp? only [];exact⟨ha,h1 q⟩
  |false=>simp? only [];exact h2 q
 ·have e:=Le (fun i=>jX l (bF ws i)) (ws.map bt) 0
  have e2:(eW ws l).map D.int=((x0P 0 (ws.map bt).length).filter fun k:Nat=>jX l (bF ws k)).map fun k:Nat=>D.int k:=by
   unfold eW bg;rw[q2X,q0o,qU,<-List.range_eq_range'];rfl
  rw[<-e2] at e;rw[e];exact bN k
def Ey:GD:=fun ys ovs K=>∃(m:Int)(ws:List Wy)(ns:List Int),aG m ws/\Nums ws ns/\ys=[.p (ay m ws),.p (aX ns)]/\ovs=[]/\(ns=[]->K (.p .non) [])/\∀n∈ns,(∀e∈ns,kle (dA ws n) (dA ws e))->K (.p (.int n)) []
def Ez:WS:=(aC (Eo false (aa 1) [some 0] (aj 1 D3 (ag (d2 (d2 (aa 1) (dC (.int 1)) aV) (aa 0) aV) af))))
theorem WY:Sem 2 0 Ey Ez:=by
 rintro ys ovs K'-⟨m,ws,ns,W,hn,rfl,rfl,k0,k⟩;unfold Ez;simp? only [Eo,pz,ay,aX]
 refine⟨ns.map D.int,rfl,fun d=>match d with
  |.int n=>dA ws n
  |_=>[],fun d hd=>?_,fun h0=>?_,fun d hd best=>?_⟩
 ·obtain⟨n,h,rfl⟩:=q0d.mp hd
  obtain⟨n0,n1⟩:=hn n h;obtain⟨y,ey,hy,ea,_⟩:=tU W n0 n1;refine⟨(by intro z;cases z),?_⟩;simp? only [eT,ea];refine⟨y,rfl,rfl,?_⟩;simp? only [];unfold dA;rw[ey];rfl
 ·exact bN (k0 (q57.mp h0))
 ·obtain⟨n,h,rfl⟩:=q0d.mp hd
  exact bN (k n h fun e he=>best _ (q0d.mpr ⟨e,he,rfl⟩))
open Classical in
noncomputable def l_ (ws:List Wy) (ns:List Int):Int:=if h:∃n,n∈ns/\∀e∈ns,kle (dA ws n) (dA ws e) then x14 h else 0
theorem Lf{m:Int}{ws:List Wy}(W:aG m ws){ns:List Int}(hn:Nums ws ns){n:Int}(h:n∈ns)(b:∀e∈ns,kle (dA ws n) (dA ws e)):l_ ws ns=n:=by
 unfold l_;have ex:∃n,n∈ns/\∀e∈ns,kle (dA ws n) (dA ws e):=⟨n,h,b⟩;rw[dif_pos ex];obtain⟨h1,h2⟩:=q5r ex;exact Vo W (hn _ h1) (hn _ h) (Jk (h2 n h) (b _ h1))
theorem EA{ws:List Wy}{l:List Int}:Nums ws (eW ws l):=fun n h=>DR (q0S.mp h).1
theorem WZ{ws:List Wy}{l:List Int}:(eW ws l).length<=ws.length:=by
 unfold eW;have:=q3N (fun n=>jX l (bF ws n)) (bg ws.length);rw[sk] at this;exact this
noncomputable def iI(ws:List Wy)(ls:List (List Int)):List Int:=((ls.map (eW ws)).filter fun o=>decide (o≠[])).map (l_ ws)
theorem EB{ws:List Wy}{ls:List (List Int)}:(iI ws ls).length<=ls.length:=by
 unfold iI;rw[qU];have:=q3N (fun o:List Int=>decide (o≠[])) (ls.map (eW ws));rw[qU] at this;exact this
noncomputable def jY(m:Int)(ws:List Wy)(us:List Int):List Int:=sortI (ju (iI ws (eJ m ws us)))
noncomputable def t6(f:List Int->D):D->D
 |.lst ds=>match intsOf ds with
  |some l=>f l
  |none=>.non
 |_=>.non
noncomputable def wR(f:List Int->Bool):D->Bool
 |.lst ds=>match intsOf ds with
  |some l=>f l
  |none=>false
 |_=>false
theorem y7(f:List Int->D)(l:List Int):t6 f (aX l)=f l:=by
 unfold aX;simp only[t6,oA]
theorem EC(f:List Int->Bool)(l:List Int):wR f (aX l)=f l:=by
 unfold aX;simp only[wR,oA]
def W0:GD:=fun ys ovs K=>∃(m:Int)(ws:List Wy)(us:List Int),aG m ws/\Nums ws us/\us.Nodup/\us.length<=900/\ys=[.p (ay m ws),.p (aX us)]/\ovs=[]/\K (.p (aX (jY m ws us))) []
def ED:WS:=(ak (aE 2 (eA (bE (aj 2 KG (ag (aa 0) (ag (aa 1) af)))) [none,some 0] (bj 0) cI (aj 2 Ew (ag (aa 1) (ag (aa 0) af))))) (aC (dN (ag (eA (bE (aa 2)) [none,some 0] (bj 0) (dT (d2 (dN (ag (aa 0) af) bC) (dC (.int 0)) (oI fun i j=>.bl (decide (j<i))))) (aj 2 Ey (ag (aa 1) (ag (aa 0) af)))) af) qd)))
theorem W5:Sem 2 1 W0 ED:=by
 rintro ys ovs K'-⟨m,ws,us,W,hu,nd,hl,rfl,rfl,k⟩;have pb:=W.gN;obtain⟨ll,lf⟩:=K8 W hu;unfold ED;refine aO fun N hN=>?_;simp? only [];refine⟨m,ws,us,W,hu,nd,hl,rfl,rfl,?_⟩;rw[show((cM (eG m ws us) m.toNat).map (·.2))=eJ m ws us from rfl,show si (eJ m ws us)=.lst ((eJ m ws us).map aX) from rfl];unfold jY at k;generalize eJ m ws us=ls at k ll lf;simp? only [];refine kr (t6 fun l=>aX (eW ws l)) (by rw[qU];omega) trivial ?_ ?_
 ·intro d hd acc L' ha h
  obtain⟨l,_,rfl⟩:=q0d.mp hd;rw[y7] at h;simp? only [];refine⟨m,ws,l,W,rfl,rfl,?_⟩;simp? only [];exact⟨ha,h⟩
 have e:(ls.map aX).map (t6 fun l=>aX (eW ws l))=(ls.map (eW ws)).map aX:=by
  rw[q0o,q0o];exact q0R fun l _=>y7 _ l
 rw[e];subst hN;simp? only [];refine L2.tM (wR fun o=>decide (o≠[])) (t6 fun o=>.int (l_ ws o)) (by rw[qU,qU];omega) trivial ?_ ?_
 ·intro d hd acc L' ha h1 h2
  obtain⟨o,ho,rfl⟩:=q0d.mp hd;obtain⟨l,_,rfl⟩:=q0d.mp ho;rw[y7,EC] at h1;rw[EC] at h2;have hn:=EA (ws:=ws) (l:=l);generalize eW ws l=o at h1 h2 hn;rw[show aX o=.lst (o.map D.int) from rfl];simp? only []
  by_cases c:o=[]
  ·subst c
   rw[show decide ((0:Int)<(([]:List Int).length:Nat))=false from rfl];simp? only [];exact h2 rfl
  ·have c1:decide ((0:Int)<(o.length:Nat))=true:=q0x (by have:=q58.mpr c;omega)
   rw[c1];simp? only [];refine⟨m,ws,o,W,hn,rfl,rfl,(fun z=>absurd z c),fun n hm best=>?_⟩;rw[Lf W hn hm best] at h1;simp? only [];exact⟨ha,h1 (q0x c)⟩
 ·have e2:(((ls.map (eW ws)).map aX).filter (wR fun o=>decide (o≠[]))).map (t6 fun o=>.int (l_ ws o))=(iI ws ls).map D.int:=by
   unfold iI;rw[q2X,q0o,q0o];rw[show(wR fun o=>decide (o≠[]))∘aX=fun o=>decide (o≠[]) from funext fun o=>EC _ o];exact q0R fun o _=>y7 _ o
  have cl:=EB (ws:=ws) (ls:=ls);rw[e2];simp? only [oA];exact⟨by omega,bN k⟩
theorem y8(ns:List Int):∀i,i<=ns.length->(LJS.j6 ns i).Nodup/\∀x,x∈LJS.j6 ns i↔x∈ns.take i
 |0,_=>⟨q2H,fun x=>by simp[LJS.j6]⟩
 |i+1,h=>by
  obtain⟨n,m⟩:=y8 ns i (by omega)
  have et:ns.take (i+1)=ns.take i++[ns.getD i 0]:=by
   rw[q2j,He,qV (show i<ns.length by omega)];rfl
  rw[et];unfold LJS.j6 LJS.once;split
  ·rename_i c
   refine⟨n,fun x=>?_⟩;rw[m x,q04,q0K];refine⟨.inl,fun z=>z.elim id fun z=>?_⟩;subst z;exact(m _).mp c
  ·rename_i c
   refine⟨q1b.mpr ⟨n,by simp,fun a ha b hb z=>?_⟩,fun x=>?_⟩
   ·subst z;rw[q0K.mp hb] at ha;exact c ha
   ·rw[q04,q04,m x]
theorem W6{m:Int}{ws:List Wy}(W:aG m ws){ns:List Int}(hn:Nums ws ns):sg (eG m ws ns)=eJ m ws ns:=by
 have G:=KU W hn;obtain⟨nd,mem⟩:=y8 (eG m ws ns) _ (Bi _);have hl:(eG m ws ns).length=m.toNat:=DQ;rw[q2M] at mem
 have up:(sortI (ju (eG m ws ns))).Pairwise (· < ·):=by
  have wU:(sortI (ju (eG m ws ns))).Nodup:=(sortI_perm _).nodup_iff.mpr nd;exact((Jb _).and wU).imp fun⟨a,b⟩=>by omega
 have:=V0 G up fun x=>((sortI_perm _).mem_iff).trans (mem x);unfold eJ sg;rw[<-hl,this];refine q0R fun x _=>?_;unfold tV bD bg;rw[q2X];rfl
theorem Lg{ws:List Wy}:∀{ns:List Int},ns≠[]->∃n,n∈ns/\∀e∈ns,kle (dA ws n) (dA ws e)
 |[],h=>absurd rfl h
 |[a],_=>⟨a,PE,fun e he=>by rw[q0K.mp he];exact kle_refl _⟩
 |a::b::r,_=>by
  obtain⟨n,h1,h2⟩:=Lg (ws:=ws) (ns:=b::r) (by simp)
  cases q:HT.lexLt (dA ws n) (dA ws a) with
  |true=>exact⟨n,q0c _ h1,fun e he=>(PD.mp he).elim (fun z=>by rw[z];exact rX q) (h2 e)⟩
  |false=>exact⟨a,PE,fun e he=>(PD.mp he).elim (fun z=>by rw[z];exact kle_refl _) fun z=>kle_trans q (h2 e z)⟩
theorem W7{ws:List Wy}{ns:List Int}(h:ns≠[]):l_ ws ns∈ns/\∀e∈ns,kle (dA ws (l_ ws ns)) (dA ws e):=by
 have ex:=Lg (ws:=ws) h;unfold l_;rw[dif_pos ex];exact q5r ex
theorem W8{ws:List Wy}{ls:List (List Int)}{n:Int}:n∈iI ws ls↔∃l∈ls,eW ws l≠[]/\n=l_ ws (eW ws l):=by
 unfold iI;rw[q0d]
 constructor
 ·rintro⟨o,ho,rfl⟩
  obtain⟨h1,h2⟩:=q0S.mp ho;obtain⟨l,hl,rfl⟩:=q0d.mp h1;exact⟨l,hl,q05 h2,rfl⟩
 ·rintro⟨l,hl,h1,rfl⟩
  exact⟨_,q0S.mpr ⟨q0d.mpr ⟨l,hl,rfl⟩,q0x h1⟩,rfl⟩
theorem W9(ns:List Int)(x:Int):x∈ju ns↔x∈ns:=by
 have:=(y8 ns _ (Bi _)).2 x;rw[q2M] at this;exact this
theorem jZ{m:Int}{ws:List Wy}{us:List Int}{n:Int}:n∈jY m ws us↔∃l∈eJ m ws us,eW ws l≠[]/\n=l_ ws (eW ws l):=by
 unfold jY;rw[(sortI_perm _).mem_iff,W9,W8]
theorem W_{m:Int}{ws:List Wy}{us:List Int}:(jY m ws us).Nodup:=(sortI_perm _).nodup_iff.mpr (y8 _ _ (Bi _)).1
theorem Xa{m:Int}{ws:List Wy}{us:List Int}{n:Int}(h:n∈jY m ws us):∃l∈eJ m ws us,n∈eW ws l/\∀e∈eW ws l,kle (dA ws n) (dA ws e):=by
 obtain⟨l,hl,ne,rfl⟩:=jZ.mp h;exact⟨l,hl,W7 ne⟩
theorem Xb{m:Int}{ws:List Wy}{us:List Int}:Nums ws (jY m ws us):=fun n h=>by
 obtain⟨l,_,h1,_⟩:=Xa h;exact EA n h1
theorem Xc{ws:List Wy}{us:List Int}(hu:Nums ws us)(nd:us.Nodup):us.length<=ws.length:=by
 have h:us.Subset (bg ws.length):=fun n h=>by
  have:=hu n h;exact eI.mpr this
 have:=List.Nodup.length_le_of_subset nd h;rw[sk] at this;exact this
end LJ
namespace PySem
open Sem (wp)
structure ZG(z TI TO i j:Addr)(fp gp:List Addr):Prop where
 a1:TI≠z
 a2:TO≠z
 a3:i≠z
 a4:j≠z
 a5:TI≠TO
 a6:TI≠i
 a7:TI≠j
 a8:TO≠i
 a9:TO≠j
 b1:i≠j
 f1:z∉fp
 f2:TO∉fp
 f3:j∉fp
 g1:z∉gp
 g2:TO∉gp
 g3:i∉gp
theorem bk{a:Addr}{h h':Heap}(hs:q2N a h h'){b:Addr}{o:Obj}(n:b≠a)(e:h.get? b=some o):h'.get? b=some o:=(hs.2 b n).trans e
section
variable{prog:Program}{w:World}{A:Around}{E:aH}{s:Shared}{z TI TO i j:Addr}{fp gp:List Addr}{n m k:Nat}{P P':Nat->Value->Prop}{St j2:Nat->Heap->Prop}{a b:Value}
theorem Xd{Q:aH}(D:Draws prog w A i fp n P St)(D':Draws prog w A j gp m P' j2)(Z:ZG z TI TO i j fp gp)
  (hz:IsZip s.heap z TI TO .none) (hI:IsPair s.heap TI (.ref i) (.ref j)) (hO:IsPair s.heap TO a b) (st:St k s.heap) (fH:j2 k s.heap) (hk:k<n) (gR:k<m)
  (hQ:∀x y h' tk,P k x->P' k y->IsZip h' z TI TO (rawInt s.heap.objs.size)->IsPair h' TO x y->St (k+1) h'->j2 (k+1) h'->IsPair h' s.heap.objs.size x y →
   (∀c o,c≠z->c≠TO->c≠i->c≠j->s.heap.get? c=some o->h'.get? c=some o)->Q (.ref s.heap.objs.size) {s with heap:=h',toks:=tk}) :
  wpAny (model prog w) A (Builtin.«zip.__next__» ⟨[.ref z],[]⟩) (fun fin s'=>∃v,fin=.done (.ret v)/\Q v s') E s:=by
 show wpAny _ _ (field (.ref z) 2 >>= _) _ _ _;refine n_ (q1x hz rfl (x:=.bool false) rfl ?_);show wpAny _ _ (field (.ref z) 3 >>= _) _ _ _;refine n_ (q1x hz rfl (x:=.ref TI) rfl (n_ (q1O hI rfl ?_)));show wpAny _ _ (q1Q (.ref z) >>= _) _ _ _;refine n_ ?_;unfold q1Q;refine n_ (q1x hz rfl (x:=.none) rfl (uX ?_));simp only[q2x];refine n_ (q3S (n_ (q1x hz rfl (x:=.ref TO) rfl (n_ (q2t hz (by simp) fun k1 z1 s1=>?_)))));have z1:IsZip k1 z TI TO .ellipsis:=z1;refine n_ ?_;simp only[q7l,q7K,q5k,q5I];refine n_ (n_ (q3W ?_));show wpAny _ _ (q08 (.ref i) >>= _) _ _ _;refine n_ (D.item k {s with heap:=k1} _ _ hk (D.frame k _ _ st fun c hc o e=>bk s1 (fun y=>Z.f1 (y▸hc)) e) fun x k2 t2 px iL s2=>uX ?_)
 have o2:IsPair k2 TO a b:=bk s2 Z.a8 (bk s1 Z.a2 hO);refine n_ (q1O o2 rfl (n_ (q3Z o2 fun k3 o3 s3=>?_)));have o3:IsPair k3 TO x b:=o3;refine n_ (q3x (uX (n_ (n_ (q3W ?_)))));show wpAny _ _ (q08 (.ref j) >>= _) _ _ _;have sx:j2 k k3:=D'.frame k _ _ fH fun c hc o e=>bk s3 (fun y=>Z.g2 (y▸hc)) (bk s2 (fun y=>Z.g3 (y▸hc)) (bk s1 (fun y=>Z.g1 (y▸hc)) e));have pL:St (k+1) k3:=D.frame _ _ _ iL fun c hc o e=>bk s3 (fun y=>Z.f2 (y▸hc)) e;refine n_ (D'.item k {s with heap:=k3,toks:=t2} _ _ gR sx fun y k4 t4 py Xe s4=>uX ?_);have o4:IsPair k4 TO x b:=bk s4 Z.a9 o3;refine n_ (q1O o4 rfl (n_ (q3Z o4 fun k5 o5 s5=>?_)))
 have o5:IsPair k5 TO x y:=o5;refine n_ (q3x (uX (uX (n_ (q1O o5 rfl (n_ (q8c ?_)))))));have sz:k5.objs.size=s.heap.objs.size:=by rw[s5.1,s4.1,s3.1,s2.1,s1.1]
 have z5:IsZip k5 z TI TO .ellipsis:=bk s5 Z.a2.symm (bk s4 Z.a4.symm (bk s3 Z.a2.symm (bk s2 Z.a3.symm z1)));have kp:∀c o,c≠z->c≠TO->c≠i->c≠j->s.heap.get? c=some o->k5.get? c=some o:=fun c o c1 c2 c3 c4 e=>bk s5 c2 (bk s4 c4 (bk s3 c2 (bk s2 c3 (bk s1 c1 e))));have t5:St (k+1) k5:=D.frame _ _ _ pL fun c hc o e=>bk s5 (fun y=>Z.f2 (y▸hc)) (bk s4 (fun y=>Z.f3 (y▸hc)) e);have Xf:j2 (k+1) k5:=D'.frame _ _ _ Xe fun c hc o e=>bk s5 (fun y=>Z.g2 (y▸hc)) e;have zl:z<k5.objs.size:=My z5;show wpAny _ _ (q3g (.ref z) (.ref k5.objs.size) >>= _) _ _ _;refine n_ ?_;unfold q3g;refine n_ (q2t (show IsZip (k5.push {cls:=.type "tuple",data:=.seq #[x,y]}) z TI TO .ellipsis from qT _ z5) (by simp) fun k7 z7 s7=>?_)
 have z7:IsZip k7 z TI TO (rawInt k5.objs.size):=z7;refine q2t z7 (by simp) fun k8 z8 s8=>?_;have z8:IsZip k8 z TI TO (rawInt k5.objs.size):=z8;have up:∀c o,c≠z->k5.get? c=some o->k8.get? c=some o:=fun c o c1 e=>bk s8 c1 (bk s7 c1 (qT _ e));have p8:IsPair k8 k5.objs.size x y:=bk s8 (q1L zl) (bk s7 (q1L zl) (PG _ rfl));rw[sz] at z8 p8;refine uX ⟨_,rfl,?_⟩;show Q (.ref k5.objs.size) _;rw[sz];exact hQ x y k8 t4 px py z8 (up _ _ Z.a2 o5) (D.frame _ _ _ t5 fun c hc o e=>up c o (fun y=>Z.f1 (y▸hc)) e) (D'.frame _ _ _ Xf fun c hc o e=>up c o (fun y=>Z.g1 (y▸hc)) e) p8 fun c o c1 c2 c3 c4 e=>up c o c1 (kp c o c1 c2 c3 c4 e)
theorem Xg{Q:Fin->Shared->Prop}(D:Draws prog w A i fp n P St)(D':Draws prog w A j gp m P' j2)(Z:ZG z TI TO i j fp gp)
  (hz:IsZip s.heap z TI TO .none) (hI:IsPair s.heap TI (.ref i) (.ref j)) (hO:IsPair s.heap TO a b) (st:St k s.heap) (fH:j2 k s.heap) (hk:k=n\/(k<n/\k=m))
  (hE:∀h' e tk,(∀c o,c≠z->c≠TO->c≠i->c≠j->s.heap.get? c=some o->h'.get? c=some o)->(∃o,h'.get? e=some o/\o.cls=.type "StopIteration")->E (.ref e) {s with heap:=h',toks:=tk}) :
  wpAny (model prog w) A (Builtin.«zip.__next__» ⟨[.ref z],[]⟩) Q E s:=by
 show wpAny _ _ (field (.ref z) 2 >>= _) _ _ _;refine n_ (q1x hz rfl (x:=.bool false) rfl ?_);show wpAny _ _ (field (.ref z) 3 >>= _) _ _ _;refine n_ (q1x hz rfl (x:=.ref TI) rfl (n_ (q1O hI rfl ?_)));show wpAny _ _ (q1Q (.ref z) >>= _) _ _ _;refine n_ ?_;unfold q1Q;refine n_ (q1x hz rfl (x:=.none) rfl (uX ?_));simp only[q2x];refine n_ (q3S (n_ (q1x hz rfl (x:=.ref TO) rfl (n_ (q2t hz (by simp) fun k1 z1 s1=>?_)))));have z1:IsZip k1 z TI TO .ellipsis:=z1;refine n_ ?_;simp only[q7l,q7K,q5k,q5I];refine n_ (n_ (q3W ?_));show wpAny _ _ (q08 (.ref i) >>= _) _ _ _;have iK:St k k1:=D.frame k _ _ st fun c hc o e=>bk s1 (fun y=>Z.f1 (y▸hc)) e
 rcases hk with rfl|⟨hk,rfl⟩
 ·refine n_ (D.done {s with heap:=k1} _ _ iK fun k2 e s2 he=>?_)
  obtain⟨oe,ho,hc⟩:=he;have z2:IsZip k2 z TI TO .ellipsis:=s2 _ _ Z.a3.symm z1;have ez:e≠z:=fun x=>by subst x;rw[z2] at ho;cases ho;simp at hc
  exact q2t z2 (by simp) fun k3 _ s3=>hE k3 e _ (fun c o c1 _ c3 _ x=>bk s3 c1 (s2 _ _ c3 (bk s1 c1 x))) ⟨oe,bk s3 ez ho,hc⟩
 ·refine n_ (D.item k {s with heap:=k1} _ _ hk iK fun x k2 t2 px iL s2=>uX ?_)
  have o2:IsPair k2 TO a b:=bk s2 Z.a8 (bk s1 Z.a2 hO);refine n_ (q1O o2 rfl (n_ (q3Z o2 fun k3 o3 s3=>?_)));refine n_ (q3x (uX (n_ (n_ (q3W ?_)))));show wpAny _ _ (q08 (.ref j) >>= _) _ _ _;have sx:j2 k k3:=D'.frame k _ _ fH fun c hc o e=>bk s3 (fun y=>Z.g2 (y▸hc)) (bk s2 (fun y=>Z.g3 (y▸hc)) (bk s1 (fun y=>Z.g1 (y▸hc)) e));refine n_ (D'.done {s with heap:=k3,toks:=t2} _ _ sx fun k4 e s4 he=>?_);obtain⟨oe,ho,hc⟩:=he;have z4:IsZip k4 z TI TO .ellipsis:=s4 _ _ Z.a4.symm (bk s3 Z.a2.symm (bk s2 Z.a3.symm z1));have ez:e≠z:=fun x=>by subst x;rw[z4] at ho;cases ho;simp at hc
  exact q2t z4 (by simp) fun k5 _ s5=>hE k5 e _ (fun c o c1 c2 c3 c4 x=>bk s5 c1 (s4 _ _ c4 (bk s3 c2 (bk s2 c3 (bk s1 c1 x))))) ⟨oe,bk s5 ez ho,hc⟩
theorem Xh{Q:Option Value->Shared->Prop}(D:Draws prog w A.in1 i fp n P St)(D':Draws prog w A.in1 j gp m P' j2)(Z:ZG z TI TO i j fp gp)
  (hz:IsZip s.heap z TI TO .none) (hI:IsPair s.heap TI (.ref i) (.ref j)) (hO:IsPair s.heap TO a b) (st:St k s.heap) (fH:j2 k s.heap) (hk:k<n) (gR:k<m)
  (hQ:∀x y h' tk,P k x->P' k y->IsZip h' z TI TO (rawInt s.heap.objs.size)->IsPair h' TO x y->St (k+1) h'->j2 (k+1) h'->IsPair h' s.heap.objs.size x y →
   (∀c o,c≠z->c≠TO->c≠i->c≠j->s.heap.get? c=some o->h'.get? c=some o)->Q (some (.ref s.heap.objs.size)) {s with heap:=h',toks:=tk}):wpAny (model prog w) A (pyNext (.ref z)) Q E s:=by
 have hT:s.TypeIs (.ref z) "zip" := ⟨_,hz,rfl⟩;unfold pyNext;exact n_ (q3j (q1j (name:=q0X "__next__") hT q38 (q1k q38 hT q7m (Xd D D' Z hz hI hO st fH hk gR fun x y h' tk a1 a2 a3 a4 a5 a6 a7 a8=>uX (hQ x y h' tk a1 a2 a3 a4 a5 a6 a7 a8)) (q62 _))))
theorem Xi{Q:Option Value->Shared->Prop}(D:Draws prog w A.in1 i fp n P St)(D':Draws prog w A.in1 j gp m P' j2)(Z:ZG z TI TO i j fp gp)
  (hz:IsZip s.heap z TI TO .none) (hI:IsPair s.heap TI (.ref i) (.ref j)) (hO:IsPair s.heap TO a b) (st:St k s.heap) (fH:j2 k s.heap) (hk:k=n\/(k<n/\k=m))
  (hQ:∀h' tk,(∀c o,c≠z->c≠TO->c≠i->c≠j->s.heap.get? c=some o->h'.get? c=some o)->Q none {s with heap:=h',toks:=tk}):wpAny (model prog w) A (pyNext (.ref z)) Q E s:=by
 have hT:s.TypeIs (.ref z) "zip" := ⟨_,hz,rfl⟩;unfold pyNext;refine n_ (q3j (q1j (name:=q0X "__next__") hT q38 (q1k q38 hT q7m (Xg D D' Z hz hI hO st fH hk fun h' e tk kp he=>?_) (q62 _))));obtain⟨o,ho,hc⟩:=he;exact n_ (q4V (T:="StopIteration") (b:=true) ⟨o,ho,hc⟩ q7U (uX (hQ _ _ kp)))
end
def dB(h:Heap)(t:Bool)(l:Addr)(xs:Array Value):Prop:=match t with
 |true=>h.IsTuple l xs
 |false=>h.IsList l xs
noncomputable abbrev ja(t:Bool)(l:Addr)(k:Nat):Obj:={cls:=.type (match t with|true=>"tuple_iterator" | false=>"list_iterator"),data:=.fields #[.ref l,.int k 0]}
def eY(h:Heap)(t:Bool)(it l:Addr)(k:Nat):Prop:=match t with
 |true=>h.IsTupleIter it l k
 |false=>h.IsListIter it l k
theorem dB.lt{h:Heap}{t:Bool}{l:Addr}{xs:Array Value}(x:dB h t l xs):l<h.objs.size:=by
 cases t<;>(obtain⟨o,e,_⟩:=x;exact My e)
theorem dB.at{h h':Heap}{t:Bool}{l:Addr}{xs:Array Value}(x:dB h t l xs)(k:∀o,h.get? l=some o->h'.get? l=some o):dB h' t l xs:=by
 cases t with
 |true=>exact Heap.IsTuple.at x k
 |false=>exact Heap.IsList.at x k
theorem eY.at{h h':Heap}{t:Bool}{i l:Addr}{n:Nat}(x:eY h t i l n)(k:∀o,h.get? i=some o->h'.get? i=some o):eY h' t i l n:=by
 cases t with
 |true=>exact Heap.IsTupleIter.at x k
 |false=>exact Heap.IsListIter.at x k
theorem eY.obj{h:Heap}{t:Bool}{i l:Addr}{n:Nat}(x:eY h t i l n):∃o,h.get? i=some o/\∀v,o.data≠.cell v:=by
 cases t<;>(obtain⟨o,e,_,d⟩:=x;exact⟨o,e,fun v z=>by rw[d] at z;cases z⟩)
theorem eY.new{h:Heap}{t:Bool}{i l:Addr}(e:h.get? i=some (ja t l 0)):eY h t i l 0:=by
 cases t<;>exact⟨_,e,rfl,rfl⟩
section
variable{prog:Program}{w:World}{A:Around}{E:aH}{s:Shared}
theorem y9(hh:A.handled=none)(t:Bool)(it l:Addr)(fj:l≠it)(items:Array Value):Draws prog w A it [it,l] items.size (fun i v=>items[i]?=some v) (fun i h=>eY h t it l i/\dB h t l items):=by
 cases t
 ·exact Draws.list hh it l fj items
 ·exact B7 hh it l fj items
theorem Lh{t:Bool}{l:Addr}{xs:Array Value}{Q:aH}(hl:dB s.heap t l xs)(h:Q (.ref s.heap.objs.size) {s with heap:=s.heap.push (ja t l 0)}):wpAny (model prog w) A (pyIter (.ref l)) Q E s:=by
 cases t
 ·exact q2k hl h
 ·exact q2U hl h
end
noncomputable abbrev y_(h:Heap)(t:Bool)(l:Addr):Heap:=h.push (ja t l 0)
noncomputable abbrev za(h:Heap)(t u:Bool)(l m:Addr):Heap:=(y_ h t l).push (ja u m 0)
noncomputable abbrev zb(h:Heap)(t u:Bool)(l m:Addr):Heap:=(za h t u l m).push {cls:=.type "tuple",data:=.seq #[.ref h.objs.size,.ref (y_ h t l).objs.size]}
noncomputable abbrev zc(h:Heap)(t u:Bool)(l m:Addr):Heap:=(zb h t u l m).push {cls:=.type "tuple",data:=.seq #[.none,.none]}
noncomputable abbrev t7(h:Heap)(t u:Bool)(l m:Addr):Heap:=(zc h t u l m).push {cls:=.type "zip",data:=.fields #[.none,.bool false,.bool false,.ref (za h t u l m).objs.size,.ref (zb h t u l m).objs.size]}
theorem Xj(t u:Bool)(l m:Addr)(xs ys:Array Value):
  Meets (Builtin.«zip.__new__» ⟨[.type "zip",.ref l,.ref m],[]⟩) (fun _ R s=>dB s.heap t l xs/\dB s.heap u m ys/\R (.ok (.ret (.ref (zc s.heap t u l m).objs.size))) {s with heap:=t7 s.heap t u l m}) :=
 .of_wp fun prog w A R s h=>by
  obtain⟨hp,g,d,tk,os⟩:=s;obtain⟨h1,h2,h⟩:=h;have B5:=sub_zip;have e1:dB (q7t ⟨hp,g,d,tk,os⟩) t l xs:=h1;have e2:dB (q7t ⟨hp.push (ja t l 0),g,d,tk,os⟩) u m ys:=dB.at h2 fun o e=>qT _ e
  wp_walk using Lh e1,Lh e2
  exact⟨_,rfl,h⟩
section
variable{prog:Program}{w:World}{A:Around}{E:aH}{s:Shared}
theorem Xk{t u:Bool}{l m:Addr}{xs ys:Array Value}{Q:aH}(h1:dB s.heap t l xs)(h2:dB s.heap u m ys)
  (h:∀h',IsZip h' (s.heap.objs.size+4) (s.heap.objs.size+2) (s.heap.objs.size+3) .none->IsPair h' (s.heap.objs.size+2) (.ref s.heap.objs.size) (.ref (s.heap.objs.size+1)) →
   IsPair h' (s.heap.objs.size+3) .none .none->eY h' t s.heap.objs.size l 0->eY h' u (s.heap.objs.size+1) m 0->(∀c o,s.heap.get? c=some o->h'.get? c=some o)->Q (.ref (s.heap.objs.size+4)) {s with heap:=h'}) :
  wpAny (model prog w) A (call (.type "zip") [.ref l,.ref m]) Q E s:=by
 refine callType_new F.called_zip (by decide) (F.typeCall_zip_2 _ _) (F.newCall_zip_2 _ _) (fun obj=>F.args_object_init_3 obj _ _) F.entry_zip_new (Xj t u l m xs ys) ⟨h1,h2,?_⟩;have z1:(y_ s.heap t l).objs.size=s.heap.objs.size+1:=q1s ..;have z2:(za s.heap t u l m).objs.size=s.heap.objs.size+2:=by rw[q1s,z1]
 have z3:(zb s.heap t u l m).objs.size=s.heap.objs.size+3:=by rw[q1s,z2]
 have z4:(zc s.heap t u l m).objs.size=s.heap.objs.size+4:=by rw[q1s,z3]
 have q5:(t7 s.heap t u l m).get? (zc s.heap t u l m).objs.size=some _:=PG _ rfl;have q4:(t7 s.heap t u l m).get? (zb s.heap t u l m).objs.size=some _:=qT _ (PG _ rfl);have q3:(t7 s.heap t u l m).get? (za s.heap t u l m).objs.size=some _:=qT _ (qT _ (PG _ rfl));have q2:(t7 s.heap t u l m).get? (y_ s.heap t l).objs.size=some (ja u m 0):=qT _ (qT _ (qT _ (PG _ rfl)));have q1:(t7 s.heap t u l m).get? s.heap.objs.size=some (ja t l 0):=qT _ (qT _ (qT _ (qT _ (PG _ rfl))));show _/\_;rw[z2,z3,z4] at q5;rw[z1,z2] at q3;rw[z3] at q4;rw[z1] at q2;rw[z4];exact⟨⟨_,q5,rfl⟩,h _ q5 q3 q4 (.new q1) (.new q2) fun c o x=>qT _ (qT _ (qT _ (qT _ (qT _ x))))⟩
end
end PySem
namespace L2
open PySem PySem.Spec PyProof.Rows
def j3(K:xA)(H:Hp)(t:Bool)(a:Addr)(xs:List V):Prop:=match t with
 |true=>bw K H a xs
 |false=>aZ K H a xs
section
variable{X:Cx}{pins:aq}{σ:St}{H:Hp}{s:Shared}
theorem Inv.sq{t:Bool}{a:Addr}{xs:List V}(I:Inv X pins σ H s)(h:j3 X.K H t a xs):∃ah:List Value,Vals xs ah/\dB s.heap t a ah.toArray:=by
 cases t
 ·obtain⟨ah,r,p,_⟩:=I.list h;exact⟨ah,r,p.isList⟩
 ·obtain⟨ah,r,⟨o,o1,o2,n,o3⟩,_⟩:=I.tuple h;exact⟨ah,r,o,o1,o2,n,o3⟩
theorem Inv.me{t:Bool}{a:Addr}{xs ys:List V}(I:Inv X pins σ H s)(h:j3 X.K H t a xs)(h':j3 X.K H t a ys):xs=ys:=by
 cases t
 ·exact I.ft h h'
 ·exact I.d_ h h'
end
noncomputable def wV(K:xA)(t u:Bool)(a b:Addr):It :=
 ⟨fun i H=>∃xs ys x y,j3 K H t a xs/\j3 K H u b ys/\xs[i]?=some x/\ys[i]?=some y,
  fun i H v H'=>∃T x y,v=.ref T/\H T=none/\H'=upd H T (.tup [x,y])/\(∀xs,j3 K H t a xs->xs[i]?=some x)/\∀ys,j3 K H u b ys->ys[i]?=some y,
  fun i H=>∃xs ys,j3 K H t a xs/\j3 K H u b ys/\((xs.length=i)\/(i<xs.length/\ys.length=i))⟩
structure EE(t u:Bool)(z TI TO i1 i2 l1 l2:Addr)(i:Nat)(h:Heap):Prop where
 hz:IsZip h z TI TO .none
 kC:IsPair h TI (.ref i1) (.ref i2)
 mf:∃x y,IsPair h TO x y
 h1:eY h t i1 l1 i
 h2:eY h u i2 l2 i
theorem Xl{P:Program}{w:World}{K:xA}{elts:List Expr}{x1}{tp:Pos}{t u:Bool}{z TI TO i1 i2 l1 l2:Addr}(D:ZG z TI TO i1 i2 [i1,l1] [i2,l2])(n1:l1≠i1)(n2:l2≠i2):
  Turn P w K (.Tuple elts x1 tp) (wV K t u l1 l2) [z,TI,TO,i1,i2] z (EE t u z TI TO i1 i2 l1 l2) where
 mem:=by simp
 obj:=fun i h st b hb=>by
  obtain⟨hz,kC,⟨x,y,mf⟩,g1,g2⟩:=st;simp only[PD,q0s,q1Z] at hb;rcases hb with rfl|rfl|rfl|rfl|rfl
  ·exact⟨_,hz,fun v z=>by cases z⟩
  ·exact⟨_,kC,fun v z=>by cases z⟩
  ·exact⟨_,mf,fun v z=>by cases z⟩
  ·exact g1.obj
  ·exact g2.obj
 keep:=fun i h h' st k=>by
  obtain⟨hz,kC,⟨x,y,mf⟩,g1,g2⟩:=st;exact⟨k z (by simp) _ hz,k TI (by simp) _ kC,⟨x,y,k TO (by simp) _ mf⟩,g1.at fun o q=>k i1 (by simp) o q,g2.at fun o q=>k i2 (by simp) o q⟩
 item:=by
  intro X hP hw hK hc i pins s σ H E I hf st hg;subst hP hw hK;obtain⟨hz,kC,⟨a,b,mf⟩,g1,g2⟩:=id st;obtain⟨xs,ys,x,y,t8,t9,hx,hy⟩:=hg;obtain⟨ah,rv,p⟩:=I.sq t8;obtain⟨aY,wW,p2⟩:=I.sq t9;have hh:X.A.in1.handled=none:=by rw[q2T];exact I.ok.hd hc
  have lx:=(sR.mp hx).1;have ly:=(sR.mp hy).1;refine Xh (y9 hh t i1 l1 n1 ah.toArray) (y9 hh u i2 l2 n2 aY.toArray) D hz kC mf ⟨g1,p⟩ ⟨g2,p2⟩ (by rw[Hb,<-rv.length];exact lx) (by rw[Hb,<-wW.length];exact ly) fun cu cv k1 tk pu pv z1 t1 a1 a2 Xm zd=>⟨_,rfl,?_⟩;obtain⟨u',hu,ru⟩:=rv.get hx;obtain⟨v',hv,Xn⟩:=wW.get hy;have pu:ah[i]?=some cu:=by simpa using pu
  have pv:aY[i]?=some cv:=by simpa using pv
  rw[hu] at pu;rw[hv] at pv;obtain rfl:=q0E pu;obtain rfl:=q0E pv;refine wpAny_letOwnedTupleGo_zip z1 fun k2 z2 dJ=>?_;have Xo:s.heap.objs.size≠z:=q1L (My hz);have Xp:IsPair k2 s.heap.objs.size u' v':=(dJ.2 _ Xo).trans Xm
  have Xq:∀b o,b∉[z,TI,TO,i1,i2]->s.heap.get? b=some o->k2.get? b=some o:=fun b o hb q=>by
   simp only[PD,q0s,q1Z,q5y] at hb;exact(dJ.2 _ hb.1).trans (zd b o hb.1 hb.2.2.1 hb.2.2.2.1 hb.2.2.2.2 q)
  have hn:H s.heap.objs.size=none:=I.aD.fresh (Bi _);refine⟨.ref s.heap.objs.size,upd H s.heap.objs.size (.tup [x,y]),I.fA (ch:=[z,TI,TO,i1,i2]) (t':=tk) hf Xq (Bi _) ?_,rfl,⟨_,x,y,rfl,hn,rfl,fun zs hy=>by rw[I.me hy t8];exact hx,fun zs tT=>by rw[I.me tT t9];exact hy⟩,⟨z2,?_,⟨u',v',(dJ.2 _ D.a2).trans t1⟩,a1.1.at fun o q=>(dJ.2 _ D.a3).trans q,a2.1.at fun o q=>(dJ.2 _ D.a4).trans q⟩,fun b hb=>?_⟩
  ·exact⟨by show 2<=sizeLine;decide,[u',v'],.cons ru (.cons Xn .nil),_,Xp,rfl,_,rfl⟩
  ·exact(dJ.2 _ D.a1).trans (zd TI _ D.a1 D.a5 D.a6 D.a7 kC)
  ·have:b<s.heap.objs.size:=by
    obtain⟨o1,q1,_⟩:=g1.obj;obtain⟨o2,q2,_⟩:=g2.obj;simp only[PD,q0s,q1Z] at hb;rcases hb with rfl|rfl|rfl|rfl|rfl
    ·exact My hz
    ·exact My kC
    ·exact My mf
    ·exact My q1
    ·exact My q2
   rw[av (q0e this)];exact(hf b hb).1
 done:=by
  intro X hP hw hK hc i pins s σ H E I hf st hg;subst hP hw hK;obtain⟨hz,kC,⟨a,b,mf⟩,g1,g2⟩:=id st;obtain⟨xs,ys,t8,t9,hx⟩:=hg;obtain⟨ah,rv,p⟩:=I.sq t8;obtain⟨aY,wW,p2⟩:=I.sq t9;have hh:X.A.in1.handled=none:=by rw[q2T];exact I.ok.hd hc
  have hl:=rv.length;have sQ:=wW.length;refine Xi (y9 hh t i1 l1 n1 ah.toArray) (y9 hh u i2 l2 n2 aY.toArray) D hz kC mf ⟨g1,p⟩ ⟨g2,p2⟩ ?_ fun k1 tk zd=>⟨rfl,I.jJ (t':=tk) (ch:=[z,TI,TO,i1,i2]) hf fun b o hb q=>?_⟩
  ·rw[Hb,Hb];omega
  ·simp only[PD,q0s,q1Z,q5y] at hb
   exact zd b o hb.1 hb.2.2.1 hb.2.2.2.1 hb.2.2.2.2 q
 self:=fun A i s Q E st h=>q7n st.hz h
theorem Xr(n l1 l2:Nat)(q1:l1<n)(q2:l2<n):ZG (n+4) (n+2) (n+3) n (n+1) [n,l1] [n+1,l2]:=by
 constructor<;>first|(show @Ne Nat _ _;omega)|(intro h;simp only[PD,q0s,q1Z] at h;rcases h with h|h<;>(have h:(_:Nat)=_:=h;omega))
section
variable{X:Cx}{elts:List Expr}{x1:Nat}{tp:Pos}
def Xs(K:xA)(ta:TA):TI:=fun σ H R=>ta σ H fun vs H1=>∃a b t u,vs=[.ref a,.ref b]/\(∃xs,j3 K H1 t a xs)/\(∃ys,j3 K H1 u b ys)/\R (wV K t u a b) H1
theorem Xt{a b:Expr}{ta:TA}{p pos:Pos}(hg:Gl X "zip")(hm:X.mg "zip" = none)(ha:JA X [a,b] ta)(hs:starEach [a,b] X.env=[(false,eval a X.env),(false,eval b X.env)]:=by rfl)(dJ:starEach [b] X.env=[(false,eval b X.env)]:=by rfl):
  JI X (.Tuple elts x1 tp) (.Call (.Name "zip" p) [a,b] [] pos) (Xs X.K ta):=by
 refine⟨fun pins s σ H R I h=>?_⟩;refine Call_ (nM I hg hm P7 (q1B (aW (ha pos pins s σ H _ I h) fun us s1 h0_=>el5 h0_ fun vs H1 I1 r1 q1=>?_) (by rw[hs,dJ]) (by rw[dJ];rfl)));obtain⟨l1,l2,t,u,e,⟨xs,t8⟩,⟨ys,t9⟩,q⟩:=q1;subst e
 cases r1 with
 |cons r rr =>
  cases rr with
  |cons r' Xu =>
   cases Xu
   cases r
   cases r'
   obtain⟨ah,rv,p⟩:=I1.sq t8;obtain⟨aY,wW,p2⟩:=I1.sq t9;have b1:l1<s1.heap.objs.size:=p.lt;have b2:l2<s1.heap.objs.size:=p2.lt;refine Xk p p2 fun h' hz kC mf u9 oC hk=>?_;have I2:Inv X pins σ H1 {s1 with heap:=h'}:=I1.kept (t':=s1.toks) hk;have D:=Xr s1.heap.objs.size l1 l2 b1 b2;refine q7n hz ?_;refine⟨_,_,_,_,H1,rfl,I2,Xl D (q0e b1) (q0e (q0W b2)),⟨hz,kC,⟨_,_,mf⟩,u9,oC⟩,fun b hb=>?_,q⟩
   have hb':s1.heap.objs.size<=b:=by
    simp only[PD,q0s,q1Z] at hb;rcases hb with rfl|rfl|rfl|rfl|rfl
    ·exact q2f _ _
    ·exact q2f _ _
    ·exact q2f _ _
    ·exact Bi _
    ·exact q2f _ _
   exact I1.gv hb' (I1.aD.fresh hb')
end
section
variable[aB]{X:Cx}{a b:Expr}{fa:WA}
def ze(fa:WA):WI:=fun δ K=>fa δ fun xs δ1=>match xs with
 |[x,y]=>mQ x δ1 fun i=>mQ y δ1 fun j=>K ⟨cj i.items j.items,fun δ'=>i.bp δ'/\j.bp δ'⟩ δ1
 |_=>False
theorem Li{F H:Hp}{ad:List Addr}{δ:au}{σ:St}{x:DV}{v:V}{K0:xA}{K:pZ->Prop}(S:SR F ad δ σ H)(hv:fD F ad x v)(h:mQ x δ K):∃a it t,v=.ref a/\K it/\(∃xs,j3 K0 H t a xs) ∧
  ∀(F':Hp)(aw:List Addr)(δ':au)(σ':St)(H':Hp),ar F F'->(∀(k:Nat)(a:Addr),ad[k]?=some a->aw[k]?=some a)->SR F' aw δ' σ' H'->it.bp δ'->∃ws,j3 K0 H' t a ws/\ae F' it.items ws:=by
 obtain⟨a,it,e,hk,r⟩:=Cb S hv h;rcases r with⟨⟨vs,e1⟩,r⟩|⟨⟨vs,e1⟩,r⟩
 ·exact⟨a,it,false,e,hk,⟨vs,aZ.of e1⟩,fun F' aw δ' σ' H' s pre S' ck=>let⟨ws,q1,q2⟩:=r F' aw δ' σ' H' s pre S' ck;⟨ws,aZ.of q1,q2⟩⟩
 ·exact⟨a,it,true,e,hk,⟨vs,bw.of e1⟩,fun F' aw δ' σ' H' s pre S' ck=>let⟨ws,q1,q2⟩:=r F' aw δ' σ' H' s pre S' ck;⟨ws,bw.of q1,q2⟩⟩
theorem Xv{elts:List Expr}{x1:Nat}{tp p pos:Pos}(hg:Gl X "zip")(hm:X.mg "zip" = none)(ha:JA X [a,b] (bK fa))(hs:starEach [a,b] X.env=[(false,eval a X.env),(false,eval b X.env)]:=by rfl)(dJ:starEach [b] X.env=[(false,eval b X.env)]:=by rfl):
  JI X (.Tuple elts x1 tp) (.Call (.Name "zip" p) [a,b] [] pos) (jo (ze fa)):=(Xt hg hm ha hs dJ).weak fun σ H R h0_=>el7 h0_ fun F ad δ K S q k =>⟨F,ad,δ,_,S,q,fun xs δ1 h1 vs F1 aN H1 E1 S1 V1=>by
 match xs,h1,V1 with
 |[x,y],g1,⟨v,r,e,W1,w,r2,e2,W2,W3⟩ =>
  subst e;subst e2;have W4:r2=[]:=W3;subst W4;obtain⟨a,it,t,rfl,wL,sF,r⟩:=Li (K0:=X.K) S1 W1 g1;obtain⟨b,jt,u,rfl,hk,dJ,r'⟩:=Li (K0:=X.K) S1 W2 wL;refine⟨a,b,t,u,rfl,sF,dJ,k _ _ hk _ _ _ _ E1 S1 fun F' aw δ' σ' H' s pre S' ck=>?_⟩;obtain⟨ws,e1,e2⟩:=r F' aw δ' σ' H' s pre S' ck.1;obtain⟨zs,e3,e4⟩:=r' F' aw δ' σ' H' s pre S' ck.2;refine⟨⟨ws,zs,e1,e3,?_⟩,fun i d ed=>?_⟩
  ·rw[e2.length,e4.length,x6];omega
  ·obtain⟨d1,d2,Xw,Xx,rfl⟩:=IL ed
   obtain⟨w1,f1,g1⟩:=qa e2 Xw;obtain⟨w2,f2,g2⟩:=qa e4 Xx;refine⟨⟨ws,zs,w1,w2,e1,e3,f1,f2⟩,fun y kj ⟨T,v1,v2,ey,hT,eh,Xy,Xz⟩=>?_⟩;subst eh ey;have q1:=Xy ws e1;have q2:=Xz zs e3;rw[f1] at q1;cases q1;rw[f2] at q2;cases q2;exact⟨b7 hT,Cc S'.sub hT g1 g2⟩
 |[],h1,_=>exact h1.elim
 |[_],h1,_=>exact h1.elim
 |_::_::_::_,h1,_=>exact h1.elim⟩
end
end L2
namespace LJ
open PySem L2
variable[aB]
theorem XA{ds:List D}{t:Nat}(h:t<=ds.length):cutD ds (some (t:Int)) none=ds.drop t:=by
 unfold cutD;rw[HT.uS ds.length 0 t,HT.AR,q7L h,q1o (by rw[q1V];omega)]
theorem EF{ds:List D}{t:Nat}(h:t<=ds.length):cutD ds none (some (t:Int))=ds.take t:=by
 unfold cutD;rw[HT.AR,HT.uS ds.length ds.length t,q7L h,q4h,q6x]
def EG:GD:=fun ys ovs K=>∃(m:Int)(ws:List Wy)(l:List Int)(n:Int),aG m ws/\(0<=n/\n<(ws.length:Int))/\ys=[.p (ay m ws),.p (aX l),.p (.int n)]/\ovs=[]/\K (.p (.bl (jX l (bF ws n)))) []
def EH:WS:=(ak (iV (dy (d2 (d2 (aa 0) (dC (.int 1)) aV) (aa 2) aV) dw (iX (dC (.int 2)))) (iF 2 (dR (bj 3) (dR (bj 4) ij)))) (aC (d2 (d2 (aa 3) (aa 1) (kn false)) (d2 (aa 4) (aa 1) (kn false)) mU)))
theorem XB:Sem 3 2 EG EH:=by
 rintro ys ovs K'-⟨m,ws,l,n,W,⟨n0,n1⟩,rfl,rfl,k⟩;obtain⟨y,ey,hy,ea,_⟩:=tU W n0 n1;have ew:bF ws n=y:=ey;rw[ew] at k;unfold EH;refine aO fun N hN=>?_;have c2:cutD [D.int y.1,D.int y.2.1,D.int y.2.2] none (some 2)=[D.int y.1,D.int y.2.1]:=rfl;simp? only [ay,eT,ea,bt,c2];subst hN;simp? only [aX];have d0:=tX l;refine⟨by omega,by omega,?_⟩;rw[wI,wI];unfold jX at k;generalize decide (y.1∈l)=p at k;generalize decide (y.2.1∈l)=q at k;cases p<;>cases q<;>exact bN k
noncomputable def wX:D->D
 |.tup [_,n]=>n
 |_=>.non
def EJ:GD:=fun ys ovs K=>∃(m:Int)(ws:List Wy)(l:List Int),aG m ws/\ys=[.p (ay m ws),.p (aX l),.p (aX (bg ws.length))]/\ovs=[]/\∀os:List Int,os.Perm (eW ws l)->(os.map (dA ws)).Pairwise kle->K (.p (aX os)) []
def EK:WS:=(ak (aE 3 (eA (bE (aa 2)) [none,some 0,some 1] (bj 0) (dT (aj 3 EG (ag (aa 1) (ag (aa 2) (ag (aa 0) af))))) (eS (ag (aj 2 D5 (ag (aa 1) (ag (aa 0) af))) (ag (aa 0) af))))) (aC (eA (bE (dN (ag (aa 3) af) yM)) [none,none] (iF 2 (dR (bj 0) (dR (bj 1) ij))) cI (aa 1))))
theorem XC:Sem 3 1 EJ EK:=by
 rintro ys ovs K'-⟨m,ws,l,W,rfl,rfl,k⟩;have pb:=W.gN;have il:=sk ws.length;have ol:=WZ (ws:=ws) (l:=l);unfold EK;refine aO fun N hN=>?_;rw[show aX (bg ws.length)=.lst ((bg ws.length).map D.int) from rfl];simp? only []
 refine tM (fun d=>match d with
  |.int n=>jX l (bF ws n)
  |_=>false) (fun d=>match d with
  |.int n=>jU ws n
  |_=>.non) (by rw[qU];omega) trivial ?_ ?_
 ·intro d hd acc L ha h1 h2
  obtain⟨n,hn,rfl⟩:=q0d.mp hd;have nn:=DR hn;dsimp only at h1 h2;simp? only [];refine⟨m,ws,l,n,W,nn,rfl,rfl,?_⟩;simp? only []
  cases q:jX l (bF ws n) with
  |false=>simp? only [];exact h2 q
  |true =>
   simp? only [];refine⟨m,ws,n,W,nn,rfl,rfl,?_⟩;simp? only [];exact⟨ha,h1 q⟩
 have e:(((bg ws.length).map D.int).filter fun d=>match d with
  |.int n=>jX l (bF ws n)
  |_=>false).map (fun d=>match d with
  |.int n=>jU ws n
  |_=>.non)=(eW ws l).map (jU ws):=by
  rw[q2X,q0o];rfl
 rw[e];subst hN;simp? only [yM]
 refine⟨by omega,fun d=>match d with
  |.tup [.tup ks,.int n]=>(match intsOf ks with
   |some l=>l++[n]
   |none=>[])
  |_=>[],.inr ⟨3,fun d hd=>?_⟩,fun out pm pw=>?_⟩
 ·obtain⟨n,_,rfl⟩:=q0d.mp hd
  refine⟨dA ws n,n,rfl,rfl,?_⟩
  show(match intsOf ((dA ws n).map D.int) with
   |some l=>l++[n]
   |none=>[])=_
  rw[oA]
 ·obtain⟨ns,rfl,pn⟩:∃ns:List Int,out=ns.map (jU ws)/\ns.Perm (eW ws l):=by
   refine⟨out.map fun d=>match d with
    |.tup [_,.int n]=>n
    |_=>0,?_,?_⟩
   ·rw[q0o]
    refine(q4C out).symm.trans (q0R fun d hd=>?_);obtain⟨n,_,rfl⟩:=q0d.mp (pm.mem_iff.mp hd);rfl
   ·have:=pm.map fun d=>match d with
     |.tup [_,.int n]=>n
     |_=>0
    rw[q0o] at this;exact this.trans (List.Perm.of_eq ((q0R fun n _=>rfl).trans (q4C _)))
  have nl:ns.length<=ws.length:=by rw[pn.length_eq];exact ol
  have up:(ns.map (dA ws)).Pairwise kle:=by
   rw[q0o] at pw;rw[q1l] at pw ⊢;refine pw.imp fun{a b} h=>?_
   have h:kle ((match intsOf ((dA ws a).map D.int) with
    |some l=>l++[a]
    |none=>[])) ((match intsOf ((dA ws b).map D.int) with
    |some l=>l++[b]
    |none=>[])):=h
   rw[oA,oA] at h;exact Vq rfl h
  refine L2.kr wX (by rw[qU];omega) trivial ?_ ?_
  ·intro d hd acc L ha h
   obtain⟨n,_,rfl⟩:=q0d.mp hd;simp? only [jU];exact⟨ha,h⟩
  ·have e:(ns.map (jU ws)).map wX=ns.map D.int:=by rw[q0o];rfl
   rw[e];exact bN (k ns pn up)
theorem XD{ws:List Wy}{a b:List (List Int)}:iI ws (a++b)=iI ws a++iI ws b:=by
 unfold iI;rw[q0w,q2s,q0w]
theorem XE{m:Int}{ws:List Wy}(W:aG m ws){l os:List Int}(p:os.Perm (eW ws l))(up:(os.map (dA ws)).Pairwise kle):iI ws [l]=os.take 1:=by
 unfold iI;rw[q0p,q1_,q44]
 cases os with
 |nil =>
  rw[List.nil_perm.mp p,q0a (by simp)];rfl
 |cons a r =>
  have ne:eW ws l≠[]:=fun z=>by rw[z] at p;exact absurd p.length_eq (by simp)
  rw[q0f (q0x ne)];rw[q0p,q1p] at up;have:=Lf W EA (p.mem_iff.mp PE) fun e he=>(PD.mp (p.mem_iff.mpr he)).elim (fun z=>by rw[z];exact kle_refl _) fun z=>up.1 _ (q3f z);show[l_ ws (eW ws l)]=[a];rw[this]
end LJ
namespace LJT
open PySem L2 LJ
variable[aB]
mutual
noncomputable def j4:D->Bool
 |.lst ds=>decide (ds.length<=1000)&&gG ds
 |.tup ds=>decide (ds.length<=1000)&&gG ds
 |_=>true
noncomputable def gG:List D->Bool
 |[]=>true
 |d::r=>j4 d&&gG r
end
theorem gH:∀{ds:List D},gG ds=true->∀d∈ds,j4 d=true
 |[],_,d,h=>nomatch h
 |a::r,hn,d,h=>by
  simp only[gG,q0y] at hn;rcases PD.mp h with rfl|h
  ·exact hn.1
  ·exact gH hn.2 d h
def aK(n:Nat):GD:=fun ys ovs K=>∃d,dep d<=n/\n<=50/\j4 d=true/\ys=[.p d,.p d]/\ovs=[]/\K (.p (.bl true)) []
def aA(EL:GD):WS:=(ak (bf (dT (d2 (aa 1) (dC .non) lH)) (aC (d2 (aa 0) (dC .non) lH)) cG) (ak (bf (iE (dT (d1 (aa 1) (bB "bool"))) (dT (d1 (aa 0) (bB "bool")))) (aC (jm (d1 (aa 1) (bB "bool")) (jm (d1 (aa 0) (bB "bool")) (d2 (aa 0) (aa 1) oEq)))) cG) (ak (bf (dT (d1 (aa 1) (bB "int"))) (aC (jm (d1 (aa 0) (bB "int")) (d2 (aa 0) (aa 1) oEq))) cG) (ak (bf (dT (d1 (aa 1) (bB "str"))) (aC (jm (d1 (aa 0) (bB "str")) (d2 (aa 0) (aa 1) oEq))) cG) (ak (bf (iE (dT (d2 (d1 (aa 1) (bB "tuple")) (d1 (aa 0) (bB "tuple")) mU)) (dT (d2 (d1 (aa 1) (bB "list")) (d1 (aa 0) (bB "list")) mU))) (aC (dC (.bl false))) cG) (ak (bf (dT (d2 (dN (ag (aa 0) af) bC) (dN (ag (aa 1) af) bC) mU)) (aC (dC (.bl false))) cG) (aC (d2 (dC (.bl false)) (eA (ze (ag (aa 0) (ag (aa 1) af))) [none,none] (iF 2 (dR (bj 0) (dR (bj 1) ij))) cI (aj 2 EL (ag (aa 0) (ag (aa 1) af)))) (kn true)))))))))
def iB(g:Nat->GD):Nat->GD
 |0=>fun _ _ _=>False
 |n+1=>g n
theorem XF(g:GD){K':RV->List OV->Prop}(k:K' (.p (.bl true)) []):aA g (gB 0 K') ⟨[some (.p .non),some (.p .non)],[]⟩:=by
 unfold aA;refine aO fun N hN=>?_;simp? only [bG,oP,oQ,oR,oS,oU,ax];exact i9 k
theorem XG(g:GD){K':RV->List OV->Prop}(b:Bool)(k:K' (.p (.bl true)) []):aA g (gB 0 K') ⟨[some (.p (.bl b)),some (.p (.bl b))],[]⟩:=by
 unfold aA;refine aO fun N hN=>?_;simp? only [bG,m_,nh,ni,nk,nq,fM];subst hN;refine aO fun N hN=>?_;simp? only [bG,m_,nh,ni,nk,nq,fM];exact i9 k
theorem same_int(g:GD){K':RV->List OV->Prop}(b:Int)(k:K' (.p (.bl true)) []):aA g (gB 0 K') ⟨[some (.p (.int b)),some (.p (.int b))],[]⟩:=by
 unfold aA;refine aO fun N hN=>?_;simp? only [bG,lW,lX,lY,lZ,l6,fM];subst hN;refine aO fun N hN=>?_;simp? only [bG,lW,lX,lY,lZ,l6,fM];subst hN;refine aO fun N hN=>?_;simp? only [bG,lW,lX,lY,lZ,l6,fM];exact i9 k
theorem same_str(g:GD){K':RV->List OV->Prop}(b:Str)(k:K' (.p (.bl true)) []):aA g (gB 0 K') ⟨[some (.p (.str b)),some (.p (.str b))],[]⟩:=by
 unfold aA;refine aO fun N hN=>?_;simp? only [bG,ku,ky,kz,kA,kB,fM];subst hN;refine aO fun N hN=>?_;simp? only [bG,ku,ky,kz,kA,kB,fM];subst hN;refine aO fun N hN=>?_;simp? only [bG,ku,ky,kz,kA,kB,fM];subst hN;refine aO fun N hN=>?_;simp? only [bG,ku,ky,kz,kA,kB,fM];exact i9 k
theorem XH{n:Nat}{K':RV->List OV->Prop}{ds:List D}(hd:dep (.lst ds)<=n)(hn:n<=50)(nd:j4 (.lst ds)=true)(k:K' (.p (.bl true)) []):aA (iB aK n) (gB 0 K') ⟨[some (.p (.lst ds)),some (.p (.lst ds))],[]⟩:=by
 unfold aA;refine aO fun N hN=>?_;simp? only [bG,oP,oQ,oR,oS,oU,m_,nh,ni,nk,nq,lW,lX,lY,lZ,l6,ku,ky,kz,kA,kB,oV,oW,oX,oY,oZ,o6,o7,o8,o9,o_];subst hN;refine aO fun N hN=>?_;simp? only [bG,oP,oQ,oR,oS,oU,m_,nh,ni,nk,nq,lW,lX,lY,lZ,l6,ku,ky,kz,kA,kB,oV,oW,oX,oY,oZ,o6,o7,o8,o9,o_];subst hN;refine aO fun N hN=>?_;simp? only [bG,oP,oQ,oR,oS,oU,m_,nh,ni,nk,nq,lW,lX,lY,lZ,l6,ku,ky,kz,kA,kB,oV,oW,oX,oY,oZ,o6,o7,o8,o9,o_];subst hN;refine aO fun N hN=>?_;simp? only [bG,oP,oQ,oR,oS,oU,m_,nh,ni,nk,nq,lW,lX,lY,lZ,l6,ku,ky,kz,kA,kB,oV,oW,oX,oY,oZ,o6,o7,o8,o9,o_];subst hN;refine aO fun N hN=>?_;simp? only [bG,o6,o7,o8,o9,o_]
 subst hN;simp only[fM,q2Y,q0G,q1X];refine aO fun N hN=>?_;simp? only [fM];subst hN;obtain⟨m,rfl⟩:∃m,n=m+1:=⟨n-1,by simp only[dep] at hd;omega⟩;have EM:aQ ds<=m:=by simp only[dep] at hd;omega
 have wU:gG ds=true:=by simp only[j4,q0y] at nd;exact nd.2
 have wY:ds.length<=1000:=by simp only[j4,q0y,q0I] at nd;exact nd.1
 have zl:(cj ds ds).length<=1000:=by rw[x6];omega
 simp? only [ze];refine L2.kr (fun d=>.bl true) zl trivial ?_ ?_
 ·intro d ux acc L ha h
  obtain⟨a,rfl,ma⟩:=DC ux;simp? only [];refine⟨a,q02 (DB ma) EM,by omega,gH wU a ma,rfl,rfl,?_⟩;simp? only [];exact⟨ha,h⟩
 ·simp? only []
  have e1:((cj ds ds).map fun _=>D.bl true).any (fun e=>ax e (.bl false))=false:=by
   rw[q2l];intro x hx;obtain⟨_,_,rfl⟩:=q0d.mp hx;simp[ax]
  have e2:aQ ((cj ds ds).map fun _=>D.bl true)<=55:=DD _;exact⟨e2,by rw[e1];exact i9 k⟩
theorem mi{n:Nat}{K':RV->List OV->Prop}{ds:List D}(hd:dep (.tup ds)<=n)(hn:n<=50)(nd:j4 (.tup ds)=true)(k:K' (.p (.bl true)) []):aA (iB aK n) (gB 0 K') ⟨[some (.p (.tup ds)),some (.p (.tup ds))],[]⟩:=by
 unfold aA;refine aO fun N hN=>?_;simp? only [bG,oP,oQ,oR,oS,oU,m_,nh,ni,nk,nq,lW,lX,lY,lZ,l6,ku,ky,kz,kA,kB,oV,oW,oX,oY,oZ,o6,o7,o8,o9,o_];subst hN;refine aO fun N hN=>?_;simp? only [bG,oP,oQ,oR,oS,oU,m_,nh,ni,nk,nq,lW,lX,lY,lZ,l6,ku,ky,kz,kA,kB,oV,oW,oX,oY,oZ,o6,o7,o8,o9,o_];subst hN;refine aO fun N hN=>?_;simp? only [bG,oP,oQ,oR,oS,oU,m_,nh,ni,nk,nq,lW,lX,lY,lZ,l6,ku,ky,kz,kA,kB,oV,oW,oX,oY,oZ,o6,o7,o8,o9,o_];subst hN;refine aO fun N hN=>?_;simp? only [bG,oP,oQ,oR,oS,oU,m_,nh,ni,nk,nq,lW,lX,lY,lZ,l6,ku,ky,kz,kA,kB,oV,oW,oX,oY,oZ,o6,o7,o8,o9,o_];subst hN;refine aO fun N hN=>?_;simp? only [bG,oV,oW,oX,oY,oZ]
 subst hN;simp only[fM,q2Y,q0G,q1X];refine aO fun N hN=>?_;simp? only [fM];subst hN;obtain⟨m,rfl⟩:∃m,n=m+1:=⟨n-1,by simp only[dep] at hd;omega⟩;have EM:aQ ds<=m:=by simp only[dep] at hd;omega
 have wU:gG ds=true:=by simp only[j4,q0y] at nd;exact nd.2
 have wY:ds.length<=1000:=by simp only[j4,q0y,q0I] at nd;exact nd.1
 have zl:(cj ds ds).length<=1000:=by rw[x6];omega
 simp? only [ze];refine L2.kr (fun d=>.bl true) zl trivial ?_ ?_
 ·intro d ux acc L ha h
  obtain⟨a,rfl,ma⟩:=DC ux;simp? only [];refine⟨a,q02 (DB ma) EM,by omega,gH wU a ma,rfl,rfl,?_⟩;simp? only [];exact⟨ha,h⟩
 ·simp? only []
  have e1:((cj ds ds).map fun _=>D.bl true).any (fun e=>ax e (.bl false))=false:=by
   rw[q2l];intro x hx;obtain⟨_,_,rfl⟩:=q0d.mp hx;simp[ax]
  have e2:aQ ((cj ds ds).map fun _=>D.bl true)<=55:=DD _;exact⟨e2,by rw[e1];exact i9 k⟩
theorem fG(n:Nat):Sem 2 0 (aK n) (aA (iB aK n)):=by
 rintro ys ovs K'-⟨d,hd,hn,nd,rfl,rfl,k⟩
 ·cases d with
  |tup ds=>exact mi hd hn nd k
  |non=>exact XF _ k
  |bl b=>exact XG _ b k
  |int b=>exact same_int _ b k
  |str b=>exact same_str _ b k
  |lst ds=>exact XH hd hn nd k
end LJT
namespace LJ
open PySem L2
variable[aB]
def zf(ok:gW):GD:=fun ys ovs K=>∃(m:Int)(ws:List Wy)(d:D)(p:Int),aG m ws/\ys=[.p (ay m ws),.p d]/\ovs=[]/\(∀ds,d=.lst ds->ds.length<=900)/\gY ws.length d=some p/\ok 0 p
theorem XI:∀ok ys ovs K,zf ok ys ovs K->ovs=[]:=fun ok ys ovs K ⟨_,_,_,_,_,_,h,_⟩=>h
def EN(ok:gW):WS:=(ak (lB (aj 2 (yZ ok) (ag (aa 0) (ag (aa 1) af)))) pY)
theorem XJ(ok:gW):Sem 2 3 (zf ok) (EN ok):=by
 rintro ys ovs K'-⟨m,ws,d,p,W,rfl,rfl,dl,hb,o⟩;unfold EN;simp? only [];refine⟨m,ws,d,W,rfl,rfl,dl,fun q hq=>?_,fun z=>?_⟩
 ·rw[hb] at hq;cases hq;exact o
 ·rw[hb] at z;cases z
def zg(ok:gW):GD:=fun ys ovs K=>∃(m:Int)(ws:List Wy)(d:D),aG m ws/\ys=[.p (ay m ws),.p d]/\ovs=[]/\(∀ds,d=.lst ds->ds.length<=900)/\(∀p,gY ws.length d=some p->ok 0 p)/\∀us:List Int,d=aX us->Nums ws us->us.Nodup->K (.p (aX (jY m ws us))) []
theorem XM:∀ok ys ovs K,zg ok ys ovs K->ovs=[]:=fun ok ys ovs K ⟨_,_,_,_,_,h,_⟩=>h
def Lj(ok:gW):WS:=wu ED (ak (C_ 2 (zf ok) (ag (aa 0) (ag (aa 1) af))) pY)
theorem XN(ok:gW):Sem 2 1 (zg ok) (Lj ok):=by
 rintro ys ovs K' hl ⟨m,ws,d,W,rfl,rfl,dl,kb,k⟩
 cases q:gY ws.length d with
 |none =>
  obtain⟨us,rfl,nd,hu⟩:=Eg q;have ul:=dl _ rfl;rw[qU] at ul;exact .inl (W5 _ _ K' hl ⟨m,ws,us,W,hu,nd,ul,rfl,rfl,k us rfl hu nd⟩)
 |some p =>
  refine .inr ?_;simp? only [C_];exact⟨m,ws,d,p,W,rfl,rfl,dl,q,kb p q⟩
noncomputable def gJ(m:Int)(ws:List Wy)(d:D):D:=match gY ws.length d with
 |some p=>.tup [.str "way",.int p]
 |none=>match d with
  |.lst ds=>aX (jY m ws (ds.map intOf))
  |_=>.non
theorem EO{m:Int}{ws:List Wy}{us:List Int}(hu:Nums ws us)(nd:us.Nodup):gJ m ws (aX us)=aX (jY m ws us):=by
 unfold gJ;rw[show gY ws.length (aX us)=none from K7 (seen:=[]) hu nd];show aX (jY m ws ((us.map D.int).map intOf))=_;rw[q0o,show(intOf∘D.int)=id from rfl,q4C]
theorem ER{m:Int}{ws:List Wy}{d:D}{p:Int}(h:gY ws.length d=some p):gJ m ws d=.tup [.str "way",.int p]:=by
 unfold gJ;rw[h]
def ES:GD:=fun ys ovs K=>∃(m:Int)(ws:List Wy)(d:D),aG m ws/\(∀ds,d=.lst ds->ds.length<=900)/\ys=[.p (ay m ws),.p d]/\ovs=[]/\K (.p (gJ m ws d)) []
def ET:WS:=(ak (aE 2 (dC .non)) (ak (aE 3 (dC .non)) (Kc 3 4 (fun ok=>(aE 2 (aj 2 (zg ok) (ag (aa 0) (ag (aa 1) af))))) (aa 2) true)))
theorem XO:Sem 2 3 ES ET:=by
 rintro ys ovs K'-⟨m,ws,d,W,dl,rfl,rfl,k⟩;unfold ET;refine aO fun N hN=>?_;simp? only [];subst hN;refine aO fun N hN=>?_;simp? only [];subst hN;refine⟨⟨rfl,(show 3<5 by decide),(show 4<5 by decide)⟩,?_⟩;simp? only [];refine⟨m,ws,d,W,rfl,rfl,dl,fun p hp=>?_,fun us hd hu nd=>?_⟩
 ·rw[ER hp] at k
  exact bN k
 ·subst hd
  rw[EO hu nd] at k;simp? only [];exact bN k
noncomputable def sy(n:Nat)(d:D):D:=match gY n d with
 |some p=>.lst [.str "way",.int p]
 |none=>.non
def EU:GD:=fun ys ovs K=>∃(m:Int)(ws:List Wy)(d:D),aG m ws/\(∀ds,d=.lst ds->ds.length<=900)/\ys=[.p (ay m ws),.p d]/\ovs=[]/\K (.p (sy ws.length d)) []
def EV:WS:=(ak (bf (bS (dT (aj 1 Ei (ag (aa 0) af)))) (aC (b8 (ag (dC (.str "web")) af))) cG) (ak (bf (bS (dT (d1 (aa 1) (bB "list")))) (aC (b8 (ag (dC (.str "way")) (ag (dC (.int 0)) af)))) cG) (ak (cY (iW (ag (aa 1) af)) (iF 2 (dR (bj 2) (dR (bj 3) ij))) (bf (iE (bS (dT (aj 3 sf (ag (aa 3) (ag (dC (.int 0)) (ag (d2 (dN (ag (d2 (aa 0) (dC (.int 1)) aV) af) bC) (dC (.int 1)) (oI fun i j=>.int (i-j))) af)))))) (dT (d2 (aa 3) (dy (aa 1) dw (iX (aa 2))) (kn false)))) (aC (b8 (ag (dC (.str "way")) (ag (aa 2) af)))) cG)) (aC (dC .non)))))
theorem XQ:Sem 2 2 EU EV:=by
 rintro ys ovs K'-⟨m,ws,d,W,dl,rfl,rfl,k⟩;unfold EV;unfold sy at k;refine aO fun N hN=>?_;refine oJ fun A1 B1 hA hB=>?_;simp? only [];refine⟨m,ws,W,rfl,rfl,?_⟩;simp? only [];subst hB;show N _;subst hN;refine aO fun N hN=>?_;refine oJ fun A1 B1 hA hB=>?_
 have no:(∀ds,d≠.lst ds)->A1 ⟨[some (.p (ay m ws)),some (.p d),none,none],[]⟩:=fun h=>by
  have:gY ws.length d=some 0:=by
   cases d with
   |lst ds=>exact absurd rfl (h ds)
   |_=>rfl
  rw[this] at k;subst hA;simp? only [];exact bN k
 cases d with
 |lst ds =>
  simp? only [bG,aJ,q4c];subst hB;show N _;subst hN;have dl:=dl ds rfl;have el:(jr 0 ds).length=ds.length:=by rw[rH]
  refine aO fun N hN=>?_;refine oK fun g' b' K2 hg hb' hK=>?_;simp? only [];subst hg hb' hK;refine kq (fun i δ=>∃ns:List Int,ds.take i=ns.map D.int/\gY ws.length (.lst ds)=ny ws.length ns i (ds.drop i)/\δ=⟨[some (.p (ay m ws)),some (.p (.lst ds)),none,none],[]⟩) ⟨[],rfl,rfl,rfl⟩ ?_ ?_
  ·rintro i d δ L hi ⟨ns,en,eb,rfl⟩ hL
   obtain⟨e,h1,h2⟩:=rJ hi;rw[q00] at h2;subst h2;obtain⟨il,ei⟩:=sR.mp h1;rw[q07 il,ei] at eb;unfold ny at eb;refine⟨trivial,?_⟩;simp only[iF,dR,ij,bj,gz,gB,Hc,q09,q0p,q1_,q0Y,q0Z,q00,q6e,and_self,true_and,q2n,q10];refine oJ fun A1 B1 hA hB=>?_
   have bad:gY ws.length (.lst ds)=some (i:Int)->A1 ⟨[some (.p (ay m ws)),some (.p (.lst ds)),some (.p (.int (i:Nat))),some (.p e)],[]⟩:=fun h=>by
    rw[h] at k;subst hA;simp? only [];exact bN k
   simp? only [ay,eT] at bad ⊢;refine⟨e,0,ws.length-1,rfl,rfl,?_⟩
   cases q:lV e 0 ((ws.length:Int)-1) with
   |false =>
    rw[q0f (.inl q)] at eb;simp? only [];exact bad eb
   |true =>
    obtain⟨ee,e0,e1⟩:=within_int q;have et:ds.take (i+1)=ds.take i++[e]:=by rw[q2j,h1];rfl
    rw[en] at et;rw[ee] at bad et ⊢;generalize intOf e=x at ee e0 e1 eb bad et;have d0:=tX ns;simp? only [];rw[EF (by omega),en];refine⟨by omega,?_⟩;rw[wI]
    by_cases c:x∈ns
    ·rw[q0f (.inr c)] at eb
     rw[q0x c];simp? only [];exact bad eb
    ·rw[q0a (fun z=>z.elim (fun z=>by rw[q] at z;cases z) c)] at eb
     rw[q0r c];simp? only [];subst hB;refine hL _ ⟨ns++[x],by rw[et,q0w];rfl,eb,rfl⟩
  ·rintro δ ⟨ns,en,eb,rfl⟩
   rw[el,q7j] at eb;rw[eb] at k;refine⟨trivial,?_⟩;subst hN;simp? only [];exact bN k
 |_=>simp? only [bG,aJ];exact no fun ds z=>nomatch z
def EW:GD:=fun ys ovs K=>∃(m:Int)(ws:List Wy)(d:D),aG m ws/\(∀ds,d=.lst ds->ds.length<=900)/\ys=[.p (ay m ws),.p d]/\ovs=[]/\K (.p (gJ m ws d)) []
def EX:WS:=(ak (aE 2 (aj 2 EU (ag (aa 0) (ag (aa 1) af)))) (ak (bf (dT (d2 (aa 2) (dC .non) ym)) (aC (dN (ag (aa 2) af) tI)) cG) (ak (aE 3 (b8 af)) (ak (cY (bE (aj 2 DP (ag (aa 0) (ag (aa 1) af)))) (bj 4) (aE 3 (d2 (aa 3) (dy (aj 3 EJ (ag (aa 0) (ag (aa 4) (ag (aj 1 yK (ag (aa 0) af)) af)))) dw (iX (dC (.int 1)))) cJ))) (aC (dN (ag (aa 3) af) qd))))))
theorem XR:Sem 2 3 EW EX:=by
 rintro ys ovs K'-⟨m,ws,d,W,dl,rfl,rfl,k⟩;have pb:=W.gN;unfold EX;refine aO fun N hN=>?_;simp? only [];refine⟨m,ws,d,W,dl,rfl,rfl,?_⟩;unfold sy
 cases q:gY ws.length d with
 |some p =>
  rw[ER q] at k;simp? only [];subst hN;refine aO fun N hN=>?_;simp? only [];exact bN k
 |none =>
  obtain⟨us,rfl,nd,hu⟩:=Eg q;rw[EO hu nd] at k;simp? only [];subst hN;refine aO fun N hN=>?_;simp? only [];subst hN;refine aO fun N hN=>?_;simp? only [];subst hN;refine aO fun N hN=>?_;refine oK fun g' b' K2 hg hb' hK=>?_;simp? only [];refine⟨m,ws,us,W,hu,.inl ⟨rfl,rfl,?_⟩⟩;rw[W6 W hu,show si (eJ m ws us)=.lst ((eJ m ws us).map aX) from rfl];simp? only [];subst hg hb' hK;obtain⟨ll,lf⟩:=K8 W hu;rw[show(D.lst [])=D.lst ((iI ws ((eJ m ws us).take 0)).map D.int) from rfl];refine kq (fun i δ=>δ=⟨[some (.p (ay m ws)),some (.p (aX us)),some (.p .non),some (.p (.lst ((iI ws ((eJ m ws us).take i)).map D.int))),none],[]⟩) rfl ?_ ?_
  ·rintro i d δ L2 hi rfl nE
   rw[q0b] at hi;obtain⟨l,XT,rfl⟩:=q0g.mp hi;have et:(eJ m ws us).take (i+1)=(eJ m ws us).take i++[l]:=by rw[q2j,XT];rfl
   have cl:=EB (ws:=ws) (ls:=(eJ m ws us).take i);rw[q0L] at cl;have nE:=nE _ rfl;rw[et,XD] at nE;refine⟨trivial,?_⟩;simp only[bj,q0Y,q0Z];simp? only [];refine⟨m,ws,W,rfl,rfl,?_⟩;simp? only [];refine⟨m,ws,l,W,rfl,rfl,fun os pm up=>?_⟩;rw[XE W pm up,q0w] at nE;rw[show aX os=.lst (os.map D.int) from rfl];simp? only []
   have ct:cutD (os.map D.int) none (some 1)=(os.take 1).map D.int:=by
    cases os with
    |nil=>rfl
    |cons a r=>rw[show(1:Int)=((1:Nat):Int) from rfl,EF (by simp),q4Q]
   rw[ct];refine⟨by rw[qU,q0L];omega,nE⟩
  ·rintro δ rfl
   refine⟨trivial,?_⟩;rw[qU,q2M];have cl:=EB (ws:=ws) (ls:=eJ m ws us);subst hN;simp? only [oA];refine⟨by omega,?_⟩;rw[show sortI (ju (iI ws (eJ m ws us)))=jY m ws us from rfl];exact bN k
abbrev EL:=LJT.aK 2
noncomputable abbrev KL:KS:=⟨fun _=>False,fun x _=>x=.p (.bl true),fun _=>False,fun _=>False⟩
def EY:WS:=(ak (cY (mR (ag (dC (.int 3)) af)) (bj 2) (ak (aE 3 (aj 3 Du (ag (aj 1 Di (ag (aa 1) af)) (ag (d2 (b8 (ag (dC (.int 12)) (ag (dC (.int 6)) (ag (dC (.int 9)) af)))) (aa 2) aV) (ag (dC (.int 30)) af))))) (ak (aE 4 (dN (ag (d2 (aa 3) (dC (.int 1)) aV) af) bC)) (ak (aE 5 (aj 3 DT (ag (aa 1) (ag (aa 3) (ag (dC (.int 8)) af))))) (ak (aE 6 (aj 2 gX (ag (aa 1) (ag (d2 (dN (ag (aa 5) af) bC) (dC (.int 1)) cJ) af)))) (ak (aE 7 (d2 (b8 (ag (d1 (dC (.int 1)) lF) (ag (aa 4) (ag (dC (.bl true)) (ag (dC (.bl false)) (ag (dC .non) (ag (dC (.str "0")) (ag (eS (ag (dC (.int 0)) af)) (ag (b8 (ag (dC (.int 0)) af)) (ag (d2 (dC (.int 10)) (dC (.int 20)) (dF eN fun i j=>.int (i ^ j.toNat))) (ag (d2 (d2 (aa 5) (b8 (ag (aa 4) af)) cJ) (dC (.int 0)) aV) af))))))))))) (aj 2 gX (ag (aa 1) (ag (dC (.int 10)) af))) aV)) (ak (aE 8 (b8 (ag (aa 5) (ag (b8 af) (ag (dy (aa 5) dw (iX (dC (.int 3)))) (ag (aj 1 yK (ag (aa 3) af)) (ag (d2 (d2 (dy (aa 5) dw (iX (aa 6))) (b8 (ag (aa 7) af)) cJ) (dy (aa 5) (iX (aa 6)) dw) cJ) (ag (d2 (d2 (d2 (dy (aa 5) dw (iX (aa 6))) (b8 (ag (aa 7) af)) cJ) (dy (aa 5) (iX (aa 6)) dw) cJ) (b8 (ag (d1 (dC (.int 1)) lF) af)) cJ) af)))))))) (cY (bE (d2 (aa 8) (b8 (ag (dN (ag (aa 5) af) tI) (ag (dC .non) (ag (dC (.str "")) (ag (dC (.int 7)) af))))) cJ)) (bj 9) (ak (aE 10 (tu (dT (d1 (aa 9) (bB "list"))) (dN (ag (aa 9) af) yc) (aa 9))) (bf (iE (bS (dT (aj 2 EL (ag (aj 2 ES (ag (aa 3) (ag (aa 10) af))) (ag (aj 2 EW (ag (aa 3) (ag (aa 9) af))) af))))) (dT (d2 (aa 10) (aa 9) mU))) (aC (dC (.bl false))) cG)))))))))) (aC (dC (.bl true))))
theorem Lk:∀us:List Int,LJT.gG (us.map D.int)=true
 |[]=>rfl
 |u::r=>by rw[q0p];simp only[LJT.gG,LJT.j4,Lk r,q8C]
theorem XU{m:Int}{ws:List Wy}(W:aG m ws){d:D}(dl:∀ds,d=.lst ds->ds.length<=900):dep (gJ m ws d)<=2/\LJT.j4 (gJ m ws d)=true:=by
 cases q:gY ws.length d with
 |some p=>rw[ER q];exact⟨by simp[dep,aQ],rfl⟩
 |none =>
  obtain⟨us,rfl,nd,hu⟩:=Eg q;rw[EO hu nd];have rl:=Xc (Xb (m:=m) (ws:=ws) (us:=us)) W_;have pb:=W.gN;have d0:=tX (jY m ws us);refine⟨?_,?_⟩
  ·show dep (.lst _)<=2
   simp only[dep];omega
  ·show LJT.j4 (.lst _)=true
   simp only[LJT.j4,Lk,qU,q4O];exact q0x (by omega)
theorem XW{xs:List D}{k:Int}(h0:0<=k)(h1:k<xs.length):∃r∈xs,eO xs k=some r:=by
 obtain⟨i,rfl⟩:∃i:Nat,k=i:=⟨k.toNat,by omega⟩;have hi:i<xs.length:=by omega
 exact⟨xs[i],q1K hi,kS (qV hi)⟩
def Itm(d:D):Prop:=dep d<=3/\∀ds,d=.lst ds->ds.length<=900
theorem t_{ds:List D}(h:aQ ds<=2)(l:ds.length<=900):Itm (.lst ds):=⟨by simp only[dep];omega,fun es e=>by cases e;exact l⟩
theorem zh:∀a b:List D,aQ (a++b)<=max (aQ a) (aQ b)
 |[],b=>by simp[aQ]
 |x::r,b=>by
  have:=zh r b;simp only[q3V,aQ];omega
theorem XX(ns:List Int)(hn:ns.length<=63):EY KL ⟨none::some (.o 0)::q0h 9 none,[some (i8 ns 0 0)]⟩:=by
 unfold EY;refine aO fun N hN=>?_;simp? only [];refine⟨by decide,?_⟩;refine kq (fun i δ=>∃o,bh (1000*i) o/\δ=⟨none::some (.o 0)::q0h 9 none,[some o]⟩) ⟨i8 ns 0 0,⟨ns,0,0,rfl,hn,by omega,by omega⟩,rfl⟩ ?_ ?_
 ·rintro j d δ L hj ⟨o,P,rfl⟩ hL
  obtain⟨EZ,rfl⟩:=oz hj;have EZ:j<3:=EZ;refine⟨trivial,?_⟩;simp only[bj,q1y,q55,q0Y,q0Z]
  obtain⟨hs,ea,h1,Kj⟩:∃hs:Int,eO [D.int 12,D.int 6,D.int 9] (0+(j:Int))=some (.int hs)/\1<=hs/\hs<=12:=by
   match j,EZ with
   |0,_=>exact⟨12,rfl,by decide,by decide⟩
   |1,_=>exact⟨6,rfl,by decide,by decide⟩
   |2,_=>exact⟨9,rfl,by decide,by decide⟩
  generalize(0+(j:Int))=jt at ea;refine aO fun N2 eU=>?_;simp? only [];refine⟨1000*j,o,rfl,rfl,P,fun o1 P1=>?_⟩;simp? only [ea];refine⟨1000*j,hs,30,o1,rfl,rfl,P1,by omega,by omega,by omega,by omega,by omega,fun m ws o2 W _ _ P2=>?_⟩;have pb:=W.gN;simp? only [];subst eU;refine aO fun N2 eU=>?_;simp? only [ay,eT];subst eU;refine aO fun N2 eU=>?_;simp? only [];refine⟨1000*j+400,m,8,ws,o2,W,rfl,rfl,P2.mono (by omega),by omega,by omega,by omega,fun us o3 hu nd u8 ul P3=>?_⟩;simp? only [];subst eU;refine aO fun N2 eU=>?_;simp? only [];refine⟨1000*j+450,us.length+1,o3,rfl,rfl,P3.mono (by omega),by omega,by omega,by omega,fun r o4 r0 r1 P4=>?_⟩
  obtain⟨t,rfl⟩:∃t:Nat,r=t:=⟨r.toNat,by omega⟩;have tl:t<=us.length:=by omega
  simp? only [];subst eU;refine aO fun N2 eU=>?_
  obtain⟨x0,e0⟩:∃x0:Int,eO (us.map D.int++[D.int ws.length]) 0=some (.int x0):=by
   cases us with
   |nil=>exact⟨_,fO⟩
   |cons a r=>exact⟨_,fO⟩
  simp? only [];refine⟨?_,by omega,?_⟩
  ·unfold eN;decide
  simp? only [e0];refine⟨1000*j+460,10,o4,rfl,rfl,P4.mono (by omega),by omega,by omega,by omega,fun c o5 c0 c1 P5=>?_⟩;obtain⟨odd,sA⟩:∃odd:List D,odd=[D.int (-1),D.int ws.length,D.bl true,D.bl false,D.non,D.str "0",D.tup [D.int 0],D.lst [D.int 0],D.int (10 ^ q7e 20),D.int x0]:=⟨_,rfl⟩;have ol:odd.length=10:=by rw[sA];rfl
  have od:∀x∈odd,dep x<=1:=by
   intro x hx;rw[sA] at hx;simp only[PD,q0s,q1Z] at hx;rcases hx with rfl|rfl|rfl|rfl|rfl|rfl|rfl|rfl|rfl|rfl<;>simp[dep,aQ]
  rw[<-sA];obtain⟨x1,XY,e1⟩:=XW (xs:=odd) (k:=c) c0 (by rw[ol];omega);have x1d:=od x1 XY;simp? only [e1];subst eU;refine aO fun N2 eU=>?_;have c1:cutD (us.map D.int) none (some (t:Int))=(us.take t).map D.int:=by rw[EF (by rw[qU];exact tl),<-q4Q]
  have c2:cutD (us.map D.int) (some (t:Int)) none=(us.drop t).map D.int:=by rw[XA (by rw[qU];exact tl),<-q6d]
  obtain⟨l3,c3⟩:∃l3:List Int,cutD (us.map D.int) none (some 3)=l3.map D.int/\l3.length<=30:=by
   refine⟨_,UE us none (some 3),?_⟩;have:=q59 (HT.aU us.length us.length (some 3)-HT.aU us.length 0 none) (us.drop (HT.aU us.length 0 none));rw[q0L,q1V];omega
  simp? only [c1,c2,c3.1];refine⟨m,ws,W,rfl,rfl,?_⟩;simp? only [c1,c2,c3.1];have la:=q59 t us;have lb:(us.drop t).length<=us.length:=by rw[q1V];omega
  refine⟨by omega,by omega,by omega,by omega,by omega,?_⟩;have zz:∀us:List Int,aQ (us.map D.int)=0:=tX
  have mid:aQ (q1F D.int (q29 t us)++[x1]++q1F D.int (q2_ t us))<=1:=by
   have y1:=zh (q1F D.int (q29 t us)++[x1]) (q1F D.int (q2_ t us));have y2:=zh (q1F D.int (q29 t us)) [x1];have y3:aQ [x1]=dep x1:=by simp[aQ]
   rw[zz] at y1 y2;omega
  have last:aQ (q1F D.int (q29 t us)++[x1]++q1F D.int (q2_ t us)++[D.int (-1)])<=1:=by
   have y1:=zh (q1F D.int (q29 t us)++[x1]++q1F D.int (q2_ t us)) [D.int (-1)];have y3:aQ [D.int (-1)]=0:=by simp[aQ,dep]
   omega
  subst eU;refine oK fun g' b' K2 hg hb' hK=>?_;simp? only [];subst hg hb' hK;obtain⟨ah,hits⟩:∃ah:List D,ah=[D.lst (q1F D.int us),D.lst [],D.lst (q1F D.int l3),D.lst (q1F D.int (bg ws.length)),D.lst (q1F D.int (q29 t us)++[x1]++q1F D.int (q2_ t us)),D.lst (q1F D.int (q29 t us)++[x1]++q1F D.int (q2_ t us)++[D.int (-1)]),D.tup (q1F D.int us),D.non,D.str "",D.int 7]:=⟨_,rfl⟩
  have all:∀d∈ah,Itm d:=by
   intro d hd;rw[hits] at hd;simp only[PD,q0s,q1Z] at hd;rcases hd with rfl|rfl|rfl|rfl|rfl|rfl|rfl|rfl|rfl|rfl
   ·exact t_ (by rw[zz];omega) (by rw[qU];omega)
   ·exact t_ (by simp[aQ]) (by simp)
   ·exact t_ (by rw[zz];omega) (by rw[qU];omega)
   ·exact t_ (by rw[zz];omega) (by rw[qU,sk];omega)
   ·exact t_ (by omega) (by simp only[Hd,qU,Hc,q09];omega)
   ·exact t_ (by omega) (by simp only[Hd,qU,Hc,q09];omega)
   ·exact⟨by simp only[dep,zz];omega,fun ds z=>nomatch z⟩
   ·exact⟨by simp[dep],fun ds z=>nomatch z⟩
   ·exact⟨by simp[dep],fun ds z=>nomatch z⟩
   ·exact⟨by simp[dep],fun ds z=>nomatch z⟩
  rw[<-hits];generalize(D.lst [D.lst (q1F D.int us),D.lst [],D.lst (q1F D.int l3),D.lst (q1F D.int (bg ws.length)),D.lst (q1F D.int (q29 t us)++[x1]++q1F D.int (q2_ t us)),D.lst (q1F D.int (q29 t us)++[x1]++q1F D.int (q2_ t us)++[D.int (-1)])])=Ls;refine kq (fun _ δ=>δ=⟨[none,some (.o 0),some (.p (.int jt)),some (.p (.tup [.int m,.tup (ws.map bt)])),some (.p (.int ws.length)),some (.p (.lst (us.map D.int))),some (.p (.int t)),some (.p x1),some (.p Ls),none,none],[some o5]⟩) rfl ?_ ?_
  ·rintro i d δ L3 hi rfl E5
   have E5:=E5 _ rfl;obtain⟨i1,i2⟩:=all d (q0M hi);obtain⟨s1,s2⟩:=XU (m:=m) W i2;refine⟨trivial,?_⟩;simp only[bj,q0Y,q0Z];refine aO fun N2 eU=>?_
   have go:N2 ⟨[none,some (.o 0),some (.p (.int jt)),some (.p (.tup [.int m,.tup (ws.map bt)])),some (.p (.int ws.length)),some (.p (.lst (us.map D.int))),some (.p (.int t)),some (.p x1),some (.p Ls),some (.p d),some (.p d)],[some o5]⟩:=by
    subst eU;refine oJ fun A1 B1 hA hB=>?_;simp? only [];refine⟨m,ws,d,W,i2,rfl,rfl,?_⟩;simp? only [];refine⟨m,ws,d,W,i2,rfl,rfl,?_⟩;simp? only [];refine⟨gJ m ws d,s1,by decide,s2,rfl,rfl,?_⟩;simp? only [];refine⟨by omega,?_⟩;rw[fM];simp? only [];subst hB;exact E5
   cases d with
   |lst ds =>
    have dl:=i2 ds rfl;simp? only [bG,aJ,q4c]
    first|exact go|exact⟨by omega,go⟩
   |_=>simp? only [bG,aJ];exact go
  ·rintro δ rfl
   exact⟨trivial,hL _ ⟨o5,P5.mono (by omega),rfl⟩⟩
 ·rintro δ ⟨o,P,rfl⟩
  refine⟨trivial,?_⟩;subst hN;simp? only []
end LJ
namespace L2
open PySem PySem.Spec PyProof.Rows
noncomputable def XZ:Expr->List Str
 |.Name x _=>[x]
 |.Tuple es _ _=>es.filterMap fun
  |.Name x _=>some x
  |_=>none
 |_=>[]
noncomputable def cy(N:List Str)(cp:List (Option Nat))(tg:Expr):List Str:=XZ tg++cp.filterMap fun c=>c.bind fun i=>N[i]?
variable[aB]
section
variable{X:Cx}{tg iter elt:Expr}{ifs:List Expr}{scope:Scope}{pos:Pos}{w:WI}{g:WG}{t:WT}{f:WE}{cp:List (Option Nat)}
theorem X0(hi:JI X tg iter (jo w))(hg:∀d,(cy X.N cp tg).Nodup->JG (bQ X scope (cy X.N cp tg) d) tg (jn g))(hf:∀d,JF (bQ X scope (cy X.N cp tg) d) ifs (cA t))(he:∀d,JE (bQ X scope (cy X.N cp tg) d) elt (tD f))(hc:X.calm=true:=by rfl)(hn:decide (cy X.N cp tg).Nodup=true:=by kernel_rfl)
  (hk:scope.kind=.function:=by rfl) (ho:kh X.N X.env.scope scope (cy X.N cp tg) cp=true:=by kernel_rfl) (hs:∀x,foldedSetIterable iter X.env x=pure x:=by intro _;rfl) :
  JE X (.ListComp elt [⟨tg,iter,ifs,0⟩] scope pos) (tD (eA w cp g t f)):=IB cp _ hc hi (fun d=>hg d (q05 hn)) hf he hk ho hs
theorem X1(hi:JI X tg iter (jo w))(hg:∀d,(cy X.N cp tg).Nodup->JG (bQ X scope (cy X.N cp tg) d) tg (jn g))(hf:∀d,JF (bQ X scope (cy X.N cp tg) d) ifs (cA t))(he:∀d,JE (bQ X scope (cy X.N cp tg) d) elt (tD f))(hc:X.calm=true:=by rfl)(hn:decide (cy X.N cp tg).Nodup=true:=by kernel_rfl)
  (hk:scope.kind=.function:=by rfl) (ho:kh X.N X.env.scope scope (cy X.N cp tg) cp=true:=by kernel_rfl) (hs:∀x,foldedSetIterable iter X.env x=pure x:=by intro _;rfl) :
  JE X (.ListComp elt [⟨tg,iter,ifs,0⟩] scope pos) (tD (p9 w cp g t f)):=Rw cp _ hc hi (fun d=>hg d (q05 hn)) hf he hk ho hs
theorem X7[bL]{i:Nat}{x:Str}{pos' fw:Pos}(hN:X.N.Nodup)(hit:JI X tg iter (jo w))(hg:∀d,(cy X.N cp tg).Nodup->JG (bQ X scope (cy X.N cp tg) d) tg (jn g))(hf:∀d,JF (bQ X scope (cy X.N cp tg) d) ifs (cA t))(he:∀d,JE (bQ X scope (cy X.N cp tg) d) elt (tD f))(hi:X.N[i]?=some x:=by rfl)(hx:Loc X.env.scope x:=by trivial)(hc:X.calm=true:=by rfl)(hn:decide (cy X.N cp tg).Nodup=true:=by kernel_rfl)
  (hk:scope.kind=.function:=by rfl) (ho:kh X.N X.env.scope scope (cy X.N cp tg) cp=true:=by kernel_rfl) (hs:∀x,foldedSetIterable iter X.env x=pure x:=by intro _;rfl)
  (qY:swapsWith (.ListComp elt [⟨tg,iter,ifs,0⟩] scope pos) (some (.Name x pos')) fw.line X.env=pure true:=by rfl)
  (iN:dG X x:=by first|exact .inl rfl|exact .inr rfl|assumption) :
  JS X (.Assign [.Name x pos'] (.ListComp elt [⟨tg,iter,ifs,0⟩] scope pos) fw) (b9 (aE i (eA w cp g t f))):=Rx cp _ hN hi hx hc hit (fun d=>hg d (q05 hn)) hf he hk ho hs qY iN
end
end L2
namespace LJ
open PySem L2 PySem.Spec PySem.W PyProof.Rows
variable[aB]{X:Cx}{Z:Ev}{x:Str}{ps:List Str}{G:GD}{e:Expr}{es:List Expr}{fa:WA}{p pos:Pos}{j k n:Nat}
end LJ
namespace LJ
open PySem L2
noncomputable def top(i:Nat):Stmt:=PySem.Challenge.pw_lotjoin_k21_one_round.main.body.getD i (.Pass ⟨0,0,0,0⟩)
section
variable[aB]{Z:Ev}
set_option hygiene false
local macro_rules | `(tactic| ac_rfl) => `(tactic| repeat' first|(show JE _ (.Name _ _) _;(first|exact dv _|exact TH (by assumption)))|(show JE _ (.Constant _ _ _) _;(first|exact Ik|exact xM|exact vB|exact Rc))|(show JA _ _ _;(first|exact lq|refine cX ?_ ?_|refine BO ?_ ?_|refine BP ?_ ?_|refine vC ?_ ?_|refine BR ?_ ?_|refine BQ ?_ ?_|refine Rg ?_ ?_))|(show JE _ (.Call _ _ _ _) _;(first|refine lM (by assumption) hr ?_|refine TF (by assumption) hr ?_|refine pX Cq (by rfl) B.len q4v ?_|refine pX (Sd rfl) (by rfl) B.all Q5 ?_|refine pX (Se rfl) (by rfl) B.min Jw ?_|refine pX (Sf rfl) (by rfl) B.max Su ?_|refine pX (Vh hu) (by rfl) B.sorted CC ?_|refine pX Sb (by rfl) B.sorted CC ?_|refine Im R_ (by rfl) B.list rp ?_|refine Im Sa (by rfl) B.tuple vx ?_|refine iH Cu (by rfl) B.isinstance (by rfl) B.int BJ ?_|refine iH vW (by rfl) B.isinstance (by rfl) B.bool vw ?_|refine iH Cv (by rfl) B.isinstance (by rfl) B.tuple vx ?_|refine iH Cw (by rfl) B.isinstance (by rfl) B.list rp ?_|refine Sg rfl (by rfl) B.list rp (by rfl) B.range Jv ?_|refine Sv rfl (by rfl) B.list rp (by rfl) B.range Jv ?_|refine SG rfl (by rfl) B.sorted CC (by rfl) B.set HX ?_|refine US rfl hu (by rfl) B.len q4v (by rfl) B.set HX ?_|refine(qO q12 q4R q4S Bb ?_ ?_).weak Sk|refine(qO q12 PySem.F.slot_list_extend PySem.F.type_list_extend Py ?_ ?_).weak Sl|refine(qO q12 PySem.F.slot_list_pop PySem.F.type_list_pop Pz ?_ ?_).weak Sm))|(show JE _ (.Subscript _ _ _) _;(first|refine BN Cp ?_ ?_ fun _ _=>rfl|refine SV ?_ ?_ ?_))|(show JE _ (.BinOp _ _ _ _) _;(first|refine sZ (op:=.Add) SQ ?_ ?_|refine sZ (op:=.Sub) RU ?_ ?_|refine sZ (op:=.Mult) RW ?_ ?_|refine sZ (op:=.Mod) RY ?_ ?_|refine sZ (op:=.FloorDiv) RX ?_ ?_|refine sZ (op:=.Pow) RZ ?_ ?_|refine Sw ?_ ?_))|(show JE _ (.Compare _ _ _ _) _;(first|refine mM (op:=.Eq) (vR hu) ?_ ?_ (by rfl)|refine mM (op:=.NotEq) (vS hu) ?_ ?_ (by rfl)|refine mM (op:=.Lt) (IV hu) ?_ ?_ (by rfl)|refine mM (op:=.Gt) IX ?_ ?_ (by rfl)|refine mM (op:=.In) (I0 hu) ?_ ?_ (by rfl)|refine R8 IW IW ?_ ?_ ?_))|(show JE _ _ _;(first|refine Ri ?_|refine Rj ?_|refine Rh ?_|refine vG ?_ ?_|refine xS ?_|refine Ro ?_|refine R7 ?_|refine Rp ?_ ?_ ?_|exact Vr|refine X0 ?_ (fun d nd=>?_) (fun d=>?_) fun d=>?_|refine X1 ?_ (fun d nd=>?_) (fun d=>?_) fun d=>?_))|(show JS _ _ _;(first|refine Um (by assumption) R JU hr ?_|refine Uu (by assumption) R hr ?_|refine om ?_|refine rB ?_ ?_ ?_|refine X7 nd ?_ (fun d nd=>?_) (fun d=>?_) fun d=>?_|refine BU nd rfl (by trivial) ?_|refine Iq ?_|refine Vv hu ?_ ?_ ?_|refine(Av ?_ (Gz ?_ ?_ set_list)).weak Sn|refine Rt ?_ ?_|refine Iw q5m rfl ?_ ?_ ?_|refine Iw PassesOwn.leaving rfl ?_ ?_ ?_|exact Sx))|(show bz _ _ _;(first|refine mO ?_|refine mP ?_ ?_|exact rA|exact Ir))|(show JT _ _ _;(first|refine lA (op:=.Eq) (vR hu) ?_ ?_ (by rfl)|refine lA (op:=.NotEq) (vS hu) ?_ ?_ (by rfl)|refine lA (op:=.Lt) (IV hu) ?_ ?_ (by rfl)|refine lA (op:=.Gt) IX ?_ ?_ (by rfl)|refine lA (op:=.GtE) R0 ?_ ?_ (by rfl)|refine lA (op:=.In) (I0 hu) ?_ ?_ (by rfl)|refine lA (op:=.IsNot) SX ?_ ?_ (by rfl)|refine Vu hu ?_ ?_|refine Rk ?_|refine JW.jt (xQ ?_ ?_)|refine JW.jt (Ip ?_ ?_)|refine vF ?_))|(show JW _ _ _;(first|refine xQ ?_ ?_|refine BS ?_|refine Ip ?_ ?_|refine Rn ?_))|exact R5|refine R6 ?_|refine RR (by rfl) B.range ?_|refine RS (by rfl) B.range ?_|refine RQ (by rfl) B.enumerate ?_|refine RP ?_|exact xT nd rfl (by trivial)|refine Iv rfl ?_|exact Iu|refine BV ?_ ?_|exact BY|refine Ru ?_)
noncomputable abbrev Ll:Stmt:=top 19
abbrev Lm(Z:Ev):Prop:=Fx Z 1 "is_whole" ["thing"] 1 yD
theorem X8(D:Dx Z "is_whole" Ll)(B:BT Z.mg):Lm Z:=de (N:=["thing"]) D mX fun hr nd hu=>⟨Dw,(by ac_rfl),Km⟩
noncomputable abbrev Ln:Stmt:=top 20
abbrev ua(Z:Ev):Prop:=Fx Z 2 "is_within" ["thing", "least", "most"] 3 oO
theorem X9(D:Dx Z "is_within" Ln)(B:BT Z.mg)(z1M:Lm Z):ua Z:=de (N:=["thing", "least", "most"]) D oG fun hr nd hu=>⟨Dy,(by ac_rfl),Kn⟩
noncomputable abbrev Lo:Stmt:=top 21
abbrev E7(Z:Ev):Prop:=Fx Z 1 "is_tuple_of" ["thing", "size"] 2 yE
theorem X_(D:Dx Z "is_tuple_of" Lo)(B:BT Z.mg):E7 Z:=de (N:=["thing", "size"]) D fN fun hr nd hu=>⟨Dz,(by ac_rfl),UO⟩
noncomputable abbrev Lp:Stmt:=top 22
abbrev Lq(Z:Ev):Prop:=Fx Z 3 "are_ends" ["many", "one", "other"] 3 DE
theorem Ya(D:Dx Z "are_ends" Lp)(B:BT Z.mg)(zi:ua Z):Lq Z:=de (N:=["many", "one", "other"]) D oG fun hr nd hu=>⟨DF,(by ac_rfl),UT⟩
noncomputable abbrev Lr:Stmt:=top 23
abbrev Lu(Z:Ev):Prop:=Fx Z 4 "is_way" ["many", "thing"] 2 DG
theorem Yb(D:Dx Z "is_way" Lr)(B:BT Z.mg)(x9G:Ct Z "MOST_PRICE" 1000000000)(Yc:E7 Z)(z1O:Lq Z)(zi:ua Z):Lu Z:=de (N:=["many", "thing"]) D fN fun hr nd hu=>⟨DH,(by ac_rfl),UU⟩
noncomputable abbrev Lw:Stmt:=top 24
abbrev Lx(Z:Ev):Prop:=Fx Z 5 "are_ways" ["many", "thing"] 2 DI
theorem Yd(D:Dx Z "are_ways" Lw)(B:BT Z.mg)(z1K:Ct Z "MOST_WAYS" 30)(z3I:Lu Z):Lx Z:=de (N:=["many", "thing"]) D fN fun hr nd hu=>⟨DJ,(by ac_rfl),UW⟩
noncomputable abbrev Ly:Stmt:=top 25
abbrev Lz(Z:Ev):Prop:=Fx Z 6 "is_web" ["thing"] 1 DK
theorem Ye(D:Dx Z "is_web" Ly)(B:BT Z.mg)(x8Q:Ct Z "MOST_HOUSES" 12)(Yc:E7 Z)(zi:ua Z)(z1N:Lx Z):Lz Z:=de (N:=["thing"]) D mX fun hr nd hu=>⟨DL,(by ac_rfl),UX⟩
noncomputable abbrev LA:Stmt:=top 26
abbrev E8(Z:Ev):Prop:=Fx Z 7 "need_web" ["web"] 1 yO
theorem Yf(D:Dx Z "need_web" LA)(B:BT Z.mg)(z3H:Lz Z):E8 Z:=de (N:=["web"]) D mX fun hr nd hu=>⟨D2,(by ac_rfl),Vm⟩
noncomputable abbrev LB:Stmt:=top 27
abbrev LC(Z:Ev):Prop:=Fx Z 1 "rank_of" ["way"] 1 D3
theorem Yg(D:Dx Z "rank_of" LB)(B:BT Z.mg):LC Z:=de (N:=["way"]) D mX fun hr nd hu=>⟨D4,(by ac_rfl),Vn⟩
noncomputable abbrev E9:Stmt:=top 29
abbrev LF(Z:Ev):Prop:=Fx Z 8 "need_ways" ["web", "ways"] 2 D7
theorem Yh(D:Dx Z "need_ways" E9)(B:BT Z.mg)(Yi:E8 Z)(zi:ua Z):LF Z:=de (N:=["web", "ways", "last", "seen", "place", "number"]) D fN fun hr nd hu=>⟨D8,(by ac_rfl),Vw⟩
noncomputable abbrev LG:Stmt:=top 30
abbrev LH(Z:Ev):Prop:=Fx Z 1 "joined" ["firsts", "one", "other"] 3 yF
theorem Yj(D:Dx Z "joined" LG)(B:BT Z.mg):LH Z:=de (N:=["firsts", "one", "other", "gone", "kept"]) D oG fun hr nd hu=>⟨DM,(by ac_rfl),UY⟩
noncomputable abbrev LI:Stmt:=top 31
abbrev LL(Z:Ev):Prop:=Fx Z 2 "firsts_of" ["web", "ways"] 2 yH
theorem Yk(D:Dx Z "firsts_of" LI)(B:BT Z.mg)(z3G:LH Z):LL Z:=de (N:=["web", "ways", "firsts", "number", "way"]) D fN fun hr nd hu=>⟨yI,(by ac_rfl),UZ⟩
noncomputable abbrev LM:Stmt:=top 34
abbrev LN(Z:Ev):Prop:=Fx Z 5 "least_of" ["web", "ways"] 2 Ey
theorem Yl{T:Addr}(D:yx Z "least_of" LM T ⟨98,25,98,63⟩ ((("least_of" : Str)++".<locals>.")++"<lambda>"))(B:BT Z.mg)(Ym:LC Z):LN Z:=TQ (N:=["web", "ways"]) D fN fun LD hc hr nd hu=>⟨Ez,(mO (om (WN false (lK.mk (x:="number") (Nb:=["web"]) (cp:=[some 0]) ⟨LD.env hc,LD.ng,LD.blt⟩ LD.tbl rfl rfl (by first|rfl|kernel_rfl) rfl rfl (fun _ _ _ _ _=>rfl) ⟨1,hr.mono (by decide),fun d hr=>(lM Ym hr (vC (BN Cp (BN Cp (dv 1) Ik (fun _ _=>rfl)) (dv 0) (fun _ _=>rfl)) lq))⟩) hu (by rfl) B.min Jw (cX (dv 1) lq)))),WY⟩
noncomputable abbrev LO:Stmt:=top 35
abbrev LP(Z:Ev):Prop:=Fx Z 1 "leads_out" ["way", "houses"] 2 Et
theorem Yn(D:Dx Z "leads_out" LO)(B:BT Z.mg):LP Z:=de (N:=["way", "houses"]) D fN fun hr nd hu=>⟨Eu,(by ac_rfl),WW⟩
noncomputable abbrev LQ:Stmt:=top 36
abbrev LR(Z:Ev):Prop:=Fx Z 2 "ways_out" ["web", "houses"] 2 Ew
theorem Yo(D:Dx Z "ways_out" LQ)(B:BT Z.mg)(z1F:LP Z):LR Z:=de (N:=["web", "houses"]) D fN fun hr nd hu=>⟨Ex,(by ac_rfl),WX⟩
noncomputable abbrev LU:Stmt:=top 40
abbrev LV(Z:Ev):Prop:=Fx Z 1 "_law_spread" ["cell", "at"] 2 Dg
theorem Yp(D:Dx Z "_law_spread" LU)(B:BT Z.mg):LV Z:=de (N:=["cell", "at", "primes", "one", "two", "three"]) D fN fun hr nd hu=>⟨Dh,(by ac_rfl),UA⟩
noncomputable abbrev LW:Stmt:=top 42
abbrev LX(Z:Ev):Prop:=Fx Z 1 "_law_anew" ["pen"] 1 Di
theorem Yq(D:Dx Z "_law_anew" LW)(B:BT Z.mg):LX Z:=de (N:=["pen"]) D mX fun hr nd hu=>⟨Dj,(by ac_rfl),UB⟩
noncomputable abbrev LY:Stmt:=top 43
abbrev wZ(Z:Ev):Prop:=Fx Z 2 "_law_take" ["pen", "many"] 2 gX
theorem Yr(D:Dx Z "_law_take" LY)(B:BT Z.mg)(x8O:LV Z):wZ Z:=de (N:=["pen", "many", "at", "cell", "found"]) D fN fun hr nd hu=>⟨Dl,(by ac_rfl),UC⟩
noncomputable abbrev LZ:Stmt:=top 44
abbrev L5(Z:Ev):Prop:=Fx Z 1 "_law_is_whole" ["thing"] 1 DA
theorem Ys(D:Dx Z "_law_is_whole" LZ)(B:BT Z.mg):L5 Z:=de (N:=["thing"]) D mX fun hr nd hu=>⟨Ko,(by ac_rfl),UP⟩
noncomputable abbrev L7:Stmt:=top 46
abbrev L8(Z:Ev):Prop:=Fx Z 3 "_law_pairs_of" ["pen", "kind", "many"] 3 Dm
theorem Yt(D:Dx Z "_law_pairs_of" L7)(B:BT Z.mg)(E_:wZ Z):L8 Z:=de (N:=["pen", "kind", "many", "every", "other", "ring", "half"]) D oG fun hr nd hu=>⟨Dp,(by ac_rfl),UH⟩
noncomputable abbrev L9:Stmt:=top 47
abbrev L_(Z:Ev):Prop:=Fx Z 4 "_law_web" ["pen", "houses", "most"] 3 Du
theorem Yu(D:Dx Z "_law_web" L9)(B:BT Z.mg)(E_:wZ Z)(x6J:L8 Z):L_ Z:=de (N:=["pen", "houses", "most", "kind", "prices", "many", "pairs", "ways", "k", "one", "other", "price"]) D oG fun hr nd hu=>⟨Dv,(by ac_rfl),UI⟩
noncomputable abbrev Ma:Stmt:=top 48
abbrev Mb(Z:Ev):Prop:=Fx Z 1 "_law_key" ["web", "number"] 2 D5
theorem Yv(D:Dx Z "_law_key" Ma)(B:BT Z.mg):Mb Z:=de (N:=["web", "number", "one", "other", "price"]) D fN fun hr nd hu=>⟨D6,(by ac_rfl),Vp⟩
noncomputable abbrev Mc:Stmt:=top 49
abbrev Md(Z:Ev):Prop:=Fx Z 1 "_law_marks_by" ["web", "ways"] 2 DN
theorem Yw(D:Dx Z "_law_marks_by" Mc)(B:BT Z.mg):Md Z:=de (N:=["web", "ways", "found", "number", "one", "other"]) D fN fun hr nd hu=>⟨yJ,(by ac_rfl),U1⟩
noncomputable abbrev Me:Stmt:=top 50
abbrev Mf(Z:Ev):Prop:=Fx Z 2 "_law_lots" ["web", "ways"] 2 DP
theorem Yx(D:Dx Z "_law_lots" Me)(B:BT Z.mg)(x6K:Md Z):Mf Z:=de (N:=["web", "ways", "marks"]) D fN fun hr nd hu=>⟨yL,(by ac_rfl),U3⟩
noncomputable abbrev Mg:Stmt:=top 51
abbrev Mh(Z:Ev):Prop:=Fx Z 1 "_law_leads_out" ["web", "houses", "number"] 3 EG
theorem Yy(D:Dx Z "_law_leads_out" Mg)(B:BT Z.mg):Mh Z:=de (N:=["web", "houses", "number", "one", "other"]) D oG fun hr nd hu=>⟨EH,(by ac_rfl),XB⟩
noncomputable abbrev Mi:Stmt:=top 52
abbrev Mj(Z:Ev):Prop:=Fx Z 2 "_law_outs" ["web", "houses", "ways"] 3 EJ
theorem Yz(D:Dx Z "_law_outs" Mi)(B:BT Z.mg)(x3i:Mh Z)(z1Q:Mb Z):Mj Z:=de (N:=["web", "houses", "ways", "found"]) D oG fun hr nd hu=>⟨EK,(by ac_rfl),XC⟩
noncomputable abbrev Ml:Stmt:=top 53
abbrev Fb(Z:Ev):Prop:=Fx Z 2 "_law_is_in" ["thing", "low", "high"] 3 sf
theorem YA(D:Dx Z "_law_is_in" Ml)(B:BT Z.mg)(x6L:L5 Z):Fb Z:=de (N:=["thing", "low", "high"]) D oG fun hr nd hu=>⟨Kq,(by ac_rfl),UQ⟩
noncomputable abbrev Mm:Stmt:=top 54
abbrev Mn(Z:Ev):Prop:=Fx Z 3 "_law_is_web" ["thing"] 1 Ei
theorem YB(D:Dx Z "_law_is_web" Mm)(B:BT Z.mg)(YC:Fb Z):Mn Z:=de (N:=["thing", "pairs", "way"]) D mX fun hr nd hu=>⟨Ej,(by ac_rfl),Wg⟩
noncomputable abbrev Mo:Stmt:=top 55
abbrev Mp(Z:Ev):Prop:=Fx Z 4 "_law_ways_due" ["web", "ways"] 2 EU
theorem YD(D:Dx Z "_law_ways_due" Mo)(B:BT Z.mg)(x8P:Mn Z)(YC:Fb Z):Mp Z:=de (N:=["web", "ways", "place", "number"]) D fN fun hr nd hu=>⟨EV,(by ac_rfl),XQ⟩
noncomputable abbrev Mq:Stmt:=top 56
abbrev Mr(Z:Ev):Prop:=Fx Z 3 "_law_some_ways" ["pen", "web", "most"] 3 DT
theorem YE(D:Dx Z "_law_some_ways" Mq)(B:BT Z.mg)(E_:wZ Z):Mr Z:=de (N:=["pen", "web", "most", "left", "found", "k"]) D oG fun hr nd hu=>⟨DU,(by ac_rfl),U5⟩
noncomputable abbrev Ms:Stmt:=top 58
abbrev Fc(Z:Ev):Prop:=Fx Z 1 "_law_all" ["web"] 1 yK
theorem YF(D:Dx Z "_law_all" Ms)(B:BT Z.mg):Fc Z:=de (N:=["web"]) D mX fun hr nd hu=>⟨DO,(by ac_rfl),U2⟩
noncomputable abbrev Mt:Stmt:=top 60
abbrev Mu(Z:Ev):Prop:=Fx Z 5 "_law_due" ["web", "ways"] 2 EW
theorem YG(D:Dx Z "_law_due" Mt)(B:BT Z.mg)(x6I:Mp Z)(z1I:Mf Z)(z1H:Mj Z)(YH:Fc Z):Mu Z:=de (N:=["web", "ways", "due", "chosen", "lot"]) D fN fun hr nd hu=>⟨EX,(by ac_rfl),XR⟩
noncomputable abbrev zj:Stmt:=top 32
abbrev Mv(Z:Ev):Prop:=Fx Z 9 "lots_of" ["web", "ways"] 2 KG
theorem YI(D:Dx Z "lots_of" zj)(B:BT Z.mg)(YJ:LF Z)(YK:LL Z):Mv Z:=by
 obtain⟨f,fd,a,F⟩:=D;obtain⟨_,_,GF⟩:=YK.ex;have sc:kQ ["web", "ways", "lots", "house", "first"] ["web", "ways"] (bZ zj):=fF (by decide +kernel);refine⟨f,fd,F.sT sc (fun vs H Q E h=>h.1) (fun aF A outer s H vs Q E hr h=>?_),a,F.kp,F.binds fN⟩;obtain⟨hl,F0,ad,ys,ovs,K',S0,⟨m,ws,ns,W,hn,hd,D9,rfl,rfl,hK⟩,kk⟩:=h;have nd:=sc.nd;have hu:=hr.units
 refine⟨_,nN (Iq (lM YJ hr (cX (dv 0) (cX (dv 1) lq))))
  (nN (nP (i:=2) nd rfl (q23 rfl) h9)
  (nN (Az q5m rfl (Ht (by rfl) B.enumerate (gy (pN GF.ok (hr.mono (by decide)) (by rfl) GF.vv GF.kp GF.bd .nil sS (fY (jv 0) (fY (jv 1) aI))) aI)) (Au rfl (uD (uB (i:=3) nd rfl (q23 rfl)) (uD (uB (i:=4) nd rfl (q23 rfl)) gu)))
   (mE (Aq (qO q12 q4R q4S Bb (qO q45 q35 PySem.F.type_dict_setdefault Q_ (jv 2) (fY (jv 4) (vk (mF aI) aI))) (fY (jv 3) aI)))))
  (mE (sM (mJ (Rb rfl) (by rfl) B.list rp (gy (Px q45 q4N PySem.F.type_dict_values Ra (jv 2)) aI)))))),?_⟩
 exact VM (Kf:=Z.K) hl W hn hd D9 hK S0 (fun r ows h v F' H' P _=>kk r ows h v F' H' P) fun _ _ h=>h
abbrev Mw(Z:Ev)(Cs:List Addr):Prop:=Fy Z Cs 8 "need_ways" ["web", "ways"] 2 yZ
theorem YL{Cs:List Addr}(D:Dx Z "need_ways" E9)(B:BT Z.mg)(zk:EI Z Cs 0 "NoWay")(Yi:E8 Z)(zi:ua Z):Mw Z Cs:=wm (N:=["web", "ways", "last", "seen", "place", "number"]) D fN We fun R hr nd hu=>⟨Eh bL.ok,(by ac_rfl),Wf bL.ok⟩
abbrev Mx(Z:Ev)(Cs:List Addr):Prop:=Fy Z Cs 9 "lots_of" ["web", "ways"] 2 zf
theorem YM{Cs:List Addr}(D:Dx Z "lots_of" zj)(B:BT Z.mg)(z1B:Mw Z Cs):Mx Z Cs:=wm (N:=["web", "ways", "lots", "house", "first"]) D fN XI fun R hr nd hu=>⟨EN bL.ok,(by ac_rfl),XJ bL.ok⟩
noncomputable abbrev Mz:Stmt:=top 38
abbrev MA(Z:Ev)(Cs:List Addr):Prop:=Fy Z Cs 10 "round_of" ["web", "ways"] 2 zg
theorem YN{Cs:List Addr}(D:Dx Z "round_of" Mz)(B:BT Z.mg)(z3D:Mv Z)(YO:LR Z)(z1L:LN Z)(YQ:Mx Z Cs):MA Z Cs:=wm (N:=["web", "ways", "outs"]) D fN XM fun R hr nd hu=>⟨Lj bL.ok,Ut (by ac_rfl) (mP (Uq [none,some 0] ["lot", "web"] (i:=2) YQ R JU hr nd rfl (by trivial) rfl (cX (dv 0) (cX (dv 1) lq)) (fun d=>(xT (i:=0) (show(["lot", "web"]:List Str).Nodup by decide +kernel) rfl (by trivial))) (fun d=>BY) (fun d=>(lM YO hr (cX (dv 1) (cX (dv 0) lq))))) Ir),XN bL.ok⟩
noncomputable abbrev w5:Stmt:=inClass (top 2) 0
theorem YR{f C:Addr}{fd:FuncData}(F:gg Z.K "__init__" "NoWay.__init__" w5 f fd)(c:bo Z.K C)(n:uN Z.K C "place"):bP Z.P Z.w Z.K Z.mg Z.base fu 1 f fd ["self", "place"] (wt C):=by
 refine F.sT (N:=["self", "place"]) (fF (by decide +kernel)) (fun vs H Q E h=>?_) (fun aF A outer s H vs Q E hr h=>?_)
 ·obtain⟨a,n,rfl,_⟩:=h
  rfl
 ·obtain⟨a,m,rfl,ha,fin⟩:=h
  exact⟨_,mE (QA (jv 0) (jv 1) rfl),⟨_,rfl,_,rfl,a,C,rfl,ha,c,n,fin⟩⟩
noncomputable abbrev bO:Stmt:=top 57
noncomputable abbrev MB:Stmt:=bO
noncomputable abbrev xR(Z:Ev)(f:Addr)(aF:Value)(A:Around)(outer:List Env)(s:Shared)(H:Hp)(E:XK):Cx:=(bq fu Z.P Z.w Z.K Z.mg Z.base ["caught", "some", "words", "at"] "_law_refusal" (bZ bO) f aF A outer s H E).kO
theorem qi:kQ ["caught", "some", "words", "at"] ["caught"] (bZ bO):=fF (by decide +kernel)
theorem YS{f L:Addr}{Cs:List Addr}{fd:FuncData}{sp:Sp}(F:gg Z.K "_law_refusal" "_law_refusal" bO f fd)(T:C6 Z.mg L Cs)(len:∀vs H Q E,sp vs H Q E->vs.length=1)
  (mI:∀vs H Q E,sp vs H Q E->∃(a C:Addr)(dx:Option Addr)(b:Nat->Bool),vs=[.ref a]/\ExcAt H a C dx/\bo Z.K C/\(∀(i:Nat)(C':Addr),Cs[i]?=some C'->q0q Z.K (.ref C) (.ref C')=some (b i))/\q0q Z.K (.ref C) (.ref L)=some true/\q0q Z.K (.ref C) (.type "ValueError")=some true ∧
   (cnt (dZ b)≠1->∀(l:Addr)(H':Hp),ar H H'->H' l=some (.lst [.str "odd"])->Q (.ref l) H') ∧
   (cnt (dZ b)=1->∃j:Nat,j<13/\(∀z,((dZ b).map V.bl)[j]?=some z->gf z (.bl true)=true)/\(∀m z,m<j->((dZ b).map V.bl)[m]?=some z->gf z (.bl true)=false) ∧
    (j<4->uN Z.K C "place" /\ ∃(d:Addr)(n:Int),dx=some d/\H d=some (.xd [("place",.int n)])/\∀(l:Addr)(H':Hp),ar H H'->H l=none->H' l=some (.lst [.str (cK.getD j ""),.int n])->Q (.ref l) H') ∧
    (4<=j->∀(l:Addr)(H':Hp),ar H H'->H l=none->H' l=some (.lst [.str (cK.getD j "")])->Q (.ref l) H'))):bP Z.P Z.w Z.K Z.mg Z.base fu 1 f fd ["caught"] sp:=by
 refine F.sT qi (fun vs H Q E h=>len vs H Q E h) (fun aF A outer s H vs Q E hr h=>?_);obtain⟨a,C,dx,b,rfl,E0,cl,kt,kL,kV,odd,good⟩:=mI vs H Q E h;have nd:=qi.nd;obtain⟨c0,e0,m0⟩:=T.cls 0 "NoWay" rfl;obtain⟨c1,e1,m1⟩:=T.cls 1 "NoJoin" rfl;obtain⟨c2,e2,m2⟩:=T.cls 2 "NoStep" rfl;obtain⟨c3,e3,m3⟩:=T.cls 3 "NoHouse" rfl;obtain⟨c4,e4,m4⟩:=T.cls 4 "NoWeb" rfl;obtain⟨c5,e5,m5⟩:=T.cls 5 "NoPrice" rfl;obtain⟨c6,e6,m6⟩:=T.cls 6 "TooMany" rfl;obtain⟨c7,e7,m7⟩:=T.cls 7 "Closed" rfl;obtain⟨c8,e8,m8⟩:=T.cls 8 "Free" rfl;obtain⟨c9,e9,m9⟩:=T.cls 9 "Nothing" rfl;obtain⟨jy,YT,YU⟩:=T.cls 10 "NoNumber" rfl;obtain⟨jz,YV,YW⟩:=T.cls 11 "NoText" rfl
 obtain⟨jA,YX,h_⟩:=T.cls 12 "NoLine" rfl;have gI:Gl (xR Z f aF A outer s H E) "isinstance" := by rfl
 have v0:∀q,JE (xR Z f aF A outer s H E) (.Name "caught" q) (cS 0):=fun q=>jv 0;have v1:∀q,JE (xR Z f aF A outer s H E) (.Name "some" q) (cS 1):=fun q=>jv 1;have n0:∀p q r t,JE (xR Z f aF A outer s H E) (.Call (.Name "isinstance" p) [.Name "caught" q,.Name "NoWay" r] [] t) (ir a C dx (b 0)):=fun p q r t=>i7 (v0 q) (iO (v:=.ref c0) (by rfl) m0 rfl) rfl cl (kt 0 c0 e0) gI T.i5;have n1:∀p q r t,JE (xR Z f aF A outer s H E) (.Call (.Name "isinstance" p) [.Name "caught" q,.Name "NoJoin" r] [] t) (ir a C dx (b 1)):=fun p q r t=>i7 (v0 q) (iO (v:=.ref c1) (by rfl) m1 rfl) rfl cl (kt 1 c1 e1) gI T.i5
 have n2:∀p q r t,JE (xR Z f aF A outer s H E) (.Call (.Name "isinstance" p) [.Name "caught" q,.Name "NoStep" r] [] t) (ir a C dx (b 2)):=fun p q r t=>i7 (v0 q) (iO (v:=.ref c2) (by rfl) m2 rfl) rfl cl (kt 2 c2 e2) gI T.i5;have n3:∀p q r t,JE (xR Z f aF A outer s H E) (.Call (.Name "isinstance" p) [.Name "caught" q,.Name "NoHouse" r] [] t) (ir a C dx (b 3)):=fun p q r t=>i7 (v0 q) (iO (v:=.ref c3) (by rfl) m3 rfl) rfl cl (kt 3 c3 e3) gI T.i5;have n4:∀p q r t,JE (xR Z f aF A outer s H E) (.Call (.Name "isinstance" p) [.Name "caught" q,.Name "NoWeb" r] [] t) (ir a C dx (b 4)):=fun p q r t=>i7 (v0 q) (iO (v:=.ref c4) (by rfl) m4 rfl) rfl cl (kt 4 c4 e4) gI T.i5
 have n5:∀p q r t,JE (xR Z f aF A outer s H E) (.Call (.Name "isinstance" p) [.Name "caught" q,.Name "NoPrice" r] [] t) (ir a C dx (b 5)):=fun p q r t=>i7 (v0 q) (iO (v:=.ref c5) (by rfl) m5 rfl) rfl cl (kt 5 c5 e5) gI T.i5;have n6:∀p q r t,JE (xR Z f aF A outer s H E) (.Call (.Name "isinstance" p) [.Name "caught" q,.Name "TooMany" r] [] t) (ir a C dx (b 6)):=fun p q r t=>i7 (v0 q) (iO (v:=.ref c6) (by rfl) m6 rfl) rfl cl (kt 6 c6 e6) gI T.i5;have n7:∀p q r t,JE (xR Z f aF A outer s H E) (.Call (.Name "isinstance" p) [.Name "caught" q,.Name "Closed" r] [] t) (ir a C dx (b 7)):=fun p q r t=>i7 (v0 q) (iO (v:=.ref c7) (by rfl) m7 rfl) rfl cl (kt 7 c7 e7) gI T.i5
 have n8:∀p q r t,JE (xR Z f aF A outer s H E) (.Call (.Name "isinstance" p) [.Name "caught" q,.Name "Free" r] [] t) (ir a C dx (b 8)):=fun p q r t=>i7 (v0 q) (iO (v:=.ref c8) (by rfl) m8 rfl) rfl cl (kt 8 c8 e8) gI T.i5;have n9:∀p q r t,JE (xR Z f aF A outer s H E) (.Call (.Name "isinstance" p) [.Name "caught" q,.Name "Nothing" r] [] t) (ir a C dx (b 9)):=fun p q r t=>i7 (v0 q) (iO (v:=.ref c9) (by rfl) m9 rfl) rfl cl (kt 9 c9 e9) gI T.i5;have YY:∀p q r t,JE (xR Z f aF A outer s H E) (.Call (.Name "isinstance" p) [.Name "caught" q,.Name "NoNumber" r] [] t) (ir a C dx (b 10)):=fun p q r t=>i7 (v0 q) (iO (v:=.ref jy) (by rfl) YU rfl) rfl cl (kt 10 jy YT) gI T.i5
 have YZ:∀p q r t,JE (xR Z f aF A outer s H E) (.Call (.Name "isinstance" p) [.Name "caught" q,.Name "NoText" r] [] t) (ir a C dx (b 11)):=fun p q r t=>i7 (v0 q) (iO (v:=.ref jz) (by rfl) YW rfl) rfl cl (kt 11 jz YV) gI T.i5;have Y0:∀p q r t,JE (xR Z f aF A outer s H E) (.Call (.Name "isinstance" p) [.Name "caught" q,.Name "NoLine" r] [] t) (ir a C dx (b 12)):=fun p q r t=>i7 (v0 q) (iO (v:=.ref jA) (by rfl) h_ rfl) rfl cl (kt 12 jA YX) gI T.i5;have nL:∀p q r t,JE (xR Z f aF A outer s H E) (.Call (.Name "isinstance" p) [.Name "caught" q,.Name "LotError" r] [] t) (ir a C dx true):=fun p q r t=>i7 (v0 q) (iO (v:=.ref L) (by rfl) T.Ud rfl) rfl cl kL gI T.i5
 have nV:∀p q r t,JE (xR Z f aF A outer s H E) (.Call (.Name "isinstance" p) [.Name "caught" q,.Name "ValueError" r] [] t) (ir a C dx true):=fun p q r t=>i7 (v0 q) (Gr (by rfl) T.VE Ue (v:=.ty "ValueError") rfl) rfl cl kV gI T.i5;have h0:JS (xR Z f aF A outer s H E) ((cx bO).getD 0 (.Pass ⟨0,0,0,0⟩)) (cU (r_ a C dx [b 0,b 1,b 2]) (hU 1)):=HJ nd rfl (q23 rfl) (wq (jT (n0 _ _ _ _) (jT (n1 _ _ _ _) (jT (n2 _ _ _ _) wo))) (by show 3<=20;decide)) (.inr rfl);have h1:JS (xR Z f aF A outer s H E) ((cx bO).getD 1 (.Pass ⟨0,0,0,0⟩)) (cU (lQ a C dx ([b 0,b 1,b 2]) [b 3,b 4,b 5]) (hU 1)):=xF nd rfl (q23 rfl) (yz (v1 _) (wq (jT (n3 _ _ _ _) (jT (n4 _ _ _ _) (jT (n5 _ _ _ _) wo))) (by show 3<=20;decide)) (by show 3+3<=20;decide)) (.inr rfl)
 have h2:JS (xR Z f aF A outer s H E) ((cx bO).getD 2 (.Pass ⟨0,0,0,0⟩)) (cU (lQ a C dx ([b 0,b 1,b 2]++[b 3,b 4,b 5]) [b 6,b 7,b 8]) (hU 1)):=xF nd rfl (q23 rfl) (yz (v1 _) (wq (jT (n6 _ _ _ _) (jT (n7 _ _ _ _) (jT (n8 _ _ _ _) wo))) (by show 3<=20;decide)) (by show 6+3<=20;decide)) (.inr rfl);have h3:JS (xR Z f aF A outer s H E) ((cx bO).getD 3 (.Pass ⟨0,0,0,0⟩)) (cU (lQ a C dx ([b 0,b 1,b 2]++[b 3,b 4,b 5]++[b 6,b 7,b 8]) [b 9,b 10,b 11]) (hU 1)):=xF nd rfl (q23 rfl) (yz (v1 _) (wq (jT (n9 _ _ _ _) (jT (YY _ _ _ _) (jT (YZ _ _ _ _) wo))) (by show 3<=20;decide)) (by show 9+3<=20;decide)) (.inr rfl)
 have h4:JS (xR Z f aF A outer s H E) ((cx bO).getD 4 (.Pass ⟨0,0,0,0⟩)) (cU (lQ a C dx ([b 0,b 1,b 2]++[b 3,b 4,b 5]++[b 6,b 7,b 8]++[b 9,b 10,b 11]) [b 12]) (hU 1)):=xF nd rfl (q23 rfl) (yz (v1 _) (wq (jT (Y0 _ _ _ _) wo) (by show 1<=20;decide)) (by show 12+1<=20;decide)) (.inr rfl)
 have h5:JS (xR Z f aF A outer s H E) ((cx bO).getD 5 (.Pass ⟨0,0,0,0⟩)) (fun D σ H1=>∃l:Addr,σ[0]?=some (some (.ref a))/\σ[1]?=some (some (.ref l))/\H1 l=some (.lst ((dZ b).map V.bl))/\ExcAt H1 a C dx/\(cnt (dZ b)≠1->∀(l':Addr)(H':Hp),ar H1 H'->H' l'=some (.lst [.str "odd"])->D.rt (.ref l') H')/\(cnt (dZ b)=1->D.nx σ H1)):=by
  refine(Gy (JW.jt (Am (AG OJ (qO q12 PySem.F.slot_list_count PySem.F.type_list_count QD (v1 _) (jK Aj aI)) mD (GI _)) (Am (An (Ak (nL _ _ _ _))) (Gv (An (Ak (nV _ _ _ _))))))) (mE (sM (mF (jK xo aI)))) jg).weak ?_;rintro D σ H1 ⟨l,e0,e1,hl,e,od,gd⟩;refine⟨_,e1,.inl ⟨rfl,_,aZ.of hl⟩,l,_,_,rfl,rfl,aZ.of hl,rfl,C7 _,rfl,_,rfl,?_⟩
  by_cases hc:cnt (dZ b)=1
  ·refine PJ (congrArg (fun n:Nat=>V.int n) hc) ?_
   exact⟨e0,e,_,rfl,qW ⟨e0,e,_,rfl,qW (gd hc)⟩⟩
  ·refine QO (fun z=>hc (q4M (V.int.inj z))) ?_
   exact Bk ⟨hZ (by show 1<=20;decide),fun p hp=>od hc p _ (lP hp) a_⟩
 have h6:JS (xR Z f aF A outer s H E) ((cx bO).getD 6 (.Pass ⟨0,0,0,0⟩)) (cU (fun _ H Q=>∀p,H p=none->Q (.ref p) (upd H p (.lst (dY.map V.str)))) (hU 2)):=HJ (i:=2) nd rfl (q23 rfl) (Ug dY rfl (by decide)) (.inr rfl)
 have h7:JS (xR Z f aF A outer s H E) ((cx bO).getD 7 (.Pass ⟨0,0,0,0⟩)) (fun D σ H1=>∃(l:Addr)(j:Nat),σ[1]?=some (some (.ref l))/\H1 l=some (.lst ((dZ b).map V.bl))/\j<13/\(∀z,((dZ b).map V.bl)[j]?=some z->gf z (.bl true)=true)/\(∀m z,m<j->((dZ b).map V.bl)[m]?=some z->gf z (.bl true)=false)/\D.nx (σ.set 3 (some (.int (j:Nat)))) H1):=by
  refine(QN (i:=3) nd rfl (q23 rfl) (qO q12 PySem.F.slot_list_index PySem.F.type_list_index QG (v1 _) (jK Aj aI)) (.inr rfl)).weak ?_;rintro D σ H1 ⟨l,j,e1,hl,hj,i1,i2,gd⟩;exact⟨_,e1,.inl ⟨rfl,_,aZ.of hl⟩,l,_,_,j,rfl,rfl,aZ.of hl,rfl,C7 _,hj,i1,i2,gd⟩
 have h8:JS (xR Z f aF A outer s H E) ((cx bO).getD 8 (.Pass ⟨0,0,0,0⟩)) _:=sM (Ao (AG GH (jv 3) mD (GI _)) (mF (rh (xw xx (jv 2) (jv 3) (fun _ _=>rfl)) (Bz (Uh (v0 _) rfl) aI))) (mF (rh (xw xx (qA xy (jv 2) (mF (jK xo aI))) (jv 3) (fun _ _=>rfl)) aI)));have g8:bz (xR Z f aF A outer s H E) ((cx bO).drop 8) _:=QP (by rfl) h8;have g7:bz (xR Z f aF A outer s H E) ((cx bO).drop 7) _:=pU (by decide) h7 g8;have g6:bz (xR Z f aF A outer s H E) ((cx bO).drop 6) _:=pU (by decide) h6 g7;have g5:bz (xR Z f aF A outer s H E) ((cx bO).drop 5) _:=pU (by decide) h5 g6;have g4:bz (xR Z f aF A outer s H E) ((cx bO).drop 4) _:=pU (by decide) h4 g5
 have g3:bz (xR Z f aF A outer s H E) ((cx bO).drop 3) _:=pU (by decide) h3 g4;have g2:bz (xR Z f aF A outer s H E) ((cx bO).drop 2) _:=pU (by decide) h2 g3;have g1:bz (xR Z f aF A outer s H E) ((cx bO).drop 1) _:=pU (by decide) h1 g2;have g0:bz (xR Z f aF A outer s H E) ((cx bO).drop 0) _:=pU (by decide) h0 g1;refine⟨_,QQ g0,?_⟩;refine⟨rfl,E0,fun l1 H1 s1 q1=>?_⟩;refine⟨l1,rfl,rfl,q1,E0.same s1,fun l2 H2 s2 q2=>?_⟩;have MC:=s1.trans s2;refine⟨l2,rfl,rfl,q2,E0.same MC,fun l3 H3 s3 q3=>?_⟩;have MD:=MC.trans s3;refine⟨l3,rfl,rfl,q3,E0.same MD,fun l4 H4 s4 q4=>?_⟩;have ME:=MD.trans s4;refine⟨l4,rfl,rfl,q4,E0.same ME,fun l5 H5 s5 q5=>?_⟩
 have Fd:=ME.trans s5;refine⟨l5,rfl,rfl,q5,E0.same Fd,fun nc l H' sH hH=>odd nc l H' (Fd.trans sH) hH,fun hc=>?_⟩;obtain⟨j,hj,i1,i2,gZ,many⟩:=good hc;intro p hp;have ub:ar H (upd H5 p (.lst (dY.map V.str))):=Fd.trans (lP hp);refine⟨l5,j,rfl,(lP hp) _ _ q5,hj,i1,i2,?_⟩;refine⟨_,rfl,_,_,rfl,rfl,_,rfl,Bl (fun cB=>?_) (fun tN=>?_)⟩
 ·have w6:j<4:=by have:=q05 cB;omega
  obtain⟨na,d,n,ed,hd,fin⟩:=gZ w6;subst ed;have E6:=E0.same ub;refine⟨_,rfl,_,rfl,p,_,_,_,rfl,rfl,aZ.of a_,kS (Ui w6),_,rfl,a,C,d,_,_,rfl,E6.ob,cl,na,ub _ _ hd,rfl,hZ (by show 2<=20;decide),fun l hl=>?_⟩;exact fin l _ (ub.trans (lP hl)) (ub.free hl) a_
 ·have Fe:4<=j:=by
   by_cases z:j<4
   ·exact absurd (q0x (show(j:Int)<4 by omega)) tN
   ·omega
  refine⟨_,rfl,hZ (by show 1<=20;decide),fun m hm=>⟨p,m,_,_,rfl,rfl,(by rw[av (bH a_ hm)];exact a_),a_,hZ (by show 13<=20;decide),fun r hr=>⟨_,rfl,r,_,_,_,rfl,rfl,aZ.of a_,kS (Uj hj),hZ (by show 1<=20;decide),fun l hl=>?_⟩⟩⟩;exact many Fe l _ (((ub.trans (lP hm)).trans (lP hr)).trans (lP hl)) (((ub.trans (lP hm)).trans (lP hr)).free hl) a_
theorem Y1{f L:Addr}{Cs:List Addr}{fd:FuncData}(F:gg Z.K "_law_refusal" "_law_refusal" bO f fd)(T:C6 Z.mg L Cs)(W:C5 Z.K L Cs):bP Z.P Z.w Z.K Z.mg Z.base fu 1 f fd ["caught"] (lR Cs):=by
 refine YS F T (fun vs H Q E h=>?_) (fun vs H Q E h=>?_)
 ·obtain⟨_,_,_,_,_,rfl,_⟩:=h;rfl
 ·obtain⟨j,n,a,C,dx,rfl,hj,hC,E0,hd,fin⟩:=h
  obtain⟨cl,kL,kV,kt⟩:=W.each j C hC;refine⟨a,C,dx,fun i=>decide (i=j),rfl,E0,cl,kt,kL,kV,fun nc=>absurd (Uk j hj) nc,fun _=>⟨j,hj,fun z hz=>?_,fun m z hm hz=>?_,fun h4=>?_,fun h4 l H' s hl hH=>fin l H' s hl ?_⟩⟩
  ·rw[J7 hz];show gf (.bl (decide (j=j))) (.bl true)=true;rw[q0x rfl];rfl
  ·rw[J7 hz];show gf (.bl (decide (m=j))) (.bl true)=false;rw[q0r (by omega)];rfl
  ·obtain⟨d,ed,hd⟩:=hd h4
   refine⟨W.jx j C hC,d,n,ed,hd,fun l H' s hl hH=>fin l H' s hl ?_⟩;rw[hH,mY,q0f h4]
  ·rw[hH,mY,q0a (by omega)]
noncomputable abbrev MF:Stmt:=top 59
abbrev MG(Z:Ev):Prop:=Fx Z 11 "_law_told" ["web", "ways"] 2 ES
theorem Y2{Cs:List Addr}{L fR:Addr}{Ff:FuncData}(D:Dx Z "_law_told" MF)(B:BT Z.mg)(GR:Fn Z.P Z.w Z.K Z.mg Z.base 1 "_law_refusal" ["caught"] (lR Cs) fR Ff)(hL:Z.mg "LotError" = some (.ref L))(hX:∀(c:Nat) (C:Addr),Cs[c]?=some C->c<13/\q3J Z.K (.ref C) (.ref L)=some true)(Y3:MA Z Cs):MG Z:=de (N:=["web", "ways", "found", "caught", "e"]) D fN fun hr nd hu=>⟨ET,(mP (BU (i:=2) nd rfl (by trivial) vB) (mP (BU (i:=3) nd rfl (by trivial) vB) (Uw (tup:=true) rfl rfl nd rfl rfl (by rfl) hL hX (by decide) (fun hp R=>(mO (Uo (i:=2) Y3 R hp hr nd rfl (by trivial) (cX (dv 0) (cX (dv 1) lq))))) (fun A xe=>mE (nP (i:=3) nd rfl (by trivial) (jv 4))) (sM (Ao (Gs (N8 (jv 3))) (dv 2) (mJ A7 (by rfl) B.tuple vx (gy (pN GR.ok (hr.mono (by decide)) (by rfl) GR.vv GR.kp GR.bd .nil sS (fY (jv 3) aI)) aI))))))),XO⟩
noncomputable abbrev Fg:Stmt:=top 45
theorem Fh{x:Str}{st:Stmt}{ps:List Str}{n:Nat}(D:Dx Z x st)(bd:iZ x st ps):Fx Z 0 x ps n (fun _ _ _=>False) :=
 let⟨f,fd,a,F⟩:=D
 ⟨f,fd,⟨fun vs H Q E h=>by obtain⟨_,_,_,_,_,_,_,hF,_⟩:=h;exact hF.elim,fun A outer s H args us vs Q E _ _ _ _ h=>by obtain⟨_,_,_,_,_,_,_,hF,_⟩:=h;exact hF.elim⟩,a,F.kp,F.binds bd⟩
theorem MH(D:Dx Z "_law_same" Fg)(B:BT Z.mg)(n:Nat)(MI:Fx Z n "_law_same" ["found", "due"] 2 (LJT.iB LJT.aK n)):Fx Z (n+1) "_law_same" ["found", "due"] 2 (LJT.aK n):=de (N:=["found", "due"]) D fN fun hr nd hu=>⟨LJT.aA (LJT.iB LJT.aK n),(mP (rB (lA JB (dv 1) vB (by rfl)) (mO (om (mM JB (dv 0) vB (by rfl)))) rA) (mP (rB (JW.jt (xQ (vF (iH vW (by rfl) B.isinstance (by rfl) B.bool vw (dv 1))) (BS (vF (iH vW (by rfl) B.isinstance (by rfl) B.bool vw (dv 0)))))) (mO (om (vG (iH vW (by rfl) B.isinstance (by rfl) B.bool vw (dv 1)) (vG (iH vW (by rfl) B.isinstance (by rfl) B.bool vw (dv 0)) (xS (mM (vR hu) (dv 0) (dv 1) (by rfl))))))) rA) (mP (rB (vF (iH Cu (by rfl) B.isinstance (by rfl) B.int BJ (dv 1))) (mO (om (vG (iH Cu (by rfl) B.isinstance (by rfl) B.int BJ (dv 0)) (xS (mM (vR hu) (dv 0) (dv 1) (by rfl)))))) rA) (mP (rB (vF (iH Ji (by rfl) B.isinstance (by rfl) B.str HW (dv 1))) (mO (om (vG (iH Ji (by rfl) B.isinstance (by rfl) B.str HW (dv 0)) (xS (mM (vR hu) (dv 0) (dv 1) (by rfl)))))) rA) (mP (rB (JW.jt (xQ (lA (vS hu) (iH Cv (by rfl) B.isinstance (by rfl) B.tuple vx (dv 1)) (iH Cv (by rfl) B.isinstance (by rfl) B.tuple vx (dv 0)) (by rfl)) (BS (lA (vS hu) (iH Cw (by rfl) B.isinstance (by rfl) B.list rp (dv 1)) (iH Cw (by rfl) B.isinstance (by rfl) B.list rp (dv 0)) (by rfl))))) (mO (om xM)) rA) (mP (rB (lA (vS hu) (pX Cq (by rfl) B.len q4v (cX (dv 0) lq)) (pX Cq (by rfl) B.len q4v (cX (dv 1) lq)) (by rfl)) (mO (om xM)) rA) (mO (om (mM (R4 hu) xM (IB [none,none] ["one", "other"] rfl (Xv (by rfl) B.zip (cX (dv 0) (cX (dv 1) lq))) (fun d=>(Iv rfl (BV (xT (i:=0) (show(["one", "other"]:List Str).Nodup by decide +kernel) rfl (by trivial)) (BV (xT (i:=1) (show(["one", "other"]:List Str).Nodup by decide +kernel) rfl (by trivial)) Iu)))) (fun d=>BY) (fun d=>(lM (hj:=Nat.ble_eq_true_of_le (Bi _)) MI hr (cX (dv 0) (cX (dv 1) lq))))) (by rfl)))))))))),LJT.fG n⟩
abbrev Y4(Z:Ev):Prop:=Fx Z 3 "_law_same" ["found", "due"] 2 (LJT.aK 2)
theorem Y5(D:Dx Z "_law_same" Fg)(B:BT Z.mg)(n:Nat):Fx Z (n+1) "_law_same" ["found", "due"] 2 (LJT.aK n):=by
 induction n with
 |zero=>exact MH D B 0 (Fh D fN)
 |succ m ih=>exact MH D B (m+1) ih
noncomputable abbrev zm:Stmt:=top 41
theorem mj:kQ ["script", "cells", "k", "cell"] ["script"] (bZ zm):=fF (by decide +kernel)
theorem Y6{f:Addr}{fd:FuncData}(F:gg Z.K "_law_open" "_law_open" zm f fd)(h1:Z.mg "list" = none)(h2:Z.mg "enumerate" = none):bP Z.P Z.w Z.K Z.mg Z.base fu 1 f fd ["script"] (JD Z.K):=by
 refine F.sT mj (fun vs H Q E h=>?_) (fun aF A outer s H vs Q E hr h=>?_)
 ·obtain⟨a,ns,rfl,_⟩:=h
  rfl
 ·obtain⟨a,ns,rfl,hS,hlen,fin⟩:=h
  have nd:=mj.nd
  refine⟨_,nN (nP (i:=1) nd rfl (q23 rfl) (mJ A6 (by rfl) h1 PyProof.Rows.boot_list (ji (AU gx (jv 0) G0 (xv mD)) aI)))
   (nN (Az q5m rfl (Ht (by rfl) h2 (ji (AU gx (jv 0) (xv mD) (xv mD)) aI)) (Au rfl (uD (uB (i:=2) nd rfl (q23 rfl)) (uD (uB (i:=3) nd rfl (q23 rfl)) gu)))
    (mE (Av (qA GG (xw xx (jv 1) (qA AE (jv 2) mD) (fun _ _=>rfl)) (jv 3)) (Gz (jv 1) (qA AE (jv 2) mD) set_list))))
   (mE (sM (mF (ji (jv 1) (ji mD (ji mD aI))))))),?_⟩
  refine⟨_,rfl,_,rfl,a,_,rfl,hS,fun l1 n1=>⟨l1,_,rfl,.inl (aZ.of a_),fun c nc=>?_⟩⟩;have s1:ar H (upd (upd H l1 (.lst (cF (ns.map V.int) none (some 12)))) c (.lst (cF (ns.map V.int) none (some 12)))):=(mV n1).trans (mV nc);refine⟨_,rfl,_,rfl,_,rfl,a,_,rfl,s1.seq hS,fun l2 n2=>⟨l2,rfl,⟨_,aZ.of a_⟩,?_⟩⟩;have Y7:H c=none:=(mV n1).free nc;have Y8:=n2
  have hcc:∃ms:List Int,ms.length=min 12 ns.length/\cF (ns.map V.int) none (some 12)=ms.map V.int:=by
   refine⟨_,?_,CG ns none (some 12)⟩;rw[q0L,q1V];have e1:HT.aU ns.length 0 none=0:=HT.AR _ _;have e2:HT.aU ns.length ns.length (some 12)=min 12 ns.length:=HT.uS ns.length ns.length 12;rw[e1,e2];omega
  have pV:(cF (ns.map V.int) (some 12) (some 63)).length=ns.length-12:=by
   rw[CG,qU,q0L,q1V];have e1:HT.aU ns.length 0 (some 12)=min 12 ns.length:=HT.uS ns.length 0 12;have e2:HT.aU ns.length ns.length (some 63)=min 63 ns.length:=HT.uS ns.length ns.length 63;rw[e1,e2];omega
  have MJ:∀i x,(cF (ns.map V.int) (some 12) (some 63))[i]?=some x->∃n:Int,x=V.int n:=fun i x e=>by
   rw[CG,q0b] at e
   cases q:((ns.drop (HT.aU ns.length 0 (some 12))).take (HT.aU ns.length ns.length (some 63)-HT.aU ns.length 0 (some 12)))[i]? with
   |none=>rw[q] at e;cases e
   |some n=>rw[q] at e;exact⟨n,(q0E e).symm⟩
  generalize cF (ns.map V.int) (some 12) (some 63)=rest at pV MJ n2 ⊢;obtain⟨ms,Y9,Y_⟩:=hcc
  refine HH (K:=Z.K) (a:=l2) (xs:=rest) (fun i σ H2=>∃(ks:List Int)(v1 v2:Option V),σ=[some (.ref a),some (.ref c),v1,v2]/\H2 c=some (.lst (ks.map V.int))/\ks.length=min 12 ns.length/\H2 l2=some (.lst rest)/\ar H H2)
   ⟨ms,none,none,rfl,?_,Y9,a_,?_⟩ (fun i σ H2 _ ⟨_,_,_,_,_,_,q,_⟩=>aZ.of q) ?_ ?_
  ·rw[av (bH a_ n2),a_,Y_]
  ·exact s1.trans (mV n2)
  ·rintro i x T σ H2 hi ⟨ks,v1,v2,rfl,hc,hk,sQ,sm⟩ hT
   obtain⟨n,rfl⟩:=MJ i x hi;have rF:i<rest.length:=(sR.mp hi).1;have Za:ks.length=12:=by omega
   have cT:c≠T:=bH hc hT;have jB:upd H2 T (.tup [.int i,.int n]) c=some (.lst (ks.map V.int)):=by rw[av cT];exact hc
   have j0:0<=((i:Int))%12:=q1R _ (by decide);have j1:((i:Int))%12<12:=q1n _ (by decide);obtain⟨m,em⟩:=SY (ns:=ks) j0 (by omega)
   have ix:jG (ks.map V.int).length ((i:Int)%12)=some ((i:Int)%12).toNat:=by
    unfold jG;rw[q0f j0,q0f (by rw[qU];omega)]
   refine⟨T,_,rfl,bw.of a_,rfl,_,_,rfl,_,_,rfl,rfl,?_⟩;refine⟨_,rfl,_,rfl,_,_,rfl,rfl,(show(0:Int)<12 by decide),_,_,_,_,rfl,rfl,aZ.of jB,em,_,rfl,_,_,rfl,rfl,_,rfl,_,rfl,_,_,rfl,rfl,(show(0:Int)<12 by decide),_,_,_,_,rfl,rfl,jB,ix,?_⟩;refine⟨ks.set ((i:Int)%12).toNat (m+n),_,_,rfl,?_,by rw[q1H];exact hk,?_,?_⟩
   ·rw[a_,List.map_set]
   ·have Zb:l2≠c:=by
     intro z;subst z;exact absurd Y8 (by rw[a_];intro y;cases y)
    rw[av Zb,av (bH sQ hT)];exact sQ
   ·intro b o e
    rw[av (bH e Y7)];exact mV hT b o (sm b o e)
  ·rintro σ H2 ⟨ks,v1,v2,rfl,hc,hk,sQ,sm⟩
   refine⟨_,rfl,(by show 3<=sizeLine;decide),fun p np=>?_⟩;have Zc:H p=none:=sm.free np;exact fin p c _ (sm.trans (mV np)) Zc ⟨a_,⟨ks,by rw[av (bH hc np)];exact hc,by omega⟩,Int.le_refl 0⟩
noncomputable abbrev uc:Stmt:=top 61
theorem Zd{f sC:Addr}{fd pB:FuncData}(F:gg Z.K "law" "law" uc f fd)(B:BT Z.mg)(GO:Fn Z.P Z.w Z.K Z.mg Z.base 1 "_law_open" ["script"] (JD Z.K) sC pB)(z1P:L_ Z)(z1J:LX Z)(x3h:Mr Z)(E_:wZ Z)(YH:Fc Z)(MI:Y4 Z)(z1R:Mu Z)(z1G:MG Z):bP Z.P Z.w Z.K Z.mg Z.base fu 23 f fd ["script"] (yo Z.K):=by
 have sc:kQ ["script", "pen", "turn", "web", "many", "some", "at", "odd", "lists", "ways", "handed"] ["script"] (bZ uc):=fF (by decide +kernel);refine F.sT (k:=22) sc (fun vs H Q E h=>?_) (fun aF A outer s H vs Q E hr h=>?_)
 ·obtain⟨a,ns,rfl,_⟩:=h
  rfl
 obtain⟨a,ns,rfl,hS,hlen,hT,fin⟩:=h;have nd:=sc.nd;have hu:=hr.units;have rest:bz (bq fu Z.P Z.w Z.K Z.mg Z.base ["script", "pen", "turn", "web", "many", "some", "at", "odd", "lists", "ways", "handed"] "law" (bZ uc) f aF A outer s H E).kO ((cx uc).drop 1) (b9 EY):=(by ac_rfl);refine⟨_,nN (nP (i:=1) nd rfl (by trivial) (pN GO.ok (hr.mono (by decide)) (by rfl) GO.vv GO.kp GO.bd .nil sS (fY (jv 0) aI))) rest,?_⟩;refine⟨_,rfl,a,ns,rfl,hS,hlen,fun p c H1 sm hp N1=>?_⟩;obtain⟨F',ms,hm,S⟩:=S7 (a:=a) (n:=9) (aB.same hT sm) N1;exact S8 S (XX ms hm) fin
end
noncomputable def dE:List lJ:=[⟨300,⟨98,25,98,63⟩,(("least_of" : Str)++".<locals>.")++"<lambda>"⟩]
noncomputable def Fi:List (Str×Stmt×Addr):=[("least_of",LM,300)]
noncomputable def zo(K:xA)(C:Addr):Bool :=
 (match PySem.W.clsIn K C with|some cd=>dQ cd.mro&&cd.hasDict|none=>false) &&
 (q2i K (.ref C) "__getattribute__" == some (some (.builtin "BaseException.__getattribute__"))) &&
 (q2i K (.ref C) "__getattr__" == some none) &&
 (q2i K (.ref C) "__setattr__" == some (some (.builtin "object.__setattr__"))) &&
 (q2i K (.ref C) "__class__" == some (some (.builtin "object.__class__"))) &&
 (q6I K (.builtin "object.__class__") "__get__" == some (some (.builtin "getset_descriptor.__get__"))) &&
 (q7z K (.builtin "object.__class__")==some true)
theorem MK{K:xA}{C:Addr}(h:zo K C=true):bo K C:=by
 unfold zo at h;simp only[q0y] at h;obtain⟨⟨⟨⟨⟨⟨h1,h2⟩,h3⟩,h4⟩,h5⟩,h6⟩,h7⟩:=h;refine⟨?_,q0m h2,q0m h3,q0m h4,q0m h5,q0m h6,q0m h7⟩;split at h1
 ·rename_i cd e
  simp only[q0y] at h1;exact⟨cd,e,h1.1,h1.2⟩
 ·cases h1
noncomputable def Fj(K:xA)(L:Addr)(Cs:List Addr):Bool :=
 zo K L&&(q0q K (.ref L) (.ref L)==some true)&&(q0q K (.ref L) (.type "ValueError")==some true) &&
 (Cs.zipIdx.all fun z=>q0q K (.ref L) (.ref z.1)==some false) &&
 (Cs.zipIdx.all fun y=>zo K y.1&&(q2i K (.ref y.1) "place" == some none)&&(q0q K (.ref y.1) (.ref L)==some true)&&(q0q K (.ref y.1) (.type "ValueError")==some true) &&
  Cs.zipIdx.all fun z=>q0q K (.ref y.1) (.ref z.1)==some (decide (z.2=y.2)))
theorem Ze{K:xA}{L:Addr}{Cs:List Addr}(hl:Cs.length=13)(h:Fj K L Cs=true):C5 K L Cs:=by
 unfold Fj at h;simp only[q0y] at h;obtain⟨⟨⟨⟨h1,h2⟩,h3⟩,h4⟩,h5⟩:=h;have at_:∀{i:Nat}{C:Addr},Cs[i]?=some C->(C,i)∈Cs.zipIdx:=fun{i C} e=>List.mk_mem_zipIdx_iff_getElem?.mpr e;have each:∀(j:Nat)(C:Addr),Cs[j]?=some C->_:=fun j C e=>q03.mp h5 (C,j) (at_ e);refine⟨hl,fun j C e=>?_,⟨MK h1,q0m h2,q0m h3,fun i C' e=>q0m (q03.mp h4 (C',i) (at_ e))⟩,fun j C e=>?_⟩
 ·have:=each j C e
  simp only[q0y] at this;obtain⟨⟨⟨⟨a,_⟩,c⟩,d⟩,f⟩:=this;exact⟨MK a,q0m c,q0m d,fun i C' e'=>q0m (q03.mp f (C',i) (at_ e'))⟩
 ·have:=each j C e
  simp only[q0y] at this;exact q0m this.1.1.1.2
noncomputable def nsOk(K:xA)(N:Addr)(name:Str)(r:Option Value):Bool:=match q7r N K with
 |some ⟨_,_,.dict es _,_⟩=>(es.all fun e=>match e.key with|.str _ _=>true|_=>false)&&(nsFind es name==r)
 |_=>false
theorem ML{K:xA}{N:Addr}{name:Str}{r:Option Value}(h:nsOk K N name r=true):vh K N name r:=by
 unfold nsOk at h;split at h
 ·rename_i oc od es ep sl e
  simp only[q0y] at h;exact⟨oc,od,es,ep,sl,e,h.1,q0m h.2⟩
 ·cases h
theorem Zf{K:xA}{L C N:Addr}{nm q:Str}{bs:List Value}{eR:Bool}{sn:List Str}{sub:List Value}{ab:Bool}{col:Option Bool}{dd:Option Addr}{k0 k1 k2 k3 k5:Option Value}{k_:Option Value}(T:bX K (.ref L::qZ))
  (l:K.lookup C=some (excClassObj nm q C N bs (.ref L::qZ) eR sn sub ab col dd k0 k1 k2 k3 k5 "ValueError.__new__")) (n:nsOk K N "__init__" k_=true) (kp:q1u K (.ref C)=true):vi K C k_ :=
 ⟨⟨_,_,N,_,_,_,_,_,_,_,_,_,_,_,_,_,l,T,ML n⟩,kp⟩
noncomputable abbrev dp(x:Str)(s:Stmt):Str×Stmt:=(x,s)
noncomputable def MM:List (Str×Stmt):=[dp "is_whole" Ll,dp "is_within" Ln,dp "is_tuple_of" Lo,dp "are_ends" Lp,dp "is_way" Lr,dp "are_ways" Lw,dp "is_web" Ly,dp "need_web" LA,dp "rank_of" LB,dp "need_ways" E9,dp "joined" LG,dp "firsts_of" LI,dp "lots_of" zj,dp "leads_out" LO,dp "ways_out" LQ,dp "round_of" Mz,dp "_law_spread" LU,dp "_law_open" zm,dp "_law_anew" LW,dp "_law_take" LY,dp "_law_is_whole" LZ,dp "_law_same" Fg,dp "_law_pairs_of" L7,dp "_law_web" L9,dp "_law_key" Ma,dp "_law_marks_by" Mc,dp "_law_lots" Me,dp "_law_leads_out" Mg,dp "_law_outs" Mi,dp "_law_is_in" Ml,dp "_law_is_web" Mm,dp "_law_ways_due" Mo,dp "_law_some_ways" Mq,dp "_law_refusal" MB,dp "_law_all" Ms,dp "_law_told" MF,dp "_law_due" Mt,dp "law" uc]
theorem Zg{l:q7F}{w:World}{K:xA}{h:Heap}{mg:Str->Option Value}{fa:Addr}{L N0 c0 c1 c2 c3 c4 c5 c6 c7 c8 c9 jy jz jA:Addr}{Zh Zi:Str}{Zj:List Value}{Zk:Bool}{Zl:List Str}{Fl:List Value}{Zm:Bool}{Fm:Option Bool}{Zn:Option Addr}{Zo Zp Zq Zr Zs:Option Value}{M0:Addr}{Fp Fq:Str}{Fs:List Value}{Ft:Bool}{Fu:List Str}{w9:List Value}{Fv:Bool}{w_:Option Bool}{Fw:Option Addr}{FA FC FD FE FF:Option Value}{ue:Addr}{Zt Zu:Option Addr}{uo:Array (Option Value)}{Zv Zw Zx Zy MN Zz:Value}(X:K.In h)(G:h.Ns mainGlobals mg)(ZA:mg "law" = some (.ref fa))(DS:gE K MM)(LS:eC K Fi)(N:∀x∈CY,q0N K mainGlobals x=some none)(gK:Ck K "MOST_HOUSES" 12)(jc:Ck K "MOST_WAYS" 30)(iC:Ck K "MOST_PRICE" 1000000000)(aL:q0N K mainGlobals "LotError" = some (some (.ref L)))(lL:K.lookup L=some (excClassObj Zh Zi L N0 Zj (qZ) Zk Zl Fl Zm Fm Zn Zo Zp Zq Zr Zs "ValueError.__new__"))(nL:nsOk K N0 "__init__" none=true)(aC0:q0N K mainGlobals "NoWay" = some (some (.ref c0)))(aC1:q0N K mainGlobals "NoJoin" = some (some (.ref c1)))(aC2:q0N K mainGlobals "NoStep" = some (some (.ref c2)))(aC3:q0N K mainGlobals "NoHouse" = some (some (.ref c3)))(aC4:q0N K mainGlobals "NoWeb" = some (some (.ref c4)))(aC5:q0N K mainGlobals "NoPrice" = some (some (.ref c5)))(aC6:q0N K mainGlobals "TooMany" = some (some (.ref c6)))(aC7:q0N K mainGlobals "Closed" = some (some (.ref c7)))(aC8:q0N K mainGlobals "Free" = some (some (.ref c8)))(aC9:q0N K mainGlobals "Nothing" = some (some (.ref c9)))(aC10:q0N K mainGlobals "NoNumber" = some (some (.ref jy)))(aC11:q0N K mainGlobals "NoText" = some (some (.ref jz)))(aC12:q0N K mainGlobals "NoLine" = some (some (.ref jA)))(kit:Fj K L [c0,c1,c2,c3,c4,c5,c6,c7,c8,c9,jy,jz,jA]=true)(exm:([c0,c1,c2,c3,c4,c5,c6,c7,c8,c9,jy,jz,jA].all fun c=>q3J K (.ref c) (.ref L)==some true)=true)(zVE:q0N K mainGlobals "ValueError" = some none)(aI0:q2i K (.ref c0) "__init__" = some (some (.ref ue)))(lI0:K.lookup ue=some ⟨Zv,Zt,.func (q1T "__init__" "NoWay.__init__" (kY w5) (cx w5) (bZ w5) .none Zw Zx Zy Zu MN Zz),uo⟩)(qI0:q28 K MN "NoWay.__init__" = true)(kI0:q1u K (.ref ue)=true)(iI0:q6W K (.ref ue)=true)(lC0:K.lookup c0=some (excClassObj Fp Fq c0 M0 Fs (.ref L::qZ) Ft Fu w9 Fv w_ Fw FA FC FD FE FF "ValueError.__new__"))(nC0:nsOk K M0 "__init__" (some (.ref ue))=true)(kC0:q1u K (.ref c0)=true)
  : ∃fd:FuncData,(∀(s:Shared)(v:Value),BindsTo s fd ⟨[v],[]⟩ [("script",v)])/\∀base:Heap,K.In base->base.Ns mainGlobals mg->(∀t∈dE,base.BuiltinsAt mg t.T)->bP l.prog w K mg base fu 23 fa fd ["script"] (@yo (oF dE) K):=by
 obtain⟨f,fd,a,F⟩:=DS.at (x:="law") (st:=uc) 37 rfl;cases ZA.symm.trans (q0U X G a)
 letI:aB:=oF dE;have B:=TV X G N;refine⟨fd,fun s v=>by obtain⟨_,_,_,_,_,_,_,_,_,rfl,_⟩:=F.ex;exact .of_eq rfl,fun base KB _ hB=>?_⟩;have D:∀(i:Nat){x:Str}{st:Stmt},MM[i]?=some (x,st)->Dx ⟨l.prog,w,K,mg,base⟩ x st:=fun i _ _ e=>(DS.at i e).v X G;have M:∀(i:Nat){x:Str}{st:Stmt}{T:Addr}{lp:Pos}{q:Str},Fi[i]?=some (x,st,T)->dE[i]?=some ⟨T,lp,q⟩->yx ⟨l.prog,w,K,mg,base⟩ x st T lp q:=fun i _ _ _ _ _ e e2=>(LS.at i e).v X G KB hB (by decide) (by decide) (q0M e2);have W:C5 K L [c0,c1,c2,c3,c4,c5,c6,c7,c8,c9,jy,jz,jA]:=Ze rfl kit
 have T:C6 mg L [c0,c1,c2,c3,c4,c5,c6,c7,c8,c9,jy,jz,jA]:=by
  refine⟨B.isinstance,q6t X G zVE,q0U X G aL,fun j x hx=>?_⟩;unfold names13 at hx;rcases j with _|_|_|_|_|_|_|_|_|_|_|_|_|j<;>simp at hx<;>subst hx
  ·exact⟨_,rfl,q0U X G aC0⟩
  ·exact⟨_,rfl,q0U X G aC1⟩
  ·exact⟨_,rfl,q0U X G aC2⟩
  ·exact⟨_,rfl,q0U X G aC3⟩
  ·exact⟨_,rfl,q0U X G aC4⟩
  ·exact⟨_,rfl,q0U X G aC5⟩
  ·exact⟨_,rfl,q0U X G aC6⟩
  ·exact⟨_,rfl,q0U X G aC7⟩
  ·exact⟨_,rfl,q0U X G aC8⟩
  ·exact⟨_,rfl,q0U X G aC9⟩
  ·exact⟨_,rfl,q0U X G aC10⟩
  ·exact⟨_,rfl,q0U X G aC11⟩
  ·exact⟨_,rfl,q0U X G aC12⟩
 have TL:bX K (.ref L::qZ):=.own lL (ML nL) .base;have hX:∀(c:Nat)(C:Addr),([c0,c1,c2,c3,c4,c5,c6,c7,c8,c9,jy,jz,jA]:List Addr)[c]?=some C->c<13/\q3J K (.ref C) (.ref L)=some true:=fun c C e=>⟨(sR.mp e).1,q0m (q03.mp exm C (q0M e))⟩;have MO:=Bj (st:=w5) lI0 qI0 kI0;have sD:EI ⟨l.prog,w,K,mg,base⟩ [c0,c1,c2,c3,c4,c5,c6,c7,c8,c9,jy,jz,jA] 0 "NoWay" := ⟨by decide,c0,rfl,q0U X G aC0,ue,_,Zf TL lC0 nC0 kC0,iI0,YR MO (W.each 0 c0 rfl).1 (W.jx 0 c0 rfl),MO.binds (ps:=["self", "place"]) fun _ _ _ _ _ _ us hl=>by obtain⟨_,_,rfl⟩:=CV hl;rfl⟩;have ZC:=X8 (D 0 rfl) B;have xa:=X9 (D 1 rfl) B ZC;have MP:=X_ (D 2 rfl) B
 have ZD:=Ya (D 3 rfl) B xa;have ZE:=Yb (D 4 rfl) B (iC.v X G) MP ZD xa;have ZF:=Yd (D 5 rfl) B (jc.v X G) ZE;have ZH:=Ye (D 6 rfl) B (gK.v X G) MP xa ZF;have MQ:=Yf (D 7 rfl) B ZH;have ZI:=Yg (D 8 rfl) B;have ZJ:=YL (Cs:=[c0,c1,c2,c3,c4,c5,c6,c7,c8,c9,jy,jz,jA]) (D 9 rfl) B sD MQ xa;have ZK:=Yh (D 9 rfl) B MQ xa;have ZL:=Yj (D 10 rfl) B;have ZM:=Yk (D 11 rfl) B ZL;have ZN:=YI (D 12 rfl) B ZK ZM;have ZO:=YM (Cs:=[c0,c1,c2,c3,c4,c5,c6,c7,c8,c9,jy,jz,jA]) (D 12 rfl) B ZJ;have ZP:=Yl (M 0 rfl rfl) B ZI;have ZQ:=Yn (D 13 rfl) B;have ZR:=Yo (D 14 rfl) B ZQ;have ZS:=YN (Cs:=[c0,c1,c2,c3,c4,c5,c6,c7,c8,c9,jy,jz,jA]) (D 15 rfl) B ZN ZR ZP ZO
 have ZT:=Yp (D 16 rfl) B;have ZU:=Yq (D 18 rfl) B;have zp:=Yr (D 19 rfl) B ZT;have ZV:=Ys (D 20 rfl) B;have ZW:=Y5 (D 21 rfl) B 2;have ZX:=Yt (D 22 rfl) B zp;have ZY:=Yu (D 23 rfl) B zp ZX;have ZZ:=Yv (D 24 rfl) B;have Z0:=Yw (D 25 rfl) B;have Z1:=Yx (D 26 rfl) B Z0;have Z2:=Yy (D 27 rfl) B;have Z3:=Yz (D 28 rfl) B Z2 ZZ;have MR:=YA (D 29 rfl) B ZV;have Z4:=YB (D 30 rfl) B MR;have Z5:=YD (D 31 rfl) B Z4 MR;have Z6:=YE (D 32 rfl) B zp;obtain⟨fR,Ff,aR,FR⟩:=D 33 (x:="_law_refusal") (st:=MB) rfl;have GR:Fn l.prog w K mg base 1 "_law_refusal" ["caught"] (lR [c0,c1,c2,c3,c4,c5,c6,c7,c8,c9,jy,jz,jA]) fR Ff:=⟨Y1 (Z:=⟨l.prog,w,K,mg,base⟩) FR T W,aR,FR.kp,FR.binds mX⟩
 have MS:=YF (D 34 rfl) B;have Z7:=Y2 (D 35 rfl) B GR (q0U X G aL) hX ZS;have Z8:=YG (D 36 rfl) B Z5 Z1 Z3 MS;obtain⟨fo,fdo,ao,Fo⟩:=D 17 (x:="_law_open") (st:=zm) rfl;exact Zd (Z:=⟨l.prog,w,K,mg,base⟩) F B ⟨Y6 Fo B.list B.enumerate,ao,Fo.kp,Fo.binds mX⟩ ZY ZU Z6 zp MS ZW Z8 Z7
theorem Z9{K:xA}{h:Heap}(X:K.In h)(LS:eC K Fi):∀t∈dE,∃cc,q8b h cc t.T:=fun t ht=>LS.code X t.T (show t.T∈dE.map (·.T) from q3f ht)
end LJ
open PySem PySem.W PyProof.Rows
inductive PySem.W.Fast:Prop|tw6983978663967900276|tw17237589311926415404|tw8438287705476175992|tw6280513321847495000|tw7931555831877032145|tw6526961940459737197|tw8141660621556261512|tw14991258112626515641|tw23994915611485410|tw7366612675254181078|tw3779648043305994588|tw9692301783149933595|tw12530333580638877067|tw6181351989325017091|tw6569467359400391667|tw14918533769413865193|tw13471493765928123740|tw9378108746084487190|tw15568887056970028604|tw16513924625029434980|tw17987683310135321836|tw13126734387916822611|tw6187980081941990628|tw7253317078950138253|tw14106651464902270493|tw18075500127924918791|tw14045169434905209798|tw12656958878710934455|tw833253930346736936|tw8880605541800697834|tw3181268202134573960|tw7171210219500172262|tw1401372926759719630|tw3475502923908209430|tw14244916916016258899|tw10044939539783606739|tw6169592125041036353|tw12054434640280488126|tw5206051442883928375|tw5798539441130352234|tw8067578620191626961|tw4234947333466684405|tw11576821697361629133|tw13808343898368460585|tw10309954276439085489|tw9628688784340142131|tw15855120181462162641|tw752200625042924840|tw18009379247184189763|tw227544860525048590|tw14437109757361220298|tw14258664729715237001|tw9739359561316797352|tw6663697948016631771|tw15027946599877795075|tw17595329551774770759|tw2814505992827388934|tw2852983619585828060|tw8735556987766791157|tw706118710159598859|tw2536861466890852237|tw4081022281779811672|tw11742146856398888454|tw2580206881114809345|tw11365547099519023540|tw17665273979864084581|tw3319715583773041707|tw14196996107992285485|tw13130958914780346525|tw7507472601087430201|tw1209332961521061406|tw16985560123400198713|tw2716854889125057455|tw2589792401158717642|tw6417231799429978740|tw2392012916571420869|tw1520001472546774178|tw6578056312444465249|tw5448798768771628152|tw12991695435148442529|tw15093562551271859903|tw4731490048815144024|tw16423791025783120535|tw5876587000247979173|tw14956505941386845464|tw79038583831013215|tw12650563470572121991|tw6181027655667921709|tw12825325026325527104|tw14432736869646238926|tw13110380795899353921|tw5517105485331823189|tw1379210101603265544|tw9901885760152104613|tw8049658156608357345|tw3790213602639783800|tw6091850208544001472|tw2333350845608678464|tw11835839430977061836|tw2103003439053385665|tw12027576100343405990|tw3726326770522458928|tw8703340955472275142|tw15234282592068031839|tw12394820894737453745|tw17698272492534688215|tw13049802779395610098|tw17512657928046262931|tw17051911207834550637|tw2545385397245083545|tw11165972736128029227|tw18092885980393757718|tw6632554312208980846|tw6068573933622370434|tw4654329205176651445|tw13932041551624559473|tw4016141181538189631|tw7434602916204781936|tw10997755181412963556|tw11345830578454140176|tw9919665712368723657|tw250564350281463768|tw5544058875542250186|tw11775244727263765616|tw544407138339113276|tw329533260331332076|tw16091265350222905980|tw3284858386509344808|tw6825946647191476121|tw13458439002285806937|tw2341750908171285000|tw13256248620481111341|tw9171501343858763608|tw908655220774834730|tw1616567203940154103|tw119003096392498632|tw9846734213414586714|tw16181704723135183879|tw2868070638760662462|tw2175135549601414689|tw13670501090807633918|tw15382524112204606944|tw3191361610837296069|tw17627077262981811213|tw1025451149424446447|tw2810374261370197449|tw12928920206534390869|tw2858573031801143091|tw478605105335106126|tw17796210662761798072|tw15057657964034375580|tw2324198658508618823|tw13643695220600790662|tw5017523730312079426|tw11648322103135090753|tw17655826405146382342|tw4072654650901212047|tw8611914888414956207|tw2056037645041043071|tw777957889506754546|tw18207938196670395575|tw3149466738288783012|tw2340497273486127085|tw10621104994697368748|tw3031560920134459667|tw6567996615027937129|tw14283405520651092237|tw81723167959680883|tw13725252776829963374|tw16999217166083808732|tw1009470056172239264|tw11229953601774447332|tw9386741172789209569|tw18320294176120138189|tw3157891911198729089|tw3618321992229065868|tw11273520891382838388|tw13367033424081785928|tw198844412476759584|tw11070338531879621896|tw8197536508671316185|tw4283814986198626417|tw11615690557586385607|tw3248609288079353170|tw5972236639590210053|tw11700928316830731351|tw4006587825264537208|tw5141894210188466234|tw1350727253190954569|tw15696129378846081192|tw10626271441878182588|tw353719267582233709|tw18321968090119578039|tw5257756528397743038|tw9447579673082021146|tw14474034559993740672|tw9165075132015544839|tw3288297660250519401|tw10760923740471935780|tw7177548125441007500|tw10418266255181031341|tw10608396734126657086|tw18134426632431393620|tw11215989019850504519|tw14939561976319723401|tw364453575110786706|tw6688215819289069035|tw15418983940930548812|tw1344718120442347504|tw7610563852861282841|tw11752216114269768562|tw2921483282416739508|tw2031879000122530880|tw604858894967634719|tw10889629373286072241|tw7064908746478715827|tw604443257158168265|tw1434642768741131159|tw11885210719803683746|tw16062124450950728619|tw3100615174848793063|tw15336123184585743972|tw4749261152906024513|tw10970137586926226719|tw12119110238493074231|tw2152713955877079298|tw10646970080881093918|tw504455017704526440|tw17219389898373016976|tw4747250283377758296|tw17267183905075430083|tw4273037512843365829|tw1577185554264865106|tw13803426703622780360|tw15242153070124593598|tw3903984533788304988|tw7890926346324396517|tw6180109655394036920|tw6194765186120110788|tw11186509219848447142|tw12493468105213451852|tw5855593657709328079|tw5613668856845115055|tw12884897937893837704|tw6959337763719589331|tw4242143128894333651|tw10718435427227226474|tw329019021375448379|tw14768569268692440807|tw4142885979106778174|tw5499187442100920019|tw326468533560111792|tw4728835260817132609|tw2383899266701426722|tw6004957850683362178|tw14379410098191057252|tw17122289081297121433|tw4032419602432627947|tw3858588600599944339|tw6118518497596405987|tw8695388844208480947|tw7341352188982751836|tw7638994190758948223|tw17911361706394347457|tw17973285601077476466|tw2007134089257505524|tw11087095872881240434|tw18398611203959498362|tw18045739462857912455|tw10147612814510995507|tw11014160699676591578|tw11394037562762560572|tw11483427549842647524|tw14212716047590856154|tw1942569220259236817|tw11957815179586213228|tw14215647808881700397|tw5611583499259911495|tw4369913702486842990|tw3208411250700280073|tw17196520488871636316|tw11376108392719357978|tw1446526351711203264|tw9707540567265591042|tw11687953710935239910|tw16451093448846672026|tw3558290816171221186|tw6008069154097392605|tw14007520497639399118|tw5354035075694817274|tw8902476442786634608|tw17190743778291469560|tw2515547438873482525|tw7293243312416170628|tw457749009328696944|tw18218172818802034284|tw3170291548638051558|tw10214611010845446531|tw10385095428502584876|tw3402686781544362486
set_option maxRecDepth 100000 in
set_option maxHeartbeats 0 in
theorem PySem.Challenge.cw_lotjoin_k21_one_round_holds : PySem.Challenge.rw_lotjoin_k21_one_round.Holds := by
 w_on;o_law;k_head;(case hw=>w_witness2)
 k_fill
 refine LJ.Vj (l:=PySem.Challenge.rw_lotjoin_k21_one_round) (kk:=23) LJ.dE rfl rfl rfl ⟨rfl,by decide,by decide⟩ ?C (fun P=>by kernel_rfl) ?F
 case C =>
  intro w h KX;refine LJ.Z9 KX ?_
  repeat' first|exact LJ.eC.nil|refine LJ.wg (by k_is) (by k_is) (by k_is) (by k_is) (by kernel_rfl) ?_
 case F =>
  intro w mg fa h KX G nZ;refine' LJ.Zg KX G nZ ?dD ?dL ?dN ⟨_,by k_is,_,rfl⟩ ⟨_,by k_is,_,rfl⟩ ⟨_,by k_is,_,rfl⟩ ?aL ?lL ?nL ?aC0 ?aC1 ?aC2 ?aC3 ?aC4 ?aC5 ?aC6 ?aC7 ?aC8 ?aC9 ?aC10 ?aC11 ?aC12 ?kit ?exm ?zVE ?aI0 ?lI0 ?qI0 ?kI0 ?iI0 ?lC0 ?nC0 ?kC0
  (case dD=>repeat' first|exact LJ.gE.nil|refine LJ.CW (by k_is) (by k_is) (by k_is) (by k_is) ?_)
  (case dL=>repeat' first|exact LJ.eC.nil|refine LJ.wg (by k_is) (by k_is) (by k_is) (by k_is) (by kernel_rfl) ?_)
  (case dN=>repeat' first|exact List.forall_mem_nil _|refine LJ.TR (by k_is) ?_)
  (case aL=>k_is)
  (case aC0=>k_is)
  (case aC1=>k_is)
  (case aC2=>k_is)
  (case aC3=>k_is)
  (case aC4=>k_is)
  (case aC5=>k_is)
  (case aC6=>k_is)
  (case aC7=>k_is)
  (case aC8=>k_is)
  (case aC9=>k_is)
  (case aC10=>k_is)
  (case aC11=>k_is)
  (case aC12=>k_is)
  (case lL=>k_is)
  (case nL=>kernel_rfl)
  (case kit=>kernel_rfl)
  (case exm=>kernel_rfl)
  (case zVE=>k_is)
  (case aI0=>k_is)
  (case lI0=>k_is)
  (case qI0=>k_is)
  (case kI0=>k_is)
  (case iI0=>k_is)
  (case lC0=>k_is)
  (case nC0=>kernel_rfl)
  (case kC0=>k_is)
