import PyProof.Rows.All
import Wide.All
import OpenK.AllK
import Wide.FinOn
import Lean
import PyProof.Rows.SetFrom
import PyProof.TupleKey
import PyProof.SetRoads
import PySem.SetOps
import PyProof.EqAt
import PyProof.EqKinds
import PyProof.TupleCall
import KE.KDictList
import KE.KDictLaws
import PyProof.NeKinds
import PyProof.Draws
import KE.KSortTup
import KE.KLam
import PyProof.ListRange
import PyProof.TupleOfSeq
import KE.KNestM
import KE.KMinKey
import PyProof.MinMaxWalk
import PySem.Challenge.RW_lotjoin_k46_letters_told
set_option bootstrap.genMatcherCode false
open List renaming append_nil->oo,foldl_cons->rJ,foldl_nil->tE,getElem?_eq_getElem->xF,length_map->Ba,getElem?_eq_some_iff->Hy,length_cons->HB,length_append->Pz,size_toArray->PA,getElem?_map->PB,mem_cons->PC,getD_eq_getElem?_getD->PD,getElem?_append_left->Zd,getElem?_append_right->Zf,mem_iff_getElem?->q0d,replicate->q0f,mem_cons_of_mem->q0g,mem_cons_self->q0h,mem_append_right->q0k,mem_map->q0l,map_cons->q0m,not_mem_nil->q0o,lookup_cons->q0q,map_append->q0r,mem_append->q0u,range->q0x,map_map->q0C,mem_singleton->q0D,length_take->q0E,getElem?_take_of_lt->q0I,length_filter_le->q0K,mem_filter->q0M,length_singleton->q0Q,mem_of_getElem?->q0S,mem_range->q0Y,length_range->q00,getElem?_set_self->q01,getElem?_set_ne->q02,filter_cons->q0_,set_cons_zero->q1b,set_cons_succ->q1c,length_nil->q1i,replicate_succ->q1m,mem_append_left->q1p,pairwise_cons->q1q,length_set->q1v,take_of_length_le->q1y,all_eq_true->q1N,length_eq_zero_iff->q1P,getElem_mem->q1Q,nodup_append->q1W,filter_map->q10,getElem?_eq_none->q11,zip_cons_cons->q15,map_nil->q16,any_eq_false->q17,getElem?_range->q1_,length_drop->q2e,getElem?_toArray->q2l,nodup_cons->q2n,append_assoc->q2p,mem_iff_getElem->q2q,flatten_cons->q2r,toArray->q2s,any_cons->q2w,map_congr_left->q2y,Perm.refl->q2A,lookup->q2D,find?_cons->q2J,ext_getElem?->q2K,pairwise_map->q2L,zip_nil_left->q2M,range_eq_range'->q2O,take_length->q2Q,pairwise_iff_getElem->q2S,drop_eq_getElem_cons->q2U,mem_map_of_mem->q2V,eq_of_mem_replicate->q2X,mem_filterMap->q23,getElem?_replicate->q25,take_succ->q3h,length_filterMap_eq_countP->q3i,length_replicate->q3l,countP_cons->q3m,getElem_map->q3s,mem_of_mem_drop->q3u,filterMap_cons->q3F,length_eraseIdx_of_lt->q3M,Perm.swap->q3N,zip_nil_right->q3S,take_zero->q3Y,filter_append->q3Z,mem_or_eq_of_mem_set->q33,extract_eq_take_drop->q34,range'->q4b,nodup_range->q4o,getElem_inj->q4v,cons_append->q4A,getElem?_cons_succ->q4B,filter_cons_of_neg->q4D,filter_cons_of_pos->q4E,pairwise_lt_range->q4I,drop_of_length_le->q4S,find?_cons_of_pos->q4T,find?_cons_of_neg->q4U,of_mem_zip->q4Z,nil_append->q40,forIn_cons->q41,contains_iff_mem->q45,countP_eq_length->q46,Perm.append_left->q47,mem_of_mem_take->q5f,drop_zero->q5g,Perm.cons->q5h,nodup_nil->q5k,forIn_nil->q5r,map_id->q5s,take_succ_cons->q5w,filter_eq_self->q5x,replicate_zero->q5y,filter_sublist->q5z,forall_mem_nil->q5B,filterMap_map->q5L,getElem?_drop->q5V,take_sublist->q5Y,Pairwise.nil->q51,Sublist.refl->q6l,foldl_append->q6m,flatMap_cons->q6s,mem_flatMap->q6B,any_eq_true->q6D,range'_succ->q6E,zipIdx_cons->q6G,find?_some->q6O,range_succ->q6R,zipIdx_nil->q63,foldl->q7h,cons.inj->q7M,sum_cons->q7O,Perm->q7Q,any_map->q8v,map_set->q8D,filter->q9O,drop->x03
open Nat renaming reduceBEq->rG,le_refl->Hz,ne_of_lt->q0b,lt_of_lt_of_le->q0j,le_trans->q0w,zero_add->q0A,lt_succ_of_lt->q0J,lt_succ_self->q0N,sub_self->q0W,zero_le->q0Z,le_of_lt->q1d,lt_irrefl->q1E,ne_of_gt->q1I,le_of_ble_eq_true->q12,le_add_right->q13,lt_of_le_of_lt->q24,le_of_lt_succ->q28,le_of_not_lt->q3n,le_succ->q3w,succ_le_succ->q4y,succ_ne_self->q4z,add_sub_cancel_left->q4C,lt_trans->q4G,le_of_eq->q56,le_of_succ_le->q6g,lt_of_succ_le->q6h,min_self->q6k,le_succ_of_le->q6o,ble->q6p,succ.inj->q6q,mul_le_mul->q7t,reduceAdd->q7K,succ_add->q74,succ_pos->q75,mul_comm->q76,sub_zero->q77,succ_mul->q8d,add_zero->q8C,mod_lt->x0l,not_lt->x0z
open PySem renaming wpAny_bind->rH,Heap.get?_push_of_some->u7,wpAny_pure->HA,W.Frag->My,Heap.lt_size->Ze,Heap.get?_push_size->Zg,Spec->q0n,Value.none->q0y,Value.ref->q0F,wpAny_holding->q0H,Heap.SameBut.update->q0L,F.plainAttrs_list->q0P,Heap.size_push->q0T,Heap.get?_update_self->q0U,Str.ofString->q0V,Value.int->q0X,Obj.mapSeq->q04,W.fnOf->q06,wpAny_callSpecial?_slot->q07,wpAny_call_entry->q08,W.keepIn->q09,F.called_set->q1e,Heap.get?_update_other->q1f,W.kitOne->q1g,wpAny_loadPart'->q1h,F.slot_list_append->q1j,F.type_list_append->q1k,mem_of_lookup->q1l,W.findIn->q1s,codeAny_builtin->q1t,W.kia_one->q1u,Builtin.SmallTypes.nextOf->q1z,wpAny_newObj_type->q1A,W.emptyDict->q1B,wpAny_field->q1C,wpAny_seqItems->q1D,NameKind.cell->q1F,Builtin.SmallTypes.ownedTupleIsFree->q1G,W.nsIn->q1K,Value.type->q1L,wpAny_mono->q1M,sizeLine_eq->q1O,Around.under_plainId->q1R,NameKind.free->q1T,wpAny_setState_of->q1V,wpAny_pyIter_list->q1X,wpAny_truthy_bool->q1Y,boot_len->q1Z,wpAny_pyIter_enum->q18,W.instObj->q19,SetTable.layClean.free->q2c,plainId_quiet->q2d,Obj.data_mapFields->q2f,wpAny_Call_Name_kw->q2g,Around.in1_handled->q2h,wpAny_pyIter_tuple->q2i,F.slot_tuple_iterator_next->q2j,wpAny_setField_rec->q2k,Builtin.Slice.slicePlaces->q2m,PassesOwn.never->q2o,SetTable.fill->q2t,Builtin.Tuple.tupleExact->q2u,Builtin.List.listTooLong->q2v,SetTable->q2z,Heap.SameBut->q2E,Obj.putSet->q2F,codeAny_mono->q2H,Value.bool->q2I,W.codeIn->q2N,wpAny_askSetting->q2P,Builtin.Slice.sliceAdjust->q2T,Builtin.SmallTypes.ownedTupleHandOut->q2W,wpAny_standAt->q2Y,F.args_tuple_add_2->q2Z,W.mg_of->q20,wpAny_updateSeq->q21,wpAny_passesOwn->q22,F.entry_tuple_add->q26,wpAny_letGo->q27,SetTable.probe.go->q29,wpAny_storeSet_of->q3b,wpAny_setField->q3d,W.cellsFrom_some->q3e,F.slot_tuple_add->q3f,Builtin.Tuple.tupleCompareSizes->q3j,Obj.isFreed_of_fields->q3k,intKind_is->q3o,wpAny_rule->q3p,Walks.list->q3q,W.plainGet->q3r,SetTable.fits->q3t,wpAny_updateSeq_pair->q3x,wpAny_specialOf->q3y,Builtin.Frozenset.updateFrom->q3z,wpAny_execs_nil->q3A,F.args_tuple_iterator_next_1->q3C,F.slot_zip_next->q3D,wpAny_setEntries_of->q3E,W.plainGet_of->q3G,wpAny_typeOf->q3I,F.entry_tuple_iterator_next->q3J,wpAny_runValue->q3O,Calls.Name_function_global->q3P,W.lookIn->q3Q,W.callWith_K->q3R,Builtin.Slice.sliceApplied->q3T,Builtin.Tuple.tupleItemsOf->q3U,wpAny_letOwnedTupleGo_enum->q3W,tupleKind_room_in1->q3X,wpAny_tryCatch->q31,Calls.call_function_entry->q35,Obj.cls_mapFields->q37,W.methodObj->q3_,W.hasDictIn->q4a,wpAny_attempt->q4f,Builtin.List.listSameRef->q4g,AutoSeq1.sub_tuple_tuple->q4i,wpAny_newList->q4j,wpAny_onRaise->q4l,F.slot_list_extend->q4m,F.type_list_extend->q4n,putSet_of->q4q,wpAny_forIn_list->q4r,wpAny_isInstance->q4s,Value.str->q4t,wpAny_eqBool_int->q4u,Builtin.Range.rangeSize->q4w,noFill_tuple_add->q4x,wpAny_call->q4J,SeqAt.EqAt->q4L,W.isFn->q4M,richCompare_meets_room->q4O,Calls.callWith_builtin->q4Q,call_meets->q4R,codeAny_of_tree->q4W,wpAny_ite_split->q4X,W.takerIn->q4Y,SeqAt.EqAt.same->q42,weight_type_call_type->q48,builtinLookup_eq_fast->q49,wpAny_isTrue_Compare1->q4_,F.slot_dict_pop->q5a,codeAny_call_builtin->q5i,F.sub_list_frozenset->q5j,wpAny_of_eq->q5l,isSubtype_type->q5m,Around.frames_deeper->q5o,Value.notImplemented->q5p,Calls.evalArgs_plain->q5q,call_enumerate_list->q5v,W.codeHd_of_K->q5A,Paired.length->q5E,seq_tuple_add->q5F,PlainL.isList->q5I,Code.quiet_builtin->q5M,Around.under_plain->q5N,SeqAt.EqAt.int_str->q5P,SeqAt.EqAt.str_int->q5Q,Calls.spliced_cons->q5R,SeqAt.EqAt.int_int->q5S,SeqAt.EqAt.of_refs->q5U,Value.isInt_shape->q5Z,F.entry_type_call->q50,wpAny_pyIter_slot->q52,Within->q53,wpAny_assign_Name->q54,W.plainOver->q55,W.kitx_list->q57,W.kitx_dict->q58,Around.under->q59,Code.isFrame->q5_,Calls.spliced_nil->q6a,concat_meets->q6b,wpAny_sequenceKey->q6c,seqIndex_neg->q6d,slot_list_getitem->q6e,wpAny_collect_seq->q6n,F.args_zip_next_1->q6r,F.typeCall_set_1->q6t,F.entry_set_init->q6u,check_set_init_1->q6v,wpAny_execs_cons->q6w,W.handedIn->q6x,W.codeHdIn->q6F,F.entry_zip_next->q6H,wpAny_pyIter_zip->q6I,Value.float->q6K,seqIndex_of->q6L,Shared.heap->q6M,F.plain_set_new->q6S,typeLookup_type->q6T,F.slot_set_iter->q6U,W.makesIn->q6V,F.slot_int_rmul->q6X,pushCells_keeps->q6Y,W.OpenLaw->q62,SetTable.grown->q67,F.sub_list_set->q69,entryFor_alias->q7a,wpAny_load->q7b,isSubtype_stop->q7c,wpAny_Name->q7d,typeIs_int->q7g,fitsIndex_both->q7j,call->q7l,SeqAt.RcAt->q7m,wpAny_newTuple->q7r,W.CodeHd->q7s,Shared.TypeIs->q7x,Obj.mapFields->q7y,wpAny_handled->q7z,Value.isStrOf->q7B,rangeSize_one->q7C,intBits_le_64->q7D,evalPart_none->q7F,call_list_seq->q7G
open Array renaming length_toList->Zh,getElem?_eq_getElem->q0p,getElem?_toList->q0B,getD_eq_getD_getElem?->q0R,getElem?_eq_none->q1x,toList_setIfInBounds->q1U,toList_replicate->q2_,toList_push->q3a,size_map->q3c,getElem?_eq_some_iff->q3K,perm_iff_toList_perm->q30,getElem_mem_toList->q4c,size_setIfInBounds->q4d,toList_filterMap->q4H,toList_extract->q5e,toList_append->q5t,foldl_toList->q5J,size_extract->q5K,getD->q5O,size_append->q5X,replicate->q6P,size_push->q6Q,Perm.refl->q60,toList->q8a
open Option renaming map_eq_some_iff->q0a,some.inj->q0v,isSome_some->q3V,isSome_iff_exists->q4h,getD_none->q4p,map_some->q4V,isSome->q5C,isSome_map->q6i,none->q9k,map->x0n
open Int renaming toNat_natCast->q0s,emod_lt_of_pos->q1a,emod_nonneg->q1H,eq_ofNat_of_zero_le->q2C,cast_ofNat_Int->q32,natCast_add->q44,zero_add->q6j,ofNat->q6A,le_refl->q6N,ofNat.inj->q7H,mul_one->q9g,toNat->x1f
open Bool renaming false_ne_true->q0z,and_eq_true->q0G,false_eq_true->q03,not_eq_true'->q3g,or_eq_true->q3B,not_true->q4e,false_and->q5n,or_false->q5D,and_true->q5G,true_and->q5H,not_eq_true->q6C,and_false->q7i
open PyProof renaming Rows.slot_tuple_getitem->q05,Rows.callWith_type1->q1o,Rows.F.plain_set_update_loop->q1S,Rows.F.entry_set_update_loop->q2B,Rows.lt_int->q3H,Rows.subscriptTail_builtinR->q4P,Rows.get?_update_seq->q43,Rows.entry_tuple_getitem->q5u,Rows.args_tuple_getitem->q5T
open False renaming elim->q1n
open LawfulBEq renaming eq_of_beq->q1w
open ForInStep renaming yield->q1J
open True renaming intro->q14
open Ne renaming symm->q2b
open Classical renaming byContradiction->q2R,choose_spec->q5b,choose->x1i
open Sum renaming inl.inj->q3v,inl->q38,inr->q39
open Or renaming inl->q5c,inr->q5d
open Function renaming comp->q7L
open Prod renaming fst->q9m
set_option Elab.async false
set_option linter.all false
set_option maxRecDepth 100000
abbrev bA:=PySem.Value->PySem.Shared->Prop
local macro_rules | `(tactic| trivial) => `(tactic| first|exact q5c rfl|exact q5d rfl)
abbrev Zi:=@decide_eq_false
abbrev q0c:=@if_neg
abbrev q0e:=@if_pos
abbrev q0i:=@decide_eq_true
abbrev q0t:=@decide_eq_true_eq
abbrev q0O:=@of_decide_eq_true
abbrev q1r:=@or_false
abbrev q2a:=@if_false
abbrev q2x:=@beq_eq_false_iff_ne
abbrev q2G:=@if_true
abbrev q3L:=@of_decide_eq_false
abbrev q36:=@bne_self_eq_false
abbrev q4k:=@not_not_intro
abbrev q4K:=@not_or
abbrev q4N:=@beq_iff_eq
theorem el7{α β γ ε:Type}{A B C:α→β→γ→ε→Prop}{R:Prop}(h:∃F ad δ K, A F ad δ K∧B F ad δ K∧C F ad δ K)(k:∀F ad δ K, A F ad δ K→B F ad δ K→C F ad δ K→R): R:=h.elim λF h=>h.elim λa h=>h.elim λd h=>h.elim λK h=>k F a d K h.1 h.2.1 h.2.2
theorem el5{α β:Type}{A B C:α→β→Prop}{R:Prop}(h:∃F ad, A F ad∧B F ad∧C F ad)(k:∀F ad, A F ad→B F ad→C F ad→R): R:=h.elim λF h=>h.elim λa h=>k F a h.1 h.2.1 h.2.2
theorem el3{α:Type}{A B:α→Prop}{R:Prop}(h:∃F, A F∧B F)(k:∀F, A F→B F→R): R:=h.elim λF h=>k F h.1 h.2
set_option compiler.extract_closed false
local macro_rules | `(tactic| symm) => `(tactic| first|lia|omega (config:={}))
local macro_rules | `(⋯) => `(by symm)
abbrev A2:=PySem.Value->PySem.Shared->Prop
open Option renaming some->U,some->ζ,none->Z,none->η
open Bool renaming true->θ,false->ι
open Decidable renaming decide->G,decide->μ
open PySem renaming Value->L,Value->ν,Addr->O,Addr->ξ,Shared->B,Shared->ο,Str->J,Str->π,wpAny->M,wpAny->ρ,model->g,model->ς,Expr->l,Expr->υ,Stmt->R,Stmt->χ,Program->t,Program->ψ,World->S,World->ω,Heap->I,Heap->Α,Around->o,Around->Β,Obj->Q,Obj->Γ,Scope->a,Scope->Δ,Pos->y,Pos->Ε,Env->X,Env->Ζ
theorem Y{α:Sort u}{a:α}:a=a:=rfl
section
open Lean in
def qzp(s:Syntax):Syntax:=
 let n:=λs a=>mkNode (`Lean.Parser.Tactic++s) a
 s.rewriteBottomUp λs=>if s.isIdent then n `rcasesPat.one #[s] else if s.isOfKind `Lean.Parser.Term.hole then n `rcasesPat.ignore #[mkAtom "_"] else if s.isOfKind `Lean.Parser.Term.anonymousCtor then n `rcasesPat.tuple #[mkAtom "⟨",mkNullNode (s[1].getArgs.map λx=>if x.isAtom then x else n `rcasesPatLo #[n `rcasesPatMed #[mkNullNode #[x]],mkNullNode]),mkAtom "⟩"] else s
open Lean in
local macro_rules
 |`(tactic|let $d:letDecl)=>do
  let d:=d.raw[0]
  pure (if d.isOfKind `Lean.Parser.Term.letPatDecl then mkNode `Lean.Parser.Tactic.obtain #[mkAtom "obtain",mkNullNode #[mkNode `Lean.Parser.Tactic.rcasesPatMed #[mkNullNode #[qzp d[0]]]],mkNullNode (if d[2].getNumArgs==0 then #[] else #[mkAtom ":",d[2][0][1]]),mkNullNode #[mkAtom ":=",mkNullNode #[d[4]]]] else mkNode `Lean.Parser.Tactic.tacticHave__ #[mkAtom "have",mkNode `Lean.Parser.Term.letConfig #[mkNullNode],mkNode `Lean.Parser.Term.letDecl #[d]])
open Lean in
local macro_rules
 |`(fun $bs* => $e)=>do
  if (← getRef)[1][2].getAtomVal != "↦" then Macro.throwUnsupported
  let p:=bs.map λs=>⟨mkNode `Lean.Parser.Tactic.rintroPat.one #[qzp s]⟩
  `(by rintro $p*;exact $e)
local macro_rules |`(tactic|calc $e:term)=>`(tactic|refine $e)
local macro_rules |`(tactic|ext $p*)=>`(tactic|rintro $p*)
local macro_rules |`(↑$x)=>`(($x).length)
local macro_rules |`(⇑$x)=>`(($x).heap.objs.size)
local macro_rules |`($x⁻¹)=>`(by simpa using $x)
open Lean in
local macro_rules
 |`(-$x)=>if x.raw.getKind==`Lean.Parser.Term.typeAscription||x.raw.isOfKind `num||(x.raw.isOfKind `Lean.Parser.Term.paren&&!x.raw[1].isOfKind `Lean.Parser.Term.app&&!x.raw[1].isOfKind `«term-_»&&!x.raw[1].isOfKind `«term_×_»&&!x.raw[1].isOfKind `Lean.Parser.Term.arrow) then Macro.throwUnsupported else `(List $x)
open Lean in
local macro_rules
 |`(tactic|erw[$ls,*] $[$l:location]?)=>do
  let a←ls.getElems.mapM fun r=>do
   let t:Term:=⟨r.raw[1]⟩
   if r.raw[0].getNumArgs==0 then `(Parser.Tactic.simpLemma|$t:term) else `(Parser.Tactic.simpLemma|←$t:term)
  `(tactic|simp only[$a,*] $[$l]?)
namespace LJS
open PySem PySem.SetTable
noncomputable def nx(m i:Nat):Nat:=(i*5+1)%(m+1)
noncomputable def nU(m:Nat):Nat->Nat->Nat
 |0,i=>i
 |n+1,i=>nU m n (nx m i)
theorem w_(m:Nat):∀a b i,nU m (a+b) i=nU m b (nU m a i)
 |0,b,i=>by rw[q0A];rfl
 |a+1,b,i=>by rw[q74];calc w_ m a b (nx m i)
noncomputable def zw(m:Nat):Nat->Nat->-Nat
 |0,_=>[]
 |n+1,i=>i::zw m n (nx m i)
theorem FT(m:Nat):∀{n i e:Nat},e∈zw m n i->∃k,k<n/\nU m k i=e
 |0,_,_,h=>nomatch h
 |n+1,i,e,h=>by
  rcases PC.mp h with rfl|h
  .exact⟨0,q75 _,Y⟩
  .let⟨k,hk,e⟩:=FT m h
   calc⟨k+1,Nat.succ_lt_succ hk,e⟩
def Mk(m:Nat):Prop:=m=7\/m=31\/m=127
noncomputable def uy(m:Nat):Bool:=(q0x (m+1)).all λe=>(zw m (m+1) 0).contains e
theorem FU(h:Mk m):uy m=θ/\nU m (m+1) 0=0:=by
 rcases h with rfl|rfl|rfl<;>calc⟨by decide +kernel,by decide +kernel⟩
theorem pT(h:Mk m)(he:e<=m):∃k,k<=m/\nU m k 0=e:=by
 let:=q1N.mp (FU h).1 e (q0Y.mpr (Nat.lt_succ_of_le he));let⟨k,hk,q⟩:=FT m (q45.mp this);calc⟨k,q28 hk,q⟩
theorem MC(h:Mk m)(hi:i<=m)(he:e<=m):∃n,n<=m/\nU m n i=e:=by
 let⟨a,ha,rfl⟩:=pT h hi;let⟨b,hb,rfl⟩:=pT h he
 by_cases FW:a<=b
 .refine⟨b-a,⋯,?_⟩
  rw[<-w_];congr 1;symm
 .refine⟨m+1-a+b,⋯,?_⟩
  rw[<-w_,show a+(m+1-a+b)=(m+1)+b by symm,w_,(FU h).2]
noncomputable def lp(m:Nat):Nat->Nat->Nat->Nat×Nat
 |0,i,p=>(i,p)
 |n+1,i,p=>lp m n (leap m i p).1 (leap m i p).2
theorem zx(m:Nat):∀a b i p,lp m (a+b) i p=lp m b (lp m a i p).1 (lp m a i p).2
 |0,b,i,p=>by rw[q0A];rfl
 |a+1,b,i,p=>by rw[q74];calc zx m a b _ _
theorem FX(m:Nat):∀n i,lp m n i 0=(nU m n i,0)
 |0,i=>Y
 |n+1,i=>by
  show lp m n (leap m i 0).1 (leap m i 0).2=_;let e:leap m i 0=(nx m i,0):=by unfold leap nx;simp
  rw[e];calc FX m n _
theorem MD(m i p:Nat):(leap m i p).1<=m:=q28 (x0l _ (q75 _))
theorem FY(m:Nat):∀n i p,(lp m n i p).2=p / 32 ^ n
 |0,i,p=>by simp[lp]
 |n+1,i,p=>by
  show(lp m n (leap m i p).1 (leap m i p).2).2=_;rw[FY m n];show p / 32 / 32 ^ n=_;rw[Nat.div_div_eq_div_mul,Nat.pow_succ,q76]
theorem reach(h:Mk m)(hp:p<2 ^ 64)(he:e<=m):∃n,n<=13+m/\(lp m n i p).1=e:=by
 let z:(lp m 13 i p).2=0:=by
  rw[FY];exact Nat.div_eq_of_lt (q4G hp (by decide))
 let q:(lp m 13 i p).1<=m:=by
  rw[zx m 12 1];exact MD _ _ _
 let⟨n,hn,en⟩:=MC h q he;calc⟨13+n,⋯,?_⟩;rw[zx,z,FX];calc en
theorem FZ(j:Nat):has #[] j=ι:=by unfold has;simp
theorem zy{t:SetTable}(hd:t.dummies = #[])(j:Nat):t.slot j=.empty\/∃i,t.slot j=.live i/\i<t.place.size/\j∈t.place.toList:=by
 unfold slot;rw[hd,FZ];dsimp only
 by_cases c:(t.place[below t.place j]?==U j)=θ
 .right
  rw[q0e c];let e:=q1w c;let⟨hl,ev⟩:=q3K.mp e;exact⟨_,Y,hl,by rw[<-ev];calc q4c hl⟩
 .left
  rw[q0c c];rfl
theorem ME{t:SetTable}(hd:t.dummies = #[])(hj:j∉t.place.toList):t.slot j=.empty:=by
 rcases zy hd j with h|⟨_,_,_,h⟩
 .exact h
 .calc absurd h hj
theorem F0:∀{l l':-Nat},l.Nodup->(∀x∈l,x∈l')->↑l<=↑l'
 |[],_,_,_=>q0Z _
 |a::l,l',hn,hs=>by
  let ha:a∈l':=hs a (q0h ..);let pU:=q2n.mp hn;let ih:=F0 (l:=l) (l':=l'.erase a) pU.2 λx hx=>(List.mem_erase_of_ne (λz=>pU.1 (by rw[<-z];calc hx))).mpr (hs x (q0g _ hx));rw[List.length_erase_of_mem ha] at ih;let:=List.length_pos_of_mem ha;rw[HB];symm
theorem MF{l:-Nat}(h:↑l<=m):∃e,e<=m/\e∉l:=by
 calc q2R λno=>?_;let all:∀e,e∈q0x (m+1)->e∈l:=λe he=>q2R λz=>no ⟨e,q28 (q0Y.mp he),z⟩;let:↑(q0x (m+1))<=↑l:=F0 q4o all;rw[q00] at this;symm
noncomputable def stateOf(t:SetTable)(i p:Nat):Probe:=⟨i,runEnd t.mask i-i,i,p,Z⟩
theorem MG(m i:Nat):runEnd m i-i<=9:=by unfold runEnd;split<;>symm
section
variable{t:SetTable}{f:Nat->Int}{h:Int}
theorem xa(F:Nat)(p:Probe):q29 t f h (F+1) p=(match t.slot p.j with
  |.empty=>U (.empty p.j p.dummy)
  |.dummy=>q29 t f h F (t.advance {p with dummy:=U p.j})
  |.live i=>if f i==h then U (.candidate p.j i (t.advance p)) else q29 t f h F (t.advance p)):=rfl
theorem F7(hd:t.dummies = #[])(hf:∀i,i<t.place.size->f i≠h):∀(k F:Nat)(p:Probe),p.more=k->p.dummy=Z →
  (∃j,q29 t f h (F+k+1) p=U (.empty j Z))\/q29 t f h (F+k+1) p=q29 t f h F (stateOf t (leap t.mask p.i p.perturb).1 (leap t.mask p.i p.perturb).2)
 |0,F,p,hm,uz=>by
  show(∃j,q29 t f h (F+1) p=_)\/q29 t f h (F+1) p=_;rw[xa];rcases zy hd p.j with e|⟨i,e,hi,_⟩
  .left;rw[e];exact⟨p.j,by rw[uz]⟩
  .right
   rw[e];show(if(f i==h)=θ then _ else _)=_;rw[q0c (by ext z;calc hf i hi (q1w z))];unfold advance;rw[hm,q0c ⋯,uz];rfl
 |k+1,F,p,hm,uz=>by
  let ih:=F7 hd hf k F {p with j:=p.j+1,more:=p.more-1} (by show p.more-1=k;symm) uz;rw[show F+(k+1)+1=(F+k+1)+1 by symm,xa];rcases zy hd p.j with e|⟨i,e,hi,_⟩
  .left;rw[e];exact⟨p.j,by rw[uz]⟩
  .rw[e]
   show(∃j,(if(f i==h)=θ then _ else _)=_)\/(if(f i==h)=θ then _ else _)=_;rw[q0c (by ext z;calc hf i hi (q1w z))];let ea:t.advance p={p with j:=p.j+1,more:=p.more-1}:=by unfold advance;rw[q0e ⋯]
   rw[ea];calc ih
theorem F8(hd:t.dummies = #[])(hf:∀i,i<t.place.size->f i≠h):∀(n F i p:Nat),10*(n+1)<=F->t.slot (lp t.mask n i p).1=.empty->∃j,q29 t f h F (stateOf t i p)=U (.empty j Z)
 |0,F,i,p,hF,hs=>by
  let⟨G,rfl⟩:∃G,F=G+1:=⟨F-1,⋯⟩;rw[xa];let e:t.slot (stateOf t i p).j=.empty:=hs;rw[e];exact⟨i,Y⟩
 |n+1,F,i,p,hF,hs=>by
  let hr:=MG t.mask i;let⟨G,hG⟩:∃G,F=G+(runEnd t.mask i-i)+1:=⟨F-(runEnd t.mask i-i)-1,⋯⟩;let:=F7 (f:=f) (h:=h) hd hf (runEnd t.mask i-i) G (stateOf t i p) Y Y;rw[<-hG] at this;rcases this with h1|h1
  .exact h1
  .rw[h1]
   calc F8 hd hf n G _ _ ⋯ hs
theorem zz(h:Int):bits h<2 ^ 64:=by
 unfold bits;let:=q1a h (show(0:Int)<2 ^ 64 by decide);let:=q1H h (show(2 ^ 64:Int)≠0 by decide);symm
theorem F9(hd:t.dummies = #[])(hm:Mk t.mask)(hz:t.place.size<=t.mask)(hf:∀i,i<t.place.size->f i≠h):∃j,t.probe f h (t.probeStart h)=U (.empty j Z):=by
 let⟨e,he,ne⟩:=MF (l:=t.place.toList) (m:=t.mask) (by rw[Zh];calc hz);let⟨n,hn,en⟩:=reach hm (i:=bits h%(t.mask+1)) (zz h) he;calc F8 hd hf n _ _ _ (by unfold turns;symm) (by rw[en];calc ME hd ne)
end
section
variable{m:Nat}{owner:Array (Option Nat)}
theorem F_(F i p:Nat):q2c m owner (F+1) i p=(match(q0x (runEnd m i+1-i)).find? λk=>(owner.getD (i+k) (U 0)).isNone with
   |some k=>U (i+k)
   |none=>q2c m owner F (leap m i p).1 (leap m i p).2):=rfl
theorem zA:∀(n F i p:Nat),n+1<=F->(owner.getD (lp m n i p).1 (U 0)).isNone=θ->∃j,q2c m owner F i p=U j/\(owner.getD j (U 0)).isNone=θ
 |0,F,i,p,hF,hs=>by
  let⟨G,rfl⟩:∃G,F=G+1:=⟨F-1,⋯⟩;rw[F_]
  cases hc:(q0x (runEnd m i+1-i)).find? λk=>(owner.getD (i+k) (U 0)).isNone with
  |some k =>
   let:=q6O hc;exact⟨i+k,Y,this⟩
  |none =>
   let:=List.find?_eq_none.mp hc 0 (q0Y.mpr (by unfold runEnd;split<;>symm));exact absurd hs this
 |n+1,F,i,p,hF,hs=>by
  let⟨G,rfl⟩:∃G,F=G+1:=⟨F-1,⋯⟩;rw[F_]
  cases hc:(q0x (runEnd m i+1-i)).find? λk=>(owner.getD (i+k) (U 0)).isNone with
  |some k =>
   let:=q6O hc;exact⟨i+k,Y,this⟩
  |none=>calc zA n G _ _ ⋯ hs
end
structure Ow(m:Nat)(owner:Array (Option Nat))(k:Nat):Prop where
 size:owner.size=m+1
 cnt:owner.toList.countP q5C=k
 lt:∀x,U x∈owner.toList->x<k
theorem zB:∀{l:-(Option Nat)}{j k:Nat},l[j]?=U Z->(l.set j (U k)).countP q5C=l.countP q5C+1
 |[],j,k,h=>by simp at h
 |x::l,0,k,h=>by
  simp at h;subst h;rw[q1b,q3m,q3m];rfl
 |x::l,j+1,k,h=>by
  simp at h;rw[q1c,q3m,q3m,zB h];symm
theorem getD_none{owner:Array (Option Nat)}(h:(owner.getD j (U 0)).isNone=θ):owner.toList[j]?=U Z:=by
 rw[q0R] at h;rw[q0B]
 cases e:owner[j]? with
 |none=>rw[e] at h;cases h
 |some x =>
  rw[e] at h
  cases x with
  |none=>rfl
  |some y=>cases h
theorem Ga{owner:Array (Option Nat)}(O:Ow m owner k)(hk:k<=m):∃e,e<=m/\(owner.getD e (U 0)).isNone=θ:=by
 refine q2R λno=>?_
 let all:∀x∈owner.toList,x.isSome=θ:=by
  ext x hx;let⟨e,he⟩:=q0d.mp hx
  cases x with
  |some y=>rfl
  |none =>
   let hl:=(Hy.mp he).1;rw[Zh,O.size] at hl;calc absurd ⟨e,q28 hl,?_⟩ no;rw[q0R,<-q0B,he];rfl
 let:=q46.mpr all;rw[O.cnt,Zh,O.size] at this;symm
theorem MH{owner:Array (Option Nat)}(hm:Mk m)(O:Ow m owner k)(hk:k<=m)(h:Int):∃j,q2c m owner (turns m) (bits h%(m+1)) (bits h)=U j/\Ow m (owner.setIfInBounds j (U k)) (k+1):=by
 let⟨e,he,hn⟩:=Ga O hk;let⟨n,pU,en⟩:=reach hm (i:=bits h%(m+1)) (zz h) he;let⟨j,ej,hj⟩:=zA (m:=m) (owner:=owner) n (turns m) (bits h%(m+1)) (bits h) (by unfold turns;symm) (by rw[en];calc hn);refine⟨j,ej,by rw[q4d];calc O.size,?_,λx hx=>?_⟩
 .rw[q1U,zB (getD_none hj),O.cnt]
 .rw[q1U] at hx
  rcases q33 hx with h|h
  .exact q0J (O.lt x h)
  .cases h;calc q0N _
theorem Gb(hm:Mk m):∀(hs:-Int)(owner:Array (Option Nat))(k:Nat),Ow m owner k->k+↑hs<=m+1 →
  ∃e_,(hs.foldl (init:=U (owner,k)) λacc h=>do
   let(owner,k) <- acc
   let j <- q2c m owner (turns m) (bits h%(m+1)) (bits h)
   pure (owner.setIfInBounds j (U k),k+1))=U (e_,k+↑hs)/\Ow m e_ (k+↑hs)
 |[],owner,k,O,_=>⟨owner,Y,O⟩
 |h::hs,owner,k,O,hl=>by
  rw[HB] at hl ⊢;let⟨j,ej,O'⟩:=MH hm O ⋯ h;let⟨o2,e2,O2⟩:=Gb hm hs _ (k+1) O' ⋯;calc⟨o2,?_,by rw[show k+(↑hs+1)=k+1+↑hs by symm];calc O2⟩;rw[rJ,show k+(↑hs+1)=k+1+↑hs by symm,<-e2];congr 1;show(do let j <- q2c m owner (turns m) (bits h%(m+1)) (bits h);pure (owner.setIfInBounds j (U k),k+1))=_;rw[ej];rfl
theorem Gd(m:Nat):Ow m (q6P (m+1) Z) 0:=by
 refine⟨by simp,?_,λx hx=>?_⟩
 .rw[q2_]
  exact List.countP_eq_zero.mpr λx hx=>by rw[q2X hx];decide
 .rw[q2_] at hx
  cases q2X hx
theorem MI(hm:Mk m)(hs:Array Int)(hz:hs.size<=m+1):∃owner,layClean m hs=U owner/\Ow m owner hs.size:=by
 let⟨o,e,O⟩:=Gb hm hs.toList _ 0 (Gd m) (by rw[Zh];symm);rw[q0A,Zh] at O;calc⟨o,?_,O⟩;unfold layClean;rw[<-q5J,e];rfl
noncomputable def la(m:Nat)(owner:Array (Option Nat)):-(Nat×Nat):=(q0x (m+1)).filterMap λj=>(owner.getD j Z).map (j,·)
theorem zC(O:Ow m owner k):↑(la m owner)=k:=by
 unfold la;rw[q3i,<-O.cnt]
 let e:owner.toList=(q0x (m+1)).map λj=>owner.getD j Z:=by
  calc q2K λi=>?_;rw[q0B,PB]
  by_cases hi:i<m+1
  .rw[q1_ hi,q4V,q0p (by rw[O.size];calc hi),q0R,q0p (by rw[O.size];calc hi)];rfl
  .rw[q1x (by rw[O.size];symm),q11 (by rw[q00];symm)];rfl
 rw[e,List.countP_map];calc List.countP_congr λj _=>?_;simp
theorem MJ(O:Ow m owner k)(hz:z∈la m owner):z.2<k:=by
 unfold la at hz;let⟨j,hj,e⟩:=q23.mp hz;let⟨x,ex,rfl⟩:=q0a.mp e;calc O.lt x ?_;rw[q0R] at ex
 cases q:owner[j]? with
 |none=>rw[q] at ex;cases ex
 |some y =>
  rw[q] at ex;cases(show y=U x from ex)
  calc q0d.mpr ⟨j,by rw[q0B];calc q⟩
theorem MK(hm:Mk m)(t:SetTable)(hs:Array Int)(wanted:Nat)(hw:sizeAbove wanted-1=m)(hz:hs.size<=m+1):
  ∃t' order,t.relaid hs wanted=U (t',order)/\t'.mask=m/\t'.dummies = #[]/\t'.place.size=hs.size/\t'.led=t.led/\t'.plain=t.plain/\order.size=hs.size/\∀k∈order.toList,k<hs.size:=by
 let⟨owner,e,O⟩:=MI hm hs hz;refine⟨{mask:=m,place:=((la m owner).map (·.1)).toArray,dummies := #[],finger:=t.finger,led:=t.led,moves:=t.movedTo m,plain:=t.plain},((la m owner).map (·.2)).toArray,?_,Y,Y,?_,Y,Y,?_,λk hk=>?_⟩
 .unfold relaid laid
  rw[hw,e];rfl
 .rw[PA,Ba,zC O]
 .rw[PA,Ba,zC O]
 .let⟨z,hz,rfl⟩:=q0l.mp hk
  calc MJ O hz
theorem Ge{α:Type}{es:Array α}{order:Array Nat}(h:∀k∈order.toList,k<es.size):(order.filterMap (es[·]?)).size=order.size/\∀e∈(order.filterMap (es[·]?)).toList,e∈es.toList:=by
 constructor
 .rw[<-Zh,q4H,q3i,q46.mpr λk hk=>?_,Zh]
  rw[q0p (h k hk)];rfl
 .ext e he
  rw[q4H] at he;let⟨k,_,q⟩:=q23.mp he;calc q0d.mpr ⟨k,by rw[q0B];calc q⟩
theorem zD(t:SetTable)(hd:t.dummies = #[])(j:Nat):(t.put j).1.dummies = #[]/\(t.put j).1.mask=t.mask/\(t.put j).1.place.size=t.place.size+1/\(t.put j).1.led=t.led/\(t.put j).1.plain=t.plain/\(t.put j).1.moves=t.moves/\(t.put j).1.finger=t.finger:=by
 unfold put;dsimp only;rw[hd,FZ];calc⟨Y,Y,?_,Y,Y,Y,Y⟩;unfold insertAt;erw[q5X,q6Q,q5K];symm
theorem ML{α:Type}{xs:Array α}{p:Nat}{x e:α}(h:e∈(insertAt xs p x).toList):e=x\/e∈xs.toList:=by
 unfold insertAt at h;erw[q5t,q3a,q0u,q0D,q5e] at h;erw[q34] at h;rcases h with(h|h)|h
 .right;exact q3u (q5f h)
 .exact .inl h
 .right;calc q3u (q5f h)
theorem zE{α:Type}(xs:Array α)(p:Nat)(x:α):(insertAt xs p x).size=xs.size+1:=by
 unfold insertAt;erw[q5X,q6Q,q5K];symm
end LJS
namespace LJS
open PySem PySem.SetTable PyProof.Rows
structure gu(t:SetTable)(es:Array (Int×L))(hs:-Int):Prop where
 pV:t.dummies = #[]
 nV:Mk t.mask
 j3:t.place.size=es.size
 num:es.size=↑hs
 iM:t.tooFull=ι
 ins:∀e∈es.toList,e.1∈hs
def fZ(h:I)(S:O)(hs:-Int):Prop:=∃o es ep t,h.get? S=U o/\o.ExactSet/\o.data=.set es ep t/\gu t es hs
section
variable{t:SetTable}{es:Array (Int×L)}{hs:-Int}
theorem gu.fill(T:gu t es hs):t.fill=es.size:=by
 unfold q2t;rw[T.j3,T.pV];rfl
theorem gu.lt(T:gu t es hs):es.size*5<t.mask*3:=by
 let:=T.iM;unfold tooFull at this;rw[T.fill] at this;let:=q3L this;symm
theorem gu.fits(T:gu t es hs):t.fits es.size=θ:=by
 let:=T.lt;unfold q3t;rw[T.fill,T.j3];simp;symm
theorem gu.zF(T:gu t es hs):t.gaveWay=ι:=by
 unfold SetTable.gaveWay;rcases T.nV with h|h|h<;>rw[h]<;>rfl
end
theorem Gf:sizeAbove (grown 5)-1=31:=by decide +kernel
theorem Gg:sizeAbove (grown 19)-1=127:=by decide +kernel
section
variable{prog:t}{w:S}{A:o}{E:bA}{s:B}
theorem MM{S:O}{x:L}{h:Int}{hs:-Int}{o:Γ}{es:Array (Int×L)}{ep:Nat}{t:SetTable}{Q:SetFound->B->Prop}(ho:s.heap.get? S=U o)(hd:o.data=.set es ep t)(T:gu t es hs)(hn:h∉hs)
  (k:∀j,Q (.free j ι) s):M (g prog w) A (setSearch S x h θ) Q E s:=by
 show M _ _ (setSearchFrom S x h θ (99999+1) Z) _ _ _;calc rH (q1V ho hd T.fits ?_);dsimp only;rw[T.zF];let hz:t.place.size<=t.mask:=by let:=T.lt;rw[T.j3];symm
 let⟨j,ej⟩:=F9 (t:=t) (f:=λi=>(es[i]?.map (·.1)).getD 0) (h:=h) T.pV T.nV hz (λi hi z=>by
  rw[T.j3] at hi;rw[q0p hi] at z
  calc hn (by rw[<-show es[i].1=h from z];calc T.ins _ (q4c hi)))
 erw[q4p];generalize hP:t.probe _ h (t.probeStart h)=P;let eP:P=U (.empty j Z):=hP.symm.trans ej;rw[eP];calc HA (k j)
theorem MN{S:O}{x:L}{h:Int}{hs:-Int}{Q:Bool->B->Prop}(hx:x.scannable=ι)(hS:fZ s.heap S hs)(hn:h∉hs)(hl:↑hs<60)
  (hv:∀Q':Bool->B->Prop,(∀b,Q' b s)->M (g prog w) A (hashByValue 8 x) Q' E s)
  (k:∀h',q2E S s.heap h'->fZ h' S (hs++[h])->Q θ {s with heap:=h'}):M (g prog w) A (setAddHashed S x h) Q E s:=by
 let⟨o,es,ep,t,ho,hex,hd,T⟩:=hS;calc q0H ?_;calc rH (q1V ho hd T.fits ?_);let hb:byScan x es=ι:=by unfold byScan;rw[hx];rfl
 dsimp only;rw[hb];calc rH (MM ho hd T hn λj=>?_);calc rH (q1V ho hd T.fits ?_);let⟨p1,p2,p3,p4,p5,p6,p7⟩:=zD t T.pV j
 let fin:∀b:Bool,M (g prog w) A (do
   storeSet S (SetTable.insertAt es (t.put j).2 (h,x)) (if b=θ then(t.put j).1 else{(t.put j).1 with plain:=false})
   if(!ι&&(if b=θ then(t.put j).1 else{(t.put j).1 with plain:=false}:SetTable).tooFull)=θ then do
       setRelay S (q67 (es.size+1))
       pure θ
    else pure θ) Q E s:=by
  ext b;generalize lQ:(if b=θ then(t.put j).1 else{(t.put j).1 with plain:=false}:SetTable)=t2;let q1:t2.dummies = #[]:=by rw[<-lQ];cases b<;>exact p1
  let q2:t2.mask=t.mask:=by rw[<-lQ];cases b<;>exact p2
  let q3:t2.place.size=es.size+1:=by rw[<-lQ,<-T.j3];cases b<;>exact p3
  let iN:=zE es (t.put j).2 (h,x)
  let qL:∀e∈(insertAt es (t.put j).2 (h,x)).toList,e.1∈hs++[h]:=λe he=>by
   rcases ML he with rfl|he
   .exact q0k _ (q0D.mpr Y)
   .exact q1p _ (T.ins e he)
  generalize insertAt es (t.put j).2 (h,x)=cQ at iN qL;let qM:es.size<60:=by rw[T.num];exact hl
  refine rH (q3b ho hd ?_ (by rw[iN,q1O];symm))
  let gX:(s.heap.update S (q2F cQ t2)).get? S=U {o with data:=.set cQ (ep+1) t2}:=by
   let:=q0U (q2F cQ t2) ho (by rw[q4q cQ t2 hd];rfl);rw[q4q cQ t2 hd] at this;exact this
  let fl:t2.fill=es.size+1:=by unfold q2t;rw[q1,q3];rfl
  let lt:=T.lt
  let uA:t2.fits cQ.size=θ:=by
   unfold q3t;rw[fl,q3,iN,q2];simp;rcases T.nV with e|e|e<;>rw[e] at lt ⊢ <;> symm
  by_cases tf:t2.tooFull=θ
  .rw[q0e (by rw[tf];rfl)]
   let uB:t.mask*3<=(es.size+1)*5:=by
    unfold tooFull at tf;let:=q0O tf;symm
   let⟨m,hm,hw,hsz⟩:∃m,Mk m/\sizeAbove (grown (es.size+1))-1=m/\(es.size+1)*5<m*3:=by
    rcases T.nV with e|e|e
    .rw[e] at lt uB
     let:es.size+1=5:=by symm
     rw[this];exact⟨31,.inr (.inl Y),Gf,⋯⟩
    .rw[e] at lt uB
     let:es.size+1=19:=by symm
     rw[this];exact⟨127,.inr (.inr Y),Gg,⋯⟩
    symm
   calc rH ?_;calc rH (q1V gX Y uA ?_);dsimp only
   let zG:¬ SetTable.sizeAbove (q67 (es.size+1))>sizeLine:=by
    rw[q1O];rcases hm with e|e|e<;>symm
   rw[q0c zG];let⟨t3,order,er,r1,r2,r3,_,_,r4,r5⟩:=MK hm t2 (cQ.map (·.1)) (grown (es.size+1)) hw (by rw[q3c,iN];symm);rw[er];rw[q3c,iN] at r3 r4;rw[q3c] at r5;let⟨o1,o2⟩:=Ge (es:=cQ) (order:=order) r5;refine rH ?_
   show M _ _ (do
    if(order.filterMap (cQ[·]?)).size != cQ.size then
     unsupported "internal:set-table-lost-an-element"
    pure (order.filterMap (cQ[·]?),t3)) _ _ _
   rw[q0c (by rw[o1,r4,iN];simp)];calc HA ?_;refine q3b gX Y ?_ (by rw[o1,r4,q1O];symm)
   let fR:((s.heap.update S (q2F cQ t2)).update S (q2F (order.filterMap (cQ[·]?)) t3)).get? S=U {o with data:=.set (order.filterMap (cQ[·]?)) (ep+1+1) t3}:=by
    let:=q0U (q2F (order.filterMap (cQ[·]?)) t3) gX (by rw[q4q _ t3 Y];rfl);exact this
   refine HA (k _ ?_ ⟨_,_,_,_,fR,hex,Y,r2,by rw[r1];calc hm,by rw[r3,o1,r4],by rw[o1,r4,T.num,Pz];rfl,?_,λe he=>qL e (o2 e he)⟩)
   .exact (q0L ..).trans (q0L ..)
   .unfold tooFull q2t
    rw[r2,r3,r1];simp;symm
  .let uC:t2.tooFull=ι:=by cases q:t2.tooFull<;>simp_all
   rw[q0c (by rw[uC];decide)];refine HA (k _ (q0L ..) ⟨_,_,_,_,gX,hex,Y,q1,by rw[q2];calc T.nV,by rw[q3,iN],by rw[iN,T.num,Pz];rfl,uC,qL⟩)
 by_cases hp:(t.put j).1.plain=θ
 .rw[q0e hp]
  calc rH (hv _ λb=>?_);exact fin b
 .rw[q0c hp]
  calc fin θ
end
end LJS
namespace LJS
open PySem PySem.SetTable
def Up(xs:Array Nat):Prop:=xs.toList.Pairwise (· < ·)
theorem Up.lt{xs:Array Nat}(u:Up xs){i k:Nat}(MO:i<k)(hk:k<xs.size):xs[i]'⋯<xs[k]:=by
 let:=q2S.mp u i k (by rw[Zh];symm) (by rw[Zh];calc hk) MO;simpa using this
theorem zH{xs:Array Nat}(u:Up xs)(j:Nat):∀(fuel lo hi:Nat),hi<=xs.size->lo<=hi->hi-lo<=fuel->(∀i,(h:i<xs.size)->i<lo->xs[i]<j)->(∀i,(h:i<xs.size)->hi<=i->j<=xs[i]) →
  below.go xs j fuel lo hi<=xs.size/\(∀i,(h:i<xs.size)->i<below.go xs j fuel lo hi->xs[i]<j)/\(∀i,(h:i<xs.size)->below.go xs j fuel lo hi<=i->j<=xs[i])
 |0,lo,hi,h1,h2,h3,a,b=>by
  let:lo=hi:=by symm
  subst this;exact⟨h1,a,b⟩
 |fuel+1,lo,hi,h1,h2,h3,a,b=>by
  unfold below.go
  by_cases c:lo<hi
  .rw[q0e c]
   let hm:(lo+hi) / 2<xs.size:=by symm
   let em:xs.getD ((lo+hi) / 2) j=xs[(lo+hi) / 2]:=by rw[q0R,q0p hm];rfl
   erw[em]
   by_cases d:xs[(lo+hi) / 2]<j
   .rw[q0e d]
    refine zH u j fuel _ hi h1 ⋯ ⋯ (λi dy hl=>?_) b
    by_cases e:i<(lo+hi) / 2
    .exact q4G (u.lt e hm) d
    .let:i=(lo+hi) / 2:=by symm
     subst this;exact d
   .rw[q0c d]
    refine zH u j fuel lo _ ⋯ ⋯ ⋯ a λi dy hl=>?_
    by_cases e:(lo+hi) / 2<i
    .exact q1d (q24 (q3n d) (u.lt e dy))
    .let:i=(lo+hi) / 2:=by symm
     subst this;exact q3n d
  .rw[q0c c]
   let:lo=hi:=by symm
   subst this;calc⟨h1,a,b⟩
theorem xb{xs:Array Nat}(u:Up xs)(j:Nat):below xs j<=xs.size/\(∀i,(h:i<xs.size)->i<below xs j->xs[i]<j)/\(∀i,(h:i<xs.size)->below xs j<=i->j<=xs[i]) :=
 zH u j xs.size 0 xs.size (Hz _) (q0Z _) ⋯ (λi _ h=>by symm) (λi h h'=>by symm)
theorem MP{xs:Array Nat}(u:Up xs){i:Nat}(hi:i<xs.size):below xs (xs[i]+1)=i+1:=by
 let⟨h0,h1,h2⟩:=xb u (xs[i]+1)
 let a:i<below xs (xs[i]+1):=by
  calc Nat.lt_of_not_le λz=>?_;let:=h2 i hi z;symm
 let b:below xs (xs[i]+1)<=i+1:=by
  calc q3n λz=>?_;let hk:i+1<xs.size:=by symm
  let:=h1 (i+1) hk z;let:=u.lt (k:=i+1) (q0N i) hk;symm
 symm
theorem MQ{xs:Array Nat}(u:Up xs):below xs 0=0:=by
 let⟨h0,h1,h2⟩:=xb u 0;calc Nat.eq_zero_of_not_pos λz=>?_;let:=h1 0 ⋯ z;symm
theorem MR{t:SetTable}(u:Up t.place){j:Nat}(hj:j∉t.place.toList):Up (t.put j).1.place:=by
 let⟨h0,h1,h2⟩:=xb u j;show Up (insertAt t.place (below t.place j) j);unfold Up insertAt;generalize below t.place j=p at h0 h1 h2
 let eL:(((t.place.extract 0 p).push j)++t.place.extract p t.place.size).toList=t.place.toList.take p++([j]++t.place.toList.drop p):=by
  erw[q5t,q3a,q5e,q34,q5g,q77,q2p];let e2:List.take (t.place.size-p) (x03 p t.place.toList)=x03 p t.place.toList:=q1y (by rw[q2e,Zh];calc Hz _);rw[e2]
 rw[eL]
 let lo:∀x∈t.place.toList.take p,x<j:=by
  ext x hx;let⟨i,hi,e⟩:=q2q.mp hx;rw[q0E,Zh] at hi;let:=h1 i ⋯ ⋯;rw[<-e];simpa using this
 let dy:∀x∈t.place.toList.drop p,j<x:=by
  ext x hx;let⟨i,hi,e⟩:=q2q.mp hx;rw[q2e,Zh] at hi;let:=h2 (p+i) ⋯ ⋯;let MS:j<=x:=by rw[<-e];simpa using this
  calc Nat.lt_of_le_of_ne MS λz=>hj ?_;rw[z];exact q3u hx
 refine List.pairwise_append.mpr ⟨u.sublist (q5Y _ _),?_,λa ha b hb=>?_⟩
 .exact q1q.mpr ⟨dy,u.sublist (List.drop_sublist _ _)⟩
 .rcases PC.mp hb with rfl|hb
  .exact lo a ha
  .calc q4G (lo a ha) (dy b hb)
theorem MT(n:Nat)(f:Nat->Option Nat):(((q0x n).filterMap λj=>(f j).map λx=>(j,x)).map (·.1)).Pairwise (· < ·):=by
 rw[q2L];calc List.Pairwise.filterMap _ (λa a' d_ b hb b' hb'=>?_) (q4I (n:=n));let⟨x,_,rfl⟩:=q0a.mp hb;let⟨y,_,rfl⟩:=q0a.mp hb';calc d_
theorem MU(m:Nat)(owner:Array (Option Nat)):((la m owner).map (·.1)).Pairwise (· < ·):=MT (m+1) λj=>owner.getD j Z
theorem Gh{α:Type}(next:Nat->Nat):∀(fuel k:Nat)(left:-α)(out:Array α),↑left<=fuel->(pickOrder.go next fuel k left out).toList.Perm (out.toList++left)
 |0,k,left,out,h=>by
  let:left=[]:=q1P.mp ⋯;subst this;rw[oo];exact q2A _
 |fuel+1,k,left,out,h=>by
  unfold pickOrder.go
  cases left with
  |nil=>simp
  |cons a l =>
   let d_:next k%↑(a::l)<↑(a::l):=x0l _ (by rw[HB];symm);rw[xF d_];refine(Gh next fuel (k+1) _ _ ?_).trans ?_
   .rw[q3M d_];symm
   .rw[q3a,q2p]
    calc q47 _ ?_;exact(j4 d_).symm
where
 j4 {α:Type}:∀{l:-α}{j:Nat}(h:j<↑l),q7Q l (l[j]::l.eraseIdx j)
  |[],_,h=>by simp at h
  |a::l,0,_=>q2A _
  |a::l,j+1,h=>(q5h a (j4 (l:=l) (j:=j) h⁻¹)).trans (q3N _ _ _)
theorem MV{α:Type}(next:Nat->Nat)(xs:Array α):(pickOrder next xs).toList.Perm xs.toList:=by
 let:=Gh next xs.size 0 xs.toList #[] (by rw[Zh];calc Hz _);unfold pickOrder;simpa using this
theorem zI{t:SetTable}{f:Nat->Int}{h:Int}:∀{fuel:Nat}{p:Probe}{j:Nat}{d:Option Nat},q29 t f h fuel p=U (.empty j d)->t.slot j=.empty
 |0,_,_,_,e=>nomatch e
 |fuel+1,p,j,d,e=>by
  rw[xa] at e
  cases q:t.slot p.j with
  |empty =>
   rw[q] at e;cases e
   exact q
  |dummy =>
   rw[q] at e;exact zI e
  |live i =>
   rw[q] at e
   by_cases c:(f i==h)=θ
   .erw[c,q2G] at e;cases e
   .erw[c,q2a] at e;calc zI e
theorem MW{t:SetTable}(u:Up t.place){j:Nat}(e:t.slot j=.empty):j∉t.place.toList:=by
 ext hm;let⟨i,hi,ei⟩:=q2q.mp hm;let dy:i<t.place.size:=by rw[<-Zh];exact hi
 let zJ:t.place[i]=j:=by simpa using ei
 let⟨h0,h1,h2⟩:=xb u j;let a:¬ i<below t.place j:=λz=>by let:=h1 i dy z;symm
 let b:¬ below t.place j<i:=λz=>by
  let:=h2 (below t.place j) ⋯ (Hz _);let:=u.lt z dy;symm
 let eb:below t.place j=i:=by symm
 unfold slot at e;rw[eb] at e;let:(t.place[i]?==U j)=θ:=by rw[q0p dy,zJ];simp
 erw[this,q2G] at e;cases e
def mW(owner:Array (Option Nat))(k:Nat):Prop:=(owner.toList.filterMap id).Perm (q0x k)
theorem zK:∀{l:-(Option Nat)}{j k:Nat},l[j]?=U Z->((l.set j (U k)).filterMap id).Perm (k::l.filterMap id)
 |[],j,k,h=>by simp at h
 |x::l,0,k,h=>by
  simp at h;subst h;exact q2A _
 |x::l,j+1,k,h=>by
  simp at h
  cases x with
  |none =>
   show((l.set j (U k)).filterMap id).Perm (k::l.filterMap id);exact zK h
  |some y =>
   calc(q5h y (zK h)).trans (q3N _ _ _)
theorem MX{owner:Array (Option Nat)}{j k:Nat}(P:mW owner k)(h:owner.toList[j]?=U Z):mW (owner.setIfInBounds j (U k)) (k+1):=by
 unfold mW at P ⊢;rw[q1U,q6R];calc(zK h).trans ((q5h k P).trans (List.perm_append_singleton k _).symm)
theorem MY{m:Nat}{owner:Array (Option Nat)}{k:Nat}(hm:Mk m)(O:Ow m owner k)(Pm:mW owner k)(hk:k<=m)(h:Int):∃j,q2c m owner (turns m) (bits h%(m+1)) (bits h)=U j/\Ow m (owner.setIfInBounds j (U k)) (k+1)/\mW (owner.setIfInBounds j (U k)) (k+1):=by
 let⟨e,he,hn⟩:=Ga O hk;let⟨n,pU,en⟩:=reach hm (i:=bits h%(m+1)) (zz h) he;let⟨j,ej,hj⟩:=zA (m:=m) (owner:=owner) n (turns m) (bits h%(m+1)) (bits h) (by unfold turns;symm) (by rw[en];calc hn);refine⟨j,ej,⟨by rw[q4d];calc O.size,?_,λx hx=>?_⟩,MX Pm (getD_none hj)⟩
 .rw[q1U,zB (getD_none hj),O.cnt]
 .rw[q1U] at hx
  rcases q33 hx with h|h
  .exact q0J (O.lt x h)
  .cases h;calc q0N _
theorem Gi{m:Nat}(hm:Mk m):∀(hs:-Int)(owner:Array (Option Nat))(k:Nat),Ow m owner k->mW owner k->k+↑hs<=m+1 →
  ∃e_,(hs.foldl (init:=U (owner,k)) λacc h=>do
   let(owner,k) <- acc
   let j <- q2c m owner (turns m) (bits h%(m+1)) (bits h)
   pure (owner.setIfInBounds j (U k),k+1))=U (e_,k+↑hs)/\Ow m e_ (k+↑hs)/\mW e_ (k+↑hs)
 |[],owner,k,O,Pm,_=>⟨owner,Y,O,Pm⟩
 |h::hs,owner,k,O,Pm,hl=>by
  rw[HB] at hl ⊢;let⟨j,ej,O',P'⟩:=MY hm O Pm ⋯ h;let⟨o2,e2,O2,P2⟩:=Gi hm hs _ (k+1) O' P' ⋯;calc⟨o2,?_,by rw[show k+(↑hs+1)=k+1+↑hs by symm];calc⟨O2,P2⟩⟩;rw[rJ,show k+(↑hs+1)=k+1+↑hs by symm,<-e2];congr 1;show(do let j <- q2c m owner (turns m) (bits h%(m+1)) (bits h);pure (owner.setIfInBounds j (U k),k+1))=_;rw[ej];rfl
theorem MZ(m:Nat):mW (q6P (m+1) Z) 0:=by
 unfold mW;rw[q2_,List.filterMap_eq_nil_iff.mpr λx hx=>by rw[q2X hx];rfl];calc q2A _
theorem M0{m:Nat}(hm:Mk m)(hs:Array Int)(hz:hs.size<=m+1):∃owner,layClean m hs=U owner/\Ow m owner hs.size/\mW owner hs.size:=by
 let⟨o,e,O,Pm⟩:=Gi hm hs.toList _ 0 (Gd m) (MZ m) (by rw[Zh];symm);rw[q0A,Zh] at O Pm;calc⟨o,?_,O,Pm⟩;unfold layClean;rw[<-q5J,e];rfl
theorem M3{m:Nat}{owner:Array (Option Nat)}(hs:owner.size=m+1):(la m owner).map (·.2)=owner.toList.filterMap id:=by
 unfold la;rw[List.map_filterMap]
 let e:owner.toList=(q0x (m+1)).map λj=>owner.getD j Z:=by
  calc q2K λi=>?_;rw[q0B,PB]
  by_cases hi:i<m+1
  .rw[q1_ hi,q4V,q0p (by rw[hs];calc hi),q0R,q0p (by rw[hs];calc hi)];rfl
  .rw[q1x (by rw[hs];symm),q11 (by rw[q00];symm)];rfl
 rw[e,q5L];congr 1;funext j;show x0n (λx:Nat×Nat=>x.2) (x0n (λx=>(j,x)) (owner.getD j Z))=owner.getD j Z;cases owner.getD j Z<;>rfl
theorem M4{m:Nat}(hm:Mk m)(t:SetTable)(hs:Array Int)(wanted:Nat)(hw:sizeAbove wanted-1=m)(hz:hs.size<=m+1):
  ∃t' order,t.relaid hs wanted=U (t',order)/\t'.mask=m/\t'.dummies = #[]/\t'.place.size=hs.size/\t'.led=t.led/\t'.plain=t.plain/\Up t'.place/\order.toList.Perm (q0x hs.size):=by
 let⟨owner,e,O,Pm⟩:=M0 hm hs hz;refine⟨{mask:=m,place:=((la m owner).map (·.1)).toArray,dummies := #[],finger:=t.finger,led:=t.led,moves:=t.movedTo m,plain:=t.plain},((la m owner).map (·.2)).toArray,?_,Y,Y,?_,Y,Y,?_,?_⟩
 .unfold relaid laid
  rw[hw,e];rfl
 .rw[PA,Ba,zC O]
 .unfold Up
  exact MU m owner
 .show ((la m owner).map (·.2)).Perm _
  rw[M3 O.size];calc Pm
theorem M5{order:Array Nat}{n:Nat}(h:order.toList.Perm (q0x n)):coversAll order n=θ:=by
 calc List.isPerm_iff.mpr h
end LJS
namespace LJS
open PySem PySem.SetTable PyProof.Rows
noncomputable def keyOf(e:Int×L):Int:=match e.2 with
 |.int k _=>k
 |_=>0
structure cX(t:SetTable)(es:Array (Int×L))(led:Bool)(ks:-Int):Prop where
 pV:t.dummies = #[]
 nV:Mk t.mask
 j3:t.place.size=es.size
 iM:t.tooFull=ι
 up:Up t.place
 uD:t.plain=θ
 zL:t.led=led
 qN:∀e∈es.toList,∃k tk,e=(hashInt k,q0X k tk)
 keys:(es.toList.map keyOf).Perm ks
 lR:ks.Nodup
def fg(h:I)(S:O)(led:Bool)(ks:-Int):Prop:=∃o es ep t,h.get? S=U o/\o.ExactSet/\o.data=.set es ep t/\cX t es led ks
section
variable{t:SetTable}{es:Array (Int×L)}{led:Bool}{ks:-Int}
theorem cX.num(T:cX t es led ks):es.size=↑ks:=by rw[<-T.keys.length_eq,Ba,Zh]
theorem cX.fill(T:cX t es led ks):t.fill=es.size:=by unfold q2t;rw[T.j3,T.pV];rfl
theorem cX.lt(T:cX t es led ks):es.size*5<t.mask*3:=by
 let:=T.iM;unfold tooFull at this;rw[T.fill] at this;let:=q3L this;symm
theorem cX.fits(T:cX t es led ks):t.fits es.size=θ:=by
 let:=T.lt;unfold q3t;rw[T.fill,T.j3];simp;symm
theorem cX.elems{prog:ψ}{w:S}(T:cX t es led ks):ElemsOf (intKind prog w) es.toList:=λe he=>by
 let⟨k,tk,rfl⟩:=T.qN e he;calc⟨⟨k,q3o ..,Y⟩,Y⟩
theorem cX.lay(T:cX t es led ks)(k:Int)(tk:Tok):∃j,j∉t.place.toList/\layNew t es (hashInt k) (.int k tk)=(insertAt es (t.put j).2 (hashInt k,.int k tk),(t.put j).1,ι,ι):=by
 let lt:=T.lt;let⟨j,ej⟩:=F9 (t:=t) (f:=λ_=>hashInt k+1) (h:=hashInt k) T.pV T.nV (by rw[T.j3];symm) (λi _ z=>by symm);let hs:t.slot j=.empty:=zI ej;let⟨p1,p2,p3,_⟩:=zD t T.pV j;refine⟨j,MW T.up hs,?_⟩
 let ff:(t.put j).1.fits (insertAt es (t.put j).2 (hashInt k,q0X k tk)).size=θ:=by
  unfold q3t q2t;rw[p1,p2,p3,zE,T.j3];simp;symm
 unfold layNew freeSlot;rw[ej];show(insertAt es (t.put j).2 (hashInt k,q0X k tk),(t.put j).1.orStandIn (insertAt es (t.put j).2 (hashInt k,q0X k tk)).size,ι,!(t.put j).1.fits (insertAt es (t.put j).2 (hashInt k,q0X k tk)).size)=_;unfold SetTable.orStandIn;rw[ff,q0e Y];rfl
end
section
variable{prog:t}{w:S}{A:o}{E:bA}{s:B}
theorem add_int{S:O}{k:Int}{tk:Tok}{led:Bool}{ks:-Int}{Q:Bool->B->Prop}(hS:fg s.heap S led ks)(hl:↑ks<60)
  (fin:∀(b:Bool) h',q2E S s.heap h'->fg h' S led (if k∈ks then ks else ks++[k])->Q b {s with heap:=h'}):M (g prog w) A (setAddHashed S (.int k tk) (hashInt k)) Q E s:=by
 let⟨o,es,ep,t,ho,hex,hd,T⟩:=hS;let hb:es.size<scanBound:=by rw[T.num];unfold scanBound;symm
 let el:=T.elems (prog:=prog) (w:=w);show M _ _ (setAddHashedIn S (.int k tk) (hashInt k) (99999+1)) _ _ _;calc rH (q1V ho hd T.fits ?_);dsimp only;rw[byScan_of (knd:=intKind prog w) Y hb el];calc rH ?_;calc rH (q3p ?_);refine rH (wpAny_setScan_of (knd:=intKind prog w) (k:=k) (q3o ..) ho hd T.fits el ?_)
 let Gj:∀e∈es.toList,(intKind prog w).is k e.2=G (k=keyOf e):=λe he=>by
  let⟨k',lb,rfl⟩:=T.qN e he;exact KeyKind.is_eq_decide (q3o ..) k
 cases hr:es.toList.findIdx? (λe=>(intKind prog w).is k e.2) with
 |some j =>
  let⟨hj,Gk,_⟩:=List.findIdx?_eq_some_iff_getElem.mp hr;let hm:es.toList[j]∈es.toList:=q1Q hj;rw[Gj _ hm] at Gk;let hk:k∈ks:=T.keys.mem_iff.mp (by rw[q0O Gk];calc q0l.mpr ⟨_,hm,Y⟩);calc HA (HA ?_);let e:s={s with heap:=s.heap}:=by cases s;rfl
  exact fin ι s.heap (Heap.SameBut.refl S s.heap) (by rw[q0e hk];calc⟨o,es,ep,t,ho,hex,hd,T⟩)
 |none =>
  let hk:k∉ks:=λz=>by
   let⟨e,he,ek⟩:=q0l.mp (T.keys.mem_iff.mpr z);let:=List.findIdx?_eq_none_iff.mp hr e he;rw[Gj e he,<-ek,q0i Y] at this;cases this
  let⟨j,nj,ej⟩:=T.lay k tk;rw[ej];rw[q0c hk] at fin;let⟨p1,p2,p3,p4,p5,p6,p7⟩:=zD t T.pV j;let up1:=MR T.up nj;let iN:=zE es (t.put j).2 (hashInt k,q0X k tk)
  let zM:(insertAt es (t.put j).2 (hashInt k,q0X k tk)).toList.Perm (es.toList++[(hashInt k,q0X k tk)]):=by
   let:=SetTable.insertAt_perm es (t.put j).2 (hashInt k,q0X k tk);rw[q3a] at this;exact this
  let lt:=T.lt;let qM:es.size<60:=by rw[T.num];exact hl
  generalize(t.put j).1=t2 at p1 p2 p3 p4 p5 up1 ⊢;generalize insertAt es (t.put j).2 (hashInt k,q0X k tk)=cQ at iN zM ⊢
  let ints2:∀e∈cQ.toList,∃k tk,e=(hashInt k,q0X k tk):=λe he=>by
   rcases q0u.mp (zM.mem_iff.mp he) with q|q
   .exact T.qN e q
   .exact⟨k,tk,q0D.mp q⟩
  let pW:(cQ.toList.map keyOf).Perm (ks++[k]):=by
   calc(zM.map keyOf).trans ?_;rw[q0r];exact List.Perm.append_right _ T.keys
  let uE:(ks++[k]).Nodup:=q1W.mpr ⟨T.lR,by simp,λa ha b hb z=>hk (by rw[<-q0D.mp hb,<-z];calc ha)⟩;let zN:t2.place.size=cQ.size:=by rw[p3,T.j3,iN]
  let fl:t2.fill=es.size+1:=by unfold q2t;rw[p1,p3,T.j3];rfl
  calc rH (HA ?_);dsimp only;rw[p5,T.uD,q0e Y];calc rH ?_;rw[hashByValue_scannable 8 Y];calc HA ?_;rw[q0e (show plainKind (q0X k tk)=θ from Y)];refine rH (q3b ho hd ?_ (by rw[iN,q1O];symm))
  let gX:(s.heap.update S (q2F cQ t2)).get? S=U {o with data:=.set cQ (ep+1) t2}:=by
   let:=q0U (q2F cQ t2) ho (by rw[q4q cQ t2 hd];rfl);rw[q4q cQ t2 hd] at this;exact this
  by_cases tf:t2.tooFull=θ
  .rw[q0e (by rw[tf];rfl)]
   let uB:t.mask*3<=(es.size+1)*5:=by
    unfold tooFull at tf;let:=q0O tf;symm
   let⟨m,hm,hw,hsz⟩:∃m,Mk m/\sizeAbove (grown cQ.size)-1=m/\(es.size+1)*5<m*3:=by
    rw[iN];rcases T.nV with e|e|e
    .rw[e] at lt uB
     let:es.size+1=5:=by symm
     rw[this];exact⟨31,.inr (.inl Y),Gf,⋯⟩
    .rw[e] at lt uB
     let:es.size+1=19:=by symm
     rw[this];exact⟨127,.inr (.inr Y),Gg,⋯⟩
    symm
   let⟨t3,order,er,r1,r2,r3,r4,r5,r6,r7⟩:=M4 hm t2 (cQ.map (·.1)) (grown cQ.size) hw (by rw[q3c,iN];symm);rw[q3c] at r3 r7;let uF:=relayAll_perm t2 cQ (grown cQ.size)
   let e3:relayAll t2 cQ (grown cQ.size)=(order.filterMap (cQ[·]?),t3,ι):=by
    let M6:(order.filterMap (cQ[·]?)).size=cQ.size:=by
     let:=Ge (es:=cQ) (order:=order) λx hx=>q0Y.mp (r7.mem_iff.mp hx);rw[this.1,<-Zh,r7.length_eq,q00]
    let ff:t3.fits (order.filterMap (cQ[·]?)).size=θ:=by
     unfold q3t q2t;rw[M6,r2,r3,r1,iN];simp;symm
    unfold relayAll;rw[er];show(if(coversAll order cQ.size&&t3.fits (order.filterMap (cQ[·]?)).size)=θ then _ else _)=_;rw[M5 r7,ff];rfl
   rw[e3] at uF ⊢;calc rH (HA ?_);generalize order.filterMap (cQ[·]?)=xc at uF ⊢;let Gm:xc.size=cQ.size:=by rw[<-Zh,uF.length_eq,Zh]
   refine rH (q3b gX Y ?_ (by rw[Gm,iN,q1O];symm))
   let fR:((s.heap.update S (q2F cQ t2)).update S (q2F xc t3)).get? S=U {o with data:=.set xc (ep+1+1) t3}:=by
    let:=q0U (q2F xc t3) gX (by rw[q4q _ t3 Y];rfl);exact this
   calc HA (HA (fin θ _ ((q0L ..).trans (q0L ..)) ⟨_,_,_,_,fR,hex,Y,r2,by rw[r1];calc hm,by rw[r3,Gm],?_,r6,by rw[r5,p5];calc T.uD,by rw[r4,p4];calc T.zL,λe he=>ints2 e (uF.mem_iff.mp he),(uF.map keyOf).trans pW,uE⟩));unfold tooFull q2t;rw[r2,r3,r1,iN];simp;symm
  .let uC:t2.tooFull=ι:=by cases q:t2.tooFull<;>simp_all
   rw[q0c (by rw[uC];decide)];calc HA (HA (fin θ _ (q0L ..) ⟨_,_,_,_,gX,hex,Y,p1,by rw[p2];calc T.nV,zN,uC,up1,by rw[p5];calc T.uD,by rw[p4];calc T.zL,ints2,pW,uE⟩))
theorem M7{ks:-Int}:∀{vs:-L},ItemsAre (intKind prog w) ks vs->∀v∈vs,∃i t,v=.int i t:=by
 induction ks with
 |nil=>ext vs h v hv;cases h;cases hv
 |cons k ks ih =>
  ext vs h v hv
  cases h with
  |cons h1 h2 =>
   rcases PC.mp hv with rfl|hv
   .let⟨t,e⟩:=q5Z (k:=k) (v:=v) (by first|exact h1|simpa[intKind] using h1)
    exact⟨_,_,e⟩
   .calc ih h2 v hv
theorem M8{ks:-Int}{a:O}{Q:Bool->B->Prop}(hk:IsTupleKey (intKind prog w) s.heap ks a)(h:∀b,Q b s):M (g prog w) A (hashByValue 8 (.ref a)) Q E s:=by
 let hT:=hk.typeIs;let⟨o,az,n,ho,_,hd,hi⟩:=hk;show M _ _ (hashByValue (7+1) (.ref a)) _ _ _;unfold hashByValue;calc rH (q3y hT F.slot_tuple_hash.lookup ?_);show M _ _ (seqItems? (.ref a) >>= _) _ _ s;calc rH (q1D ho hd ?_);calc rH ?_;show M _ _ (forIn az _ _) _ _ s;rw[<-Array.forIn_toList];refine q4r _ (λrest _ s'=>s'=s/\∀v∈rest,∃i t,v=q0X i t) _ ?_ ?_ _ _ ⟨Y,M7 hi⟩
 .ext v rest r s' ⟨rfl,iO⟩
  let⟨i,t,rfl⟩:=iO v q0h;let e:hashByValue 7 (.int i t)=pure θ:=by unfold hashByValue;rfl
  rw[e];calc rH (HA ?_);erw[q4e,q03,q2a];exact HA ⟨Y,λu hu=>iO u (q0g _ hu)⟩
 .ext ⟨r1,r2⟩ s' ⟨rfl,_⟩
  cases r1 with
  |none=>exact HA (h _)
  |some b=>calc HA (h _)
theorem zO{h h':I}{ks:-Int}{a:O}(x:IsTupleKey (intKind prog w) h ks a)(k:∀o,h.get? a=U o->h'.get? a=U o):IsTupleKey (intKind prog w) h' ks a:=by
 let⟨o,az,n,ho,r⟩:=x;calc⟨o,az,n,k o ho,r⟩
noncomputable abbrev hT(prog:t)(w:S)(ks:-Int):Int:=tupleKeyHash (intKind prog w) ks
theorem zP{h h':I}{S:O}{hs:-Int}(x:fZ h S hs)(k:∀o,h.get? S=U o->h'.get? S=U o):fZ h' S hs:=by
 let⟨o,es,ep,t,ho,r⟩:=x;calc⟨o,es,ep,t,k o ho,r⟩
end
section
variable{prog:t}{w:ω}{A:o}{R:Result->B->Prop}{I S:O}{fp wr:-O}{G:Array GenState->Array GenState->Prop}{n:Nat}{P:Nat->L->Prop}{St:Nat->B->Prop}
theorem M9(W:WalksS prog w A.in1 I fp wr G n P St)(out:S∉fp)(ad:Nat->O)(ks:Nat->-Int)(qO:∀i v,P i v->v=.ref (ad i))(apart:∀i,i<n->ad i∉S::wr)(room:A.in1.units<cLine)
  (unlike:∀i j,i<n->j<i->hT prog w (ks j)≠hT prog w (ks i)) (iP:n<=30) :
  ∀(left i:Nat)(s:B),i+left=n->St i s->(∀j,j<n->IsTupleKey (intKind prog w) s.heap (ks j) (ad j))->fZ s.heap S ((q0x i).map λj=>hT prog w (ks j)) →
   (∀s',Moved (S::wr) G s s'->fZ s'.heap S ((q0x n).map λj=>hT prog w (ks j))->R (.ok (.ret .none)) s') →
   codeAny (g prog w) A (.builtin "set.update.loop" ⟨[.ref S,.ref I],[]⟩) R s:=by
 let lT:S∉wr:=λz=>out (W.sub _ z);let more:∀b,b∈wr->b∈S::wr:=λb hb=>q0g _ hb;ext left
 induction left with
 |zero =>
  ext i s hi st tk se fin;obtain rfl:i=n:=by symm
  calc q1t q2B ?_;rw[q1R q1S _];show M _ A.in1 (pyNext (.ref I) >>= _) _ _ s;calc rH (W.done s _ _ st λs' mv=>?_);show M _ A.in1 (ret q0y) _ _ s';exact HA (fin s' (mv.mono more) (zP se λo e=>mv.heap S o lT e))
 |succ left ih =>
  ext i s hi st tk se fin;let d_:i<n:=by symm
  calc q1t q2B ?_;rw[q1R q1S _];show M _ A.in1 (pyNext (.ref I) >>= _) _ _ s;calc rH (W.item i s _ _ d_ st λv s1 hP lg mv=>?_);obtain rfl:=qO i v hP;let mX:∀j,j<n->IsTupleKey (intKind prog w) s1.heap (ks j) (ad j):=λj hj=>zO (tk j hj) λo e=>mv.heap _ o (λz=>apart j hj (more _ z)) e;show M _ A.in1 (holding [q0F (ad i)] (setAdd S (.ref (ad i))) >>= _) _ _ s1;calc rH (q0H ?_);unfold setAdd;calc q0H (rH (wpAny_pyHash_tuple room (mX i d_) ?_));refine MN (s:={s1 with toks:=s1.toks+(↑(ks i)+1)}) (hs:=(q0x i).map λj=>hT prog w (ks j)) Y (zP se λo e=>mv.heap S o lT e) (λz=>?_) (by rw[Ba,q00];symm) (λQ' q=>M8 (mX i d_) q) λh2 sb zQ=>?_
  .let⟨j,hj,e⟩:=q0l.mp z
   exact unlike i j d_ (q0Y.mp hj) e
  .let nS:∀b,b∈fp->b≠S:=λb hb z=>out (by rw[<-z];calc hb)
   refine HA ⟨q2d q1S _,ih (i+1) _ ⋯ (W.frame _ s1 _ _ lg (q13 _ _) λb hb o e=>by rw[sb.2 b (nS b hb)];calc e) (λj hj=>zO (mX j hj) λo e=>?_) (by rw[q6R,q0r];calc zQ) λs3 zR zS=>?_⟩
   .rw[sb.2 _ (λz=>apart j hj (by rw[z];calc q0h))];exact e
   .refine fin s3 (Moved.trans W.gtrans ((mv.mono more).then_heap (q13 _ _) λb o hb e=>?_) zR) zS
    rw[sb.2 b (λz=>hb (by rw[z];calc q0h))];calc e
end
theorem zT{h h':I}{S:O}{led:Bool}{ks:-Int}(x:fg h S led ks)(k:∀o,h.get? S=U o->h'.get? S=U o):fg h' S led ks:=by
 let⟨o,es,ep,t,ho,r⟩:=x;calc⟨o,es,ep,t,k o ho,r⟩
noncomputable def once(ks:-Int)(n:Int):-Int:=if n∈ks then ks else ks++[n]
noncomputable def jC(ns:-Int):Nat->-Int
 |0=>[]
 |i+1=>once (jC ns i) (ns.getD i 0)
section
variable{prog:t}{w:ω}{A:o}{R:Result->B->Prop}{I S:O}{fp wr:-O}{G:Array GenState->Array GenState->Prop}{n:Nat}{P:Nat->L->Prop}{St:Nat->B->Prop}
end
noncomputable abbrev cH(led:Bool):Q:={cls:=.type "set",dict:=none,data:=.set #[] 0 (.fresh 0 0 led)}
theorem M_{h:I}{S:O}{led:Bool}(e:h.get? S=U (cH led)):fZ h S [] :=
 ⟨_,#[],0,_,e,⟨Y,Y,Y⟩,Y,Y,.inl Y,Y,Y,by cases led<;>decide,λ_ h=>nomatch h⟩
section
variable{prog:t}{w:S}{A:o}{E:bA}{s:B}
set_option maxHeartbeats 3200000 in
theorem Na {l:O} {items:Array L} {Q:bA} (ad:Nat->O) (ks:Nat->-Int) (hh:A.handled=Z) (room:A.units+8<cLine) (isL:s.heap.IsList l items) (qO:∀(i:Nat)(v:L),items[i]?=U v->v=.ref (ad i))
  (tk:∀i,i<items.size->IsTupleKey (intKind prog w) s.heap (ks i) (ad i)) (unlike:∀i j,i<items.size->j<i->hT prog w (ks j)≠hT prog w (ks i)) (iP:items.size<=30)
  (fin:∀(h':I)(tk:Nat),fZ h' ⇑s ((q0x items.size).map λj=>hT prog w (ks j))->(∀b o,b<⇑s->s.heap.get? b=U o->h'.get? b=U o)->Q (.ref ⇑s) {s with heap:=h',toks:=tk}) :
  M (g prog w) A (call (.type "set") [.ref l]) Q E s:=by
 let⟨c,tl,zU⟩:=q1e.mro;let m1:=q1e.made;let m2:=q1e.sub;let m3:=q1e.notType;let m4:=q1e.canCreate;let m5:=q6t (.ref l);calc q4J (q4W ?_);show M _ _ (callAny (.type "set") _) _ _ _;calc HA ⟨q5M _ (by decide +kernel),q1t q50 ?_⟩;rw[q5N (q48 "set" [.ref l] []) Y]
 repeat(any_goals (first|assumption|wp_step))
 refine q2H (code_set_new_1 (.ref l) (E:=E) (Q₁:=λr s1=>∃led:Bool,r=.ref ⇑s/\s1={s with heap:=s.heap.push (cH led)}) λled=>⟨led,Y,Y⟩) λr s1 hr=>?_
 cases r with
 |error e=>exact hr
 |ok fl =>
  cases fl with
  |ret obj =>
   let⟨led,rfl,rfl⟩:=hr;let gS:(s.heap.push (cH led)).get? ⇑s=U (cH led):=Zg _ Y;let tS:q7x {s with heap:=s.heap.push (cH led)} (.ref ⇑s) "set" := ⟨_,gS,Y⟩;let m6:=q1e.init.lookup;let m7:=q1e.init.bind (.ref ⇑s)
   repeat(any_goals (first|assumption|wp_step))
   refine q2H (q5i (R:=wants (λr s2=>r=.none/\∃h' tk,s2={s with heap:=h',toks:=tk}/\fZ h' ⇑s ((q0x items.size).map λj=>hT prog w (ks j)) ∧
     ∀b o,b<⇑s->s.heap.get? b=U o->h'.get? b=U o) E) q1e.init.plain q6u (q6v tS ?_)) λr2 s2 lU=>?_
   .let⟨ol,gl,cl,nl,dl⟩:=isL
    let⟨c0,d0,Gn,uG⟩:=ol;simp only at cl dl;subst cl;subst dl;let uH:(s.heap.push (cH led)).get? l=U {cls:=.type "list",dict:=d0,data:=.seq items nl,slots:=uG}:=u7 _ gl;let x1:=q69;let x2:=q5j;let x3:(q1L "list" == q1L "dict")=ι:=by decide
    let iQ:(s.heap.push (cH led)).IsList l items:=⟨_,uH,Y,nl,Y⟩;let ll:l<⇑s:=Ze gl;unfold Builtin.«set.__init__» noKeywords q3z;generalize xf:pyIter=PI
    wp_walk
    subst xf;calc q1X iQ (rH (q3O ?_));let h3:A.in1.in1.in1.handled=Z:=by simp[hh]
    let ez:(s.heap.push (cH led)).objs.size=⇑s+1:=q0T ..;let nI:l≠(s.heap.push (cH led)).objs.size:=by rw[ez];exact q0b (q0J ll)
    let lt:∀i,i<items.size->ad i<⇑s:=λi hi=>by
     let⟨o,_,_,e,_⟩:=tk i hi;exact Ze e
    refine M9 ((q3q h3 _ l nI items).toS) (S:=s.heap.objs.size) ?out ad ks (λi v hv=>qO i v hv) ?apart ?room unlike iP items.size 0 _ (q0A _)
     ⟨⟨_,Zg _ Y,Y,Y⟩,iQ.push _⟩ ?tk ?fresh ?fin
    case out =>
     erw[PC,q0o,q1r,q4K,ez];exact⟨q0b (q0N _),q1I ll⟩
    case apart =>
     ext i hi;let:=lt i hi;erw[PC,q0o,q1r,q4K,ez];exact⟨q0b this,q0b (q0J this)⟩
    case room =>
     show A.units+1+1+1<cLine;exact q24 (Nat.add_le_add_left (by decide:3<=8) _) room
    case tk =>
     ext j hj;exact zO (tk j hj) λo e=>u7 _ (u7 _ e)
    case fresh =>
     exact M_ (led:=led) (u7 _ gS)
    case fin =>
     ext s' mv se;let⟨h',g',d',lb,qP⟩:=s';obtain rfl:g'=s.gens:=mv.gens;obtain rfl:d'=s.drawn:=mv.drawn;obtain rfl:qP=s.os:=mv.os;show M _ _ _ _ _ _;calc HA ?_;show M _ _ (ret q0y) _ _ _;calc HA ⟨Y,h',lb,Y,se,λb o hb e=>?_⟩;calc mv.heap b o ?_ (u7 _ (u7 _ e));erw[PC,q0o,q1r,q4K,ez];exact⟨q0b hb,q0b (q0J hb)⟩
   .cases r2 with
    |error e=>exact lU
    |ok zV =>
     cases zV with
     |ret r =>
      let⟨rfl,h',lb,rfl,se,kp⟩:=lU
      repeat(any_goals (first|assumption|wp_step))
      exact fin _ _ se kp
     |next=>exact lU
     |brk=>exact lU
     |cont=>exact lU
  |next=>exact hr
  |brk=>exact hr
  |cont=>calc hr
end
noncomputable abbrev iF(w:S):Bool := !w.params.followText "set-order"
theorem Gp{h:I}{S:O}{led:Bool}(e:h.get? S=U (cH led)):fg h S led [] :=
 ⟨_,#[],0,_,e,⟨Y,Y,Y⟩,Y,Y,.inl Y,Y,by cases led<;>decide,q51,Y,Y,(λ_ h=>nomatch h),q2A _,q5k⟩
section
variable{prog:t}{w:S}{A:o}{E:bA}{s:B}
theorem Nc(a:L){Q₁:bA}(h:Q₁ (.ref ⇑s) {s with heap:=s.heap.push (cH (iF w))}):
  codeAny (ς prog w) A (.call (.builtin "set.__new__") ⟨[.type "set",a],[]⟩) (wants Q₁ E) s:=by
 calc q4W ?_;show M _ A.in1 (checkBuiltinCall "set.__new__" ⟨[.type "set",a],[]⟩ >>= λ_=>again (.builtin "set.__new__" ⟨[.type "set",a],[]⟩)) _ _ s;calc rH (q5l (F.newCall_set_1 a) (HA ⟨q2d q6S _,?_⟩));calc q1t F.entry_set_new ?_;rw[q1R q6S _];let x1:=sub_set_self;unfold Builtin.«set.__new__» Builtin.Frozenset.newClass newSet setsByText;let⟨hp,g,d,tk,os⟩:=s;dsimp only
 wp_walk
 calc q2P (HA ?_);dsimp only;erw[newObj];calc rH (wpAny_alloc (HA (HA h)))
end
theorem bC:Slot "set_iterator" "__next__" "set_iterator.__next__" :=
 .of (owner:="set_iterator") (n:="__next__") (by rw[q6T,q49];kernel_rfl) (by decide +kernel) (by decide +kernel) (by decide +kernel)
  (by first|exact .inl (by decide +kernel)|calc .inr (by decide +kernel)) (by rw[q5m];kernel_rfl)
theorem Gq:Slot "set_iterator" "__iter__" "set_iterator.__iter__" :=
 .of (owner:="set_iterator") (n:="__iter__") (by rw[q6T,q49];kernel_rfl) (by decide +kernel) (by decide +kernel) (by decide +kernel)
  (by first|exact .inl (by decide +kernel)|calc .inr (by decide +kernel)) (by rw[q5m];kernel_rfl)
theorem Gr:entryFor table "set_iterator.__next__" = U Builtin.«set_iterator.__next__» := entryFor_of_fast (by kernel_rfl)
theorem Nd:entryFor table "set_iterator.__iter__" = U Builtin.«dict_keyiterator.__iter__» :=
 q7a (id':="dict_keyiterator.__iter__") (by kernel_rfl) Y (by decide +kernel) (by kernel_rfl)
theorem Nf:entryFor table "set.__iter__" = U Builtin.«frozenset.__iter__» :=
 q7a (id':="frozenset.__iter__") (by kernel_rfl) Y (by decide +kernel) (by kernel_rfl)
theorem Gs(a:L):argsOk "set_iterator.__next__" ⟨[a],[]⟩:=by unfold argsOk;kernel_rfl
theorem Ng(a:L):argsOk "set_iterator.__iter__" ⟨[a],[]⟩:=by unfold argsOk;kernel_rfl
def cD(h:Α)(I S:O)(first:L)(i n ep:Nat):Prop:=∃o,h.get? I=U o/\o.cls=.type "set_iterator" /\ o.data=.fields #[first,.int i 0,.ref S,.int n 0,.int ep 0]
theorem cD.typeIs{s:B}{I S:O}{f:L}{i n ep:Nat}(x:cD s.heap I S f i n ep):s.TypeIs (.ref I) "set_iterator" := let⟨o,ho,hc,_⟩:=x;⟨o,ho,hc⟩
theorem cD.at{h h':Α}{I S:O}{f:L}{i n ep:Nat}(x:cD h I S f i n ep)(e:∀o,h.get? I=U o->h'.get? I=U o):cD h' I S f i n ep:=let⟨o,ho,r⟩:=x;⟨o,e _ ho,r⟩
noncomputable def iG(w:ω)(S:O)(ep:Nat)(es:Array (Int×L)):Array (Int×L):=if w.params.followText "set-order" = θ then pickOrder (w.params.setOrder S ep) es else es
theorem zW(w:ω)(S:O)(ep:Nat)(es:Array (Int×L)):(iG w S ep es).toList.Perm es.toList:=by
 unfold iG;split
 .exact MV _ _
 .calc q2A _
theorem xg(w:ω)(S:O)(ep:Nat)(es:Array (Int×L)):(iG w S ep es).size=es.size:=by
 let:=(zW w S ep es).length_eq;simpa using this
noncomputable def slotAt(t:SetTable)(i:Nat):Nat:=if i=0 then 0 else t.place.getD (i-1) 0+1
structure zX(w:ω)(I S:O)(o:Q)(es:Array (Int×L))(ep:Nat)(t:SetTable)(i:Nat)(h:Α):Prop where
 set:h.get? S=U o
 it:∃slot:Nat,cD h I S (.int slot 0) i es.size ep/\(w.params.followText "set-order" = ι->slot=slotAt t i)
section
variable{prog:ψ}{w:ω}{A:Β}{I S:O}{o:Q}{es:Array (Int×L)}{ep:Nat}{t:SetTable}{ks:-Int}
theorem Nh(T:cX t es (iF w) ks){i:Nat}(hi:i<=es.size):below t.place (slotAt t i)=i:=by
 unfold slotAt;split
 .rename_i h;subst h;exact MQ T.up
 .rename_i h
  let hl:i-1<t.place.size:=by rw[T.j3];symm
  let e:t.place.getD (i-1) 0=t.place[i-1]:=by simp[q5O,hl]
  rw[e,MP T.up hl];symm
theorem Gu{E:bA}{s:B}{Q:Option (L×Nat)->B->Prop}(ho:s.heap.get? S=U o)(hd:o.data=.set es ep t)(T:cX t es (iF w) ks){slot i:Nat}(hi:i<=es.size)(hs:w.params.followText "set-order" = ι->slot=slotAt t i)
  (k:∀qQ:Nat,(w.params.followText "set-order" = ι->i<es.size->qQ=slotAt t (i+1))->Q (((iG w S ep es)[i]?).map λe=>(e.2,qQ)) s):M (g prog w) A (setNext S slot i ep) Q E s:=by
 calc rH (q1V ho hd T.fits ?_);calc rH ?_;calc rH (q2P (HA ?_));let mw:(g prog w).w=w:=Y
 cases q:w.params.followText "set-order" with
 |true =>
  rw[mw,q];erw[q36,q03,q2a,q2G];calc rH ?_;calc rH (q1V ho hd T.fits ?_);calc rH ?_;calc rH (q2P (HA ?_));rw[mw,q,q0e Y];calc rH (q2P (HA ?_));calc HA ?_;let:=k slot λz=>by rw[q] at z;cases z
  unfold iG at this;rw[q0e q] at this;exact this
 |false =>
  rw[mw,q,q0c (by decide)];let zG:=hs q;subst zG;let hb:=Nh T hi;rw[hb];calc q4X (λh=>absurd (show(!t.plain&&G (es.size>1))=θ from h) (by rw[T.uD];simp)) (λ_=>?_);calc rH ?_;calc q4X (c:=(!t.led && !es.isEmpty)=θ) (λh=>absurd h (by rw[T.zL];unfold iF;rw[q];simp)) (λ_=>?_);calc HA (HA ?_);let hk:=k (slotAt t (i+1)) λ_ _=>Y;unfold iG at hk;rw[q0c (by rw[q];decide)] at hk
  by_cases hl:i<es.size
  .let hp:i<t.place.size:=by rw[T.j3];exact hl
   rw[q0p hl] at hk;rw[q0p hl,q0p hp]
   let e:slotAt t (i+1)=t.place[i]+1:=by
    unfold slotAt;simp[q5O,hp]
   rw[e] at hk;exact hk
  .rw[q1x ⋯] at hk
   rw[q1x ⋯];calc hk
theorem Gv{E:bA}{s:B}{a:O}{ob:Γ}{vs:Array L}{Q:Array L->B->Prop}(ho:s.heap.get? a=U ob)(hd:ob.data=.fields vs)(h:Q vs s):M (g prog w) A (fieldsOf (.ref a)) Q E s:=by
 calc rH (q7b ho ?_);rw[hd];calc HA h
theorem Ni(hh:A.handled=Z)(gv:S≠I)(hex:o.ExactSet)(hd:o.data=.set es ep t)(T:cX t es (iF w) ks):
  Walks prog w A I [I,S] [I] es.size (λi v=>∃e,(iG w S ep es)[i]?=U e/\v=e.2) (zX w I S o es ep t) where
 sub:=λb hb=>by simp at hb;simp[hb]
 frame:=λi h h' st hk=>⟨hk S (by simp) _ st.set,let⟨slot,x,y⟩:=st.it;⟨slot,x.at λo e=>hk I (by simp) o e,y⟩⟩
 item:=λi s Q E hi st hQ=>by
  let⟨slot,hit,hs⟩:=st.it;let⟨oi,sT,hc,qR⟩:=id hit
  refine rH (q4f (q07 (name:=q0V "__next__") hit.typeIs bC
   (q08 bC hit.typeIs Gr ?_ (Gs _))))
  calc rH (m:=slotArgs _ _ _) (HA ?_);calc rH (Gv sT qR ?_);calc rH (q3E st.set hd T.fits ?_);rw[q0c (by simp)];calc rH (Gu st.set hd T (slot:=slot) (i:=i) ⋯ hs λqQ hn=>?_);let ei:(iG w S ep es)[i]?=U ((iG w S ep es)[i]'(by rw[xg];calc hi)):=q0p _;rw[ei];calc rH (q3d sT qR (by simp) ?_);let gX:=q0U (q7y (·.setIfInBounds 0 (rawInt qQ))) sT (q3k (q2f qR _));let zY:=q2f qR (·.setIfInBounds 0 (rawInt (qQ:Int)));calc rH (q3d gX zY (by simp) ?_);let fR:=q0U (q7y (·.setIfInBounds 1 (rawInt ((i:Int)+1)))) gX (q3k (q2f zY _));let hd2:=q2f zY (·.setIfInBounds 1 (rawInt ((i:Int)+1)))
  refine HA ⟨_,Y,HA (hQ _ _ s.toks ⟨_,ei,Y⟩ ⟨?_,qQ,⟨_,fR,?_,?_⟩,λz=>hn z hi⟩ λb ob hb e=>?_)⟩
  .rw[q1f _ _ (q2b gv),q1f _ _ (q2b gv)];exact st.set
  .exact (q37 ..).trans ((q37 ..).trans hc)
  .rw[hd2];simp[rawInt]
  .let hb':I≠b:=λz=>hb (by simp[z])
   rw[q1f _ _ hb',q1f _ _ hb'];exact e
 done:=λs Q E st hQ=>by
  let⟨slot,hit,hs⟩:=st.it;let⟨oi,sT,hc,qR⟩:=id hit
  refine rH (q4f (q07 (name:=q0V "__next__") hit.typeIs bC
   (q08 bC hit.typeIs Gr ?_ (Gs _))))
  calc rH (m:=slotArgs _ _ _) (HA ?_);calc rH (Gv sT qR ?_);calc rH (q3E st.set hd T.fits ?_);rw[q0c (by simp)];calc rH (Gu st.set hd T (slot:=slot) (i:=es.size) (Hz _) hs λqQ hn=>?_);rw[q1x (by rw[xg];calc Hz _)];calc rH (q3d sT qR (by simp) ?_);calc rH ?_;calc rH (m:=firstArgMember _ _) (q5l (a:=q0y) (by first|rfl|(erw[firstArgMember];rfl)) ?_);calc q1A ?_ (by size_fits);calc rH (q7z ?_);rw[show A.in1.handled=Z from hh];calc rH (HA (wpAny_throw ?_));calc rH (q4s (T:="StopIteration") (b:=true) ⟨_,Zg _ Y,Y⟩ q7c ?_);refine HA (hQ _ s.toks λb ob hb e=>?_)
  let hb':b≠I:=λz=>hb (by simp[z]);exact(((q0L ..).extBut.push _).push _) b ob hb' e
 self:=λi s Q E st hQ=>by
  let⟨slot,hit,_⟩:=st.it;calc q52 hit.typeIs Gq (q08 Gq hit.typeIs Nd ?_ (Ng _));calc HA ⟨_,Y, "set_iterator",_,hit.typeIs,bC.lookup,hQ⟩
theorem Nj{E:bA}{s:B}{Q:Bool->B->Prop}(ho:s.heap.get? S=U o)(hd:o.data=.set es ep t)(T:cX t es (iF w) ks)(k:Q ι s):M (g prog w) A (setDrawn S) Q E s:=by
 calc rH (q1V ho hd T.fits ?_);calc rH ?_;calc rH (q2P (HA ?_));calc HA ?_;let e:(!(g prog w).w.params.followText "set-order" && (!t.plain&&G (es.size>1)))=ι:=by rw[T.uD];simp
 calc e▸k
theorem Nk{E:bA}{s:B}{Q:bA}(ho:s.heap.get? S=U o)(hex:o.ExactSet)(hd:o.data=.set es ep t)(T:cX t es (iF w) ks)
  (k:∀h',(∀b ob,s.heap.get? b=U ob->h'.get? b=U ob)->zX w ⇑s S o es ep t 0 h'->Q (.ref ⇑s) {s with heap:=h'}):M (g prog w) A (pyIter (.ref S)) Q E s:=by
 let tS:s.TypeIs (.ref S) "set" := ⟨o,ho,hex.1⟩;calc q52 tS q6U (q08 q6U tS Nf ?_ (F.args_set_iter_1 _));calc rH (m:=Builtin.Frozenset.sizeOf _) ?_;calc rH (q3E ho hd T.fits (HA ?_));calc rH (Nj ho hd T ?_);calc rH (HA ?_);calc rH (wpAny_setEpoch_of ho hd T.fits ?_);calc rH (m:=newFields _ _) (q1A (HA ⟨_,Y, "set_iterator",_,⟨_,Zg _ Y,Y⟩,bC.lookup,?_⟩));calc k _ (λb ob e=>u7 _ e) ⟨u7 _ ho,0,⟨_,Zg _ Y,Y,Y⟩,λ_=>Y⟩
end
section
variable{prog:ψ}{w:ω}{A:Β}{S:O}{o:Q}{es:Array (Int×L)}{ep:Nat}{t:SetTable}{ks:-Int}
theorem Nl{E:bA}{s:B}{Q:Bool->B->Prop}(tS:s.TypeIs (.ref S) "set")(k:Q ι s):M (g prog w) A (Builtin.List.listLengthHint (.ref S)) Q E s:=by
 calc rH (q3y tS F.slot_set_len.lookup ?_);generalize Nm:("set.__len__" : String)=Y5
 wp_delta
 subst Nm;calc rH (q4s (T:="set") (b:=true) tS (by rw[q5m];kernel_rfl) ?_);calc q4X (λFW=>absurd FW (by decide)) (λ_=>?_);calc rH (q3I tS ?_);calc HA k
theorem Nn{E:bA}{s:B}{Q:-L->B->Prop}(hh:A.handled=Z)(ho:s.heap.get? S=U o)(hex:o.ExactSet)(hd:o.data=.set es ep t)(T:cX t es (iF w) ks)(hn:es.size<=1000)
  (h:∀(h':Α)(tk:Nat),(∀b ob,s.heap.get? b=U ob->h'.get? b=U ob)->⇑s<=h'.objs.size->Q ((iG w S ep es).toList.map (·.2)) {s with heap:=h',toks:=tk}):M (g prog w) A (collect (.ref S)) Q E s:=by
 let lS:S<⇑s:=Ze ho;calc rH (q3O (q1t F.entry_proto_collect ?_));calc rH (q1A ?_);calc HA ⟨q2d F.plain_list_iadd _,q1t F.entry_list_iadd ?_⟩;generalize sU:({s with heap:=s.heap.push {cls:=.type "list",data:=.seq ([]:-L).toArray}}:B)=s1;let gX:s1.heap.get? S=U o:=by rw[<-sU];exact u7 _ ho
 let gL:s1.heap.get? ⇑s=U {cls:=.type "list",data:=.seq ([]:-L).toArray}:=by rw[<-sU];exact Zg _ Y
 let z1:⇑s1=⇑s+1:=by rw[<-sU];exact q0T ..
 show M _ A.in1 (Builtin.List.listExtendWith (.ref ⇑s) (.ref S) (.ref ⇑s)) _ _ _;calc rH (q3I (T:="set") ⟨o,gX,hex.1⟩ ?_);let h1:q4g (.ref ⇑s) (.ref S)=ι:=by simp[q4g];exact q1I lS
 let h2:(q1L "set" == q1L "list")=ι:=by decide
 let h3:(q1L "set" == q1L "tuple")=ι:=by decide
 erw[h1,h2,h3,q5D,q03,q2a];calc rH (Nk gX hex hd T λf6 qT j5=>?_);calc rH (q0H (Nl ⟨o,qT _ _ gX,hex.1⟩ ?_));let gv:S≠⇑s1:=by rw[z1];exact q0b (q0J lS)
 let W:=(Ni (prog:=prog) (A:=A.in1) (I:=s1.heap.objs.size) (by simp[hh]) gv hex hd T).toS
 let Np:⇑s∉[⇑s1,S]:=by
  erw[PC,q0o,q1r,q4K,z1];exact⟨q0b (q0N _),q1I lS⟩
 let key:∀(uI:Α)(c:Nat),zX w ⇑s1 S o es ep t 0 uI->uI.get? ⇑s=U {cls:=.type "list",data:=.seq #[] c}->(∀b ob,b≠⇑s->f6.get? b=U ob->uI.get? b=U ob) →
   codeAny (g prog w) A (.builtin "list.extend.loop" ⟨[.ref ⇑s,.ref ⇑s1,.ref ⇑s],[]⟩) (λr s'=>match r with
    |.ok (.ret v)=>M (g prog w) A (match v with
     |.ref a=>do match(<- load a).data with
      |.seq xs _=>pure xs.toList
      |_=>unsupported "internal:collect"
     |_=>unsupported "internal:collect") Q E s'
    |.ok _=>False
    |.error e=>E e s') {s1 with heap:=uI}:=by
  ext uI c st hL kp;calc codeAny_extend_loopS W (by rw[q1O];symm) _ Np _ es.size 0 _ #[] c Y (q0Z _) st hL (ItemsOf.nil _) λs' fE c' hm sV qU=>?_;refine rH (q7b sV (HA ?_))
  let ea:fE.toList=(iG w S ep es).toList.map (·.2):=by
   calc q2K λi=>?_;rw[PB]
   by_cases hi:i<es.size
   .let Gw:i<fE.size:=by rw[qU.1];exact hi
    let⟨e,he,hv⟩:=qU.2 i _ (q0p Gw);rw[q0B,q0p Gw,q0B,he,hv];rfl
   .rw[q0B,q1x (by rw[qU.1];symm),q0B,q1x (by rw[xg];symm)];rfl
  rw[ea];let⟨zZ,g3,d3,Y6,Nq⟩:=s';obtain rfl:g3=s1.gens:=hm.gens;obtain rfl:d3=s1.drawn:=hm.drawn;obtain rfl:Nq=s1.os:=hm.os;subst sU;calc h _ _ (λb ob e=>?_) (q1d (Ze sV));let hb:b<⇑s:=Ze e;calc hm.heap b ob ?_ (kp b ob (q0b hb) (qT b ob (u7 _ e)));erw[PC,q0o,q1r,q4K];exact⟨q0b hb,by show b≠(s.heap.push _).objs.size;rw[q0T];calc q0b (q0J hb)⟩
 let xh:=qT _ _ gL;calc rH (q3p ?_);calc rH ?_;calc rH (q21 xh Y ?_);let Gx:=q0U (q04 (·.push q0y)) xh Y;calc q21 (hz:=by seq_fits) Gx Y ?_;let Nr:=q0U (q04 (·.pop)) Gx Y
 let z6:∀b ob,b≠⇑s->f6.get? b=U ob->((f6.update ⇑s (q04 (·.push q0y))).update ⇑s (q04 (·.pop))).get? b=U ob :=
  λb ob hb e=>(q1f _ _ (q2b hb)).trans ((q1f _ _ (q2b hb)).trans e)
 calc HA ⟨q2d F.plain_extend_loop _,key _ _ ?_ Nr z6⟩;let⟨slot,it,sl⟩:=j5.it;calc⟨z6 _ _ (q0b lS) j5.set,slot,it.at λob e=>z6 _ _ (by rw[z1];calc q1I (q0N _)) e,sl⟩
end
end LJS
namespace L2
open PySem PySem.Spec PyProof.Rows
abbrev Key:=Sum Int J
noncomputable def sW:Key->L->Bool
 |.inl k,v=>Value.isInt k v
 |.inr x,v=>q7B x v
noncomputable def z9(w:S):Key->Int
 |.inl k=>hashInt k
 |.inr x=>hashStr w x
theorem nW:∀{k:Key}{v:L},sW k v=θ->(∃i t,k=q38 i/\v=q0X i t)\/(∃x t,k=q39 x/\v=q4t x t)
 |.inl i,v,h=>by
  let⟨t,e⟩:=q5Z (k:=i) (v:=v) h;exact .inl ⟨i,t,Y,e⟩
 |.inr x,v,h=>by
  let⟨t,e⟩:=Value.isStrOf_shape (x:=x) (v:=v) h;calc .inr ⟨x,t,Y,e⟩
theorem Nu(i:Int)(t:Tok):sW (.inl i) (.int i t)=θ:=by simp[sW,Value.isInt]
theorem Nv(x:J)(t:Tok):sW (.inr x) (.str x t)=θ:=by simp[sW,q7B]
theorem Nx(a b:Int):G ((q38 a:Key)=q38 b)=(a==b):=by
 by_cases e:a=b
 .subst e;simp
 .let h:¬ (q38 a:Key)=q38 b:=λq=>e (q3v q)
  rw[Zi h];calc(q2x.mpr e).symm
theorem Ny(a b:J):G ((q39 a:Key)=q39 b)=G (a=b):=by
 by_cases e:a=b
 .subst e;simp
 .let h:¬ (q39 a:Key)=q39 b:=λq=>e (Sum.inr.inj q)
  rw[Zi h,Zi e]
theorem Nz(a:Int)(b:J):G ((q38 a:Key)=q39 b)=ι:=Zi (λq=>nomatch q)
theorem NA(a:J)(b:Int):G ((q39 a:Key)=q38 b)=ι:=Zi (λq=>nomatch q)
noncomputable def jq(prog:ψ)(w:S):PySem.KeyKind prog w Key where
 is:=sW
 hash:=z9 w
 inj:=λv a b ha hb=>by
  rcases nW ha with⟨i,t,rfl,rfl⟩|⟨x,t,rfl,rfl⟩
  .rcases nW hb with⟨j,u,rfl,e⟩|⟨y,u,rfl,e⟩
   .injection e with e1 _;rw[e1]
   .exact nomatch e
  .rcases nW hb with⟨j,u,rfl,e⟩|⟨y,u,rfl,e⟩
   .exact nomatch e
   .injection e with e1 _;rw[e1]
 byValue:=λk v h=>by
  rcases nW h with⟨i,t,rfl,rfl⟩|⟨x,t,rfl,rfl⟩<;>rfl
 pyHash:=λhv h=>by
  rcases nW hv with⟨i,t,rfl,rfl⟩|⟨x,t,rfl,rfl⟩
  .exact wpAny_pyHash_int h
  .exact wpAny_pyHash_str h
 eqBool:=λhu hv h=>by
  rcases nW hu with⟨i,t,rfl,rfl⟩|⟨x,t,rfl,rfl⟩
  .rcases nW hv with⟨j,u,rfl,rfl⟩|⟨y,u,rfl,rfl⟩
   .rw[Nx] at h;exact q4u h
   .rw[Nz] at h;exact q5P i t y u _ _ _ _ h
  .rcases nW hv with⟨j,u,rfl,rfl⟩|⟨y,u,rfl,rfl⟩
   .rw[NA] at h;exact q5Q x t j u _ _ _ _ h
   .rw[Ny] at h;exact wpAny_eqBool_str h
 «strs» := λk x t v h=>by
  rcases nW h with⟨i,u,rfl,e⟩|⟨y,u,rfl,e⟩
  .exact nomatch e
  .injection e with e1 _
   subst e1;cases v<;>rfl
theorem NB(prog:ψ)(w:S)(i:Int)(t:Tok):(jq prog w).is (.inl i) (.int i t)=θ:=Nu i t
theorem NC(prog:ψ)(w:S)(x:J)(t:Tok):(jq prog w).is (.inr x) (.str x t)=θ:=Nv x t
inductive V where
 |non|bl (b:Bool)|int (i:Int)|str (x:J)|byt (b:Array UInt8)|flt (b:UInt64)|ref (a:O)|ty (n:String)
 deriving DecidableEq
def RelV:V->L->Prop
 |.non,u=>u=q0y
 |.bl b,u=>u=q2I b
 |.int i,u=>∃t,u=q0X i t
 |.str x,u=>∃t,u=q4t x t
 |.byt b,u=>∃t,u=Value.bytes b t
 |.flt b,u=>∃t,u=q6K b t
 |.ref a,u=>u=q0F a
 |.ty n,u=>u=q1L n
abbrev Vals:-V->-L->Prop:=Paired RelV
theorem Vals.length{xs:-V}{us:-L}(r:Vals xs us):↑xs=↑us:=q5E r
theorem Vals.get:∀{xs:-V}{us:-L}{i:Nat}{x:V},Vals xs us->xs[i]?=U x->∃u,us[i]?=U u/\RelV x u
 |_,_,_,_,.nil,e=>by simp at e
 |_,_,0,_,.cons r _,e=>by simp at e;subst e;exact⟨_,Y,r⟩
 |_,_,i+1,x,.cons _ t,e=>by
  let⟨u,h1,h2⟩:=Vals.get (i:=i) (x:=x) t e⁻¹;calc⟨u,by simpa using h1,h2⟩
theorem Vals.set{x:V}{u:L}(r:RelV x u):∀{xs:-V}{us:-L}(i:Nat),Vals xs us->Vals (xs.set i x) (us.set i u)
 |_,_,_,.nil=>.nil
 |_,_,0,.cons _ t=>.cons r t
 |_,_,i+1,.cons q t=>.cons q (Vals.set r i t)
theorem Vals.append:∀{xs ys:-V}{us ws:-L},Vals xs us->Vals ys ws->Vals (xs++ys) (us++ws)
 |_,_,_,_,.nil,s=>s
 |_,_,_,_,.cons r t,s=>.cons r (Vals.append t s)
theorem Vals.take:∀{xs:-V}{us:-L}(n:Nat),Vals xs us->Vals (xs.take n) (us.take n)
 |_,_,0,_=>.nil
 |_,_,_+1,.nil=>.nil
 |_,_,n+1,.cons r t=>.cons r (Vals.take n t)
theorem Vals.drop:∀{xs:-V}{us:-L}(n:Nat),Vals xs us->Vals (xs.drop n) (us.drop n)
 |_,_,0,r=>r
 |_,_,_+1,.nil=>.nil
 |_,_,n+1,.cons _ t=>Vals.drop n t
def dE:Option V->Option L->Prop
 |some v,some u=>RelV v u
 |none,none=>True
 |_,_=>False
def KV{κ:Type}:-(κ×V)->-(κ×L)->Prop:=Paired λ(p:κ×V) (q:κ×Value)=>p.1=q.1/\RelV p.2 q.2
noncomputable def kV:Key->V
 |.inl i=>.int i
 |.inr x=>.str x
inductive HO where
 |lst (xs:-V)
 |tup (xs:-V)
 |dK (kvs:-(Key×V))|dT (kvs:-(-Key×V))
 |set (S:Int->Bool) (n:Nat)
 |ins (C dx:O) (fs:-(J×V))
 |own (x:O)
 |xd (fs:-(J×V))
 |met (f x:O)
 |rng (lo hi:Int)
 |frz (o:Q) (u:HO)
 |tbl (ps:Array L)
 |ext (φ:I->Prop)
abbrev Hp:=O->Option HO
noncomputable def upd(H:Hp)(a:O)(o:HO):Hp:=λb=>if b=a then U o else H b
theorem cz{H:Hp}{a:O}{o:HO}:upd H a o a=U o:=by unfold upd;rw[q0e Y]
theorem bF{H:Hp}{a b:O}{o:HO}(h:b≠a):upd H a o b=H b:=by unfold upd;rw[q0c h]
theorem ND{H:Hp}{a b:O}{o u:HO}(h:H a=U o)(h':H b=U u)(d:o≠u):a≠b:=by
 ext e;subst e;rw[h] at h';calc d (q0v h')
theorem dQ{H:Hp}{a b:O}{o:HO}(h:H a=U o)(h':H b=Z):a≠b:=by
 ext e;subst e;rw[h] at h';cases h'
section
variable(P:t)(w:S)
def bw(H:Hp)(h:I)(a:O):HO->Prop
 |.lst xs=>↑xs<=sizeLine/\∃(az:-L)(n:Nat),Vals xs az/\h.get? a=U {cls:=.type "list",data:=.seq az.toArray n}
 |.tup xs=>↑xs<=sizeLine/\∃az:-L,Vals xs az/\IsTup h a az.toArray
 |.dK kvs=>↑kvs<=sizeLine/\(a==sysModules)=ι/\∃vs,KV kvs vs/\h.DictOf (jq P w) a vs
 |.dT kvs=>↑kvs<=sizeLine/\(a==sysModules)=ι/\∃xs:-(-Key×O×L),
   Paired (λ(p:-Key×V) (q:-Key×Addr×Value)=>p.1=q.1/\H q.2.1=U (.tup (p.1.map kV))/\RelV p.2 q.2.2) kvs xs ∧
   ∃o es ep,h.get? a=U o/\o.ExactDict/\o.data=.dict es ep/\es.toList=xs.map (entryOfKey (tupleKind (jq P w)))/\(xs.map (·.1)).Nodup
 |.set S n=>h.SetOf (intKind P w) a S n
 |.ins C dx fs=>H dx=U (.own a)/\fs.length<=1000/\dx≠a/\h.get? a=U (q19 C dx) ∧
   ∃mA,h.Ns1 dx mA/\(∀f,dE (fs.lookup f) (mA f))/\q53 mA (fs.map (·.1))
 |.own _=>∃o,h.get? a=U o
 |.xd fs=>∃mA,h.Ns1 a mA/\∀f,dE (fs.lookup f) (mA f)
 |.rng lo hi=>∃t u v,h.get? a=U {cls:=.type "range",data:=.fields #[.int lo t,.int hi u,.int 1 v]}
 |.frz o u=>h.get? a=U o/\bw H h a u
 |.tbl ps=>h.get? a=U {cls:=.none,data:=.fields ps}
 |.met f x=>h.get? a=U (q3_ (.ref f) (.ref x))
 |.ext φ=>φ h/\(∃o,h.get? a=U o)/\∀h1 h2:I,φ h1->(∀o,h1.get? a=U o->h2.get? a=U o)->φ h2
def eG(H:Hp)(h:I):Prop:=∀a o,H a=U o->bw P w H h a o
end
section
variable{P:t}{w:S}{H H':Hp}{h h':I}{a:O}{o:HO}
theorem bw.lt(x:bw P w H h a o):a<h.objs.size:=by
 cases o with
 |lst xs=>let⟨_,_,_,_,e⟩:=x;exact Ze e
 |tup xs=>let⟨_,_,_,p⟩:=x;exact p.lt
 |dK kvs=>let⟨_,_,_,_,o,_,_,e,_⟩:=x;exact Ze e
 |dT kvs=>let⟨_,_,_,_,o,_,_,e,_⟩:=x;exact Ze e
 |set S n=>let⟨o,_,_,_,e,_⟩:=x;exact Ze e
 |ins C dx fs=>let⟨_,_,_,e,_⟩:=x;exact Ze e
 |own y=>let⟨_,e⟩:=x;exact Ze e
 |xd fs=>let⟨_,⟨_,_,_,e,_⟩,_⟩:=x;exact Ze e
 |rng lo hi=>let⟨_,_,_,e⟩:=x;exact Ze e
 |frz ob u=>let⟨e,_⟩:=x;exact Ze e
 |tbl ps=>exact Ze (show h.get? a=U _ from x)
 |met f y=>exact Ze (show h.get? a=U _ from x)
 |ext φ=>let⟨_,⟨_,e⟩,_⟩:=x;calc Ze e
theorem Paired.qV{α β:Type}{F G:α->β->Prop}:∀{l₁:-α}{l₂:-β},Paired F l₁ l₂->(∀a b,F a b->G a b)->Paired G l₁ l₂
 |_,_,.nil,_=>.nil
 |_,_,.cons r t,f=>.cons (f _ _ r) (Paired.qV t f)
theorem bw.gY(x:bw P w H h a o)(k:∀b u,(b=a\/H b=U (.own a))->h.get? b=U u->h'.get? b=U u)
  (ho:∀b,H b=U (.own a)->H' b=U (.own a)) (ht:∀b xs,H b=U (.tup xs)->H' b=U (.tup xs)):bw P w H' h' a o:=by
 induction o with
 |lst xs=>let⟨z,az,n,r,e⟩:=x;exact⟨z,az,n,r,k _ _ (.inl Y) e⟩
 |tup xs=>let⟨z,az,r,ob,e,c⟩:=x;exact⟨z,az,r,ob,k _ _ (.inl Y) e,c⟩
 |dK kvs=>let⟨z,y,vs,r,ob,es,ep,e,c⟩:=x;exact⟨z,y,vs,r,ob,es,ep,k _ _ (.inl Y) e,c⟩
 |dT kvs =>
  let⟨z,y,xs,r,ob,es,ep,e,c⟩:=x;exact⟨z,y,xs,Paired.qV r λp q z=>⟨z.1,ht _ _ z.2.1,z.2.2⟩,ob,es,ep,k _ _ (.inl Y) e,c⟩
 |set S n=>let⟨ob,es,ep,t,e,c⟩:=x;exact⟨ob,es,ep,t,k _ _ (.inl Y) e,c⟩
 |ins C dx fs =>
  let⟨d,z,ne,e,mA,⟨od,es,ep,e2,c⟩,r⟩:=x;exact⟨ho _ d,z,ne,k _ _ (.inl Y) e,mA,⟨od,es,ep,k _ _ (.inr d) e2,c⟩,r⟩
 |own y=>let⟨ob,e⟩:=x;exact⟨ob,k _ _ (.inl Y) e⟩
 |xd fs=>let⟨mA,⟨od,es,ep,e,c⟩,r⟩:=x;exact⟨mA,⟨od,es,ep,k _ _ (.inl Y) e,c⟩,r⟩
 |rng lo hi=>let⟨t,u,v,e⟩:=x;exact⟨t,u,v,k _ _ (.inl Y) e⟩
 |frz ob u ih=>let⟨e,q⟩:=x;exact⟨k _ _ (.inl Y) e,ih q⟩
 |tbl ps =>
  let e:h.get? a=U {cls:=.none,data:=.fields ps}:=x;show h'.get? a=U {cls:=.none,data:=.fields ps};exact k a _ (.inl Y) e
 |met f y =>
  let e:h.get? a=U (q3_ (.ref f) (.ref y)):=x;show h'.get? a=U (q3_ (.ref f) (.ref y));exact k a _ (.inl Y) e
 |ext φ=>let⟨p,⟨o,e⟩,st⟩:=x;calc⟨st _ _ p λo q=>k _ _ (.inl Y) q,⟨o,k _ _ (.inl Y) e⟩,st⟩
theorem eG.lt(x:eG P w H h)(e:H a=U o):a<h.objs.size:=(x a o e).lt
theorem eG.fresh(x:eG P w H h)(e:h.objs.size<=a):H a=Z:=by
 cases q:H a with
 |none=>rfl
 |some u=>calc absurd (q0j (x.lt q) e) (q1E _)
theorem eG.kept(x:eG P w H h)(k:∀b u,h.get? b=U u->h'.get? b=U u):eG P w H h':=λa o e =>
 (x a o e).gY (λb u _ q=>k b u q) (λ_ q=>q) λ_ _ q=>q
theorem eG.laid(x:eG P w H h)(k:∀b u,h.get? b=U u->h'.get? b=U u)(hp:h.objs.size<=a)(new:bw P w (upd H a o) h' a o):eG P w (upd H a o) h':=λb u e=>by
 let hn:=x.fresh hp
 by_cases hb:b=a
 .subst hb;rw[cz] at e;cases e;exact new
 .rw[bF hb] at e
  calc(x b u e).gY (λc v _ q=>k c v q) (λc q=>by rw[bF (dQ q hn)];calc q) λc xs q=>by rw[bF (dQ q hn)];calc q
end
def Rd(H:Hp)(a:O)(u:HO):Prop:=H a=U u\/∃o,H a=U (.frz o u)
theorem Rd.ok{P:t}{w:S}{H:Hp}{h:I}{a:O}{u:HO}(r:Rd H a u)(x:eG P w H h):bw P w H h a u:=by
 rcases r with r|⟨o,r⟩
 .exact x a u r
 .let⟨_,q⟩:=x a _ r
  calc q
def uJ:Option HO->Prop
 |some (.lst _)=>True
 |some (.dK _)=>True
 |some (.dT _)=>True
 |some (.set _ _)=>True
 |some (.ins _ _ _)=>True
 |some (.ext _)=>True
 |_=>False
section
variable{P:t}{w:S}{H:Hp}{h h':I}{x e:O}{o':HO}
theorem eG.write(ok:eG P w H h)(mu:uJ (H x))(he:e=x\/H e=U (.own x))(k:∀b u,b≠e->h.get? b=U u->h'.get? b=U u)(mY:∃u,h'.get? e=U u)
  (new:bw P w (upd H x o') h' x o'):eG P w (upd H x o') h':=λb u q=>by
 let uK:∀c y,H c=U (.own y)->c≠x:=λc y r z=>by subst z;rw[r] at mu;exact mu
 let z_:∀c xs,H c=U (.tup xs)->c≠x:=λc xs r z=>by subst z;rw[r] at mu;exact mu
 by_cases hb:b=x
 .subst hb;rw[cz] at q;cases q;exact new
 .rw[bF hb] at q
  by_cases qW:b=e
  .let q':H b=U (.own x):=by
    rcases he with z|z
    .exact absurd (qW.trans z) hb
    .rw[qW];exact z
   rw[q] at q';cases q';let⟨v,hv⟩:=mY;exact⟨v,by rw[qW];calc hv⟩
  .refine (ok b u q).gY (λc v hc r=>k c v ?_ r) (λc r=>by rw[bF (uK c b r)];calc r) λc xs r=>by rw[bF (z_ c xs r)];exact r
   rcases hc with rfl|hc
   .exact qW
   .ext rfl
    rcases he with z|z
    .exact uK c b hc z
    .rw[hc] at z;cases z;calc hb Y
end
structure Un(fs ex:-O)(H H':Hp)(h h':I):Prop where
 keep:∀b o,h.get? b=U o->H b=Z->b∉fs->b∉ex->h'.get? b=U o
 slot:∀b o,h.get? b=U o->H b=Z->b∈fs->b∉ex->∃sl,h'.get? b=U {o with slots:=sl}
 free:∀b o,h.get? b=U o->H b=Z->b∉ex->H' b=Z
 there:∀b o,h.get? b=U o->b∉ex->∃o',h'.get? b=U o'
 fh:∀b xs,H b=U (.tup xs)->H' b=U (.tup xs)
 gw:∀b o u,H b=U (.frz o u)->H' b=U (.frz o u)
 gx:∀b ps,H b=U (.tbl ps)->∃more,H' b=U (.tbl (ps++more))
 f7:∀b xs o,H b=U (.tup xs)->h.get? b=U o->b∉ex->h'.get? b=U o
section
variable{fs NF ex Y7:-O}{H H1 H2:Hp}{h h1 h2 h':I}{a x e:O}{o:HO}
theorem Un.any(u:Un fs ex H H1 h h1){b:O}{ob:Q}(q:h.get? b=U ob)(n:H b=Z)(hx:b∉ex):∃sl,h1.get? b=U {ob with slots:=sl}:=by
 by_cases hb:b∈fs
 .exact u.slot b ob q n hb hx
 .calc⟨ob.slots,u.keep b ob q n hb hx⟩
theorem Un.kept(k:∀b u,h.get? b=U u->h'.get? b=U u):Un fs ex H H h h' :=
 ⟨λb ob q _ _ _=>k b ob q,λb ob q _ _ _=>⟨ob.slots,k b ob q⟩,λ_ _ _ n _=>n,λb ob q _=>⟨ob,k b ob q⟩,λ_ _ q=>q,λ_ _ _ q=>q,λ_ ps q=>⟨#[],by rw[q];simp⟩,λb _ u _ q _=>k b u q⟩
theorem Un.refl:Un fs ex H H h h:=Un.kept λ_ _ q=>q
theorem Un.laid(k:∀b u,h.get? b=U u->h'.get? b=U u)(hp:h.objs.size<=a)(hn:H a=Z):Un fs ex H (upd H a o) h h' where
 keep:=λb u q _ _ _=>k b u q
 slot:=λb u q _ _ _=>⟨u.slots,k b u q⟩
 free:=λb u q n _=>by rw[bF (q0b (q0j (Ze q) hp))];exact n
 there:=λb u q _=>⟨u,k b u q⟩
 fh:=λb xs q=>by rw[bF (dQ q hn)];exact q
 gw:=λb u xs q=>by rw[bF (dQ q hn)];exact q
 gx:=λb ps q=>⟨#[],by rw[bF (dQ q hn),q];simp⟩
 f7:=λb _ u _ q _=>k b u q
theorem Un.write(mu:uJ (H x))(he:e=x\/H e=U (.own x))(k:∀b u,b≠e->h.get? b=U u->h'.get? b=U u)(mY:∃u,h'.get? e=U u):Un fs ex H (upd H x o) h h':=by
 let hx:∀b,H b=Z->b≠x:=λb n z=>by subst z;rw[n] at mu;exact mu
 let hb:∀b,H b=Z->b≠e:=λb n z=>by
  subst z;rcases he with r|r
  .exact hx b n r
  .rw[n] at r;cases r
 let hm:∀b u,H b=U u->¬ uJ (U u)->b≠x:=λb u q nm z=>by subst z;rw[q] at mu;exact nm mu
 refine⟨λb u q n _ _=>k b u (hb b n) q,λb u q n _ _=>⟨u.slots,k b u (hb b n) q⟩,λb u q n _=>by rw[bF (hx b n)];calc n,λb u q _=>?_,
  λb xs q=>by rw[bF (hm b _ q λz=>z)];calc q,λb u xs q=>by rw[bF (hm b _ q λz=>z)];calc q,λb ps q=>⟨#[],by rw[bF (hm b _ q λz=>z),q];simp⟩,λb xs u q e _=>k b u (λz=>by
   subst z;rcases he with r|r
   .exact hm b _ q (λz=>z) r
   .rw[q] at r;cases r) e⟩
 by_cases qW:b=e
 .subst qW;exact mY
 .calc⟨u,k b u qW q⟩
end
noncomputable def xi(h:I)(H:Hp):-O:=(q0x h.objs.size).filter λa=>(H a).isSome
noncomputable def gy(h:I)(H:Hp):I:=PySem.W.hideAll h (xi h H)
theorem NG(h:I)(H:Hp):(gy h H).objs.size=h.objs.size:=PySem.W.hideAll_size _ _
theorem NH{h:I}{H:Hp}{b:O}{o:Q}(e:h.get? b=U o)(n:H b=Z):(gy h H).get? b=U o :=
 PySem.W.hideAll_get _ e λhm=>by
  let q:(H b).isSome=θ:=(q0M.mp hm).2;rw[n] at q;simp at q
theorem Gy{h:I}{H:Hp}{b:O}{o:Q}(e:(gy h H).get? b=U o):h.get? b=U o/\H b=Z:=by
 let e':h.get? b=U o:=PySem.W.of_hideAll (xi h H) e;refine⟨e',?_⟩
 cases q:H b with
 |none=>rfl
 |some x =>
  let hm:b∈xi h H:=q0M.mpr ⟨q0Y.mpr (Ze e'),by simp[q]⟩;let z:(gy h H).get? b=Z:=PySem.W.hideAll_none (xi h H) hm;rw[z] at e;cases e
structure Mod(K:My)(mg:J->Option L)(base:I):Prop where
 gz:K.In base
 glob:base.Ns mainGlobals mg
 blt:∃mb,base.Ns builtinsNs mb/\∀x:J,x≠"__name__" -> mb x=bootBuiltins x
 nolimit:base.NoLimit
structure Cx where
 prog:t
 w:S
 K:My
 mg:J->Option L
 base:I
 A:o
 N:-J
 s₀:B
 H₀:Hp
 env:X
 outer:-X
 stack:-X
 ex:-O
 fn:J->Bool
 calm:Bool
 pn:-(O×Q)
 xe:L->B->Prop
noncomputable def lh(l:-X):-O:=l.filterMap (·.frame)
noncomputable abbrev Cx.fs(X:Cx):-O:=lh X.outer
def uL(sc:a)(x:J):Prop:=sc.names.lookup x=U .local\/sc.names.lookup x=U .cell\/sc.names.lookup x=U .free
def Loc(sc:a)(x:J):Prop:=sc.names.lookup x=U .local\/sc.names.lookup x=U .cell
abbrev b9(x:J):Prop:=(x==("__debug__" : J))=ι
abbrev gZ(X:Cx)(x:J):Prop:=X.fn x=θ\/X.env.scope.names.lookup x=U .local
abbrev cR(X:Cx)(e:l)(es:-l):Prop:=starEach (e::es) X.env=(ι,eval e X.env)::starEach es X.env
abbrev dh(X:Cx)(p:y)(es:-l):Prop:=(backTo p (starEach es X.env)).any (·.1)=ι
abbrev aL:=-(O×Q)
def Look(env:X)(h:I)(m:J->Option L)(x:J)(u:L):Prop :=
 (env.kindOf x=U .local/\m x=U u)\/((env.kindOf x=U .cell\/env.kindOf x=U .free)/\∃c,env.cells.lookup x=U c/\h.IsCell c (U u))
structure Cx.Ok(X:Cx):Prop where
 mod:Mod X.K X.mg X.base
 kind:X.env.scope.kind=.function
 glob:X.env.globals=mainGlobals
 blt:X.env.builtins=builtinsNs
 above:⇑X.s₀<=X.env.locals
 inj:∀x y c,X.env.cells.lookup x=U c->X.env.cells.lookup y=U c->x=y
 has:∀x,(X.env.kindOf x=U .cell\/X.env.kindOf x=U .free)->∃c,X.env.cells.lookup x=U c
 pX:∀x c,X.fn x=θ->X.env.cells.lookup x=U c->⇑X.s₀<=c
 hd:X.calm=θ->X.A.handled=Z
 frames:X.A.frames=U X.stack
 sX:X.stack=X.outer\/(X.stack=X.env::X.outer/\X.env.frame=U X.env.locals)
 xj:∀b∈X.ex,b≠X.env.locals/\∀x c,X.env.cells.lookup x=U c->c≠b
 bs:∀b o,X.base.get? b=U o->X.s₀.heap.get? b=U o/\(X.H₀ b=Z\/∃xs,X.H₀ b=U (.tup xs))
 lV:X.base.objs.size<=⇑X.s₀
 iR:∀b o,X.base.get? b=U o->b∉X.ex
 kC:∀b∈X.ex,b∉X.fs
 eg:X.s₀.heap.FunFrames X.base X.outer
 mZ:∀b∈X.fs,X.H₀ b=Z
structure Inv(X:Cx)(pins:aL)(σ:-(Option V))(H:Hp)(s:B):Prop where
 ok:X.Ok
 os:s.os=X.s₀.os
 bare:AllBare s.gens
 base:Un X.fs X.ex X.H₀ H X.s₀.heap s.heap
 loc:∃m,s.heap.Ns X.env.locals m/\∀(i:Nat)(x:J)(v:V),X.N[i]?=U x->σ[i]?=U (U v)->uL X.env.scope x->∃u,RelV v u/\Look X.env s.heap m x u
 cell:∀x c,X.env.cells.lookup x=U c->∃v,s.heap.IsCell c v
 free:H X.env.locals=Z
 cJ:∀x c,X.env.cells.lookup x=U c->H c=Z
 pin:∀p∈X.pn++pins,s.heap.get? p.1=U p.2/\H p.1=Z/\p.1≠X.env.locals/\p.1∉X.fs/\∀v,p.2.data≠.cell v
 bu:eG X.prog X.w H s.heap
 len:↑σ=↑X.N
section
variable{X:Cx}{pins:aL}{σ:-(Option V)}{H H':Hp}{s:B}{h':I}
theorem Cx.Ok.Aa(ok:X.Ok){b:O}{o:Q}(e:X.base.get? b=U o):b∉X.fs:=λhb=>by
 let:=(ok.eg.mem hb).1;rw[e] at this;cases this
theorem Inv.bs(I:Inv X pins σ H s):∀b o,X.base.get? b=U o->s.heap.get? b=U o/\(H b=Z\/∃xs,H b=U (.tup xs)):=λb o e=>by
 obtain⟨e1,e2|⟨xs,e2⟩⟩:=I.ok.bs b o e
 .exact⟨I.base.keep b o e1 e2 (I.ok.Aa e) (I.ok.iR b o e),.inl (I.base.free b o e1 e2 (I.ok.iR b o e))⟩
 .calc⟨I.base.f7 b xs o e2 e1 (I.ok.iR b o e),.inr ⟨xs,I.base.fh b xs e2⟩⟩
theorem Inv.bk(I:Inv X pins σ H s):∀b o,X.base.get? b=U o->s.heap.get? b=U o:=λb o e=>(I.bs b o e).1
theorem Inv.mod(I:Inv X pins σ H s):Mod X.K X.mg X.base:=I.ok.mod
theorem Inv.fF(I:Inv X pins σ H s):X.K.In s.heap:=I.ok.mod.gz.keeps I.bk
theorem Inv.nolimit(I:Inv X pins σ H s):s.heap.NoLimit:=I.ok.mod.nolimit.keeps I.bk
theorem Inv.lt(I:Inv X pins σ H s):X.env.locals<⇑s:=let⟨_,hn,_⟩:=I.loc;hn.lt
theorem Inv.sz(I:Inv X pins σ H s):⇑X.s₀<=⇑s:=q0w I.ok.above (q1d I.lt)
theorem Inv.Ab(I:Inv X pins σ H s){a:O}(h:⇑s<=a):a∉X.fs:=λhb=>by
 let⟨_,o,ho,_⟩:=I.ok.eg.mem hb;calc absurd (q0j (Ze ho) (q0w I.sz h)) (q1E _)
theorem Inv.qX(I:Inv X pins σ H s):∀x c,X.env.cells.lookup x=U c->c≠X.env.locals:=λx c e z=>by
 let⟨v,o,ho,hd⟩:=I.cell x c e;let⟨m,⟨o',es,ep,lW,qY,_⟩,_⟩:=I.loc;rw[z,lW] at ho;cases ho;rw[qY] at hd;cases hd
theorem Inv.eg(I:Inv X pins σ H s):s.heap.FunFrames X.base X.outer:=by
 let all:∀(l:-Ζ),(∀b∈lh l,b∈X.fs)->X.s₀.heap.FunFrames X.base l->s.heap.FunFrames X.base l:=by
  ext l
  induction l with
  |nil=>ext _ _;trivial
  |cons env r ih =>
   ext hs hl;let⟨hk,⟨L,o,hf,hn,ho,hd⟩,hr⟩:=hl;let hL:L∈X.fs:=hs L (by unfold lh;rw[q3F,hf];calc q0h);let⟨sl,e⟩:=I.base.slot L o ho (I.ok.mZ L hL) hL λz=>I.ok.kC L z hL;exact⟨hk,⟨L,_,hf,hn,e,hd⟩,ih (λb hb=>hs b (by unfold lh;rw[q3F,hf];calc q0g _ hb)) hr⟩
 calc all X.outer (λ_ hb=>hb) I.ok.eg
theorem Inv.stack(I:Inv X pins σ H s):s.heap.FunFrames X.base X.stack:=by
 rcases I.ok.sX with e|⟨e,hf⟩
 .rw[e];exact I.eg
 .rw[e]
  let⟨m,hn,_⟩:=I.loc;calc .cons (by rw[I.ok.kind];decide) hf hn ?_ I.eg;calc Heap.get?_none_of_le (q0w I.ok.lV I.ok.above)
theorem Inv.g5(I:Inv X pins σ H s):∀b∈lh X.stack,b∈X.env.locals::X.fs:=λb hb=>by
 rcases I.ok.sX with e|⟨e,hf⟩
 .rw[e] at hb;exact q0g _ hb
 .rw[e] at hb
  unfold lh at hb;rw[q3F,hf] at hb;calc hb
theorem Inv.j6(I:Inv X pins σ H s):∀b∈lh X.stack,H b=Z:=λb hb=>by
 rcases PC.mp (I.g5 b hb) with e|hb
 .rw[e];exact I.free
 .let⟨_,o,ho,_⟩:=I.ok.eg.mem hb
  calc I.base.free b o ho (I.ok.mZ b hb) λz=>I.ok.kC b z hb
theorem Inv.step{g':Array GenState}{t':Nat}{d':Drawn}{ch:-O}(I:Inv X pins σ H s)
  (m8:∀b∈ch,(b∈X.ex\/⇑X.s₀<=b)/\b≠X.env.locals/\(∀x c,X.env.cells.lookup x=U c->c≠b)/\∀p∈X.pn++pins,p.1≠b)
  (keep:∀b o,b≠X.env.locals->b∉X.fs->b∉ch->s.heap.get? b=U o->H b=Z->h'.get? b=U o)
  (slot:∀b o,b≠X.env.locals->b∈X.fs->b∉ch->s.heap.get? b=U o->H b=Z->∃sl,h'.get? b=U {o with slots:=sl}) (free:∀b o,b∉ch->s.heap.get? b=U o->H b=Z->H' b=Z)
  (there:∀b o,b∉ch->s.heap.get? b=U o->∃o',h'.get? b=U o')
  (fh:∀b xs,H b=U (.tup xs)->H' b=U (.tup xs)) (gw:∀b o u,H b=U (.frz o u)->H' b=U (.frz o u)) (gx:∀b ps,H b=U (.tbl ps)->∃more,H' b=U (.tbl (ps++more)))
  (f7:∀b xs o,H b=U (.tup xs)->s.heap.get? b=U o->b∉ch->h'.get? b=U o)
  (ns:∀m,s.heap.Ns X.env.locals m->h'.Ns X.env.locals m) (bu:eG X.prog X.w H' h') (hg:AllBare g') :
  Inv X pins σ H' {s with heap:=h',gens:=g',drawn:=d',toks:=t'}:=by
 let Gz:∀b o,X.s₀.heap.get? b=U o->b≠X.env.locals:=λb o e=>q0b (q0j (Ze e) I.ok.above)
 let uM:∀b o,X.s₀.heap.get? b=U o->b∉X.ex->b∉ch:=λb o e hx hb=>by
  rcases(m8 b hb).1 with z|z
  .exact hx z
  .exact absurd (q0j (Ze e) z) (q1E _)
 let cellK:∀x c,X.env.cells.lookup x=U c->∀v,s.heap.IsCell c v->h'.IsCell c v:=λx c e v ⟨o,ho,hd⟩↦by
  let lX:c∉ch:=λz=>(m8 c z).2.2.1 x c e Y
  by_cases hc:c∈X.fs
  .let⟨sl,q⟩:=slot c o (I.qX x c e) hc lX ho (I.cJ x c e)
   exact⟨_,q,hd⟩
  .exact⟨o,keep c o (I.qX x c e) hc lX ho (I.cJ x c e),hd⟩
 refine⟨I.ok,I.os,hg,⟨λb o e n hb hx=>?_,λb o e n hb hx=>?_,λb o e n hx=>?_,λb o e hx=>?_,λb xs e=>fh b xs (I.base.fh b xs e),λb o xs e=>gw b o xs (I.base.gw b o xs e),λb ps e=>?_,λb xs o e1 e2 hx=>f7 b xs o (I.base.fh b xs e1) (I.base.f7 b xs o e1 e2 hx) (uM b o e2 hx)⟩,?_,λx c e=>?_,?_,λx c e=>?_,λp hp=>?_,bu,I.len⟩
 .exact keep b o (Gz b o e) hb (uM b o e hx) (I.base.keep b o e n hb hx) (I.base.free b o e n hx)
 .let⟨sl,e1⟩:=I.base.slot b o e n hb hx
  let⟨GA,e2⟩:=slot b _ (Gz b o e) hb (uM b o e hx) e1 (I.base.free b o e n hx);exact⟨GA,e2⟩
 .let⟨o',e1⟩:=I.base.there b o e hx
  exact free b o' (uM b o e hx) e1 (I.base.free b o e n hx)
 .let⟨o',e1⟩:=I.base.there b o e hx
  exact there b o' (uM b o e hx) e1
 .let⟨m1,e1⟩:=I.base.gx b ps e
  let⟨m2,e2⟩:=gx b _ e1;exact⟨m1++m2,by rw[e2,Array.append_assoc]⟩
 .let⟨m,hn,hl⟩:=I.loc
  calc⟨m,ns m hn,λi x v e1 e2 e3=>?_⟩;let⟨u,r,l⟩:=hl i x v e1 e2 e3;calc⟨u,r,?_⟩;rcases l with l|⟨k,c,e,z⟩
  .exact .inl l
  .exact .inr ⟨k,c,e,cellK x c e _ z⟩
 .let⟨v,z⟩:=I.cell x c e
  exact⟨v,cellK x c e v z⟩
 .let⟨m,⟨o,_,_,ho,_⟩,_⟩:=I.loc
  exact free _ o (λz=>(m8 _ z).2.1 Y) ho I.free
 .let⟨v,o,ho,hd⟩:=I.cell x c e
  exact free c o (λz=>(m8 c z).2.2.1 x c e Y) ho (I.cJ x c e)
 .let⟨e,n,ne,nf,d⟩:=I.pin p hp
  let lX:p.1∉ch:=λz=>(m8 p.1 z).2.2.2 p hp Y;calc⟨keep p.1 p.2 ne nf lX e n,free p.1 p.2 lX e n,ne,nf,d⟩
theorem Inv.un{t':Nat}(I:Inv X pins σ H s)(u:Un X.fs [] H H' s.heap h')(bu:eG X.prog X.w H' h'):Inv X pins σ H' {s with heap:=h',toks:=t'}:=by
 let⟨m,⟨o,es,ep,ho,r⟩,_⟩:=id I.loc;let⟨sl,hL⟩:=u.any ho I.free (by simp)
 exact I.step (g':=s.gens) (d':=s.drawn) (ch:=[]) (λ_ z=>nomatch z) (λb o _ hb _ e n=>u.keep b o e n hb (by simp)) (λb o _ hb _ e n=>u.slot b o e n hb (by simp)) (λb o _ e n=>u.free b o e n (by simp)) (λb o _ e=>u.there b o e (by simp)) u.fh u.gw u.gx (λb xs o q e _=>u.f7 b xs o q e (by simp)) (λm' hm=>by
  let⟨o',Ac,Ad,lW,r'⟩:=hm;rw[ho] at lW;cases lW
  calc⟨_,Ac,Ad,hL,r'⟩) bu I.bare
theorem Inv.call{g':Array GenState}{t':Nat}{d':Drawn}{ch:-O}(I:Inv X pins σ H s)(u:Un (lh X.stack) ch H H' s.heap h')(bu:eG X.prog X.w H' h')(hg:AllBare g')
  (m8:∀b∈ch,(b∈X.ex\/⇑X.s₀<=b)/\b≠X.env.locals/\(∀x c,X.env.cells.lookup x=U c->c≠b)/\∀p∈X.pn++pins,p.1≠b) :
  Inv X pins σ H' {s with heap:=h',gens:=g',drawn:=d',toks:=t'}:=by
 let⟨m,⟨o,es,ep,ho,r⟩,_⟩:=id I.loc;let⟨sl,hL⟩:=u.any ho I.free λz=>(m8 _ z).2.1 Y
 exact I.step (ch:=ch) m8 (λb o hL hb hc e n=>u.keep b o e n (λz=>(PC.mp (I.g5 b z)).elim hL hb) hc) (λb o _ _ hc e n=>u.any e n hc) (λb o hc e n=>u.free b o e n hc) (λb o hc e=>u.there b o e hc) u.fh u.gw u.gx (λb xs o q e hc=>u.f7 b xs o q e hc) (λm' hm=>by
  let⟨o',Ac,Ad,lW,r'⟩:=hm;rw[ho] at lW;cases lW
  calc⟨_,Ac,Ad,hL,r'⟩) bu hg
theorem Inv.turned{t':Nat}{it:O}(I:Inv X pins σ H s)(k:∀b o,b≠it->s.heap.get? b=U o->h'.get? b=U o)(hn:H it=Z)(hL:it≠X.env.locals)
  (h1:it∈X.ex\/⇑X.s₀<=it) (h2:∀x c,X.env.cells.lookup x=U c->c≠it) (h3:∀p∈X.pn++pins,p.1≠it):Inv X pins σ H {s with heap:=h',toks:=t'}:=by
 let GB:∀b u,H b=U u->b≠it:=λb u e z=>by rw[z,hn] at e;cases e
 refine I.step (g':=s.gens) (d':=s.drawn) (ch:=[it]) (λb hb=>?_) (λb o _ _ hc e _=>k b o (λz=>hc (by simp[z])) e) (λb o _ _ hc e _=>⟨o.slots,k b o (λz=>hc (by simp[z])) e⟩) (λ_ _ _ _ n=>n)
  (λb o hc e=>⟨o,k b o (λz=>hc (by simp[z])) e⟩) (λ_ _ e=>e) (λ_ _ _ e=>e) (λb ps e=>⟨#[],by rw[e];simp⟩) (λb _ o _ e hc=>k b o (λz=>hc (by simp[z])) e) (λm hm=>?_) (λb u e=>?_) I.bare
 .let e:b=it:=by simpa using hb
  subst e;exact⟨h1,hL,h2,h3⟩
 .let⟨o,es,ep,ho,r⟩:=hm
  exact⟨o,es,ep,k _ o (q2b hL) ho,r⟩
 .refine (I.bu b u e).gY (λc v hc q=>k c v ?_ q) (λ_ q=>q) λ_ _ q=>q
  rcases hc with z|z
  .rw[z];exact GB b u e
  .calc GB c _ z
theorem Inv.tok(I:Inv X pins σ H s)(t:Nat):Inv X pins σ H {s with toks:=t}:=I.un (h':=s.heap) (t':=t) Un.refl I.bu
theorem Inv.kept{t':Nat}(I:Inv X pins σ H s)(k:∀b u,s.heap.get? b=U u->h'.get? b=U u):Inv X pins σ H {s with heap:=h',toks:=t'}:=I.un (Un.kept k) (I.bu.kept k)
theorem Inv.laid{a:O}{o:HO}{t':Nat}(I:Inv X pins σ H s)(k:∀b u,s.heap.get? b=U u->h'.get? b=U u)(hp:⇑s<=a)(new:bw X.prog X.w (upd H a o) h' a o):
  Inv X pins σ (upd H a o) {s with heap:=h',toks:=t'}:=I.un (Un.laid k hp (I.bu.fresh hp)) (I.bu.laid k hp new)
theorem Inv.write{x e:O}{o:HO}{t':Nat}(I:Inv X pins σ H s)(mu:uJ (H x))(he:e=x\/H e=U (.own x))(k:∀b u,b≠e->s.heap.get? b=U u->h'.get? b=U u)(mY:∃u,h'.get? e=U u)
  (new:bw X.prog X.w (upd H x o) h' x o):Inv X pins σ (upd H x o) {s with heap:=h',toks:=t'}:=I.un (Un.write mu he k mY) (I.bu.write mu he k mY new)
theorem Inv.fU{dF:aL}(I:Inv X pins σ H s)(h:∀p∈dF,s.heap.get? p.1=U p.2/\H p.1=Z/\p.1≠X.env.locals/\p.1∉X.fs/\∀v,p.2.data≠.cell v):Inv X dF σ H s :=
 ⟨I.ok,I.os,I.bare,I.base,I.loc,I.cell,I.free,I.cJ,λp hp=>(q0u.mp hp).elim (λz=>I.pin p (q1p _ z)) (h p),I.bu,I.len⟩
theorem GC{N:-J}(hN:N.Nodup){i j:Nat}{x:J}(a:N[i]?=U x)(b:N[j]?=U x):i=j:=by
 let⟨h1,e1⟩:=Hy.mp a;let⟨h2,e2⟩:=Hy.mp b;calc(q4v hN).mp (e1.trans e2.symm)
theorem GF{M:Model}{A:Β}{E:bA}{i:Nat}{x:J}{v:V}{u:L}{Q:Unit->B->Prop}(I:Inv X pins σ H s)(hN:X.N.Nodup)(hi:X.N[i]?=U x)(hx:Loc X.env.scope x)(r:RelV v u)
  (h:∀s',Inv X pins (σ.set i (U v)) H s'->(∃a,q2E a s.heap s'.heap/\(a=X.env.locals\/X.env.cells.lookup x=U a))->Q () s') (hf:gZ X x:=by first|exact .inl Y|exact .inr Y|assumption):ρ M A (storeName X.env x u) Q E s:=by
 let⟨m,hn,hl⟩:=id I.loc;let Ae:(X.env.scope.kind==.class||(X.env.scope.kind==.module&&X.env.locals != X.env.globals))=ι:=by rw[I.ok.kind];rfl
 let GG:i<↑σ:=by rw[I.len];exact(Hy.mp hi).1
 let qX:=I.qX
 let tracked:∀{a:O}{h':Α},(∃o,s.heap.get? a=U o/\H a=Z)->q2E a s.heap h'->eG X.prog X.w H h':=λ{a h'} ha hs b ob e=>by
  let⟨_,_,pY⟩:=ha;calc(I.bu b ob e).gY (λc w' hc q=>(hs.2 c ?_).trans q) (λ_ q=>q) λ_ _ q=>q;ext rfl;rcases hc with rfl|hc
  .rw[pY] at e;cases e
  .rw[pY] at hc;cases hc
 rcases hx with hk|hk
 .refine wpAny_storeName_local hk hn (λh' pU hs=>?_) Ae
  let⟨oL,_,_,pZ,_⟩:=id hn;refine h _ ⟨I.ok,I.os,I.bare,⟨λb o e n hb hx=>?_,λb o e n hb hx=>?_,I.base.free,λb o e hx=>?_,I.base.fh,I.base.gw,I.base.gx,λb xs o e1 e hx=>(hs.2 b (q0b (q0j (Ze e) I.ok.above))).trans (I.base.f7 b xs o e1 e hx)⟩,⟨_,pU,λj y v' e1 e2 e3=>?_⟩,λy c e=>?_,I.free,I.cJ,λp hp=>?_,tracked ⟨oL,pZ,I.free⟩ hs,by simpa using I.len⟩ ⟨_,hs,.inl Y⟩
  .exact (hs.2 b (q0b (q0j (Ze e) I.ok.above))).trans (I.base.keep b o e n hb hx)
  .let⟨sl,e1⟩:=I.base.slot b o e n hb hx
   exact⟨sl,(hs.2 b (q0b (q0j (Ze e) I.ok.above))).trans e1⟩
  .let⟨o',e1⟩:=I.base.there b o e hx
   exact⟨o',(hs.2 b (q0b (q0j (Ze e) I.ok.above))).trans e1⟩
  .by_cases hj:j=i
   .subst hj
    rw[hi] at e1;cases e1;rw[q01 GG] at e2;cases e2
    exact⟨u,r,.inl ⟨hk,by simp⟩⟩
   .rw[q02 (q2b hj)] at e2
    let⟨u',r',q⟩:=hl j y v' e1 e2 e3;calc⟨u',r',?_⟩;rcases q with⟨k,e⟩|⟨k,c,e,z⟩
    .refine .inl ⟨k,?_⟩
     let:y≠x:=λe=>hj (GC hN e1 (e▸hi));simp[this,e]
    .exact .inr ⟨k,c,e,z.sameBut hs (qX y c e)⟩
  .let⟨w',z⟩:=I.cell y c e
   exact⟨w',z.sameBut hs (qX y c e)⟩
  .let⟨e,n,ne,nf,d⟩:=I.pin p hp
   exact⟨(hs.2 p.1 ne).trans e,n,ne,nf,d⟩
 .let m9:X.fn x=θ:=by
   rcases hf with z|z
   .exact z
   .rw[z] at hk;cases hk
  let⟨c,hc⟩:=I.ok.has x (.inl hk);let⟨w',z⟩:=I.cell x c hc;calc wpAny_storeName_cell I.ok.kind hk hc z (λh' kD hs=>?_);let⟨oc,sY,Af⟩:=id z;refine h {s with heap:=h'} ⟨I.ok,I.os,I.bare,⟨λb o e n hb hx=>?_,λb o e n hb hx=>?_,I.base.free,λb o e hx=>?_,I.base.fh,I.base.gw,I.base.gx,λb xs o e1 e hx=>(hs.2 b (q0b (q0j (Ze e) (I.ok.pX x c m9 hc)))).trans (I.base.f7 b xs o e1 e hx)⟩,⟨m,hn.sameBut hs (q2b (qX x c hc)),λj y v' e1 e2 e3=>?_⟩,λy c' e=>?_,I.free,I.cJ,λp hp=>?_,tracked ⟨oc,sY,I.cJ x c hc⟩ hs,by simpa using I.len⟩ ⟨c,hs,.inr hc⟩
  .exact (hs.2 b (q0b (q0j (Ze e) (I.ok.pX x c m9 hc)))).trans (I.base.keep b o e n hb hx)
  .let⟨sl,e1⟩:=I.base.slot b o e n hb hx
   exact⟨sl,(hs.2 b (q0b (q0j (Ze e) (I.ok.pX x c m9 hc)))).trans e1⟩
  .let⟨o',e1⟩:=I.base.there b o e hx
   exact⟨o',(hs.2 b (q0b (q0j (Ze e) (I.ok.pX x c m9 hc)))).trans e1⟩
  .by_cases hj:j=i
   .subst hj
    rw[hi] at e1;cases e1;rw[q01 GG] at e2;cases e2
    exact⟨u,r,.inr ⟨.inl hk,c,hc,kD⟩⟩
   .rw[q02 (q2b hj)] at e2
    let⟨u',r',q⟩:=hl j y v' e1 e2 e3;calc⟨u',r',?_⟩;rcases q with q|⟨k,c',e,z'⟩
    .exact .inl q
    .refine .inr ⟨k,c',e,z'.sameBut hs ?_⟩
     ext rfl;exact hj (GC hN e1 (I.ok.inj _ _ _ e hc▸hi))
  .by_cases hcc:c'=c
   .subst hcc;exact⟨_,kD⟩
   .let⟨w2,z2⟩:=I.cell y c' e
    exact⟨w2,z2.sameBut hs hcc⟩
  .let⟨e,n,ne,nf,d⟩:=I.pin p hp
   calc⟨(hs.2 p.1 ?_).trans e,n,ne,nf,d⟩;ext q;rw[q,sY] at e;let q':oc=p.2:=q0v e;calc d w' (by rw[<-q'];calc Af)
theorem GH{M:Model}{A:o}{E:bA}{i:Nat}{x:J}{v:V}{u:L}{Q:Unit->B->Prop}(I:Inv X pins σ H s)(hN:X.N.Nodup)(hi:X.N[i]?=U x)(hx:Loc X.env.scope x)(r:RelV v u)
  (h:∀s',Inv X pins (σ.set i (U v)) H s'->Q () s') (hf:gZ X x:=by first|exact .inl Y|exact .inr Y|assumption):ρ M A (storeName X.env x u) Q E s :=
 GF I hN hi hx r (λs' I' _=>h s' I') hf
theorem Inv.uN{s':B}{ch:-O}(I:Inv X pins σ H s)(ho:s'.os=s.os)(u:Un (lh X.stack) ch H H' s.heap s'.heap)(bu:eG X.prog X.w H' s'.heap)(hg:AllBare s'.gens)
  (m8:∀b∈ch,(b∈X.ex\/⇑X.s₀<=b)/\b≠X.env.locals/\(∀x c,X.env.cells.lookup x=U c->c≠b)/\∀p∈X.pn++pins,p.1≠b):Inv X pins σ H' s':=by
 let⟨h',g',d',t',o'⟩:=s';let e:o'=s.os:=ho;subst e;calc I.call (g':=g') (t':=t') (d':=d') u bu hg m8
end
abbrev XK:=L->Option O->Hp->Prop
abbrev St:=-(Option V)
abbrev VK:=V->Hp->Prop
abbrev TE:=St->Hp->VK->Prop
abbrev TT:=St->Hp->(Bool->Hp->Prop)->Prop
abbrev TA:=St->Hp->(-V->Hp->Prop)->Prop
structure Ends where
 nx:St->Hp->Prop
 rt:VK
 bk:St->Hp->Prop:=λ_ _=>False
 ct:St->Hp->Prop:=λ_ _=>False
abbrev TS:=Ends->St->Hp->Prop
inductive EP (X:Cx) (pins:aL) (σ:St) (Q:VK) (u:L) (s':B):Prop
 |mk (v:V) (H':Hp) (I:Inv X pins σ H' s') (r:RelV v u) (q:Q v H')
def TP(X:Cx)(pins:aL)(σ:St)(Q:Bool->Hp->Prop)(b:Bool)(s':B):Prop:=∃H',Inv X pins σ H' s'/\Q b H'
inductive AP (X:Cx) (pins:aL) (σ:St) (Q:-V->Hp->Prop) (us:-L) (s':B):Prop
 |mk (vs:-V) (H':Hp) (I:Inv X pins σ H' s') (r:Vals vs us) (q:Q vs H')
def SP(X:Cx)(pins:aL)(D:Ends)(f:Flow)(s':B):Prop :=
 match f with
 |.next=>∃σ' H',Inv X pins σ' H' s'/\D.nx σ' H'
 |.brk=>∃σ' H',Inv X pins σ' H' s'/\D.bk σ' H'
 |.cont=>∃σ' H',Inv X pins σ' H' s'/\D.ct σ' H'
 |.ret u=>∃v σ' H',Inv X pins σ' H' s'/\RelV v u/\D.rt v H'
structure JE(X:Cx)(e:l)(t:TE):Prop where
 out:∀(pins:aL)(s:B)(σ:St)(H:Hp)(Q:VK),Inv X pins σ H s->t σ H Q->M (g X.prog X.w) X.A (eval e X.env) (EP X pins σ Q) X.xe s
instance {X:Cx} {e:l} {t:TE}:CoeFun (JE X e t) (λ_=>∀(pins:aL)(s:B)(σ:St)(H:Hp)(Q:VK),Inv X pins σ H s->t σ H Q->M (g X.prog X.w) X.A (eval e X.env) (EP X pins σ Q) X.xe s):=⟨JE.out⟩
structure JT(X:Cx)(e:l)(t:TT):Prop where
 out:∀(pins:aL)(s:B)(σ:St)(H:Hp)(Q:Bool->Hp->Prop),Inv X pins σ H s->t σ H Q->M (g X.prog X.w) X.A (isTrue e X.env (eval e X.env)) (TP X pins σ Q) X.xe s
instance {X:Cx} {e:l} {t:TT}:CoeFun (JT X e t) (λ_=>∀(pins:aL)(s:B)(σ:St)(H:Hp)(Q:Bool->Hp->Prop),Inv X pins σ H s->t σ H Q->M (g X.prog X.w) X.A (isTrue e X.env (eval e X.env)) (TP X pins σ Q) X.xe s):=⟨JT.out⟩
structure JW(X:Cx)(e:l)(t:TT):Prop where
 out:∀(whole:Sem L)(pins:aL)(s:B)(σ:St)(H:Hp)(Q:Bool->Hp->Prop),Inv X pins σ H s->t σ H Q->M (g X.prog X.w) X.A (isTrue e X.env whole) (TP X pins σ Q) X.xe s
instance {X:Cx} {e:l} {t:TT}:CoeFun (JW X e t) (λ_=>∀(whole:Sem L)(pins:aL)(s:B)(σ:St)(H:Hp)(Q:Bool->Hp->Prop),Inv X pins σ H s->t σ H Q->M (g X.prog X.w) X.A (isTrue e X.env whole) (TP X pins σ Q) X.xe s):=⟨JW.out⟩
theorem JW.jt{X:Cx}{e:l}{t:TT}(h:JW X e t):JT X e t:=⟨h.out _⟩
structure JA(X:Cx)(es:-l)(t:TA):Prop where
 out:∀(pos:y)(pins:aL)(s:B)(σ:St)(H:Hp)(Q:-V->Hp->Prop),Inv X pins σ H s->t σ H Q->M (g X.prog X.w) X.A (spliced (backTo pos (starEach es X.env))) (AP X pins σ Q) X.xe s
instance {X:Cx} {es:-l} {t:TA}:CoeFun (JA X es t) (λ_=>∀(pos:y)(pins:aL)(s:B)(σ:St)(H:Hp)(Q:-V->Hp->Prop),Inv X pins σ H s->t σ H Q->M (g X.prog X.w) X.A (spliced (backTo pos (starEach es X.env))) (AP X pins σ Q) X.xe s):=⟨JA.out⟩
structure JS(X:Cx)(st:R)(t:TS):Prop where
 out:∀(pins:aL)(s:B)(σ:St)(H:Hp)(D:Ends),Inv X pins σ H s->t D σ H->M (g X.prog X.w) X.A (exec st X.env) (SP X pins D) X.xe s
instance {X:Cx} {st:R} {t:TS}:CoeFun (JS X st t) (λ_=>∀(pins:aL)(s:B)(σ:St)(H:Hp)(D:Ends),Inv X pins σ H s->t D σ H->M (g X.prog X.w) X.A (exec st X.env) (SP X pins D) X.xe s):=⟨JS.out⟩
structure dO(X:Cx)(st:-R)(t:TS):Prop where
 out:∀(pins:aL)(s:B)(σ:St)(H:Hp)(D:Ends),Inv X pins σ H s->t D σ H->M (g X.prog X.w) X.A (execs st X.env) (SP X pins D) X.xe s
instance {X:Cx} {st:-R} {t:TS}:CoeFun (dO X st t) (λ_=>∀(pins:aL)(s:B)(σ:St)(H:Hp)(D:Ends),Inv X pins σ H s->t D σ H->M (g X.prog X.w) X.A (execs st X.env) (SP X pins D) X.xe s):=⟨dO.out⟩
theorem bL{α:Type}{t:Sem α}{Q Q':α->B->Prop}{M:Model}{A:o}{E:bA}{s:B}(h:ρ M A t Q E s)(hQ:∀a s,Q a s->Q' a s):ρ M A t Q' E s:=q1M h hQ λ_ _ x=>x
section
variable{X:Cx}
def uO(i:Nat):TE:=fun σ H Q=>∃v,σ[i]?=U (U v)/\Q v H
def tC(v:V):TE:=λ_ H Q=>Q v H
theorem GI{i:Nat}{x:J}{pos:y}(hN:X.N[i]?=U x)(hv:uL X.env.scope x)(hd:b9 x:=by decide)(g6:(x==("__classdict__" : J))=ι:=by decide):JE X (.Name x pos) (uO i):=by
 calc⟨?_⟩;ext pins s σ H Q I h;let⟨v,e,h⟩:=h;let⟨m,hn,hl⟩:=I.loc;let⟨u,r,l⟩:=hl i x v hN e hv;let fin:EP X pins σ Q u s:=⟨v,H,I,r,h⟩;rcases l with⟨hk,hm⟩|⟨hk,c,hc,p9⟩
 .exact q7d (wpAny_loadName_local I.ok.kind hk hn hm fin) hd
 .rcases hk with hk|hk
  .exact q7d (wpAny_loadName_cell I.ok.kind hk hc p9 fin) hd
  .calc q7d (wpAny_loadName_free I.ok.kind hk hc p9 fin g6) hd
theorem p_{i j pos}:JE X (.Constant (.int i) j pos) (tC (.int i)):=⟨λ_ _ _ H _ I h=>wpAny_Constant_int ⟨.int i,H,I.tok _,⟨_,Y⟩,h⟩⟩
theorem NI{b j pos}:JE X (.Constant (.bool b) j pos) (tC (.bl b)):=⟨λ_ _ _ H _ I h=>Constant_bool ⟨.bl b,H,I,Y,h⟩⟩
theorem NJ{j pos}:JE X (.Constant .none j pos) (tC .non):=⟨λ_ _ _ H _ I h=>Constant_none ⟨.non,H,I,Y,h⟩⟩
theorem xk{x j pos}:JE X (.Constant (.str x) j pos) (tC (.str x)):=⟨λ_ _ _ H _ I h=>Calls.Constant_str ⟨.str x,H,I.tok _,⟨_,Y⟩,h⟩
⟩
def Gl(X:Cx)(x:J):Prop:=X.env.kindOf x=U .globalImplicit
theorem xm{E:bA}{pins:aL}{s:B}{σ:St}{H:Hp}{x:J}{u:L}{pos:y}{Q:bA}(I:Inv X pins σ H s)(hg:Gl X x)(hm:X.mg x=U u)(h:Q u s)
  (hd:b9 x:=by decide):M (g X.prog X.w) X.A (eval (.Name x pos) X.env) Q E s :=
 q3P I.ok.kind hg (Calls.loadGlobal_global (by rw[I.ok.glob];calc I.mod.glob.keeps I.bk) hm h) hd
theorem nX{E:bA}{pins:aL}{s:B}{σ:St}{H:Hp}{x:J}{u:L}{pos:y}{Q:bA}(I:Inv X pins σ H s)(hg:Gl X x)(hm:X.mg x=Z)(hv:bootBuiltins x=U u)(h:Q u s)
  (hn:x≠"__name__" := by decide) (hd:b9 x:=by decide):M (g X.prog X.w) X.A (eval (.Name x pos) X.env) Q E s:=by
 let⟨mb,h1,h2⟩:=I.mod.blt;calc q3P I.ok.kind hg (Calls.loadGlobal_builtin (by rw[I.ok.glob];calc I.mod.glob.keeps I.bk) hm (by rw[I.ok.blt];calc h1.keeps I.bk) ((h2 x hn).trans hv) h) hd
theorem GJ{x:J}{v:V}{u:L}{pos:y}(hg:Gl X x)(hm:X.mg x=U u)(r:RelV v u)(hd:b9 x:=by decide):JE X (.Name x pos) (tC v):=⟨λ_ _ _ H _ I h=>xm I hg hm ⟨v,H,I,r,h⟩ hd⟩
theorem NK{x:J}{v:V}{u:L}{pos:y}(hg:Gl X x)(hm:X.mg x=Z)(hv:bootBuiltins x=U u)(r:RelV v u)(hn:x≠"__name__" := by decide)(hd:b9 x:=by decide):JE X (.Name x pos) (tC v):=⟨λ_ _ _ H _ I h=>nX I hg hm hv ⟨v,H,I,r,h⟩ hn hd
⟩
variable{a b:l}{ta tb:TE}{pos:y}
structure JC(X:Cx)(op:CmpOp)(a b:l)(t:TE):Prop where
 out:∀(pins:aL)(s:B)(σ:St)(H:Hp)(Q:VK),Inv X pins σ H s->t σ H Q →
  M (g X.prog X.w) X.A (eval a X.env) (λv s₁=>M (g X.prog X.w) X.A (eval b X.env) (λu s₂=>M (g X.prog X.w) X.A (compareOp op v u) (EP X pins σ Q) X.xe s₂) X.xe s₁) X.xe s
instance {X:Cx} {op:CmpOp} {a b:l} {t:TE}:CoeFun (JC X op a b t) (λ_=>∀(pins:aL)(s:B)(σ:St)(H:Hp)(Q:VK),Inv X pins σ H s->t σ H Q->M (g X.prog X.w) X.A (eval a X.env) (λv s₁=>M (g X.prog X.w) X.A (eval b X.env) (λu s₂=>M (g X.prog X.w) X.A (compareOp op v u) (EP X pins σ Q) X.xe s₂) X.xe s₁) X.xe s):=⟨JC.out⟩
def tB(t:TE):TT:=fun σ H Q=>t σ H λx H1=>∃c,x=.bl c/\Q c H1
theorem NL{op:CmpOp}{t:TE}(h:JC X op a b t)(h1:behindInMarks op b=ι:=by first|exact Y8 _ (by decide) (by decide)|rfl):JT X (.Compare a [op] [b] pos) (tB t):=by
 calc⟨?_⟩;ext pins s σ H Q I hw;calc q4_ (bL (h pins s σ H _ I hw) λv s1 h1=>bL h1 λu s2 h2=>bL h2 λc s3 ⟨x,H1,I1,r1,q1⟩=>?_) h1;let⟨d,rfl,q⟩:=q1;cases r1
 calc q1Y ⟨H1,I1,q⟩
theorem NM{e:l}{t:TE}(h:JE X e t)(he:∀whole,isTrue e X.env whole=(do let v <- whole;standAt e.pos;holding [v] (truthy v)):=by ext _;rfl):JT X e (tB t):=by
 calc⟨?_⟩;ext pins s σ H Q I hw;calc isTrue_plain (bL (h pins s σ H _ I hw) λv s1 ⟨x,H1,I1,r1,q1⟩=>?_) (he _);let⟨d,rfl,q⟩:=q1;cases r1
 calc q1Y ⟨H1,I1,q⟩
variable{tA xn:TT}{rest:-l}
def uP(t u:TT):TT:=fun σ H Q=>t σ H λc H1=>if c=θ then u σ H1 Q else Q ι H1
def GL(t u:TT):TT:=fun σ H Q=>t σ H λc H1=>if c=θ then Q θ H1 else u σ H1 Q
def Ag(t:TT):TT:=fun σ H Q=>t σ H λc H1=>Q (!c) H1
theorem NN(ha:JT X a tA):JW X (.BoolOp .And [a] pos) tA:=by
 calc⟨?_⟩;ext wh pins s σ H Q I h;refine isTrue_and (bL (ha pins s σ H Q I h) λc s1 e=>?_)
 cases c with
 |true=>exact isTrue_and_nil e
 |false=>calc e
theorem NO(ha:JT X a tA):JW X (.BoolOp .Or [a] pos) tA:=by
 calc⟨?_⟩;ext wh pins s σ H Q I h;refine isTrue_or (bL (ha pins s σ H Q I h) λc s1 e=>?_)
 cases c with
 |false=>exact isTrue_or_nil e
 |true=>calc e
theorem NP(ha:JT X a tA)(hb:JW X (.BoolOp .And (b::rest) pos) xn):JW X (.BoolOp .And (a::b::rest) pos) (uP tA xn):=by
 calc⟨?_⟩;ext wh pins s σ H Q I h;refine isTrue_and (bL (ha pins s σ H _ I h) λc s1 h0_=>el3 h0_ λH1 I1 q1=>?_)
 cases c with
 |true=>exact hb wh pins s1 σ H1 Q I1 q1
 |false=>calc⟨H1,I1,q1⟩
theorem NQ(ha:JT X a tA)(hb:JW X (.BoolOp .Or (b::rest) pos) xn):JW X (.BoolOp .Or (a::b::rest) pos) (GL tA xn):=by
 calc⟨?_⟩;ext wh pins s σ H Q I h;refine isTrue_or (bL (ha pins s σ H _ I h) λc s1 h0_=>el3 h0_ λH1 I1 q1=>?_)
 cases c with
 |true=>exact⟨H1,I1,q1⟩
 |false=>calc hb wh pins s1 σ H1 Q I1 q1
theorem NR(ha:JT X a tA):JT X (.UnaryOp .Not a pos) (Ag tA):=by
 calc⟨?_⟩;ext pins s σ H Q I h;calc isTrue_not (ha pins s σ H (λc H1=>Q (!c) H1) I h)
def NS(ta tb:TE):TE:=fun σ H Q=>ta σ H λx H1=>∃c,x=.bl c/\if c=θ then tb σ H1 Q else Q (.bl ι) H1
def NU(ta:TE):TE:=fun σ H Q=>ta σ H λx H1=>∃c,x=.bl c/\Q (.bl (!c)) H1
theorem NV{op}{t:TE}(h:JE X a t):JE X (.BoolOp op [a] pos) t:=⟨λpins s σ H Q I hw=>BoolOp_one (h pins s σ H Q I hw)⟩
theorem NW(ha:JE X a ta)(hb:JE X (.BoolOp .And (b::rest) pos) tb):JE X (.BoolOp .And (a::b::rest) pos) (NS ta tb):=by
 calc⟨?_⟩;ext pins s σ H Q I h;calc BoolOp_and (bL (ha pins s σ H _ I h) λv s1 ⟨x,H1,I1,r1,q1⟩=>?_);let⟨c,rfl,q1⟩:=q1;cases r1
 refine q1Y ?_
 cases c with
 |true=>exact hb pins s1 σ H1 Q I1 q1
 |false=>calc⟨.bl ι,H1,I1,Y,q1⟩
theorem NX(ha:JE X a ta):JE X (.UnaryOp .Not a pos) (NU ta):=by
 calc⟨?_⟩;ext pins s σ H Q I h;calc UnaryOp_ (bL (ha pins s σ H _ I h) λv s1 ⟨x,H1,I1,r1,q1⟩=>?_);let⟨c,rfl,q1⟩:=q1;cases r1
 calc not_of (q1Y ⟨.bl (!c),H1,I1,Y,q1⟩)
def NY(t:TT)(ta tb:TE):TE:=fun σ H Q=>t σ H λc H1=>if c=θ then ta σ H1 Q else tb σ H1 Q
theorem NZ{c:l}(hc:JT X c tA)(ha:JE X a ta)(hb:JE X b tb):JE X (.IfExp c a b pos) (NY tA ta tb):=by
 calc⟨?_⟩;ext pins s σ H Q I h;refine wpAny_IfExp (bL (hc pins s σ H _ I h) λd s1 h0_=>el3 h0_ λH1 I1 q1=>?_)
 cases d with
 |true=>exact ha pins s1 σ H1 Q I1 q1
 |false=>calc hb pins s1 σ H1 Q I1 q1
end
def bU(K:My)(H:Hp)(a:O)(xs:-V):Prop :=
 Rd H a (.lst xs) ∨
  ∃(o:Q)(az:Array L)(n:Nat),K.lookup a=U o/\o.cls=.type "list" /\ o.dict=Z/\o.data=.seq az n/\az.size<=sizeLine/\Vals xs az.toList
def b8(K:My)(H:Hp)(a:O)(xs:-V):Prop :=
 Rd H a (.tup xs) ∨
  ∃(o:Q)(az:Array L)(n:Nat),K.lookup a=U o/\o.cls=.type "tuple" /\ o.data=.seq az n/\az.size<=sizeLine/\Vals xs az.toList
noncomputable def Ah:L->Option V
 |.none=>U .non
 |.bool b=>U (.bl b)
 |.int i _=>U (.int i)
 |.str x _=>U (.str x)
 |.bytes b _=>U (.byt b)
 |.float b _=>U (.flt b)
 |.ref a=>U (.ref a)
 |.type n=>U (.ty n)
 |_=>Z
theorem RelV.abs{x:V}{u:L}(r:RelV x u):Ah u=U x:=by
 cases x with
 |non=>cases r;rfl
 |bl _=>cases r;rfl
 |int _=>let⟨t,rfl⟩:=r;rfl
 |str _=>let⟨t,rfl⟩:=r;rfl
 |byt _=>let⟨t,rfl⟩:=r;rfl
 |flt _=>let⟨t,rfl⟩:=r;rfl
 |ref _=>cases r;rfl
 |ty _=>cases r;rfl
theorem RelV.inj{x y:V}{u:L}(r:RelV x u)(q:RelV y u):x=y:=q0v (r.abs.symm.trans q.abs)
theorem Vals.inj:∀{xs ys:-V}{us:-L},Vals xs us->Vals ys us->xs=ys
 |_,_,_,.nil,.nil=>Y
 |_,_,_,.cons r t,.cons r' t'=>by rw[r.inj r',Vals.inj t t']
section
variable{X:Cx}{pins:aL}{σ:St}{H:Hp}{s:B}{a:O}{xs ys:-V}
theorem bU.of{K:My}(h:H a=U (.lst xs)):bU K H a xs:=.inl (.inl h)
theorem b8.of{K:My}(h:H a=U (.tup xs)):b8 K H a xs:=.inl (.inl h)
theorem Inv.list(I:Inv X pins σ H s)(h:bU X.K H a xs):∃az:-L,Vals xs az/\PlainL s.heap a az.toArray/\↑xs<=sizeLine:=by
 rcases h with h|⟨o,az,n,hk,hc,hd,hs,hz,r⟩
 .let⟨z,az,n,r,e⟩:=h.ok I.bu
  exact⟨az,r,⟨_,n,e,Y,Y,Y⟩,z⟩
 .refine⟨az.toList,r,⟨o,n,I.fF a o hk,hc,hd,by simpa using hs⟩,?_⟩
  let e:=↑r;erw[Zh] at e;symm
theorem Inv.tuple(I:Inv X pins σ H s)(h:b8 X.K H a xs):∃az:-L,Vals xs az/\IsTup s.heap a az.toArray/\↑xs<=sizeLine:=by
 rcases h with h|⟨o,az,n,hk,hc,hs,hz,r⟩
 .let⟨z,az,r,p⟩:=h.ok I.bu
  exact⟨az,r,p,z⟩
 .refine⟨az.toList,r,⟨o,I.fF a o hk,hc,n,by simpa using hs⟩,?_⟩
  let e:=↑r;erw[Zh] at e;symm
theorem Inv.f9(I:Inv X pins σ H s)(h:bU X.K H a xs)(h':bU X.K H a ys):xs=ys:=by
 let⟨az,r,⟨o,n,e,_,_,d⟩,_⟩:=I.list h;let⟨its',r',⟨o',n',e',_,_,d'⟩,_⟩:=I.list h';rw[e] at e';cases e';rw[d] at d';injection d' with d1 _;let:az=its':=by simpa using congrArg q8a d1
 subst this;calc r.inj r'
theorem Inv.fj(I:Inv X pins σ H s)(h:b8 X.K H a xs)(h':b8 X.K H a ys):xs=ys:=by
 let⟨az,r,⟨o,e,_,n,d⟩,_⟩:=I.tuple h;let⟨its',r',⟨o',e',_,n',d'⟩,_⟩:=I.tuple h';rw[e] at e';cases e';rw[d] at d';injection d' with d1 _;let:az=its':=by simpa using congrArg q8a d1
 subst this;calc r.inj r'
end
noncomputable abbrev Cx.gA(X:Cx)(E:bA):Cx:={X with xe:=E}
noncomputable abbrev Cx.lj(X:Cx):Cx:=X.gA λ_ _=>False
theorem Cx.Ok.gA{X:Cx}(ok:X.Ok)(E:bA):(X.gA E).Ok :=
 ⟨ok.mod,ok.kind,ok.glob,ok.blt,ok.above,ok.inj,ok.has,ok.pX,ok.hd,ok.frames,ok.sX,ok.xj,ok.bs,ok.lV,ok.iR,ok.kC,ok.eg,ok.mZ⟩
theorem Cx.Ok.dG{X:Cx}{E:bA}(ok:(X.gA E).Ok):X.Ok :=
 ⟨ok.mod,ok.kind,ok.glob,ok.blt,ok.above,ok.inj,ok.has,ok.pX,ok.hd,ok.frames,ok.sX,ok.xj,ok.bs,ok.lV,ok.iR,ok.kC,ok.eg,ok.mZ⟩
section
variable{X:Cx}{pins:aL}{σ:St}{H:Hp}{s:B}{E:bA}
theorem Inv.gA(I:Inv X pins σ H s)(E:bA):Inv (X.gA E) pins σ H s:=⟨I.ok.gA E,I.os,I.bare,I.base,I.loc,I.cell,I.free,I.cJ,I.pin,I.bu,I.len⟩
theorem Inv.dG(I:Inv (X.gA E) pins σ H s):Inv X pins σ H s:=⟨I.ok.dG,I.os,I.bare,I.base,I.loc,I.cell,I.free,I.cJ,I.pin,I.bu,I.len⟩
theorem SP.dG{D:Ends}{f:Flow}{s':B}(h:SP (X.gA E) pins D f s'):SP X pins D f s':=by
 cases f with
 |next=>let⟨σ',H',I,q⟩:=h;exact⟨σ',H',I.dG,q⟩
 |brk=>let⟨σ',H',I,q⟩:=h;exact⟨σ',H',I.dG,q⟩
 |cont=>let⟨σ',H',I,q⟩:=h;exact⟨σ',H',I.dG,q⟩
 |ret u=>let⟨v,σ',H',I,r,q⟩:=h;calc⟨v,σ',H',I.dG,r,q⟩
theorem dO.lj{st:-R}{t:TS}(h:dO X.lj st t):dO X st t:=⟨λpins s σ H D I hw =>
 q1M (h pins s σ H D (I.gA _) hw) (λ_ _ q=>q.dG) λ_ _ z=>q1n z⟩
end
section
variable{X:Cx}{st:R}{rest:-R}{t u:TS}{e:l}{te:TE}{pos:y}
def N0:TS:=λD σ H=>D.nx σ H
def Ai(t u:TS):TS:=λD σ H=>t {D with nx:=u D} σ H
theorem nY:dO X [] N0:=⟨λ_ _ σ H _ I h=>q3A ⟨σ,H,I,h⟩⟩
theorem xo(h1:JS X st t)(h2:dO X rest u):dO X (st::rest) (Ai t u):=by
 calc⟨?_⟩;ext pins s σ H D I h;refine q6w (bL (h1 pins s σ H {D with nx:=u D} I h) λf s1 q=>?_)
 cases f with
 |next =>
  let⟨σ',H',I',q⟩:=q;exact h2 pins s1 σ' H' D I' q
 |ret v=>exact q
 |brk=>exact q
 |cont=>calc q
theorem Aj(h1:JS X st t):dO X [st] t:=by
 calc⟨?_⟩;ext pins s σ H D I h;refine q6w (bL (h1 pins s σ H D I h) λf s1 q=>?_)
 cases f with
 |next=>exact q3A q
 |ret v=>exact q
 |brk=>exact q
 |cont=>calc q
theorem Inv.quiet{pins:aL}{σ:St}{H:Hp}{s:B}(I:Inv X pins σ H s):interactive X.env=ι:=by simp[interactive,I.ok.kind]
def N3(te:TE):TS:=λD σ H=>te σ H λ_ H1=>D.nx σ H1
theorem N4(he:JE X e te)(hs:swapsWith e Z pos.line X.env=pure ι:=by rfl):JS X (.Expr e pos) (N3 te):=by
 calc⟨?_⟩;ext pins s σ H D I h;calc wpAny_Expr_any (bL (he pins s σ H _ I h) λv s1 ⟨x,H1,I1,r1,q1⟩↦⟨σ,H1,I1,q1⟩) I.quiet hs
def Ak(te:TE):TS:=λD σ H=>te σ H D.rt
theorem GN(he:JE X e te):JS X (.Return (U e) pos) (Ak te):=by
 calc⟨?_⟩;ext pins s σ H D I h;calc wpAny_Return_some (bL (he pins s σ H _ I h) λv s1 ⟨x,H1,I1,r1,q1⟩↦⟨x,σ,H1,I1,r1,q1⟩)
def Al(c:TT)(t u:TS):TS:=λD σ H=>c σ H λb H1=>if b=θ then t D σ H1 else u D σ H1
theorem N5{c:l}{a b:-R}{tc:TT}(hc:JT X c tc)(ha:dO X a t)(hb:dO X b u):JS X (.If c a b pos) (Al tc t u):=by
 calc⟨?_⟩;ext pins s σ H D I h;refine wpAny_If (bL (hc pins s σ H _ I h) λd s1 h0_=>el3 h0_ λH1 I1 q1=>?_)
 cases d with
 |true=>exact ha pins s1 σ H1 D I1 q1
 |false=>calc hb pins s1 σ H1 D I1 q1
end
abbrev TG:=V->St->Hp->(St->Hp->Prop)->Prop
abbrev kE:=-V->St->Hp->(St->Hp->Prop)->Prop
structure JG(X:Cx)(target:l)(t:TG):Prop where
 out:∀(pins:aL)(s:B)(σ:St)(H:Hp)(v:V)(u:L)(Q:St->Hp->Prop),Inv X pins σ H s->RelV v u->t v σ H Q →
  M (g X.prog X.w) X.A (assign target X.env u) (λ_ s'=>∃σ' H',Inv X pins σ' H' s'/\Q σ' H') X.xe s
instance {X:Cx} {target:l} {t:TG}:CoeFun (JG X target t) (λ_=>∀(pins:aL)(s:B)(σ:St)(H:Hp)(v:V)(u:L)(Q:St->Hp->Prop),Inv X pins σ H s->RelV v u->t v σ H Q->M (g X.prog X.w) X.A (assign target X.env u) (λ_ s'=>∃σ' H',Inv X pins σ' H' s'/\Q σ' H') X.xe s):=⟨JG.out⟩
structure iH(X:Cx)(ts:-l)(t:kE):Prop where
 out:∀(pins:aL)(s:B)(σ:St)(H:Hp)(vs:-V)(us:-L)(Q:St->Hp->Prop),Inv X pins σ H s->Vals vs us->t vs σ H Q →
  M (g X.prog X.w) X.A (assignInOrder ((assignEach ts X.env).map (·.2)) us) (λ_ s'=>∃σ' H',Inv X pins σ' H' s'/\Q σ' H') X.xe s
instance {X:Cx} {ts:-l} {t:kE}:CoeFun (iH X ts t) (λ_=>∀(pins:aL)(s:B)(σ:St)(H:Hp)(vs:-V)(us:-L)(Q:St->Hp->Prop),Inv X pins σ H s->Vals vs us->t vs σ H Q->M (g X.prog X.w) X.A (assignInOrder ((assignEach ts X.env).map (·.2)) us) (λ_ s'=>∃σ' H',Inv X pins σ' H' s'/\Q σ' H') X.xe s):=⟨iH.out⟩
abbrev qZ:=V->V->V->Hp->(Hp->Prop)->Prop
def uQ(X:Cx)(t:qZ):Prop :=
 ∀(pins:aL)(s:B)(σ:St)(H:Hp)(o i v:V)(ov iv u:L)(Q:Hp->Prop),Inv X pins σ H s->RelV o ov->RelV i iv->RelV v u->t o i v H Q →
  M (g X.prog X.w) X.A (setItem ov iv u) (λ_ s'=>∃H',Inv X pins σ H' s'/\Q H') X.xe s
section
variable{X:Cx}{pos:y}
def xp(i:Nat):TG:=λv σ H Q=>Q (σ.set i (U v)) H
theorem Am{i:Nat}{x:J}(hN:X.N.Nodup)(hi:X.N[i]?=U x)(hx:Loc X.env.scope x)(hf:gZ X x:=by first|exact .inl Y|exact .inr Y|assumption):JG X (.Name x pos) (xp i):=by
 calc⟨?_⟩;ext pins s σ H v u Q I r h;calc q54 (GH I hN hi hx r (λs' I'=>⟨_,H,I',h⟩) hf)
def An:kE:=λvs σ H Q=>vs=[]/\Q σ H
def N6(t:TG)(u:kE):kE:=λvs σ H Q=>∃v r,vs=v::r/\t v σ H fun σ' H'=>u r σ' H' Q
theorem g7:iH X [] An:=by
 calc⟨?_⟩;ext pins s σ H vs us Q I r h;let⟨e,h⟩:=h;subst e;cases r
 calc assignInOrder_nil ⟨σ,H,I,h⟩
theorem xq{e:l}{es:-l}{t:TG}{u:kE}(h1:JG X e t)(h2:iH X es u)
  (hs:(assignEach (e::es) X.env).map (·.2)=assign e X.env::(assignEach es X.env).map (·.2):=by rfl):iH X (e::es) (N6 t u):=by
 calc⟨?_⟩;ext pins s σ H vs us Q I r h;let⟨v,vr,e1,h⟩:=h;subst e1
 cases r with
 |cons r rr =>
  rw[hs];calc assignInOrder_cons (bL (h1 pins s σ H _ _ _ I r h) λ_ s1 ⟨σ1,H1,I1,q1⟩=>?_);calc h2 pins s1 σ1 H1 _ _ Q I1 rr q1
def Ao(K:My)(n:Nat)(t:kE):TG:=λv σ H Q=>∃a xs,v=.ref a/\b8 K H a xs/\↑xs=n/\t xs σ H Q
theorem Ap{es:-l}{k:Nat}{t:kE}{n:Nat}(hc:X.calm=θ)(h:iH X es t)
  (hn:↑(assignEach es X.env)=n:=by rfl) (iS:(assignEach es X.env).findIdx? (·.1)=Z:=by rfl):JG X (.Tuple es k pos) (Ao X.K n t):=by
 calc⟨?_⟩;ext pins s σ H v u Q I r hw;let⟨a,xs,e1,hq,hl,hw⟩:=hw;subst e1;cases r
 let⟨az,rv,ht,hz⟩:=I.tuple hq;calc assign_Tuple_tuple (I.ok.hd hc) ht (by simp[hn,<-hl,rv.length]) iS λh' hx=>?_;let I1:Inv X pins σ H {s with heap:=h'}:=I.kept (t':=s.toks) λb o e=>hx b o (q0b (Ze e)) e;calc h pins _ σ H xs _ Q I1 rv⁻¹ hw
def uR(to ti:TE)(t:qZ):TG:=λv σ H Q=>to σ H λo H1=>ti σ H1 λi H2=>t o i v H2 λH3=>Q σ H3
theorem Aq{o i:l}{to ti:TE}{t:qZ}(ho:JE X o to)(hi:JE X i ti)(hs:uQ X t)
  (ha:∀v,assign (.Subscript o i pos) X.env v=(do
   let ov <- holding [v] (eval o X.env)
   let iv <- holding [v,ov] (eval i X.env)
   standAt pos
   holding [v,ov,iv] (setItem ov iv v)
   release [v,ov,iv] []):=by ext _;rfl):JG X (.Subscript o i pos) (uR to ti t):=by
 calc⟨?_⟩;ext pins s σ H v u Q I r h;rw[ha];calc rH (q0H (bL (ho pins s σ H _ I h) λov s1 ⟨x,H1,I1,r1,q1⟩=>?_));calc rH (q0H (bL (hi pins s1 σ H1 _ I1 q1) λiv s2 ⟨y,H2,I2,r2,q2⟩=>?_));calc rH (q2Y (rH (q0H (bL (hs pins s2 σ H2 x y v ov iv u _ I2 r1 r2 r q2) λ_ s3 h0_=>el3 h0_ λH3 I3 q3=>?_))));calc wpAny_release ⟨σ,H3,I3,q3⟩
def lY(te:TE)(g:TG):TS:=λD σ H=>te σ H λx H1=>g x σ H1 D.nx
theorem xt{tg e:l}{te:TE}{g:TG}(he:JE X e te)(hg:JG X tg g)(hs:swapsWithSole [tg] e pos.line X.env=pure ι:=by rfl)(hw:swappedStores [tg] e X.env=pure Z:=by rfl)
  (h1:(assignEach [tg] X.env).map (·.2)=[assign tg X.env]:=by rfl):JS X (.Assign [tg] e pos) (lY te g):=by
 calc⟨?_⟩;ext pins s σ H D I h;calc wpAny_Assign_stores (bL (he pins s σ H _ I h) λv s1 ⟨x,H1,I1,r1,q1⟩=>?_) hs hw;rw[h1];calc bL (hg pins s1 σ H1 x v _ I1 r1 q1) λ_ s2 q=>q
theorem Ar{i:Nat}{x:J}{e:l}{te:TE}{pos':Ε}(hN:X.N.Nodup)(hi:X.N[i]?=U x)(hx:Loc X.env.scope x)(he:JE X e te)(hs:swapsWith e (U (.Name x pos')) pos.line X.env=pure ι:=by rfl)(hf:gZ X x:=by first|exact .inl Y|exact .inr Y|assumption):
  JS X (.Assign [.Name x pos'] e pos) (lY te (xp i)):=by
 calc⟨?_⟩;ext pins s σ H D I h;calc wpAny_Assign_Name (bL (he pins s σ H _ I h) λv s1 ⟨y,H1,I1,r1,q1⟩=>?_) hs;calc GH I1 hN hi hx r1 (λs2 I2=>⟨_,H1,I2,q1⟩) hf
end
structure It where
 go:Nat->Hp->Prop
 sZ:Nat->Hp->V->Hp->Prop
 stop:Nat->Hp->Prop
def b7(X:Cx)(pins:aL)(H:Hp)(b:O):Prop :=
 H b=Z/\b≠X.env.locals/\b∉X.fs/\(b∈X.ex\/⇑X.s₀<=b)/\(∀x c,X.env.cells.lookup x=U c->c≠b)/\∀p∈X.pn++pins,p.1≠b
theorem Inv.g8{X:Cx}{pins:aL}{σ:St}{H H':Hp}{s:B}{b:O}(I:Inv X pins σ H s)(hb:⇑s<=b)(hn:H' b=Z):b7 X pins H' b:=by
 refine⟨hn,q1I (q0j I.lt hb),I.Ab hb,.inr (q0w I.sz hb),λx c e z=>?_,λp hp z=>?_⟩
 .let⟨v,q⟩:=I.cell x c e
  exact absurd (q0j q.lt (by rw[z];calc hb)) (q1E _)
 .calc absurd (q0j (Ze (I.pin p hp).1) (by rw[z];calc hb)) (q1E _)
structure Turn(P:t)(w:S)(K:My)(tg:l)(J:It)(fp:-O)(it:O)(tn:Nat->I->Prop):Prop where
 mem:it∈fp
 obj:∀i h,tn i h->∀b∈fp,∃o,h.get? b=U o/\∀v,o.data≠.cell v
 keep:∀i h h',tn i h->(∀b∈fp,∀o,h.get? b=U o->h'.get? b=U o)->tn i h'
 item:∀(X:Cx),X.prog=P->X.w=w->X.K=K->X.calm=θ->∀(i:Nat)(pins:aL)(s:B)(σ:St)(H:Hp)(E:bA),Inv X pins σ H s->(∀b∈fp,b7 X pins H b)->tn i s.heap->J.go i H →
  M (g P w) X.A (pyNext (.ref it)) (λr s1=>∃u,r=U u ∧
   M (g P w) X.A (letOwnedTupleGo tg (.ref it) u) (λ_ s2=>∃x H',Inv X pins σ H' s2/\RelV x u/\J.sZ i H x H'/\tn (i+1) s2.heap/\∀b∈fp,H' b=Z) E s1) E s
 done:∀(X:Cx),X.prog=P->X.w=w->X.K=K->X.calm=θ->∀(i:Nat)(pins:aL)(s:B)(σ:St)(H:Hp)(E:bA),Inv X pins σ H s->(∀b∈fp,b7 X pins H b)->tn i s.heap->J.stop i H →
  M (g P w) X.A (pyNext (.ref it)) (λr s1=>r=Z/\Inv X pins σ H s1) E s
 self:∀(A:Β)(i:Nat)(s:B)(Q:bA)(E:bA),tn i s.heap->Q (.ref it) s->M (g P w) A (pyIter (.ref it)) Q E s
abbrev TI:=St->Hp->(It->Hp->Prop)->Prop
def As(X:Cx)(pins:aL)(σ:St)(tg:l)(R:It->Hp->Prop)(Au:L)(s2:B):Prop :=
 ∃(it:O)(fp:-O)(tn:Nat->I->Prop)(J:It)(H':Hp),Au=.ref it/\Inv X pins σ H' s2/\Turn X.prog X.w X.K tg J fp it tn/\tn 0 s2.heap/\(∀b∈fp,b7 X pins H' b)/\R J H'
structure JI(X:Cx)(tg iter:l)(wi:TI):Prop where
 out:∀(pins:aL)(s:B)(σ:St)(H:Hp)(R:It->Hp->Prop),Inv X pins σ H s->wi σ H R →
  M (g X.prog X.w) X.A (eval iter X.env) (λv s1=>M (g X.prog X.w) X.A (pyIter v) (As X pins σ tg R) X.xe s1) X.xe s
instance {X:Cx} {tg iter:l} {wi:TI}:CoeFun (JI X tg iter wi) (λ_=>∀(pins:aL)(s:B)(σ:St)(H:Hp)(R:It->Hp->Prop),Inv X pins σ H s->wi σ H R->M (g X.prog X.w) X.A (eval iter X.env) (λv s1=>M (g X.prog X.w) X.A (pyIter v) (As X pins σ tg R) X.xe s1) X.xe s):=⟨JI.out⟩
theorem Av {M:Model} {A:Β} {E:bA} {s:B} {tg:l} {it:O} {u:L} {o:Γ} {n:String} {vs:Array L} {Q:Unit->B->Prop} (ho:s.heap.get? it=U o) (hc:o.cls = .type n) (hd:o.data = .fields vs)
  (hn:["enumerate", "zip", "dict_itemiterator", "dict_reverseitemiterator", "odict_iterator", "itertools.zip_longest", "itertools.pairwise"].contains n=ι) (hQ:Q () s):ρ M A (letOwnedTupleGo tg (.ref it) u) Q E s:=by
 unfold letOwnedTupleGo
 cases tg<;>first
  | exact HA hQ
  | (cases u<;>first
    | exact HA hQ
    | (refine rH (q7b ho ?_)
       rw[hc,hd];show ρ M A (if (["enumerate", "zip", "dict_itemiterator", "dict_reverseitemiterator", "odict_iterator", "itertools.zip_longest", "itertools.pairwise"].contains n && vs[0]? == U (rawInt _))=θ then _ else _) Q E s;rw[q0c (by ext h;rw[hn,q5n] at h;cases h)]
       calc HA hQ))
noncomputable def GP(K:My)(a:O):It :=
 ⟨λi H=>∃xs x,bU K H a xs/\xs[i]?=U x,λi H x H'=>H'=H/\∀xs,bU K H a xs->xs[i]?=U x,λi H=>∃xs,bU K H a xs/\↑xs<=i⟩
noncomputable def GQ(K:My)(a:O):It :=
 ⟨λi H=>∃xs x,b8 K H a xs/\xs[i]?=U x,λi H x H'=>H'=H/\∀xs,b8 K H a xs->xs[i]?=U x,λi H=>∃xs,b8 K H a xs/\↑xs<=i⟩
noncomputable def uS(lo:Int)(n:Nat):It:=⟨λi _=>i<n,λi H x H'=>H'=H/\x=.int (lo+i),λi _=>n<=i⟩
theorem N7{P:t}{w:S}{K:My}{tg:l}(a it:O):Turn P w K tg (GP K a) [it] it (λi h=>h.IsListIter it a i) where
 mem:=by simp
 obj:=λi h st b hb=>by
  let e:b=it:=by simpa using hb
  subst e;let⟨o,e,c,d⟩:=st;exact⟨o,e,λv z=>by rw[d] at z;cases z⟩
 keep:=λi h h' st k=>st.at λo e=>k it (by simp) o e
 item:=by
  ext X hP hw hK hc i pins s σ H E I hf st hg;subst hP hw hK;let⟨xs,x,hq,hx⟩:=hg;let⟨az,rv,p,hz⟩:=I.list hq;let⟨u,hu,ru⟩:=rv.get hx;let⟨f0,f1,f2,f3,f4,f5⟩:=hf it (by simp);calc wpAny_pyNext_list_item st p.isList (x:=u) hu⁻¹ λh' gi sb=>?_;let I1:Inv X pins σ H {s with heap:=h'}:=I.turned (t':=s.toks) (λb o hb e=>(sb.2 b hb).trans e) f0 f1 f3 f4 f5;let⟨o,e,c,d⟩:=id gi;exact⟨u,Y,Av (s:={s with heap:=h'}) e c d (by decide) ⟨x,H,I1,ru,⟨Y,λys hy=>by rw[I.f9 hy hq];calc hx⟩,gi,λb hb=>(hf b hb).1⟩⟩
 done:=by
  ext X hP hw hK hc i pins s σ H E I hf st hg;subst hP hw hK;let⟨xs,hq,hx⟩:=hg;let⟨az,rv,p,hz⟩:=I.list hq;let⟨f0,f1,f2,f3,f4,f5⟩:=hf it (by simp);let hl:=↑rv;exact wpAny_pyNext_list_end (I.ok.hd hc) st p.isList (by simp;symm) λh' eb=>⟨Y,I.turned (t':=s.toks) (λb o hb e=>eb b o hb e) f0 f1 f3 f4 f5⟩
 self:=λ_ _ _ _ _ st h=>wpAny_pyIter_listiter st h
theorem N8{P:t}{w:S}{K:My}{tg:l}(a it:O):Turn P w K tg (GQ K a) [it] it (λi h=>h.IsTupleIter it a i) where
 mem:=by simp
 obj:=λi h st b hb=>by
  let e:b=it:=by simpa using hb
  subst e;let⟨o,e,c,d⟩:=st;exact⟨o,e,λv z=>by rw[d] at z;cases z⟩
 keep:=λi h h' st k=>st.at λo e=>k it (by simp) o e
 item:=by
  ext X hP hw hK hc i pins s σ H E I hf st hg;subst hP hw hK;let⟨xs,x,hq,hx⟩:=hg;let⟨az,rv,p,hz⟩:=I.tuple hq;let⟨u,hu,ru⟩:=rv.get hx;let⟨f0,f1,f2,f3,f4,f5⟩:=hf it (by simp);calc wpAny_pyNext_tuple_item st (show s.heap.IsTuple a az.toArray from p) (x:=u) hu⁻¹ λh' gi sb=>?_;let I1:Inv X pins σ H {s with heap:=h'}:=I.turned (t':=s.toks) (λb o hb e=>(sb.2 b hb).trans e) f0 f1 f3 f4 f5;let⟨o,e,c,d⟩:=id gi;exact⟨u,Y,Av (s:={s with heap:=h'}) e c d (by decide) ⟨x,H,I1,ru,⟨Y,λys hy=>by rw[I.fj hy hq];calc hx⟩,gi,λb hb=>(hf b hb).1⟩⟩
 done:=by
  ext X hP hw hK hc i pins s σ H E I hf st hg;subst hP hw hK;let⟨xs,hq,hx⟩:=hg;let⟨az,rv,p,hz⟩:=I.tuple hq;let⟨f0,f1,f2,f3,f4,f5⟩:=hf it (by simp);let hl:=↑rv;exact wpAny_pyNext_tuple_end (I.ok.hd hc) st (show s.heap.IsTuple a az.toArray from p) (by simp;symm) λh' eb=>⟨Y,I.turned (t':=s.toks) (λb o hb e=>eb b o hb e) f0 f1 f3 f4 f5⟩
 self:=λ_ _ _ _ _ st h=>wpAny_pyIter_tupleiter st h
theorem N9{P:ψ}{w:S}{K:My}{tg:l}(it:O)(lo:Int)(n:Nat):Turn P w K tg (uS lo n) [it] it (λi h=>IsRangeIter h it (lo+(i:Nat)*1) ((n:Int)-(i:Nat)) 1) where
 mem:=by simp
 obj:=λi h st b hb=>by
  let e:b=it:=by simpa using hb
  subst e
  exact⟨_,st,λv z=>by
   let z':Data.fields _=Data.cell v:=z
   cases z'⟩
 keep:=λi h h' st k=>k it (by simp) _ st
 item:=by
  ext X hP hw hK hc i pins s σ H E I hf st hg;subst hP hw hK;let⟨f0,f1,f2,f3,f4,f5⟩:=hf it (by simp);let W:=Walks.range (prog:=X.prog) (w:=X.w) (I.ok.hd hc) it lo 1 n;calc W.item i s _ _ hg st λv h' tk hv gi kk=>?_;let⟨t,rfl⟩:=hv;let I1:Inv X pins σ H {s with heap:=h',toks:=tk}:=I.turned (λb o hb e=>kk b o hb⁻¹ e) f0 f1 f3 f4 f5;calc⟨_,Y,Av (s:={s with heap:=h',toks:=tk}) (n:="range_iterator") gi Y Y (by decide) ⟨.int (lo+i),H,I1,⟨t,?_⟩,⟨Y,Y⟩,gi,λb hb=>(hf b hb).1⟩⟩;rw[q9g]
 done:=by
  ext X hP hw hK hc i pins s σ H E I hf st hg;subst hP hw hK;let⟨f0,f1,f2,f3,f4,f5⟩:=hf it (by simp);exact wpAny_pyNext_range_end (I.ok.hd hc) st (by let:n<=i:=hg;symm) λh' eb=>⟨Y,I.turned (t':=s.toks) (λb o hb e=>eb b o hb e) f0 f1 f3 f4 f5⟩
 self:=λ_ _ _ _ _ st h=>wpAny_pyIter_rangeiter st h
section
variable{X:Cx}{tg:l}
theorem GR{pins:aL}{σ:St}{H:Hp}{s:B}{R:It->Hp->Prop}{E:bA}{lo hi:Int}{t u v:Tok}{tk:Nat}(I:Inv X pins σ H s)(h1 : -(2 ^ 62)<=lo)(h2:lo<2 ^ 62)(h3 : -(2 ^ 62)<=hi)(h4:hi<2 ^ 62)
  (q:R (uS lo (hi-lo).toNat) H):M (g X.prog X.w) X.A (pyIter (.ref ⇑s)) (As X pins σ tg R) E {s with heap:=s.heap.push {cls:=.type "range",data:=.fields #[.int lo t,.int hi u,.int 1 v]},toks:=tk}:=by
 calc wpAny_pyIter_range (IsRange.new ..) (small_one h1 h2 h3 h4) ?_;let I1:Inv X pins σ H {s with heap:=s.heap.push {cls:=.type "range",data:=.fields #[.int lo t,.int hi u,.int 1 v]},toks:=tk}:=I.kept λb o e=>u7 _ e
 refine⟨(s.heap.push {cls:=.type "range",data:=.fields #[.int lo t,.int hi u,.int 1 v]}).objs.size,[(s.heap.push {cls:=.type "range",data:=.fields #[.int lo t,.int hi u,.int 1 v]}).objs.size],_,_,H,Y,
  I1.kept (t':=tk) λb o e=>u7 _ e,N9 _ lo (hi-lo).toNat,?_,λb hb=>?_,q⟩
 .let e1:lo+((0:Nat):Int)*1=lo:=by simp
  let e2:(((hi-lo).toNat:Nat):Int)-((0:Nat):Int)=q4w lo hi 1:=by rw[q7C];split<;>symm
  show IsRangeIter _ _ (lo+((0:Nat):Int)*1) ((((hi-lo).toNat:Nat):Int)-((0:Nat):Int)) 1;rw[e1,e2];exact Zg _ Y
 .let e:b=(s.heap.push {cls:=.type "range",data:=.fields #[.int lo t,.int hi u,.int 1 v]}).objs.size:=by simpa using hb
  subst e;calc I1.g8 (Hz _) (I1.bu.fresh (Hz _))
def N_(ta:TA):TI:=fun σ H R=>ta σ H λvs H1=>∃j:Int,vs=[.int j] /\ -(2 ^ 62)<=j/\j<2 ^ 62/\R (uS 0 j.toNat) H1
def Oa(ta:TA):TI:=fun σ H R=>ta σ H λvs H1=>∃i j:Int,vs=[.int i,.int j]/\(-(2 ^ 62)<=i/\i<2 ^ 62 /\ -(2 ^ 62)<=j/\j<2 ^ 62)/\R (uS i (j-i).toNat) H1
theorem Ob{a:l}{ta:TA}{p pos:y}(hg:Gl X "range")(hm:X.mg "range" = Z)(ha:JA X [a] ta)(hs:starEach [a] X.env=[(ι,eval a X.env)]:=by rfl):JI X tg (.Call (.Name "range" p) [a] [] pos) (N_ ta):=by
 calc⟨?_⟩;ext pins s σ H R I h;calc Call_ (nX I hg hm boot_range (q1o (bL (ha pos pins s σ H _ I h) λus s1 ⟨vs,H1,I1,r1,q1⟩=>?_) hs Y));let⟨j,e,q1,q2,q⟩:=q1;subst e
 cases r1 with
 |cons r rr =>
  cases rr
  let⟨t,rfl⟩:=r;calc call_range_1 (GR I1 ⋯ ⋯ q1 q2 q⁻¹)
theorem Oc{a b:l}{ta:TA}{p pos:y}(hg:Gl X "range")(hm:X.mg "range" = Z)(ha:JA X [a,b] ta)(hs:starEach [a,b] X.env=[(ι,eval a X.env),(ι,eval b X.env)]:=by rfl)(eQ:starEach [b] X.env=[(ι,eval b X.env)]:=by rfl):
  JI X tg (.Call (.Name "range" p) [a,b] [] pos) (Oa ta):=by
 calc⟨?_⟩;ext pins s σ H R I h;calc Call_ (nX I hg hm boot_range (q1o (bL (ha pos pins s σ H _ I h) λus s1 ⟨vs,H1,I1,r1,q1⟩=>?_) (by rw[hs,eQ]) (by rw[eQ];rfl)));let⟨i,j,e,⟨q1,q2,q3,q4⟩,q⟩:=q1;subst e
 cases r1 with
 |cons r rr =>
  cases rr with
  |cons r' rr =>
   cases rr
   let⟨t,rfl⟩:=r;let⟨t',rfl⟩:=r';calc call_range_2 (GR I1 q1 q2 q3 q4 q)
def Aw(wi:TI)(g:TG)(tb:TS):TS:=λD σ H=>wi σ H λJ H1=>∃W:Nat->Nat->St->Hp->Prop,(∃m,W 0 m σ H1)/\∀i m σ H,W i m σ H →
 (J.stop i H/\D.nx σ H)\/(J.go i H/\∃N:St->Hp->Prop,(∀σ' H',N σ' H'->∃m',m'<m/\W (i+1) m' σ' H')/\∀x H',J.sZ i H x H'->g x σ H' fun σ2 H2=>tb {D with nx:=N,ct:=N,bk:=D.nx} σ2 H2)
noncomputable def uT(fp:-O)(h:I):-(O×Q):=fp.filterMap λb=>(h.get? b).map λo=>(b,o)
theorem xu{fp:-O}{h:I}{b:O}{o:Q}(hb:b∈fp)(e:h.get? b=U o):(b,o)∈uT fp h:=q23.mpr ⟨b,hb,by rw[e];rfl⟩
theorem Od{fp:-O}{h:I}{p:O×Q}(hp:p∈uT fp h):p.1∈fp/\h.get? p.1=U p.2:=by
 let⟨b,hb,e⟩:=q23.mp hp
 cases q:h.get? b with
 |none=>rw[q] at e;cases e
 |some o =>
  rw[q] at e;let e':(b,o)=p:=q0v e;subst e';calc⟨hb,q⟩
theorem Inv.pinned{pins:aL}{σ:St}{H:Hp}{s:B}{fp:-O}(I:Inv X pins σ H s)(hf:∀b∈fp,b7 X pins H b)(ho:∀b∈fp,∃o,s.heap.get? b=U o/\∀v,o.data≠.cell v):Inv X (pins++uT fp s.heap) σ H s :=
 I.fU λp hp=>(q0u.mp hp).elim (λz=>I.pin p (q0k _ z)) λz=>by
  let⟨hb,e⟩:=Od z;let⟨f0,f1,f2,_⟩:=hf p.1 hb;let⟨o,e',d⟩:=ho p.1 hb;rw[e] at e';cases e';calc⟨e,f0,f1,f2,d⟩
theorem Inv.eR{pins pl:aL}{σ:St}{H:Hp}{s:B}(I:Inv X (pins++pl) σ H s):Inv X pins σ H s:=I.fU λp hp=>I.pin p (q0k _ (q1p _ hp))
theorem GS{iter:l}{body:-R}{wi:TI}{g:TG}{tb:TS}{pos:y}(hp:PassesOwn (ς X.prog X.w) X.A X.env X.xe)(hc:X.calm=θ)(hi:JI X tg iter wi)(hg:JG X tg g)(hb:dO X body tb)
  (hs:∀x,foldedSetIterable iter X.env x=pure x:=by ext _;rfl):JS X (.For tg iter body [] pos) (Aw wi g tb):=by
 calc⟨?_⟩;ext pins s σ H D I h;calc wpAny_For (bL (hi pins s σ H _ I h) λv s1 h1=>bL h1 λAu s2 h2=>?_) hs;let⟨it,fp,tn,J,H2,e,I2,T,j5,f2,W,⟨m0,w0⟩,turn⟩:=h2;subst e;let jD:∀{H':Hp},(∀b∈fp,H' b=Z)->∀b∈fp,b7 X pins H' b:=λhn b hb=>⟨hn b hb,(f2 b hb).2⟩;calc codeAny_forLoop_any (λn s'=>∃i σ' H',Inv X pins σ' H' s'/\tn i s'.heap/\(∀b∈fp,H' b=Z)/\W i n σ' H') ?_ m0 ⟨0,σ,H2,I2,j5,λb hb=>(f2 b hb).1,w0⟩;ext n s3 ⟨i,σ3,H3,I3,qa,uU,w3⟩;rcases turn i n σ3 H3 w3 with⟨stop,qn⟩|⟨go,N,hN,step⟩
 .refine q22 hp (bL (T.done X Y Y Y hc i pins s3 σ3 H3 X.xe I3 (jD uU) qa stop) λr s4 ⟨hr,I4⟩=>?_)
  subst hr;exact q3A ⟨σ3,H3,I4,qn⟩
 .refine q22 hp (bL (T.item X Y Y Y hc i pins s3 σ3 H3 X.xe I3 (jD uU) qa go) λr s4 ⟨u,hr,h4⟩=>?_)
  subst hr;calc q22 hp (bL h4 λ_ s5 ⟨x,H5,I5,r5,y5,q9,Ax⟩=>?_);let Ay:=I5.pinned (jD Ax) (T.obj _ _ q9);calc q22 hp (bL (hg _ s5 σ3 H5 x u _ Ay r5 (step x H5 y5)) λ_ s6 ⟨σ6,H6,I6,q6⟩=>?_);refine q22 hp (bL (hb _ s6 σ6 H6 _ I6 q6) λf s7 q7=>?_)
  let again:∀{σ7:St}{H7:Hp},Inv X (pins++uT fp s5.heap) σ7 H7 s7->N σ7 H7->∃m,m<n/\∃i σ' H',Inv X pins σ' H' s7/\tn i s7.heap/\(∀b∈fp,H' b=Z)/\W i m σ' H':=λ{σ7 H7} I7 n7=>by
   let⟨m',hm,w7⟩:=hN σ7 H7 n7;calc⟨m',hm,i+1,σ7,H7,I7.eR,T.keep _ _ _ q9 λb hb o e=>(I7.pin (b,o) (q0k _ (q0k _ (xu hb e)))).1,λb hb=>?_,w7⟩;let⟨o,e,d⟩:=T.obj _ _ q9 b hb;exact(I7.pin (b,o) (q0k _ (q0k _ (xu hb e)))).2.1
  cases f with
  |next=>let⟨σ7,H7,I7,n7⟩:=q7;exact again I7 n7
  |cont=>let⟨σ7,H7,I7,n7⟩:=q7;exact again I7 n7
  |brk=>let⟨σ7,H7,I7,q7⟩:=q7;exact⟨σ7,H7,I7.eR,q7⟩
  |ret v=>let⟨x7,σ7,H7,I7,r7,q7⟩:=q7;calc⟨x7,σ7,H7,I7.eR,r7,q7⟩
end
abbrev R2:=V->V->Hp->VK->Prop
def eI(X:Cx)(f:L->L->Sem L)(r:R2):Prop :=
 ∀(pins:aL)(s:B)(σ:St)(H:Hp)(x y:V)(v u:L)(Q:VK),Inv X pins σ H s->RelV x v->RelV y u->r x y H Q →
  M (g X.prog X.w) X.A (f v u) (EP X pins σ Q) X.xe s
def g9(X:Cx)(f:L)(r:-V->Hp->VK->Prop):Prop :=
 ∀(pins:aL)(s:B)(σ:St)(H:Hp)(xs:-V)(us:-L)(Q:VK),Inv X pins σ H s->Vals xs us->r xs H Q →
  M (g X.prog X.w) X.A (call f us) (EP X pins σ Q) X.xe s
def uV(r:R2)(ta tb:TE):TE:=fun σ H Q=>ta σ H λx H1=>tb σ H1 λy H2=>r x y H2 Q
def rI(C:Int->Int->Prop)(g:Int->Int->V):R2:=λx y H Q=>∃i j,x=.int i/\y=.int j/\C i j/\Q (g i j) H
def nZ(g:Int->Int->V):R2:=λx y H Q=>∃i j,x=.int i/\y=.int j/\Q (g i j) H
section
variable{X:Cx}{a b c:l}{ta tb tc:TE}{pos:y}
theorem q_(ha:JE X a ta)(hb:JE X b tb){pins:aL}{s:B}{σ:St}{H:Hp}{R:V->V->Hp->Prop}(I:Inv X pins σ H s)
  (h:ta σ H λx H1=>tb σ H1 λy H2=>R x y H2) {Q:bA} {f:L->L->Sem L}
  (hf:∀v u s2 x y H2,Inv X pins σ H2 s2->RelV x v->RelV y u->R x y H2->M (g X.prog X.w) X.A (f v u) Q X.xe s2) :
  M (g X.prog X.w) X.A (eval a X.env) (λv s₁=>M (g X.prog X.w) X.A (eval b X.env) (λu s₂=>M (g X.prog X.w) X.A (f v u) Q X.xe s₂) X.xe s₁) X.xe s:=by
 calc bL (ha pins s σ H _ I h) λv s1 ⟨x,H1,I1,r1,q1⟩=>?_;calc bL (hb pins s1 σ H1 _ I1 q1) λu s2 ⟨y,H2,I2,r2,q2⟩=>?_;calc hf v u s2 x y H2 I2 r1 r2 q2
theorem uW{op:Operator}{r:R2}(ho:eI X (binaryOp op) r)(ha:JE X a ta)(hb:JE X b tb):JE X (.BinOp a op b pos) (uV r ta tb):=by
 calc⟨?_⟩;ext pins s σ H Q I h;calc wpAny_BinOp (q_ ha hb I h λv u s2 x y H2 I2 rx ry q=>ho pins s2 σ H2 x y v u Q I2 rx ry q)
theorem xv{f:L->L->Sem L}{C:Int->Int->Prop}{g:Int->Int->Int}
  (rule:∀(i j:Int)(t u:Tok)(s:B)(Q:bA)(E:bA),C i j->Q (.int (g i j) s.toks) {s with toks:=s.toks+1}->M (ς X.prog X.w) X.A (f (.int i t) (.int j u)) Q E s) :
  eI X f (rI C λi j=>.int (g i j)):=by
 ext pins s σ H x y v u Q I rx ry h;let⟨i,j,rfl,rfl,hc,q⟩:=h;let⟨t,rfl⟩:=rx;let⟨t',rfl⟩:=ry;calc rule i j t t' s _ _ hc ⟨.int (g i j),H,I.tok _,⟨_,Y⟩,q⟩
theorem uX{f:L->L->Sem L}{g:Int->Int->Int}
  (rule:∀(i j:Int)(t u:Tok)(s:B)(Q:bA)(E:bA),Q (.int (g i j) s.toks) {s with toks:=s.toks+1}->M (ς X.prog X.w) X.A (f (.int i t) (.int j u)) Q E s) :
  eI X f (nZ λi j=>.int (g i j)):=by
 ext pins s σ H x y v u Q I rx ry h;let⟨i,j,rfl,rfl,q⟩:=h;let⟨t,rfl⟩:=rx;let⟨t',rfl⟩:=ry;calc rule i j t t' s _ _ ⟨.int (g i j),H,I.tok _,⟨_,Y⟩,q⟩
theorem n6{f:L->L->Sem L}{g:Int->Int->Bool}
  (rule:∀(i j:Int)(t u:Tok)(s:B)(Q:bA)(E:bA),Q (.bool (g i j)) s->M (ς X.prog X.w) X.A (f (.int i t) (.int j u)) Q E s) :
  eI X f (nZ λi j=>.bl (g i j)):=by
 ext pins s σ H x y v u Q I rx ry h;let⟨i,j,rfl,rfl,q⟩:=h;let⟨t,rfl⟩:=rx;let⟨t',rfl⟩:=ry;calc rule i j t t' s _ _ ⟨.bl (g i j),H,I,Y,q⟩
def g_(i j:Int):Prop:=0<=j/\j<=1000000/\i.natAbs<2 ^ 64
def kF(i j:Int):Prop:=(-(2 ^ 64)<i/\i<2 ^ 64)\/(-(2 ^ 64)<j/\j<2 ^ 64)
theorem kF.ok{i j:Int}(h:kF i j):IntMulOk i j:=by
 rcases h with⟨h1,h2⟩|⟨h1,h2⟩
 .exact .of_left (q7D h1 h2)
 .calc .of_right (q7D h1 h2)
theorem GU:eI X (binaryOp .Add) (nZ λi j=>.int (i+j)):=uX λ_ _ _ _ _ _ _ q=>add_int q
theorem Oe:eI X (binaryOp .Sub) (nZ λi j=>.int (i-j)):=uX λ_ _ _ _ _ _ _ q=>sub_int q
theorem Of:eI X (binaryOp .Mult) (rI kF λi j=>.int (i*j)):=xv λ_ _ _ _ _ _ _ hc q=>mul_int q hc.ok
theorem Az:eI X (binaryOp .Mod) (rI (λ_ j=>0<j) λi j=>.int (i%j)):=xv λi j _ _ _ _ _ hc q=>by
 let h1:(0:Int)<j:=hc;calc mod_int' ⋯ (by rw[Int.fmod_eq_emod_of_nonneg i ⋯];calc q)
theorem Og:eI X (binaryOp .Pow) (rI g_ λi j=>.int (i ^ j.toNat)):=xv λ_ _ _ _ _ _ _ hc q=>pow_int_small hc.1 hc.2.1 hc.2.2 q
theorem GV{pins:aL}{σ:St}{H:Hp}{s:B}{Q:VK}{k k':Bool}(I:Inv X pins σ H s)(q:Q (.bl k) H)(e:k=k'):EP X pins σ Q (.bool k') s:=by
 subst e;calc⟨.bl k,H,I,Y,q⟩
theorem Oh:eI X (compareOp .Lt) (nZ λi j=>.bl (G (i<j))):=n6 λ_ _ _ _ _ _ _ q=>lt_int q
theorem Oi:eI X (compareOp .LtE) (nZ λi j=>.bl (G (i<=j))):=n6 λ_ _ _ _ _ _ _ q=>le_int q
theorem Oj:eI X (compareOp .Gt) (nZ λi j=>.bl (G (j<i))):=n6 λ_ _ _ _ _ _ _ q=>gt_int q
theorem Ol:eI X (compareOp .GtE) (nZ λi j=>.bl (G (j<=i))):=n6 λ_ _ _ _ _ _ _ q=>ge_int q
theorem Om:eI X (compareOp .Is) (λx y H Q=>y=.non/\Q (.bl (G (x=.non))) H):=by
 ext pins s σ H x y v u Q I rx ry h;let⟨rfl,q⟩:=h;cases ry
 refine is_none_gen (GV I q ?_)
 cases x<;>first
  |(cases rx;rfl)
  |(let⟨t,rfl⟩:=rx;rfl)
theorem Oo:eI X (compareOp .IsNot) (λx y H Q=>y=.non/\Q (.bl (!G (x=.non))) H):=by
 ext pins s σ H x y v u Q I rx ry h;let⟨rfl,q⟩:=h;cases ry
 refine isnot_none_gen (GV I q ?_)
 cases x<;>first
  |(cases rx;rfl)
  |(let⟨t,rfl⟩:=rx;rfl)
theorem AA(b:l){op:CmpOp}(h:op≠.In:=by decide)(h2:op≠.NotIn:=by decide):behindInMarks op b=ι:=by
 let e1:(op==CmpOp.In)=ι:=by cases op<;>first|rfl|exact absurd Y h
 let e2:(op==CmpOp.NotIn)=ι:=by cases op<;>first|rfl|exact absurd Y h2
 cases b<;>simp[behindInMarks,e1,e2]
theorem Oq{op:CmpOp}{r:R2}(ho:eI X (compareOp op) r)(ha:JE X a ta)(hb:JE X b tb)(hm:behindInMarks op b=ι):JE X (.Compare a [op] [b] pos) (uV r ta tb):=by
 calc⟨?_⟩;ext pins s σ H Q I h;calc wpAny_Compare1 (q_ ha hb I h λv u s2 x y H2 I2 rx ry q=>ho pins s2 σ H2 x y v u Q I2 rx ry q) hm
def Ot(t:TE):TT:=fun σ H Q=>t σ H λx H'=>∃k,x=.bl k/\Q k H'
theorem Ou{op:CmpOp}{r:R2}(ho:eI X (compareOp op) r)(ha:JE X a ta)(hb:JE X b tb)(hm:behindInMarks op b=ι):JT X (.Compare a [op] [b] pos) (Ot (uV r ta tb)):=by
 calc⟨?_⟩;ext pins s σ H Q I h
 refine q4_ (bL (ha pins s σ H _ I h) λv s1 ⟨x,H1,I1,r1,q1⟩=>bL (hb pins s1 σ H1 _ I1 q1) λu s2 ⟨y,H2,I2,r2,q2⟩ =>
  bL (ho pins s2 σ H2 x y v u _ I2 r1 r2 q2) λc s3 ⟨z,H3,I3,r3,k,e,q3⟩=>?_) hm
 subst e;cases r3
 calc q1Y ⟨H3,I3,q3⟩
def Ov(r r':R2)(ta tb tc:TE):TE:=fun σ H Q=>ta σ H λx H1=>tb σ H1 λy H2=>r x y H2 λz H3=>∃k,z=.bl k ∧
 (if k=θ then tc σ H3 λw' H4=>r' y w' H4 Q else Q (.bl ι) H3)
theorem Ox{op rh:CmpOp}{r r':R2}(ho:eI X (compareOp op) r)(lW:eI X (compareOp rh) r')(ha:JE X a ta)(hb:JE X b tb)(hc:JE X c tc)
  (hm:lastMarks [op,rh] [b,c]=ι:=by with_unfolding_all rfl):JE X (.Compare a [op,rh] [b,c] pos) (Ov r r' ta tb tc):=by
 calc⟨?_⟩;ext pins s σ H Q I h
 refine Compare_chain (bL (ha pins s σ H _ I h) λv s1 ⟨x,H1,I1,r1,q1⟩=>chain_link (bL (hb pins s1 σ H1 _ I1 q1) λu s2 ⟨y,H2,I2,r2,q2⟩ =>
  bL (ho pins s2 σ H2 x y v u _ I2 r1 r2 q2) λd s3 ⟨z,H3,I3,r3,k,e,q3⟩=>?_)) hm
 subst e;cases r3
 refine q1Y ?_
 cases k with
 |false=>exact ite_ff ⟨.bl ι,H3,I3,Y,q3⟩
 |true=>calc ite_tt (chain_last (bL (hc pins s3 σ H3 _ I3 q3) λw' s4 ⟨z',H4,I4,r4,q4⟩↦lW pins s4 σ H4 y z' u w' Q I4 r2 r4 q4))
theorem s_:(sizeLine:Nat)<2 ^ 63:=by rw[q1O];decide
theorem Oy:eI X (binaryOp .Add) (λx y H Q=>∃i j,x=.str i/\y=.str j/\↑i+↑j<=sizeLine/\Q (.str (i++j)) H):=by
 ext pins s σ H x y v u Q I rx ry h;let⟨i,j,rfl,rfl,hz,q⟩:=h;let⟨t,rfl⟩:=rx;let⟨t',rfl⟩:=ry;calc add_str (λt' tk=>⟨.str (i++j),H,I.tok _,⟨_,Y⟩,q⟩) hz
theorem vals1{x:V}{us:-L}(r:Vals [x] us):∃u,us=[u]/\RelV x u:=by
 cases r with
 |cons r1 r2=>cases r2;calc⟨_,Y,r1⟩
theorem vals2{x y:V}{us:-L}(r:Vals [x,y] us):∃u w',us=[u,w']/\RelV x u/\RelV y w':=by
 cases r with
 |cons r1 r2 =>
  cases r2 with
  |cons r3 r4=>cases r4;calc⟨_,_,Y,r1,r3⟩
theorem Oz(hc:X.calm=θ):g9 X (.builtin "max") (λxs H Q=>∃i j,xs=[.int i,.int j]/\Q (.int (if j>i then j else i)) H):=by
 ext pins s σ H xs us Q I r h;let⟨i,j,rfl,q⟩:=h;let⟨u,w',rfl,⟨t,rfl⟩,⟨t',rfl⟩⟩:=vals2 r;refine max_two_ints (I.ok.hd hc) λh' tk k=>⟨_,H,I.kept k,?_,q⟩
 by_cases hj:j>i
 .rw[q0e hj,q0e hj];exact⟨_,Y⟩
 .rw[q0c hj,q0c hj];calc⟨_,Y⟩
theorem OA(hc:X.calm=θ):g9 X (.builtin "min") (λxs H Q=>∃i j,xs=[.int i,.int j]/\Q (.int (if j<i then j else i)) H):=by
 ext pins s σ H xs us Q I r h;let⟨i,j,rfl,q⟩:=h;let⟨u,w',rfl,⟨t,rfl⟩,⟨t',rfl⟩⟩:=vals2 r;refine min_two_ints (I.ok.hd hc) λh' tk k=>⟨_,H,I.kept k,?_,q⟩
 by_cases hj:j<i
 .rw[q0e hj,q0e hj];exact⟨_,Y⟩
 .rw[q0c hj,q0c hj];calc⟨_,Y⟩
end
structure jE(h:I)(x dx C:O)(mA:J->Option L):Prop where
 obj:h.get? x=U (q19 C dx)
 ns:h.Ns1 dx mA
 ne:dx≠x
theorem OB{h:I}{dx:O}{mA:J->Option L}(n:h.Ns1 dx mA):∃od,h.get? dx=U od/\∀name,q3Q name od=U (mA name):=by
 let⟨o,es,ep,ho,hd,hk,_,hm⟩:=n;calc⟨o,ho,λname=>?_⟩;let e:=hm name;unfold nsFind findBy at e;rw[<-Array.find?_toList] at e;unfold q3Q;rw[hd];dsimp only;split
 .rename_i y q
  rw[q] at e;exact congrArg U e
 .rename_i q
  rw[q] at e
  let a:es.toList.any (·.refKey)=ι:=by
   rw[q17];ext y hy;let⟨z,t,AB⟩:=hk y (Array.mem_toList_iff.mp hy);simp[DictEntry.refKey,AB]
  let a':¬ es.toList.any (·.refKey)=θ:=by rw[a];exact q0z
  rw[q0c a'];calc congrArg U e
theorem jE.look{h:Α}{x dx C:O}{mA:J->Option L}(I:jE h x dx C mA):∃od,PySem.W.InstAt h x (q19 C dx) C (U od)/\∀name,q3Q name od=U (mA name) :=
 let⟨od,ho,hl⟩:=OB I.ns
 ⟨od,⟨I.obj,Y,Y,ho⟩,hl⟩
section
variable{prog:t}{w:S}{A:o}{E:bA}{s:B}{K:My}{x dx C f:O}{mA:J->Option L}{name:J}{v:L}
theorem OC{expr:Bool}{Q:bA}(X:K.In s.heap)(I:jE s.heap x dx C mA)(hg:q3r K C name=θ)(hh:q4a K C=θ)
  (ha:q1s K (.ref C) name=U Z) (hv:mA name=U v) (xw:q6x v=θ) (h:Q v {s with toks:=s.toks+1}) :
  M (g prog w) A (getAttr (.ref x) name expr) Q E s:=by
 let⟨od,J,hl⟩:=I.look;calc PySem.W.get_value X J (q3G hg).1 (PySem.W.findObj_own hh ha Y (by rw[hl,hv])) xw h
theorem OD{pl:Sem Bool}{Q:L×-L->B->Prop}(X:K.In s.heap)(I:jE s.heap x dx C mA)(hg:q3r K C name=θ)
  (hf:q1s K (.ref C) name=U (U (.ref f))) (ht:q4M K (.ref f)=θ) (hv:mA name=Z) (h:Q (.ref f,[.ref x]) s) :
  M (g prog w) A (getMethod (.ref x) name pl) Q E s:=by
 let⟨od,J,hl⟩:=I.look;calc PySem.W.method_fn X J (q3G hg).1 (q3G hg).2 hf (q4N.mp ht) (by show(q3Q name od).map (·.isSome)=U ι;rw[hl,hv];rfl) h
theorem OE{ns:-π}{Q:Unit->B->Prop}(X:K.In s.heap)(I:jE s.heap x dx C mA)
  (hs:q1s K (.ref C) "__setattr__" = U (U (.builtin "object.__setattr__"))) (hp:q55 K C=θ) (ht:q4Y K C name=U Z) (hh:q4a K C=θ)
  (hw:q53 mA ns) (hsz:↑ns<=sizeLine)
  (h:∀h',jE h' x dx C (λy=>if y=name then U v else mA y)->q2E dx s.heap h'->Q () {s with heap:=h',toks:=s.toks+2}) :
  M (g prog w) A (setAttr (.ref x) name v) Q E s:=by
 let⟨od,J,hl⟩:=I.look;calc PySem.W.set_plain X J hs (PySem.W.osa_open (s:={s with toks:=s.toks+1}) (r:=none) X J hp ht λb=>?_);let⟨cd,hc,qY⟩:=PySem.W.any_some hh;let hx:s.heap.get? x=U ⟨.ref C,U dx,.plain,#[]⟩:=I.obj;calc rH (HA (rH (rH (wpAny_loadPart hx (rH (PySem.W.Looks.here (s:={s with toks:=s.toks+1}) (PySem.W.looks_clsIn X hc) ?_))))));rw[qY];calc HA (a:=U dx) (rH (HA (rH ?_)));calc wpAny_nsSet1 (s:={s with toks:=s.toks+1}) I.ns λh' xx eQ=>?_;let⟨oD,Y9,Y_,OF,OG,OH⟩:=xx.count (PySem.Within.cons name v hw);refine rH (wpAny_lookBehind OF (by rw[OG];calc pastItsLine_dict (q0w OH (by rw[HB];symm))) ?_)
 calc HA (h _ ⟨(eQ.2 _ (q2b I.ne)).trans I.obj,xx,I.ne⟩ eQ)
theorem OI{R:Result->B->Prop}{vs:-L}{kw:-(J×L)}(X:K.In s.heap)(hm:q6V K C=θ)
  (hi:q1s K (.ref C) "__init__" = U (U (.ref f))) (hf:PySem.W.typeIn K (.ref f)=U (.type "function"))
  (h:codeAny (ς prog w) (A.under (.builtin "type.__call__" ⟨.ref C::vs,kw⟩)) (.call (.ref f) ⟨.ref (⇑s+1)::vs,kw⟩) (PySem.W.InitBack (⇑s+1) R)
   {s with heap:=(s.heap.push q1B).push (q19 C ⇑s)}) :
  codeAny (ς prog w) A (.call (.ref C) ⟨vs,kw⟩) R s:=by
 let⟨hh,g,d,t,os⟩:=s;calc PySem.W.make_core (PySem.W.makes_of X hm) (PySem.W.looks_findIn X hi) (λself=>PySem.W.bind_fn X self hf) (.inl Y) h
end
noncomputable def cY(f:J)(v:V):-(J×V)->-(J×V)
 |[]=>[(f,v)]
 |(g,x)::r=>if g=f then(g,v)::r else(g,x)::cY f v r
theorem GW(f g:J)(v:V):∀fs:-(J×V),(cY f v fs).lookup g=if g=f then U v else fs.lookup g
 |[]=>by
  show q2D g [(f,v)]=_
  by_cases h:g=f
  .let hb:(g==f)=θ:=q4N.mpr h
   erw[q2D,hb,q0e h]
  .let hb:(g==f)=ι:=q2x.mpr h
   erw[q2D,hb,q0c h]
 |(k,x)::r=>by
  let ih:=GW f g v r;rw[show cY f v ((k,x)::r)=(if k=f then(k,v)::r else(k,x)::cY f v r) from Y]
  by_cases hk:k=f
  .rw[q0e hk]
   by_cases h:g=k
   .let hb:(g==k)=θ:=q4N.mpr h
    erw[q2D,hb,q0e (h.trans hk)]
   .let hb:(g==k)=ι:=q2x.mpr h
    erw[q2D,hb,q0c (λe:g=f=>h (e.trans hk.symm))]
  .rw[q0c hk]
   by_cases h:g=k
   .let hb:(g==k)=θ:=q4N.mpr h
    erw[q2D,hb,q0c (λe:g=f=>hk (h.symm.trans e))]
   .let hb:(g==k)=ι:=q2x.mpr h
    erw[q2D,hb];calc ih
theorem AD(f:J)(v:V):∀fs:-(J×V),f∈(cY f v fs).map (·.1)/\∀g,g∈fs.map (·.1)->g∈(cY f v fs).map (·.1)
 |[]=>⟨by simp[cY],λg h=>by simp at h⟩
 |(k,x)::r=>by
  let⟨i1,i2⟩:=AD f v r;rw[show cY f v ((k,x)::r)=(if k=f then(k,v)::r else(k,x)::cY f v r) from Y]
  by_cases hk:k=f
  .rw[q0e hk]
   subst hk;exact⟨by simp,λg h=>by simpa using h⟩
  .rw[q0c hk]
   refine⟨?_,λg h=>?_⟩
   .rw[q0m]
    exact q0g _ i1
   .rw[q0m] at h ⊢
    rcases PC.mp h with e|e
    .exact PC.mpr (.inl e)
    .calc q0g _ (i2 g e)
theorem GX(f:J)(v:V):∀fs:-(J×V),↑(cY f v fs)<=fs.length+1
 |[]=>by simp[cY]
 |(k,x)::r=>by
  let ih:=GX f v r;rw[show cY f v ((k,x)::r)=(if k=f then(k,v)::r else(k,x)::cY f v r) from Y]
  by_cases hk:k=f
  .rw[q0e hk,HB,HB];symm
  .rw[q0c hk,HB,HB];symm
theorem dE.some_of{v:V}{o:Option L}(r:dE (U v) o):∃u,o=U u/\RelV v u:=by
 cases o with
 |none=>exact(show False from r).elim
 |some u=>calc⟨u,Y,r⟩
theorem dE.none_of{o:Option L}(r:dE Z o):o=Z:=by
 cases o with
 |none=>rfl
 |some u=>calc(show False from r).elim
theorem OJ{v:V}{u:L}(r:RelV v u):q6x u=θ:=by
 cases v with
 |non=>cases(show u=q0y from r);rfl
 |bl b=>cases(show u=q2I b from r);rfl
 |int i=>let⟨t,e⟩:=(show ∃t,u=q0X i t from r);cases e;rfl
 |str x=>let⟨t,e⟩:=(show ∃t,u=q4t x t from r);cases e;rfl
 |byt b=>let⟨t,e⟩:=(show ∃t,u=Value.bytes b t from r);cases e;rfl
 |flt b=>let⟨t,e⟩:=(show ∃t,u=q6K b t from r);cases e;rfl
 |ref a=>cases(show u=q0F a from r);rfl
 |ty n=>cases(show u=q1L n from r);rfl
section
variable{P:t}{w:S}{H H':Hp}{h h':I}{a C dx:O}{fs NF:-(J×V)}
theorem xy(bu:eG P w H h)(e:H a=U (.ins C dx fs)):∃mA,jE h a dx C mA/\(∀f,dE (fs.lookup f) (mA f))/\q53 mA (fs.map (·.1))/\fs.length<=1000/\H dx=U (.own a):=by
 let⟨d,z,ne,ob,mA,n,r,q⟩:=(show bw P w H h a (.ins C dx fs) from bu a _ e);calc⟨mA,⟨ob,n,ne⟩,r,q,z,d⟩
end
structure j7(K:My)(C:O):Prop where
 pg:q3r K C Str.empty=θ
 hd:q4a K C=θ
 po:q55 K C=θ
 sa:q1s K (.ref C) "__setattr__" = U (U (.builtin "object.__setattr__"))
theorem j7.get{K:My}{C:O}(c:j7 K C)(f:J):q3r K C f=θ:=c.pg
def cM(K:My)(C:O)(f:J):Prop:=q1s K (.ref C) f=U Z
theorem cM.uY{K:My}{C:O}{f:J}(n:cM K C f):q4Y K C f=U Z:=by
 unfold q4Y;rw[show q1s K (.ref C) f=U Z from n];rfl
structure Meth(K:My)(C:O)(m:J)(f:O):Prop where
 at_:q1s K (.ref C) m=U (U (.ref f))
 fn:q4M K (.ref f)=θ
 kp:q09 K (.ref f)=θ
section
variable{X:Cx}{pins:aL}{σ:St}{H:Hp}{s:B}{a C dx:O}{fs:-(J×V)}{f:J}{v:V}{A:o}{E:bA}
theorem OK{b:Bool}{Q:bA}(I:Inv X pins σ H s)(e:H a=U (.ins C dx fs))(c:j7 X.K C)(n:cM X.K C f)(l:fs.lookup f=U v)
  (h:∀u s',Inv X pins σ H s'->RelV v u->Q u s'):M (g X.prog X.w) A (getAttr (.ref a) f b) Q E s:=by
 let⟨mA,O,r,_,_,_⟩:=xy I.bu e;let⟨u,hu,ru⟩:=dE.some_of (v:=v) (o:=mA f) (by rw[<-l];calc r f);calc OC I.fF O (c.get f) c.hd n hu (OJ ru) (h u _ (I.tok _) ru)
theorem OL{m:J}{g:ξ}{pl:Sem Bool}{Q:L×-L->B->Prop}(I:Inv X pins σ H s)(e:H a=U (.ins C dx fs))(c:j7 X.K C)(k:Meth X.K C m g)(l:fs.lookup m=Z)
  (h:Q (.ref g,[.ref a]) s):M (ς X.prog X.w) A (getMethod (.ref a) m pl) Q E s:=by
 let⟨mA,O,r,_,_,_⟩:=xy I.bu e;let hn:mA m=Z:=dE.none_of (by rw[<-l];calc r m);calc OD I.fF O (c.get m) k.at_ k.fn hn h
theorem OM{y:V}{u:L}{Q:Unit->B->Prop}(I:Inv X pins σ H s)(e:H a=U (.ins C dx fs))(c:j7 X.K C)(n:cM X.K C f)(hl:fs.length<1000)(ry:RelV y u)
  (h:∀s',Inv X pins σ (upd H a (.ins C dx (cY f y fs))) s'->Q () s'):M (ς X.prog X.w) A (setAttr (.ref a) f u) Q E s:=by
 let⟨mA,O,r,wi,_,ho⟩:=xy I.bu e;let hz:↑(fs.map (·.1))<=sizeLine:=by rw[Ba,q1O];symm
 calc OE I.fF O c.sa c.po n.uY c.hd wi hz λh' O' sb=>h _ ?_;let hd:∃o,h'.get? dx=U o:=let⟨o,_,_,e',_⟩:=O'.ns;⟨o,e'⟩;calc I.write (x:=a) (e:=dx) (by rw[e];calc q14) (.inr ho) (λb q hb z=>(sb.2 b hb).trans z) hd ?_;refine⟨by rw[bF O.ne];calc ho,?_,O.ne,O'.obj,_,O'.ns,λg=>?_,λg hg=>?_⟩
 .let:=GX f y fs;symm
 .show dE ((cY f y fs).lookup g) (if g=f then U u else mA g)
  rw[GW]
  by_cases q:g=f
  .rw[q0e q,q0e q];exact ry
  .rw[q0c q,q0c q];exact r g
 .by_cases q:g=f
  .rw[q];exact(AD f y fs).1
  .refine (AD f y fs).2 g (wi g λz=>hg ?_)
   show(if g=f then U u else mA g)=Z;rw[q0c q];calc z
theorem Inv.made(I:Inv X pins σ H s):Inv X pins σ (upd (upd H ⇑s (.own (⇑s+1))) (⇑s+1) (.ins C ⇑s []))
  {s with heap:=(s.heap.push q1B).push (q19 C ⇑s)}:=by
 let e1:(s.heap.push q1B).get? ⇑s=U q1B:=Zg s.heap Y
 let e2:((s.heap.push q1B).push (q19 C ⇑s)).get? (⇑s+1)=U (q19 C ⇑s):=by
  let:=Zg (s.heap.push q1B) (o:=q19 C ⇑s) Y
  rwa [q0T] at this
 let e3:(s.heap.push q1B).Ns ⇑s (λ_=>Z):=⟨q1B,#[],_,e1,Y,(λe he=>absurd he (by simp)),λ_=>Y⟩;let I1:=I.laid (a:=s.heap.objs.size) (o:=.own (⇑s+1)) (h':=s.heap.push q1B) (t':=s.toks) (λb u q=>u7 _ q) (Hz _) ⟨_,e1⟩;calc I1.laid (a:=⇑s+1) (o:=.ins C ⇑s []) (t':=s.toks) (λb u q=>u7 _ q) (q56 (q0T _ _)) ?_;let ne:⇑s≠⇑s+1:=q0b (q0N _);calc⟨by rw[bF ne,cz],q0Z _,ne,e2,λ_=>Z,(Heap.Ns1.of_empty e3).at λo q=>u7 _ q,λ_=>q14,λy hy=>absurd Y hy⟩
theorem OO{prog:t}{w:S}{env:Ζ}{e:l}{f:J}{pos:y}{s:B}{Q:bA}(hb:attributeBase e f env (eval e env)=eval e env)
  (h:M (g prog w) A (eval e env) (λo s₁=>M (g prog w) A (getAttr o f θ) Q E s₁) E s):M (g prog w) A (eval (.Attribute e f pos) env) Q E s :=
 Attribute_any_ h (by rw[arm_eval_Attribute,hb])
end
def AE(K:My)(ta:TE)(f:J):TE:=fun σ H Q=>ta σ H λx H1=>∃a C dx fs v,x=.ref a/\H1 a=U (.ins C dx fs)/\j7 K C/\cM K C f/\fs.lookup f=U v/\Q v H1
def AF(K:My)(ta tv:TE)(f:J):TS:=λD σ H=>tv σ H λy H1=>ta σ H1 λx H2=>∃a C dx fs,x=.ref a/\H2 a=U (.ins C dx fs)/\j7 K C/\cM K C f/\fs.length<1000 ∧
 D.nx σ (upd H2 a (.ins C dx (cY f y fs)))
section
variable{X:Cx}{o e value:l}{f:J}{pos pos' AG:y}{ta tv:TE}
theorem OP(he:JE X e ta)(hb:attributeBase e f X.env (eval e X.env)=eval e X.env):JE X (.Attribute e f pos) (AE X.K ta f):=by
 calc⟨?_⟩;ext pins s σ H Q I h;calc OO hb (bL (he pins s σ H _ I h) λu s1 ⟨x,H1,I1,rx,a,C,dx,fs,v,ex,ea,c,n,l,q⟩=>?_);subst ex;obtain rfl:u=q0F a:=rx;calc OK I1 ea c n l λu' s2 I2 ru=>⟨v,H1,I2,ru,q⟩
theorem OQ(ha:JE X o ta)(hv:JE X value tv)(hs:swapsWith value (U (.Attribute o f pos')) pos.line X.env=pure ι):JS X (.Assign [.Attribute o f pos'] value pos) (AF X.K ta tv f):=by
 calc⟨?_⟩;ext pins s σ H D I h;calc plainObj_wpAny_Assign_Attribute (bL (hv pins s σ H _ I h) λu s1 ⟨y,H1,I1,ry,q⟩=>bL (ha pins s1 σ H1 _ I1 q) λov s2 ⟨x,H2,I2,rx,a,C,dx,fs,ex,ea,c,n,l,q2⟩=>?_) hs;subst ex;obtain rfl:ov=q0F a:=rx;calc OM I2 ea c n l ry λs3 I3=>⟨σ,_,I3,q2⟩
end
section
variable{X:Cx}{pins:aL}{σ:St}{H:Hp}{s:B}{A:o}{E:bA}{Q:bA}{c:L}{b:Bool}
inductive eS (K:My) (H:Hp):V->L->Prop where
 |non:eS K H .non (.type "NoneType")
 |bl (x:Bool):eS K H (.bl x) (.type "bool")
 |int (i:Int):eS K H (.int i) (.type "int")
 |str (x:J):eS K H (.str x) (.type "str")
 |flt (x:UInt64):eS K H (.flt x) (.type "float")
 |lst {a:O} {xs:-V} (e:H a=U (.lst xs)):eS K H (.ref a) (.type "list")
 |frz {a:O} {o:Γ} {xs:-V} (e:H a=U (.frz o (.lst xs))):eS K H (.ref a) (.type "list")
 |tup {a:O} {xs:-V} (e:H a=U (.tup xs)):eS K H (.ref a) (.type "tuple")
 |dK {a:O} {kvs:-(Key×V)} (e:H a=U (.dK kvs)):eS K H (.ref a) (.type "dict")
 |dT {a:O} {kvs:-(-Key×V)} (e:H a=U (.dT kvs)):eS K H (.ref a) (.type "dict")
 |ins {a C dx:O} {fs:-(J×V)} (e:H a=U (.ins C dx fs)) (cl:j7 K C) (ha:q1s K (.ref C) "__class__" = U (U (.builtin "object.__class__")))
   (hn:PySem.W.specialIn K (.builtin "object.__class__") "__get__" = U (U (.builtin "getset_descriptor.__get__"))) (GY:PySem.W.takesIn K (.builtin "object.__class__")=U θ)
   (hm:PySem.W.mroIn K C (.type "object")=U θ):eS K H (.ref a) (.ref C)
theorem OR{x:V}{u t:L}(I:Inv X pins σ H s)(rx:RelV x u)(ty:eS X.K H x t)(e:q1g X.K t c=U b)(h:∀tk,Q (.bool b) {s with toks:=tk}):
  M (g X.prog X.w) A (call (.builtin "isinstance") [u,c]) Q E s:=by
 cases ty with
 |non=>cases(show u=q0y from rx);exact q1u PySem.W.kitx_none I.fF q14 e (λz=>nomatch z) h
 |bl y=>cases(show u=q2I y from rx);exact q1u PySem.W.kitx_bool I.fF q14 e (λz=>nomatch z) h
 |int i=>let⟨t,q⟩:=(show ∃t,u=q0X i t from rx);cases q;exact q1u PySem.W.kitx_int I.fF q14 e (λz=>nomatch z) h
 |str y=>let⟨t,q⟩:=(show ∃t,u=q4t y t from rx);cases q;exact q1u PySem.W.kitx_str I.fF q14 e (λz=>nomatch z) h
 |flt y=>let⟨t,q⟩:=(show ∃t,u=q6K y t from rx);cases q;exact q1u PySem.W.kitx_float I.fF q14 e (λz=>nomatch z) h
 | @lst a xs ea =>
  cases(show u=q0F a from rx)
  let⟨_,_,n,_,h1⟩:=(show bw X.prog X.w H s.heap a (.lst xs) from I.bu a _ ea);exact q1u q57 I.fF ⟨_,h1,Y⟩ e (λz=>nomatch z) h
 | @frz a ob xs ea =>
  cases(show u=q0F a from rx)
  let⟨_,_,_,n,_,h1⟩:=(show bw X.prog X.w H s.heap a (.frz ob (.lst xs)) from I.bu a _ ea);exact q1u q57 I.fF ⟨_,h1,Y⟩ e (λz=>nomatch z) h
 | @tup a xs ea =>
  cases(show u=q0F a from rx)
  let⟨_,_,_,p⟩:=(show bw X.prog X.w H s.heap a (.tup xs) from I.bu a _ ea);let⟨o,h1,h2,_⟩:=p;exact q1u PySem.W.kitx_tuple I.fF ⟨o,h1,h2⟩ e (λz=>nomatch z) h
 | @dK a kvs ea =>
  cases(show u=q0F a from rx)
  let⟨_,_,vs,_,p⟩:=(show bw X.prog X.w H s.heap a (.dK kvs) from I.bu a _ ea);let⟨o,es,ep,h1,h2,_⟩:=p;exact q1u q58 I.fF ⟨o,h1,h2.1⟩ e (λz=>nomatch z) h
 | @dT a kvs ea =>
  cases(show u=q0F a from rx)
  let⟨_,_,xs,_,o,es,ep,h1,h2,_⟩:=(show bw X.prog X.w H s.heap a (.dT kvs) from I.bu a _ ea);exact q1u q58 I.fF ⟨o,h1,h2.1⟩ e (λz=>nomatch z) h
 | @ins a C dx fs ea cl ha hn GY hm =>
  cases(show u=q0F a from rx)
  let⟨mA,O,_⟩:=xy I.bu ea;let⟨od,J,_⟩:=O.look;calc q1u (PySem.W.kitx_own (cl.get _) cl.hd ha hn GY hm) I.fF J e (λz=>nomatch z) h
end
structure bD(k:Nat)(A:o):Prop where
 hd:A.handled=Z
 dp:A.depth+3*k+5<recursionLimit
 un:A.units+16*k+200<cLine
 gd:A.guards=U []
theorem bD.mono{j k:Nat}{A:o}(r:bD k A)(h:j<=k):bD j A:=⟨r.hd,by let:=r.dp;symm,by let:=r.un;symm,r.gd⟩
theorem bD.deeper{k:Nat}{A:o}(r:bD (k+1) A)(env:X):bD k (A.deeper env) :=
 ⟨r.hd,by let:=r.dp;show A.depth+1+3*k+5<_;symm,by let:=r.un;show A.units+3+16*k+200<_;symm,r.gd⟩
theorem bD.in1{k:Nat}{A:o}(r:bD (k+1) A):bD k A.in1 :=
 ⟨r.hd,by let:=r.dp;show A.depth+3*k+5<_;symm,by let:=r.un;show A.units+1+16*k+200<_;symm,r.gd⟩
theorem OS{A:o}{C:O}{us:-L}{kw:-(J×L)}:(A.under (.builtin "type.__call__" ⟨.ref C::us,kw⟩)).depth=A.depth+1:=by
 first|rfl|simp[q59,Code.weight,Code.isCreation,Code.isGuard,Code.isCaller,Code.frames,q5_,guardIds]
theorem OT{A:o}{C:O}{us:-L}{kw:-(J×L)}:(A.under (.builtin "type.__call__" ⟨.ref C::us,kw⟩)).units=A.units+1:=by
 first|rfl|simp[q59,Code.cUnits,Code.frames,q5_]
theorem bD.make{k:Nat}{A:o}(r:bD (k+1) A)(C:O)(us:-L)(kw:-(J×L)):bD k (A.under (.builtin "type.__call__" ⟨.ref C::us,kw⟩)) :=
 ⟨r.hd,by let:=r.dp;rw[OS];symm,by let:=r.un;rw[OT];symm,r.gd⟩
theorem bD.depth{k:Nat}{A:o}(r:bD k A):A.depth<recursionLimit:=by let:=r.dp;symm
theorem bD.units{k:Nat}{A:o}(r:bD k A):A.units+64<cLine:=by let:=r.un;symm
def uZ:TA:=λ_ H Q=>Q [] H
def qb(ta:TE)(tr:TA):TA:=fun σ H Q=>ta σ H λx H1=>tr σ H1 λxs H2=>Q (x::xs) H2
section
variable{X:Cx}{e:l}{es:-l}{te:TE}{t:TA}{pos:y}
theorem cZ:JA X [] uZ:=⟨λ_ _ _ _ H Q I h=>q6a ⟨[],H,I,.nil,h⟩⟩
theorem kG(ha:JE X e te)(hr:JA X es t)(hs:cR X e es:=by rfl):JA X (e::es) (qb te t):=by
 calc⟨?_⟩;ext pos pins s σ H Q I h;rw[hs];show M _ _ (spliced ((ι,eval e X.env)::backTo pos (starEach es X.env))) _ _ s;calc q5R (bL (ha pins s σ H _ I h) λu s1 ⟨x,H1,I1,r1,q1⟩=>?_);calc bL (hr pos pins s1 σ H1 _ I1 q1) λus s2 ⟨xs,H2,I2,r2,q2⟩↦⟨x::xs,H2,I2,.cons r1 r2,q2⟩
def AH(t:TA):TE:=fun σ H Q=>t σ H λxs H1=>↑xs<=sizeLine/\∀p,H1 p=Z->Q (.ref p) (upd H1 p (.tup xs))
def AI(t:TA):TE:=fun σ H Q=>t σ H λxs H1=>↑xs<=sizeLine/\∀p,H1 p=Z->Q (.ref p) (upd H1 p (.lst xs))
theorem GZ{x1}(h:JA X es t):JE X (.Tuple es x1 pos) (AH t):=by
 calc⟨?_⟩;ext pins s σ H Q I hq;calc wpAny_Tuple_spliced (bL (h pos pins s σ H _ I hq) λus s1 ⟨xs,H1,I1,r,z,q⟩=>⟨by rw[<-↑r];calc z,?_⟩);let hf:H1 ⇑s1=Z:=I1.bu.fresh (Hz _);calc⟨.ref ⇑s1,upd H1 ⇑s1 (.tup xs),I1.laid (t':=s1.toks) (λb u e=>u7 _ e) (Hz _) ?_,Y,q _ hf⟩;calc⟨z,us,r,⟨_,Zg _ Y,Y,_,Y⟩⟩
theorem AJ(h:JA X es t):JE X (.List es pos) (AI t):=by
 calc⟨?_⟩;ext pins s σ H Q I hq;calc wpAny_List_spliced (bL (h pos pins s σ H _ I hq) λus s1 ⟨xs,H1,I1,r,z,q⟩=>⟨by rw[<-↑r];calc z,?_⟩);let hf:H1 ⇑s1=Z:=I1.bu.fresh (Hz _);calc⟨.ref ⇑s1,upd H1 ⇑s1 (.lst xs),I1.laid (t':=s1.toks) (λb u e=>u7 _ e) (Hz _) ?_,Y,q _ hf⟩;calc⟨z,us,0,r,Zg _ Y⟩
end
abbrev Sp:=-V->Hp->VK->XK->Prop
abbrev lq:=-X->Hp->B->XK->L->B->Prop
structure jF(P:t)(w:S)(K:My)(mg:J->Option L)(base:I)(A:Β)(outer:-X)(s:B)(H:Hp):Prop where
 frames:A.frames=U outer
 mod:Mod K mg base
 bs:∀b o,base.get? b=U o->s.heap.get? b=U o/\(H b=Z\/∃xs,H b=U (.tup xs))
 lV:base.objs.size<=⇑s
 eg:s.heap.FunFrames base outer
 mZ:∀b∈lh outer,H b=Z
 bu:eG P w H s.heap
 bare:AllBare s.gens
def CE(outer:-X)(P:t)(w:S)(H:Hp)(s:B)(Q:VK)(u:L)(s':B):Prop :=
 ∃v H',s'.os=s.os/\AllBare s'.gens/\Un (lh outer) [] H H' s.heap s'.heap/\eG P w H' s'.heap/\RelV v u/\Q v H'
def CR(CX:lq)(outer:-X)(P:t)(w:S)(H:Hp)(s:B)(Q:VK)(E:XK)(r:Result)(s':B):Prop :=
 match r with
 |.ok (.ret u)=>CE outer P w H s Q u s'
 |.ok _=>False
 |.error e=>CX outer H s E e s'
structure cj(P:t)(w:S)(K:My)(mg:J->Option L)(base:I)(CX:lq)(k:Nat)(f:O)(fd:FuncData)(ps:-J)(sp:Sp):Prop where
 len:∀vs H Q E,sp vs H Q E->↑vs=↑ps
 run:∀(A:o)(outer:-X)(s:B)(H:Hp)(args:Args)(us:-L)(vs:-V)(Q:VK)(E:XK),bD k A->jF P w K mg base A outer s H->BindsTo s fd args (ps.zip us)->Vals vs us->sp vs H Q E →
  codeAny (g P w) A (.call (.ref f) args) (CR CX outer P w H s Q E) s
theorem jF.make{P:t}{w:S}{K:My}{mg:J->Option L}{base:I}{A:o}{outer:-X}{s:B}{H:Hp}(e:jF P w K mg base A outer s H)(C:O)(us:-L)(kw:-(J×L)):
  jF P w K mg base (A.under (.builtin "type.__call__" ⟨.ref C::us,kw⟩)) outer s H:=⟨by first|exact e.frames|(simpa[q59,Code.envs,q5_,pushEnvs] using e.frames),e.mod,e.bs,e.lV,e.eg,e.mZ,e.bu,e.bare⟩
section
variable{X:Cx}{pins:aL}{σ:St}{H:Hp}{s s':B}
theorem Inv.rj(I:Inv X pins σ H s):jF X.prog X.w X.K X.mg X.base X.A X.stack s H :=
 ⟨I.ok.frames,I.ok.mod,I.bs,q0w I.ok.lV I.sz,I.stack,I.j6,I.bu,I.bare⟩
theorem Inv.after{Q:VK}{u:L}(I:Inv X pins σ H s)(h:CE X.stack X.prog X.w H s Q u s'):EP X pins σ Q u s':=by
 let⟨v,H',os,bare,un,bu,r,q⟩:=h;let⟨hh,g,d,t,qP⟩:=s';obtain rfl:qP=s.os:=os;calc⟨v,H',I.call (h':=hh) (g':=g) (d':=d) (t':=t) (ch:=[]) un bu bare (λb z=>absurd z (by simp)),r,q⟩
end
def xA(sp:Sp)(gB:-V)(E:XK)(t:TA):TE:=fun σ H Q=>t σ H λvs H1=>sp (vs++gB) H1 Q E
def G0(C:O)(m:J)(sp:Sp)(gB:-V)(E:XK)(ta:TE)(t:TA):TE:=fun σ H Q=>ta σ H λx H1=>∃a dx fs,x=.ref a/\H1 a=U (.ins C dx fs)/\fs.lookup m=Z ∧
 t σ H1 λvs H2=>sp (x::(vs++gB)) H2 Q E
def OU(C:O)(sp:Sp)(gB:-V)(E:XK)(t:TA):TE:=fun σ H Q=>t σ H λvs H1=>∀x dx,H1 x=Z->H1 dx=Z->dx≠x →
 sp (.ref x::(vs++gB)) (upd (upd H1 dx (.own x)) x (.ins C dx [])) (λv H2=>v=.non/\Q (.ref x) H2) E
def Binds(K:My)(fd:FuncData)(ps:-J)(ds:-L):Prop :=
 ∀(s:B)(us:-L),K.In s.heap->↑(us++ds)=↑ps->BindsTo s fd ⟨us,[]⟩ (ps.zip (us++ds))
theorem Binds.all{K:My}{fd:FuncData}{ps:-J}(h:∀us:-L,↑us=↑ps->bindArgs fd ⟨us,[]⟩=pure (ps.zip us)):Binds K fd ps []:=λs us _ hl=>by
 rw[oo] at hl ⊢;calc .of_eq (h us hl)
def rm(CX:lq)(X:Cx)(E:XK):Prop:=∀(pins:aL)(σ:St)(H:Hp)(s:B)(e:L)(s':B),Inv X pins σ H s->CX X.stack H s E e s'->X.xe e s'
section
variable{X:Cx}{CX:lq}{k:Nat}{f C:O}{fd:FuncData}{ps:-J}{sp:Sp}{gB:-V}{ds:-L}{E:XK}{x m:J}{p pos apos:y}{e o:l}{es:-l}{ta:TE}{t:TA}
theorem AK{pins:aL}{σ:St}{H:Hp}{s:B}{Q:VK}{us:-L}{vs:-V}(F:cj X.prog X.w X.K X.mg X.base CX k f fd ps sp)(hr:bD k X.A)(hb:Binds X.K fd ps ds)(hd:Vals gB ds)(hx:rm CX X E)
  (I:Inv X pins σ H s) (r:Vals vs us) (h:sp (vs++gB) H Q E):M (g X.prog X.w) X.A (call (.ref f) us) (EP X pins σ Q) X.xe s:=by
 let r2:Vals (vs++gB) (us++ds):=r.append hd;let hl:↑(us++ds)=↑ps:=by rw[<-↑r2];exact F.len _ _ _ _ h
 refine q4J (q2H (F.run X.A X.stack s H ⟨us,[]⟩ (us++ds) (vs++gB) Q E hr I.rj (hb s us I.fF hl) r2 h) λr s' hq=>?_)
 cases r with
 |error e=>exact hx pins σ H s e s' I hq
 |ok fl =>
  cases fl with
  |ret u=>exact I.after hq
  |next=>exact q1n hq
  |brk=>exact q1n hq
  |cont=>calc q1n hq
theorem xB(F:cj X.prog X.w X.K X.mg X.base CX k f fd ps sp)(hr:bD k X.A)(hg:Gl X x)(hm:X.mg x=U (.ref f))(hk:q09 X.K (.ref f)=θ)(hb:Binds X.K fd ps ds)(hd:Vals gB ds)(hx:rm CX X E)
  (ha:JA X (e::es) t) (dR:b9 x:=by decide) (he:cR X e es:=by rfl) (dP:dh X pos es:=by rfl) :
  JE X (.Call (.Name x p) (e::es) [] pos) (xA sp gB E t):=by
 calc⟨?_⟩;ext pins s σ H Q I h;calc q2g (xm I hg hm ?_ dR);calc q3R (h₀:=X.base) I.ok.mod.gz hk (bL (ha pos pins s σ H _ I h) λus s1 ⟨vs,H1,I1,r,q⟩=>⟨I1.fF,?_⟩) he dP;calc AK F hr hb hd hx I1 r q
theorem OW(F:cj X.prog X.w X.K X.mg X.base CX k f fd ps sp)(hr:bD k X.A)(hg:Gl X x)(hm:X.mg x=U (.ref f))(hk:q09 X.K (.ref f)=θ)(hb:Binds X.K fd ps ds)(hd:Vals gB ds)(hx:rm CX X E)
  (dR:b9 x:=by decide):JE X (.Call (.Name x p) [] [] pos) (xA sp gB E uZ):=by
 calc⟨?_⟩;ext pins s σ H Q I h;calc q2g (xm I hg hm ?_ dR);calc PySem.W.callWith_K0 I.fF hk (AK (us:=[]) F hr hb hd hx I .nil h)
theorem OX {pl:Sem Bool} (he:JE X o ta) (c:j7 X.K C) (hm:Meth X.K C m f) (F:cj X.prog X.w X.K X.mg X.base CX k f fd ps sp) (hr:bD k X.A) (hb:Binds X.K fd ps ds) (hd:Vals gB ds) (hx:rm CX X E) (ha:JA X (e :: es) t)
  (iS:cR X e es:=by rfl) (dP:dh X pos es:=by rfl)
  (ht:eval (.Call (.Attribute o m apos) (e :: es) [] pos) X.env=(do
   let ov <- eval o X.env
   standAt apos.atName
   let (f,first) <- holding [ov] (getMethod ov m pl)
   callWith pos f first (backTo pos (starEach (e :: es) X.env)) (backToKw pos (keywordEach [] X.env))):=by rfl) :
  JE X (.Call (.Attribute o m apos) (e :: es) [] pos) (G0 C m sp gB E ta t):=by
 calc⟨?_⟩;ext pins s σ H Q I h;calc PySem.W.methodCall_KW (pl:=pl) (bL (he pins s σ H _ I h) λu s1 ⟨x,H1,I1,rx,a,dx,fs,ex,ea,l,q⟩ => ?_) ht;subst ex;obtain rfl:u=q0F a:=rx;calc OL I1 ea c hm l ?_;calc q3R (first:=[.ref a]) (h₀ := X.base) I.ok.mod.gz hm.kp (bL (ha pos pins s1 σ H1 _ I1 q) λus s2 ⟨vs,H2,I2,r,q2⟩=>⟨I2.fF,?_⟩) iS dP;calc AK (us := .ref a :: us) (vs := .ref a :: vs) F hr hb hd hx I2 (.cons Y r) q2
structure Mk(K:My)(C f:O):Prop where
 makes:q6V K C=θ
 init:q1s K (.ref C) "__init__" = U (U (.ref f))
 fn:q4M K (.ref f)=θ
 kp:q09 K (.ref C)=θ
theorem OY{pins:aL}{σ:St}{H:Hp}{s:B}{Q:VK}{us:-L}{vs:-V}(M:Mk X.K C f)(F:cj X.prog X.w X.K X.mg X.base CX k f fd ps sp)(hr:bD (k+1) X.A)(hb:Binds X.K fd ps ds)(hd:Vals gB ds)
  (hx:rm CX X E) (I:Inv X pins σ H s) (r:Vals vs us)
  (h:∀x dx,H x=Z->H dx=Z->dx≠x->sp (.ref x::(vs++gB)) (upd (upd H dx (.own x)) x (.ins C dx [])) (λv H2=>v=.non/\Q (.ref x) H2) E) :
  ρ (g X.prog X.w) X.A (call (.ref C) us) (EP X pins σ Q) X.xe s:=by
 let hq:=h (⇑s+1) ⇑s (I.bu.fresh (q3w _)) (I.bu.fresh (Hz _)) (q0b (q0N _));let I2:=Inv.made (C:=C) I;let r2:Vals (V.ref (⇑s+1)::(vs++gB)) (q0F (⇑s+1)::(us++ds)):=.cons Y (r.append hd)
 let hl:↑(q0F (⇑s+1)::us++ds)=↑ps:=by
  let e:=↑r2;rw[F.len _ _ _ _ hq] at e;exact e.symm
 refine q4J (OI (f:=f) I.fF M.makes M.init (q4N.mp M.fn) (q2H (F.run _ X.stack _ _ ⟨q0F (⇑s+1)::us,[]⟩ (q0F (⇑s+1)::(us++ds)) _ _ E (hr.make C us [])
  (I2.rj.make C us []) (hb _ (q0F (⇑s+1)::us) I2.fF hl) r2 hq) λr s' qc=>?_))
 cases r with
 |error e=>exact hx pins σ _ _ e s' I2 qc
 |ok fl =>
  cases fl with
  |ret u =>
   let⟨v,H',I3,rv,ev,q3⟩:=I2.after qc;subst ev;exact⟨rv,⟨V.ref (⇑s+1),H',I3,Y,q3⟩⟩
  |next=>exact q1n qc
  |brk=>exact q1n qc
  |cont=>calc q1n qc
theorem OZ(M:Mk X.K C f)(F:cj X.prog X.w X.K X.mg X.base CX k f fd ps sp)(hr:bD (k+1) X.A)(hg:Gl X x)(hm:X.mg x=U (.ref C))(hb:Binds X.K fd ps ds)(hd:Vals gB ds)(hx:rm CX X E)
  (ha:JA X (e::es) t) (dR:b9 x:=by decide) (he:cR X e es:=by rfl) (dP:dh X pos es:=by rfl) :
  JE X (.Call (.Name x p) (e::es) [] pos) (OU C sp gB E t):=by
 calc⟨?_⟩;ext pins s σ H Q I h;calc q2g (xm I hg hm ?_ dR);calc q3R (h₀:=X.base) I.ok.mod.gz M.kp (bL (ha pos pins s σ H _ I h) λus s1 ⟨vs,H1,I1,r,q⟩=>⟨I1.fF,?_⟩) he dP;calc OY M F hr hb hd hx I1 r q
end
section
variable{X:Cx}{CX:lq}{k:Nat}{f C:O}{fd:FuncData}{ps ks:-J}{sp:Sp}{E:XK}{x m:J}{p pos apos kH:y}{e o:l}{es:-l}{Za:-Keyword}{te ta:TE}{t tk:TA}{nm:Option J}
variable{g:-L->-L->-L}{gV:-V->-V->-V}
end
structure n8(N P:-J)(sc:a):Prop where
 kind:sc.kind=.function
 co:sc.isCoroutine=ι
 gen:sc.isGenerator=ι
 nd:N.Nodup
 pre:N.take ↑P=P
 par:∀x∈P,sc.names.lookup x=U .local\/sc.names.lookup x=U .cell
 rp:∀y∈sc.names,y.2≠.free
theorem G1{kindOf:J->Option NameKind}{x:J}:∀{binds:-(J×L)}{m:J->Option L},(∀v,(x,v)∉binds)->bindL kindOf binds m x=m x
 |[],_,_=>Y
 |(n,v)::r,m,h=>by
  unfold bindL;rw[G1 λw hw=>h w (q0g _ hw)];split
  .let:x≠n:=by ext rfl;exact h v q0h
   simp[this]
  .rfl
theorem G2{kindOf:J->Option NameKind}{x:J}:∀{binds:-(J×L)}{m:J->Option L},(∀v,(x,v)∉binds)->bindC kindOf binds m x=m x
 |[],_,_=>Y
 |(n,v)::r,m,h=>by
  unfold bindC;rw[G2 λw hw=>h w (q0g _ hw)];split
  .rfl
  .let:x≠n:=by ext rfl;exact h v q0h
   simp[this]
theorem G3{kindOf:J->Option NameKind}{x:J}{v:L}:∀{P:-J}{vs:-L}{i:Nat}{m:J->Option L},P.Nodup->P[i]?=U x->vs[i]?=U v->kindOf x=U .local →
  bindL kindOf (P.zip vs) m x=U v
 |[],_,_,_,_,h,_,_=>by simp at h
 |_::_,[],_,_,_,_,h,_=>by simp at h
 |p::P,w::vs,0,m,nd,h1,h2,hk=>by
  simp at h1 h2;subst h1;subst h2;show bindL kindOf ((p,w)::P.zip vs) m p=_;unfold bindL;rw[G1 λv hv=>(q2n.mp nd).1 (q4Z hv).1,q0e hk];simp
 |p::P,w::vs,i+1,m,nd,h1,h2,hk=>by
  show bindL kindOf ((p,w)::P.zip vs) m x=_;unfold bindL;calc G3 (i:=i) (q2n.mp nd).2 h1⁻¹ h2⁻¹ hk
theorem G4{kindOf:J->Option NameKind}{x:J}{v:L}:∀{P:-J}{vs:-L}{i:Nat}{m:J->Option L},P.Nodup->P[i]?=U x->vs[i]?=U v->kindOf x≠U .local →
  bindC kindOf (P.zip vs) m x=U v
 |[],_,_,_,_,h,_,_=>by simp at h
 |_::_,[],_,_,_,_,h,_=>by simp at h
 |p::P,w::vs,0,m,nd,h1,h2,hk=>by
  simp at h1 h2;subst h1;subst h2;show bindC kindOf ((p,w)::P.zip vs) m p=_;unfold bindC;rw[G2 λv hv=>(q2n.mp nd).1 (q4Z hv).1,q0c hk];simp
 |p::P,w::vs,i+1,m,nd,h1,h2,hk=>by
  show bindC kindOf ((p,w)::P.zip vs) m x=_;unfold bindC;calc G4 (i:=i) (q2n.mp nd).2 h1⁻¹ h2⁻¹ hk
noncomputable def start(N:-J)(vs:-V):St:=vs.map U++q0f (↑N-↑vs) Z
noncomputable def fm(CX:lq)(P:t)(w:S)(K:My)(mg:J->Option L)(base:I)(N:-J)(qual:J)(scope:a)(f:O)(cd:L)(A:o)(outer:-X)(s:B)(H:Hp)(E:XK):Cx where
 prog:=P
 w:=w
 K:=K
 mg:=mg
 base:=base
 A:=A.deeper (envOfC qual scope ⇑s f cd)
 N:=N
 s₀:=s
 H₀:=H
 env:=envOfC qual scope ⇑s f cd
 outer:=outer
 stack:=envOfC qual scope ⇑s f cd::outer
 ex:=[]
 calm:=true
 fn:=λ_=>θ
 pn:=[]
 xe:=λe s'=>M (g P w) (A.deeper (envOfC qual scope ⇑s f cd)) (leaving (envOfC qual scope ⇑s f cd) e) (λ_ jG=>CX outer H s E e jG) (λe' jG=>CX outer H s E e' jG) s'
theorem G5{sc:a}{n:Nat}{x:J}(h:sc.names.lookup x=U .cell):∃c,(cellsFrom n sc.names []).lookup x=U c:=by
 let q:=q3e sc.names n [] (.inl h);calc q4h.mp q
theorem O0{CX:lq}{P:t}{w:ω}{K:My}{mg:J->Option L}{base:I}{N ps:-J}{qual:J}{scope:Δ}{f:O}{cd:L}{A:o}{outer:-X}{s s1:B}{H:Hp}{E:XK}{us:-L}{vs:-V}
  (S:n8 N ps scope) (hd:A.handled=Z) (e0:jF P w K mg base A outer s H) (hl:↑vs=↑ps) (r:Vals vs us)
  (x:InCallC s ⇑s (bindL (envOfC qual scope ⇑s f cd).kindOf (ps.zip us) λ_=>Z) (cellsFrom (⇑s+1) scope.names []) (bindC (envOfC qual scope ⇑s f cd).kindOf (ps.zip us) λ_=>Z) s1) :
  Inv (fm CX P w K mg base N qual scope f cd A outer s H E) [] (start N vs) H s1:=by
 let dP:↑ps<=↑N:=by let:=congrArg List.length S.pre;rw[q0E] at this;symm
 let⟨h1,tk,rfl,hk⟩:=x.done;let n9:∀b:O,b∉(fm CX P w K mg base N qual scope f cd A outer s H E).ex:=λb z=>absurd (show b∈([]:-O) from z) (by simp)
 refine⟨⟨e0.mod,S.kind,Y,Y,Hz _,λy z c h1 h2=>?_,λy hy=>?_,λy c _ h=>?_,λ_=>hd,q5o e0.frames,.inr ⟨Y,Y⟩,λb z=>absurd z (n9 b),e0.bs,e0.lV,λb _ _=>n9 b,λb z=>absurd z (n9 b),e0.eg,e0.mZ⟩,
  Y,e0.bare,Un.kept hk,⟨_,x.toInCall.ns,λi y v h1 h2 h3=>?_⟩,λy c h=>⟨_,x.cell y c h⟩,e0.bu.fresh (Hz _),λy c h=>?_,λp hp=>absurd (show p∈([]:aL) from hp) (by simp),e0.bu.kept hk,?_⟩
 .exact name_of_addr x.apart (q1l h1) (q1l h2)
 .let hy:scope.names.lookup y=U .cell\/scope.names.lookup y=U .free:=hy
  rcases hy with hy|hy
  .exact G5 hy
  .exact absurd Y (S.rp _ (q1l hy))
 .exact q1d (x.above y c (q1l h))
 .let hi:i<↑vs:=by
   unfold start at h2
   by_cases hi:i<↑vs
   .exact hi
   .rw[Zf hi⁻¹] at h2
    rw[q25] at h2;split at h2<;>cases h2
  let ha:vs[i]?=U v:=by
   unfold start at h2;rw[Zd hi⁻¹,PB] at h2
   cases e:vs[i]? with
   |none=>rw[e] at h2;cases h2
   |some a=>rw[e] at h2;cases h2;rfl
  let⟨u,hu,rv⟩:=r.get ha
  let hp:ps[i]?=U y:=by
   rw[<-S.pre,q0I ⋯];exact h1
  let G6:ps.Nodup:=by rw[<-S.pre];exact S.nd.sublist (q5Y _ _)
  calc⟨u,rv,?_⟩;rcases S.par y (q0S hp) with k|k
  .exact .inl ⟨k,G3 G6 hp hu k⟩
  .let⟨c,e⟩:=G5 (n:=⇑s+1) k
   calc .inr ⟨.inl k,c,e,?_⟩;let q:=x.cell y c e;rw[G4 G6 hp hu (by show scope.names.lookup y≠_;rw[k];decide)] at q;exact q
 .exact e0.bu.fresh (q1d (x.above y c (q1l h)))
 .unfold start
  show _=↑N;rw[Pz,Ba,q3l];symm
theorem G7{CX:lq}{P:ψ}{w:ω}{K:My}{mg:π->Option L}{base:Α}{k:Nat}{f:O}{name qual:π}{params:Arguments}{body:-R}{scope:a}{dV kV doc pm bH ct oc:L}{an od:Option O}
  {n_:Array (Option L)} {N ps:-π} {sp:Sp} (lk:K.lookup f=U ⟨oc,od,.func (q06 name qual params body scope dV kV doc pm an bH ct),n_⟩) (g6:q2N K bH qual=θ) (S:n8 N ps scope)
  (len:∀vs H Q E,sp vs H Q E->↑vs=↑ps)
  (eT:∀(A:Β)(outer:-X)(s:B)(H:Hp)(vs:-V)(Q:VK)(E:XK),bD k (A.deeper (envOfC qual scope ⇑s f bH))->sp vs H Q E →
   ∃t,dO (fm CX P w K mg base N qual scope f bH A outer s H E) body t/\t {nx:=λ_ H'=>Q .non H',rt:=Q} (start N vs) H) :
  cj P w K mg base CX (k+1) f (q06 name qual params body scope dV kV doc pm an bH ct) ps sp:=by
 calc⟨len,λA outer s H args us vs Q E hr e0 hb r qd=>?_⟩;let hl:=len _ _ _ _ qd;let KX:K.In s.heap:=e0.mod.gz.keeps λb o e=>(e0.bs b o e).1;let lim:s.heap.NoLimit:=e0.mod.nolimit.keeps λb o e=>(e0.bs b o e).1
 let u2:∀y∈ps.zip us,scope.names.lookup y.1=U .local\/(scope.names.lookup y.1=U .cell/\((cellsFrom (⇑s+1) scope.names []).lookup y.1).isSome=θ):=λ⟨n,v⟩ hy↦by
  rcases S.par n (q4Z hy).1 with q|q
  .exact .inl q
  .exact .inr ⟨q,q3e _ _ _ (.inl q)⟩
 calc codeAny_call_function hr.depth (KX _ _ lk) Y S.co S.gen Y (PySem.W.codeRec_of KX g6) (hb _ _ _ _ ?_);calc wpAny_newFunctionEnv_cells S.kind u2 λenv he s1 x=>?_;subst he;calc⟨lim.keeps x.toInCall.keep,codeAny_func ?_⟩;let⟨t,ht,hq⟩:=eT A outer s H vs Q E (hr.deeper _) qd;let I:Inv (fm CX P w K mg base N qual scope f bH A outer s H E) [] (start N vs) H s1:=O0 S hr.hd e0 hl r x;refine q1M (ht [] s1 (start N vs) H _ I hq) (λfl s' hs=>?_) λe s' hs=>hs
 let fin:∀{σ':St}{H':Hp}{v:V}{u:L},Inv (fm CX P w K mg base N qual scope f bH A outer s H E) [] σ' H' s'->RelV v u->Q v H'->CE outer P w H s Q u s' :=
  λ{σ' H' v u} J rv q=>⟨v,H',J.os,J.bare,J.base,J.bu,rv,q⟩
 cases fl with
 |ret u =>
  let⟨v,σ',H',J,rv,q⟩:=hs;exact fin J rv q
 |next =>
  let⟨σ',H',J,q⟩:=hs;exact fin (v:=V.non) (u:=q0y) J Y q
 |brk =>
  let⟨_,_,_,q⟩:=hs;exact q1n q
 |cont =>
  let⟨_,_,_,q⟩:=hs;calc q1n q
section
variable{X:Cx}{x:J}{p pos:y}{e:l}{es:-l}{t:TA}{id T:String}{r:-V->Hp->VK->Prop}
def AL(r:-V->Hp->VK->Prop)(t:TA):TE:=fun σ H Q=>t σ H λvs H1=>r vs H1 Q
theorem xC(hc:g9 X (.builtin id) r)(hg:Gl X x)(hm:X.mg x=Z)(hv:bootBuiltins x=U (.builtin id))(ha:JA X (e::es) t)(hn:x≠"__name__" := by decide)(dR:b9 x:=by decide)
  (he:cR X e es:=by rfl) (dP:dh X pos es:=by rfl):JE X (.Call (.Name x p) (e::es) [] pos) (AL r t):=by
 calc⟨?_⟩;ext pins s σ H Q I h;calc q2g (nX I hg hm hv ?_ hn dR);calc PyProof.Rows.callWith_builtin1 (bL (ha pos pins s σ H _ I h) λus s1 ⟨vs,H1,I1,r1,q1⟩↦hc pins s1 σ H1 vs us Q I1 r1 q1) he dP
theorem tj(hc:g9 X (.type T) r)(hg:Gl X x)(hm:X.mg x=Z)(hv:bootBuiltins x=U (.type T))(ha:JA X (e::es) t)(hn:x≠"__name__" := by decide)(dR:b9 x:=by decide)
  (he:cR X e es:=by rfl) (dP:dh X pos es:=by rfl):JE X (.Call (.Name x p) (e::es) [] pos) (AL r t):=by
 calc⟨?_⟩;ext pins s σ H Q I h;calc q2g (nX I hg hm hv ?_ hn dR);calc q1o (bL (ha pos pins s σ H _ I h) λus s1 ⟨vs,H1,I1,r1,q1⟩↦hc pins s1 σ H1 vs us Q I1 r1 q1) he dP
end
end L2
namespace HT
open PySem PyProof.Rows
noncomputable def lexLt:-Int->-Int->Bool
 |[],[]=>ι
 |[],_::_=>θ
 |_::_,[]=>ι
 |x::xs,y::ys=>if x=y then lexLt xs ys else G (x<y)
theorem oa(x y:Int)(xs ys:-Int):lexLt (x::xs) (y::ys)=if x=y then lexLt xs ys else G (x<y):=rfl
theorem G8:lexLt [] []=ι:=rfl
theorem G9(y:Int)(ys:-Int):lexLt [] (y::ys)=θ:=rfl
theorem G_(x:Int)(xs:-Int):lexLt (x::xs) []=ι:=rfl
theorem Ha(A:o)(s:B)(a:Int)(t:Tok)(c:Int)(u:Tok):∃e,q4L A s (.int a t) (.int c u) e/\(e=θ↔a=c) :=
 ⟨(a==c),q5S a t c u,by simp⟩
theorem O1(A:o)(s:B)(a:Int)(t:Tok)(c:Int)(u:Tok)(prog:ψ)(w:S)(E:bA)(Q:bA)(h:Q (.bool (G (a<c))) s):
  M (g prog w) A (richCompare .Lt (.int a t) (.int c u)) Q E s :=
 (q3H h:M (g prog w) A (compareOp .Lt (.int a t) (.int c u)) Q E s)
section
open PySem.SeqAt
open PySem.AutoSeq1 (wpAny_loadPart')
open PySem.MeetsSeq PySem.MeetsSeq2 PySem.MeetsSeq3
theorem O3(l b:O)(items bG:Array L)(n n2:Nat)(dd lr:Option O)(sl lz:Array (Option L))(ns ms:-Int)(hi:IntsAre items.toList ns)(hj:IntsAre bG.toList ms):
  Meets (Builtin.«tuple.__lt__» ⟨[.ref l,.ref b],[]⟩)
   (λ_ R s=>s.heap.get? l=U {cls:=.type "tuple",dict:=dd,data:=.seq items n,slots:=sl}/\s.heap.get? b=U {cls:=.type "tuple",dict:=lr,data:=.seq bG n2,slots:=lz} ∧
    R (.ok (.ret (.bool (lexLt ns ms)))) s) :=
 .of_wp λprog w A R s h=>by
  let⟨hp,g,d,tk,os⟩:=s;let⟨hl,hb,h⟩:=h;let f2:=q4i;let z1:items.size=↑ns:=by rw[<-↑hi];simp
  let z2:bG.size=↑ms:=by rw[<-↑hj];simp
  wp_walk using q1h hl,q1h hb,q4r _ (λrest b s'=>b.1=Z/\s'=⟨hp,g,d,tk,os⟩/\∃(vs ws:-L)(dz kI:-Int),rest=vs.zip ws ∧
   IntsAre vs dz/\IntsAre ws kI/\↑dz+bG.size=↑kI+items.size/\R (.ok (.ret (.bool (lexLt dz kI)))) ⟨hp,g,d,tk,os⟩) _
  case turn =>
   ext⟨y,x⟩ rest b s' ⟨hb',rfl,vs,ws,dz,kI,hz,rq,og,hlen,hR⟩
   cases rq with
   |nil=>rw[q2M] at hz;cases hz
   |cons a t rz =>
    cases og with
    |nil=>rw[q3S] at hz;cases hz
    |cons c u rA =>
     rw[q15] at hz;injection hz with AM lZ;injection AM with hy hx;subst hy hx;rw[oa] at hR;erw[HB] at hlen;let⟨e,he,l3⟩:=Ha A.in1 ⟨hp,g,d,tk,os⟩ a t c u;refine rH (he prog w _ _ ?_)
     cases e with
     |true =>
      rw[q0e (l3.mp Y)] at hR
      wp_walk
      exact⟨Y,Y,_,_,_,_,lZ,rz,rA,⋯,hR⟩
     |false =>
      rw[q0c (λq=>absurd (l3.mpr q) q0z)] at hR;let AN:=O1 A.in1 ⟨hp,g,d,tk,os⟩ a t c u prog w
      wp_walk using AN
      exact⟨_,Y,by simpa using hR⟩
  case fin =>
   ext⟨b1,b2⟩ s' ⟨hb',rfl,vs,ws,dz,kI,hz,rq,og,hlen,hR⟩;simp only at hb';subst hb'
   let hv:lexLt dz kI=G (items.size<bG.size):=by
    cases rq with
    |nil =>
     cases og with
     |nil =>
      erw[q1i] at hlen;rw[G8];exact(Zi ⋯).symm
     |cons c u hw =>
      erw[q1i,HB] at hlen;rw[G9];exact(q0i ⋯).symm
    |cons a t hv =>
     cases og with
     |nil =>
      erw[q1i,HB] at hlen;rw[G_];exact(Zi ⋯).symm
     |cons c u hw =>
      rw[q15] at hz;cases hz
   rw[hv] at hR
   wp_walk
   exact⟨_,Y,by simpa[q3j] using hR⟩
  case h =>
   calc⟨Y,Y,items.toList,bG.toList,ns,ms,Y,hi,hj,⋯,h⟩
end
section
variable{prog:t}{w:S}{A:o}{E:bA}{s:B}
theorem AO{l b:O}{items bG:Array L}{ns ms:-Int}{Q:bA}(hl:IsTup s.heap l items)(hb:IsTup s.heap b bG)(hi:IntsAre items.toList ns)(hj:IntsAre bG.toList ms)
  (hu:A.units<cLine) (h:Q (.bool (lexLt ns ms)) s):M (g prog w) A (compareOp .Lt (.ref l) (.ref b)) Q E s:=by
 let⟨⟨cls,dd,data,sl⟩,ho,hc,n,hd⟩:=id hl;let⟨⟨rB,lr,data2,lz⟩,fR,jH,n2,hd2⟩:=id hb;simp only at hc hd jH hd2;subst hc hd jH hd2
 exact q4O (op:=.Lt) ⟨_,ho,Y⟩ ⟨_,fR,Y⟩ PySem.F.slot_tuple_lt PySem.F.entry_tuple_lt (PySem.F.args_tuple_lt_2 _ _) (O3 l b items bG n n2 dd lr sl lz ns ms hi hj)
  ⟨ho,fR,show q2I (lexLt ns ms)≠q5p/\Q (.bool (lexLt ns ms)) s from⟨(λx=>nomatch x),h⟩⟩ hu
theorem O4{t b:O}{vs ws:-L}{Q:bA}(ht:IsTup s.heap t vs.toArray)(hb:IsTup s.heap b ws.toArray)(hv:vs≠[])
  (h1:ws=[]->Q (.ref t) s) (h2:ws≠[]->Q (.ref ⇑s) {s with heap:=s.heap.push {cls:=.type "tuple",data:=.seq (vs++ws).toArray}})
  (hsz:↑vs+↑ws<=sizeLine):M (g prog w) A (binaryOp .Add (.ref t) (.ref b)) Q E s:=by
 let⟨⟨cls,dd,data,sl⟩,ho,hc,n,hd⟩:=id ht;let⟨⟨rB,lr,data2,lz⟩,fR,jH,n2,hd2⟩:=id hb;simp only at hc hd jH hd2;subst hc hd jH hd2;let e:vs.toArray++ws.toArray=(vs++ws).toArray:=by simp
 by_cases hw:ws=[]
 .exact q6b ⟨_,ho,Y⟩ ⟨_,fR,Y⟩ q4x q5F q3f q26 (q2Z _ _)
   (tuple_addW1 t b vs.toArray ws.toArray n n2 dd lr sl lz hv⁻¹ (by simp[hw])) ⟨ho,fR,h1 hw⟩
 .refine q6b ⟨_,ho,Y⟩ ⟨_,fR,Y⟩ q4x q5F q3f q26 (q2Z _ _)
   (tuple_addW2 t b vs.toArray ws.toArray n n2 dd lr sl lz hv⁻¹ hw⁻¹ (by rw[PA,PA];calc hsz)) ⟨ho,fR,?_⟩
  rw[e];calc h2 hw
noncomputable def bP(n d:Nat):Option Int->Nat
 |none=>d
 |some v=>if v<0 then(v+(n:Int)).toNat else min v.toNat n
theorem O5(n d:Nat):bP n d Z=d:=rfl
theorem AQ(n d k:Nat):bP n d (U (k:Int))=min k n:=by
 show(if(k:Int)<0 then((k:Int)+(n:Int)).toNat else min (k:Int).toNat n)=min k n;rw[q0c ⋯,q0s]
theorem O6(n d:Nat)(hd:d<=n)(o:Option Int):bP n d o<=n:=by
 cases o with
 |none=>exact hd
 |some v =>
  show(if v<0 then(v+(n:Int)).toNat else min v.toNat n)<=n
  by_cases hv:v<0
  .rw[q0e hv];symm
  .rw[q0c hv];calc Nat.min_le_right _ _
theorem Hb(v:Int)(n d:Nat):(if v<0 then max (v+(n:Int)) 0 else min v (n:Int))=((bP n d (U v):Nat):Int):=by
 show(if v<0 then max (v+(n:Int)) 0 else min v (n:Int))=(((if v<0 then(v+(n:Int)).toNat else min v.toNat n):Nat):Int)
 by_cases hv:v<0
 .erw[q0e hv];symm
 .erw[q0c hv];symm
theorem O7(lo hi:Option Int)(n:Nat):q2T lo hi 1 (n:Int)=(((bP n 0 lo:Nat):Int),((bP n n hi:Nat):Int)):=by
 let h1:¬ ((1:Int)<0):=by symm
 unfold q2T;erw[h1,q2a];refine Prod.ext ?_ ?_
 .cases lo with
  |none=>rfl
  |some v=>exact Hb v n 0
 .cases hi with
  |none=>rfl
  |some v=>calc Hb v n n
theorem O8(i j:Nat):q2m (i:Int) (j:Int) 1=j-i:=by
 unfold q2m;let h1:(1:Int)>0:=by symm
 erw[h1,q2G,Int.ediv_one];split<;>symm
theorem Hc{v:L}{o:Option Int}{Q:Option Int->B->Prop}(p:IsPart v o)(h:Q o s):M (g prog w) A (Builtin.Slice.slicePartIndex v) Q E s:=by
 cases p with
 |none=>exact slicePart_none h
 |int i t=>calc slicePart_int h
theorem Hd{sl:O}{vl vu:L}{lo hi:Option Int}{n:Nat}{Q:Int×Int×Nat->B->Prop}(hs:s.heap.IsSliceOf sl vl vu .none)(pl:IsPart vl lo)(pu:IsPart vu hi)
  (h:Q (((bP n 0 lo:Nat):Int),1,bP n n hi-bP n 0 lo) s):M (g prog w) A (q3T (.ref sl) (pure (n:Int))) Q E s:=by
 let⟨os,rC,tu,u3⟩:=id hs;unfold q3T Builtin.Slice.sliceFields;calc rH (rH (q1C rC u3 (x:=vl) Y (rH (q1C rC u3 (x:=vu) Y (rH (q1C rC u3 (x:=.none) Y (HA ?_)))))));calc rH (slicePart_none ?_);show M _ _ (if((1:Int)==0)=θ then _ else _) _ _ s;rw[q0c (by decide)];refine rH (Hc pl (rH (Hc pu (rH (HA ?_)))))
 show M _ _ (match q2T lo hi 1 (n:Int) with|(lo,hi)=>pure (lo,(1:Int),q2m lo hi 1)) _ _ s;rw[O7 lo hi n];show M _ _ (pure (((bP n 0 lo:Nat):Int),(1:Int),q2m ((bP n 0 lo:Nat):Int) ((bP n n hi:Nat):Int) 1)) _ _ s;rw[O8];calc HA h
theorem O9(xs:Array L)(i k:Nat):((q0x k).filterMap λ(m:Nat)=>xs[((i:Int)+(m:Int)*1).toNat]?).toArray=((xs.toList.drop i).take k).toArray:=by
 let e:(λ(m:Nat)=>xs[((i:Int)+(m:Int)*1).toNat]?)=λm=>xs[i+m]?:=by
  funext m;let:((i:Int)+(m:Int)*1).toNat=i+m:=by symm
  rw[this]
 rw[e];let:=pick_run xs i k;rw[q5L] at this;let e2:((λx=>xs[x]?)∘λx=>i+x)=λm=>xs[i+m]?:=Y;rw[e2] at this;rw[this]
theorem O_{t sl:O}{items:Array L}{vl vu:L}{lo hi:Option Int}{Q:bA}(ht:IsTup s.heap t items)(hs:s.heap.IsSliceOf sl vl vu .none)(pl:IsPart vl lo)(pu:IsPart vu hi)
  (hw:¬ (bP items.size 0 lo=0/\bP items.size items.size hi=items.size))
  (h:Q (.ref ⇑s) {s with heap:=s.heap.push {cls:=.type "tuple",data:=.seq ((items.toList.drop (bP items.size 0 lo)).take (bP items.size items.size hi-bP items.size 0 lo)).toArray}})
  (hsz:items.size<=sizeLine):M (g prog w) A (getItem (.ref t) (.ref sl)) Q E s:=by
 let j8:sizeOk (.seq ((items.toList.drop (bP items.size 0 lo)).take (bP items.size items.size hi-bP items.size 0 lo)).toArray):=by
  show((items.toList.drop (bP items.size 0 lo)).take (bP items.size items.size hi-bP items.size 0 lo)).toArray.size<=sizeLine;rw[PA,q0E,q2e,Zh];symm
 let hj:bP items.size items.size hi<=items.size:=O6 _ _ (Hz _) hi;let⟨os,rC,tu,u3⟩:=id hs;let AR:s.TypeIs (.ref sl) "slice" := ⟨os,rC,tu⟩;unfold getItem
 try with_reducible refine q0H ?_
 first|refine rH (HA ?_)|skip
 refine rH (q6c ht.typeIs (by decide) ?_)
 refine rH (q07 (name:=q0V "__getitem__") ht.typeIs q05
  (q08 q05 ht.typeIs q5u ?_ (q5T _ _)))
 show M _ _ (q3U (.ref t) >>= _) _ _ s;calc rH (tupleItemsOf_ ht ?_);calc rH (q3I AR ?_);rw[q0e (by decide)];refine rH (Hd hs pl pu ?_)
 let Pa:¬ ((((bP items.size 0 lo:Nat):Int)==0&&(1:Int)==1&&(bP items.size items.size hi-bP items.size 0 lo)==items.size)=θ):=by
  ext q;rw[q0G,q0G] at q;let q1:((bP items.size 0 lo:Nat):Int)=0:=q1w q.1.1;let q2:bP items.size items.size hi-bP items.size 0 lo=items.size:=q1w q.2;exact hw ⟨⋯,⋯⟩
 show M _ _ (if(((bP items.size 0 lo:Nat):Int)==0&&(1:Int)==1&&(bP items.size items.size hi-bP items.size 0 lo)==items.size)=θ then _ else _) _ _ s;rw[q0c Pa,O9]
 first
  |exact rH (m:=q2u _) (q1A (HA ⟨_,Y,HA h⟩) j8)
  |exact rH (m:=q2u _) (q1A (rH (HA (HA ⟨_,Y,HA h⟩))) j8)
  |exact rH (rH (m:=q2u _) (q1A (HA (HA ⟨_,Y,HA h⟩)) j8))
  |calc rH (rH (m:=q2u _) (q1A (HA ⟨_,Y,HA h⟩) j8))
end
end HT
namespace L2
open PySem PySem.Spec PyProof.Rows
abbrev TO:=St->Hp->(Option Int->Hp->Prop)->Prop
def PO(X:Cx)(e:Option l)(t:TO):Prop :=
 ∀(pins:aL)(s:B)(σ:St)(H:Hp)(Q:Option Int->Hp->Prop),Inv X pins σ H s->t σ H Q →
  M (g X.prog X.w) X.A (evalPart e X.env) (λu s'=>∃o H',Inv X pins σ H' s'/\IsPart u o/\Q o H') X.xe s
def Pb:TO:=λ_ H Q=>Q Z H
def Pc(t:TE):TO:=fun σ H Q=>t σ H λx H1=>∃i,x=.int i/\Q (U i) H1
theorem intsAre_of{ns:-Int}:∀{us:-L},Vals (ns.map V.int) us->IntsAre us ns:=by
 induction ns with
 |nil=>ext us r;rw[q16] at r;cases r;exact .nil
 |cons n ns ih =>
  ext us r;rw[q0m] at r
  cases r with
  |cons r1 r2 =>
   let⟨t,e⟩:=r1;subst e;calc .cons n t (ih r2)
section
variable{X:Cx}{e:l}{te:TE}{lo hi:Option l}{tl th:TO}{pos p2:y}
theorem He:PO X Z Pb:=by
 ext pins s σ H Q I h;rw[q7F];calc HA ⟨Z,H,I,.none,h⟩
theorem xD(h:JE X e te):PO X (U e) (Pc te):=by
 ext pins s σ H Q I hw;rw[evalPart_some];calc bL (h pins s σ H _ I hw) λu s1 ⟨x,H1,I1,r1,q1⟩=>?_;let⟨i,rfl,q⟩:=q1;let⟨t,rfl⟩:=r1;calc⟨U i,H1,I1,.int i t,q⟩
def qe(X:Cx)(r:V->Option Int->Option Int->Hp->VK->Prop):Prop :=
 ∀(pins:aL)(s:B)(σ:St)(H:Hp)(x:V)(v vl vu:L)(lo hi:Option Int)(sl:O)(Q:VK),Inv X pins σ H s->RelV x v->s.heap.IsSliceOf sl vl vu .none->IsPart vl lo->IsPart vu hi->r x lo hi H Q →
  ∃T id,typeLookup (.type T) "__getitem__" = pure (U (.builtin id))/\s.TypeIs v T/\M (g X.prog X.w) X.A (getItem v (.ref sl)) (EP X pins σ Q) X.xe s
theorem qe.or{r r':V->Option Int->Option Int->Hp->VK->Prop}(h:qe X r)(h':qe X r'):qe X (λx lo hi H Q=>r x lo hi H Q\/r' x lo hi H Q):=by
 ext pins s σ H x v vl vu lo hi sl Q I rx hs pl pu q;rcases q with q|q
 .exact h pins s σ H x v vl vu lo hi sl Q I rx hs pl pu q
 .calc h' pins s σ H x v vl vu lo hi sl Q I rx hs pl pu q
def Pd(r:V->Option Int->Option Int->Hp->VK->Prop)(te:TE)(tl th:TO):TE:=fun σ H Q=>te σ H λx H1=>tl σ H1 λl H2=>th σ H2 λu H3=>r x l u H3 Q
theorem AS{r:V->Option Int->Option Int->Hp->VK->Prop}(hr:qe X r)(he:JE X e te)(hl:PO X lo tl)(hu:PO X hi th):JE X (.Subscript e (.Slice lo hi Z p2) pos) (Pd r te tl th):=by
 calc⟨?_⟩;ext pins s σ H Q I h;calc Subscript_ (bL (he pins s σ H _ I h) λv s1 ⟨x,H1,I1,r1,q1⟩=>?_);calc wpAny_Slice (bL (hl pins s1 σ H1 _ I1 q1) λvl s2 ⟨l,H2,I2,pl,q2⟩=>bL (hu pins s2 σ H2 _ I2 q2) λvu s3 ⟨u,H3,I3,pu,q3⟩=>?_);rw[q7F];calc HA ?_;let I4:Inv X pins σ H3 {s3 with heap:=s3.heap.push {cls:=.type "slice",data:=.fields #[vl,vu,.none]}}:=I3.kept (t':=s3.toks) λb ob q=>u7 _ q;let⟨T,id,hT,ht,hg⟩:=hr pins {s3 with heap:=s3.heap.push {cls:=.type "slice",data:=.fields #[vl,vu,.none]}} σ H3 x v vl vu l u ⇑s3 Q I4 r1 (Heap.IsSliceOf.new ..) pl pu q3
 show M (g X.prog X.w) X.A (subscriptTail e (.Slice lo hi Z p2) v (.ref ⇑s3)) (EP X pins σ Q) X.xe {s3 with heap:=s3.heap.push {cls:=.type "slice",data:=.fields #[vl,vu,.none]}};calc tail_any (ops:=[.ref ⇑s3,v]) ht hT hg (by with_unfolding_all rfl)
noncomputable def dH(xs:-V)(lo hi:Option Int):-V:=(xs.drop (HT.bP ↑xs 0 lo)).take (HT.bP ↑xs ↑xs hi-HT.bP ↑xs 0 lo)
theorem Hf(xs:-V)(lo hi:Option Int):↑(dH xs lo hi)<=↑xs:=by
 unfold dH;rw[q0E,q2e];symm
def AU(K:My):V->Option Int->Option Int->Hp->VK->Prop:=λx lo hi H Q=>∃a xs,x=.ref a/\b8 K H a xs ∧
 ¬ (HT.bP ↑xs 0 lo=0/\HT.bP ↑xs ↑xs hi=↑xs)/\∀p,H p=Z->Q (.ref p) (upd H p (.tup (dH xs lo hi)))
theorem Pe:qe X (AU X.K):=by
 ext pins s σ H x v vl vu lo hi sl Q I rx hs pl pu h;let⟨a,xs,rfl,hx,hw,q⟩:=h;cases rx
 let⟨az,r,ht,hz⟩:=I.tuple hx;let hlen:az.toArray.size=↑xs:=by rw[PA];exact r.length.symm
 calc⟨"tuple",_,q05.lookup,ht.typeIs,?_⟩;calc HT.O_ ht hs pl pu (by rw[hlen];calc hw) ?_ (by rw[hlen];calc hz);rw[hlen];calc⟨.ref ⇑s,_,I.laid (t':=s.toks) (o:=.tup (dH xs lo hi)) (λb ob q=>u7 _ q) (Hz _) ?_,Y,q _ (I.bu.fresh (Hz _))⟩;calc⟨q0w (Hf xs lo hi) hz,_,(r.drop (HT.bP ↑xs 0 lo)).take (HT.bP ↑xs ↑xs hi-HT.bP ↑xs 0 lo),IsTup.new _ _⟩
def AV(K:My):R2:=λx y H Q=>∃a b ns ms,x=.ref a/\y=.ref b/\b8 K H a (ns.map V.int)/\b8 K H b (ms.map V.int)/\Q (.bl (HT.lexLt ns ms)) H
theorem Pf(hu:X.A.units<cLine):eI X (compareOp .Lt) (AV X.K):=by
 ext pins s σ H x y v u Q I rx ry h;let⟨a,b,ns,ms,rfl,rfl,ha,hb,q⟩:=h;cases rx
 cases ry
 let⟨az,r1,p1,_⟩:=I.tuple ha;let⟨bO,r2,p2,_⟩:=I.tuple hb;let i1:IntsAre az.toArray.toList ns:=intsAre_of r1;let i2:IntsAre bO.toArray.toList ms:=intsAre_of r2;calc HT.AO p1 p2 i1 i2 hu ⟨.bl (HT.lexLt ns ms),H,I,Y,q⟩
def Pg(K:My):R2:=λx y H Q=>∃a b xs ys,x=.ref a/\y=.ref b/\b8 K H a xs/\b8 K H b ys/\xs≠[]/\↑xs+↑ys<=sizeLine ∧
 (ys=[]->Q (.ref a) H)/\(ys≠[]->∀p,H p=Z->Q (.ref p) (upd H p (.tup (xs++ys))))
theorem Vals.fV{xs:-V}{us:-L}(r:Vals xs us):us=[]↔xs=[]:=by
 cases r with
 |nil=>simp
 |cons _ _=>simp
theorem Ph:eI X (binaryOp .Add) (Pg X.K):=by
 ext pins s σ H x y v u Q I rx ry h;let⟨a,b,xs,ys,rfl,rfl,ha,hb,hx,hz,q1,q2⟩:=h;cases rx
 cases ry
 let⟨az,r1,p1,_⟩:=I.tuple ha;let⟨bO,r2,p2,_⟩:=I.tuple hb;calc HT.O4 p1 p2 (λz=>hx (r1.fV.mp z)) (λz=>⟨.ref a,H,I,Y,q1 (r2.fV.mp z)⟩) (λz=>?_) (by rw[<-↑r1,<-↑r2];calc hz);calc⟨.ref ⇑s,_,I.laid (t':=s.toks) (o:=.tup (xs++ys)) (λb ob q=>u7 _ q) (Hz _) ?_,Y,q2 (λw=>z (r2.fV.mpr w)) _ (I.bu.fresh (Hz _))⟩;calc⟨by rw[Pz];calc hz,_,r1.append r2,IsTup.new _ _⟩
end
noncomputable def jI(n:Nat)(i:Int):Option Nat:=if 0<=i then(if i<n then U i.toNat else Z) else if -(n:Int)<=i then U (i+n).toNat else Z
noncomputable def fq{α:Type}(xs:-α)(i:Int):Option α:=(jI ↑xs i).bind λj=>xs[j]?
theorem Hg{n:Nat}{i:Int}{j:Nat}(h:jI n i=U j):seqIndex? i n=U j/\j<n /\ -(n:Int)<=i/\i<n:=by
 unfold jI at h
 by_cases h0:0<=i
 .rw[q0e h0] at h
  by_cases h1:i<n
  .rw[q0e h1] at h
   let e:i.toNat=j:=q0v h;exact⟨by rw[q6L h0 h1,e],⋯,⋯,h1⟩
  .rw[q0c h1] at h;cases h
 .rw[q0c h0] at h
  by_cases h1 : -(n:Int)<=i
  .rw[q0e h1] at h
   let e:(i+n).toNat=j:=q0v h;exact⟨by rw[q6d ⋯ h1,e],⋯,h1,⋯⟩
  .rw[q0c h1] at h;cases h
theorem AW{α:Type}{xs:-α}{i:Int}{v:α}(h:fq xs i=U v):∃j,seqIndex? i ↑xs=U j/\xs[j]?=U v/\j<↑xs /\ -(↑xs:Int)<=i/\i<↑xs:=by
 unfold fq at h
 cases e:jI ↑xs i with
 |none=>rw[e] at h;cases h
 |some j =>
  rw[e] at h;let⟨h1,h2,h3,h4⟩:=Hg e;calc⟨j,h1,h,h2,h3,h4⟩
theorem j9{α:Type}{xs:-α}{j:Nat}{v:α}(h:xs[j]?=U v):fq xs (j:Int)=U v:=by
 let hj:j<↑xs:=(Hy.mp h).1
 let e:jI ↑xs (j:Int)=U j:=by
  unfold jI;rw[q0e ⋯,q0e ⋯];simp
 unfold fq;rw[e];calc h
def Hh(b:l):Prop:=∀o i,subscripted b ι o i=operate [o,i] (getItem o i)
def u4(X:Cx)(r:R2):Prop :=
 ∀(value slice:l)(pins:aL)(s:B)(σ:St)(H:Hp)(x y:V)(v u:L)(Q:VK),Inv X pins σ H s->RelV x v->RelV y u->r x y H Q →
  subscripted slice ι v u=operate [v,u] (getItem v u)->M (g X.prog X.w) X.A (subscriptTail value slice v u) (EP X pins σ Q) X.xe s
def Hi(X:Cx)(id:String)(r:V->-V->Hp->VK->Prop):Prop :=
 ∀(pins:aL)(s:B)(σ:St)(H:Hp)(x:V)(xs:-V)(v:L)(us:-L)(Q:VK),Inv X pins σ H s->RelV x v->Vals xs us->r x xs H Q →
  M (g X.prog X.w) X.A (call (.builtin id) (v::us)) (EP X pins σ Q) X.xe s
section
variable{X:Cx}{a b:l}{ta tb:TE}{pos:y}
theorem Hj{r:R2}(hr:u4 X r)(ha:JE X a ta)(hb:JE X b tb)(hs:Hh b):JE X (.Subscript a b pos) (uV r ta tb):=by
 calc⟨?_⟩;ext pins s σ H Q I h;calc Subscript_ (q_ ha hb I h λv u s2 x y H2 I2 rx ry q=>hr a b pins s2 σ H2 x y v u Q I2 rx ry q (hs _ _))
def AX(K:My):R2:=λx y H Q=>∃p xs i v,x=.ref p/\y=.int i/\bU K H p xs/\fq xs i=U v/\Q v H
def AY(K:My):R2:=λx y H Q=>∃p xs i v,x=.ref p/\y=.int i/\b8 K H p xs/\fq xs i=U v/\Q v H
def AZ:R2:=λx y H Q=>∃z i c,x=.str z/\y=.int i/\↑z<=sizeLine/\fq z.cps.toList i=U c/\Q (.str ⟨#[c]⟩) H
theorem Hk:u4 X (AX X.K):=by
 ext value slice pins s σ H x y v u Q I rx ry h hs;let⟨p,xs,i,z,rfl,rfl,hq,he,q⟩:=h;cases rx
 let⟨t,rfl⟩:=ry;let⟨az,r,pl,hz⟩:=I.list hq;let⟨j,h1,h2,h3,h4,h5⟩:=AW he;let⟨w,ew,jJ⟩:=r.get h2;let hl:=↑r;let hn:=s_;let fin:EP X pins σ Q w s:=⟨z,H,I,jJ,q⟩
 by_cases h0:0<=i
 .let hj:i.toNat=j:=by
   rw[q6L h0 h5] at h1;exact q0v h1
  exact item_listR pl.isList h0 ⋯ (by rw[hj];simpa using ew) fin hs
 .let hj:(i+(az.toArray.size:Int)).toNat=j:=by
   rw[q6d ⋯ h4] at h1;rw[PA,<-hl];exact q0v h1
  exact q4P (x:=w) pl.isList.typeIs q6e.lookup
   (wpAny_getItem_list_neg (Q:=λr s'=>r=w/\EP X pins σ Q r s') pl.isList ⋯ (by rw[PA]<;>symm) ⋯ (by rw[hj];simpa using ew) ⟨Y,fin⟩) hs
theorem Pj:u4 X (AY X.K):=by
 ext value slice pins s σ H x y v u Q I rx ry h hs;let⟨p,xs,i,z,rfl,rfl,hq,he,q⟩:=h;cases rx
 let⟨t,rfl⟩:=ry;let⟨az,r,pl,hz⟩:=I.tuple hq;let⟨j,h1,h2,h3,h4,h5⟩:=AW he;let⟨w,ew,jJ⟩:=r.get h2;let hl:=↑r;let hn:=s_;let fin:EP X pins σ Q w s:=⟨z,H,I,jJ,q⟩
 exact q4P (x:=w) pl.typeIs slot_tuple_getitem.lookup
  (getItem_tuple (j:=j) (Q:=λr s'=>r=w/\EP X pins σ Q r s') pl ⋯ ⋯ (by rw[PA,<-hl];calc h1) ew⁻¹ ⟨Y,fin⟩) hs
theorem Pk:u4 X AZ:=by
 ext value slice pins s σ H x y v u Q I rx ry h hs;let⟨z,i,c,rfl,rfl,hz,he,q⟩:=h;let⟨t,rfl⟩:=rx;let⟨t',rfl⟩:=ry;let⟨j,h1,h2,h3,h4,h5⟩:=AW he;let hl:↑z.cps.toList=↑z:=by simp[Str.length]
 rw[hl] at h1 h4 h5;let hn:=s_
 exact tail_any (typeIs_str s z t) slot_str_getitem.lookup (getItem_str (c:=c) (by
  let e1:G (i < -(2 ^ 63:Int))=ι:=Zi ⋯;let e2:G (i ≥ 2 ^ 63)=ι:=Zi ⋯
  rw[e1,e2,q5D]) (by rw[h1];simpa using h2) ⟨.str ⟨#[c]⟩,H,I.tok _,⟨_,Y⟩,q⟩) hs
theorem Pl(az:-L)(n j:Nat)(u:L):q04 (·.setIfInBounds j u) {cls:=.type "list",data:=.seq az.toArray n}={cls:=.type "list",data:=.seq (az.set j u).toArray n}:=by
 simp[q04]
theorem Inv.lst{pins:aL}{σ:St}{H:Hp}{s:B}{p:O}{xs:-V}(I:Inv X pins σ H s)(h:H p=U (.lst xs)):
  ∃(az:-L)(n:Nat),Vals xs az/\s.heap.get? p=U {cls:=.type "list",data:=.seq az.toArray n}/\↑xs<=sizeLine:=by
 let⟨z,az,n,r,e⟩:=I.bu p _ h;calc⟨az,n,r,e,z⟩
theorem Inv.rD{pins:aL}{σ:St}{H:Hp}{s:B}{p:O}{xs ys:-V}{az its':-L}{n n':Nat}{f:Q->Q}(I:Inv X pins σ H s)(h:H p=U (.lst xs))
  (ho:s.heap.get? p=U {cls:=.type "list",data:=.seq az.toArray n}) (hf:f {cls:=.type "list",data:=.seq az.toArray n}={cls:=.type "list",data:=.seq its'.toArray n'}) (r:Vals ys its') (hz:↑ys<=sizeLine) (t:Nat) :
  Inv X pins σ (upd H p (.lst ys)) {s with heap:=s.heap.update p f,toks:=t}:=by
 let e:(s.heap.update p f).get? p=U {cls:=.type "list",data:=.seq its'.toArray n'}:=by
  rw[q0U f ho (by rw[hf]<;>rfl),hf]
 calc I.write (x:=p) (e:=p) (by rw[h];trivial) (.inl Y) (λb u hb q=>(q1f _ _ (q2b hb)).trans q) ⟨_,e⟩ ?_;calc⟨hz,its',n',r,e⟩
def Hl:V->V->V->Hp->(Hp->Prop)->Prop:=λo i v H Q=>∃p xs k j,o=.ref p/\i=.int k/\H p=U (.lst xs)/\jI ↑xs k=U j/\Q (upd H p (.lst (xs.set j v)))
theorem set_list:uQ X Hl:=by
 ext pins s σ H o i v ov iv u Q I ro ri rv h;let⟨p,xs,k,j,rfl,rfl,hp,hj,q⟩:=h;cases ro
 let⟨t,rfl⟩:=ri;let⟨az,n,r,ho,hz⟩:=I.lst hp;let⟨h1,h2,h3,h4⟩:=Hg hj;let hl:=↑r;let hn:=s_
 let I':Inv X pins σ (upd H p (.lst (xs.set j v))) {s with heap:=s.heap.update p (q04 (·.setIfInBounds j u))} :=
  I.rD hp ho (Pl az n j u) (r.set rv j) (by rw[q1v];calc hz) s.toks
 by_cases h0:0<=k
 .let hk:k.toNat=j:=by
   rw[q6L h0 h4] at h1;exact q0v h1
  exact PySem.W.ki_setAt ho h0 ⋯ (by rw[PA,<-hl];calc h4) (by rw[hk];calc⟨_,I',q⟩)
 .let hk:(k+(az.toArray.size:Int)).toNat=j:=by
   rw[q6d ⋯ h3] at h1;rw[PA,<-hl];exact q0v h1
  calc PySem.W.ki_setBack ho ⋯ (by rw[PA,<-hl];calc h3) ⋯ (by rw[hk];calc⟨_,I',q⟩)
theorem Pn(lo hi:Option Int)(n:Nat):(sliceBounds lo hi Z n).1=((HT.bP n 0 lo:Nat):Int)/\(sliceBounds lo hi Z n).2.1=((HT.bP n n hi:Nat):Int)/\(sliceBounds lo hi Z n).2.2=1:=by
 refine⟨?_,?_,Y⟩
 .cases lo with
  |none=>simp[sliceBounds,HT.bP]
  |some i =>
   erw[sliceBounds,HT.bP,q4p,show(1:Int)>0 by decide,q2G]
   by_cases h:i<0
   .erw[h,q2G]<;>symm
   .erw[h,q2a]<;>symm
 .cases hi with
  |none=>simp[sliceBounds,HT.bP]
  |some i =>
   erw[sliceBounds,HT.bP,q4p,show(1:Int)>0 by decide,q2G]
   by_cases h:i<0
   .erw[h,q2G]<;>symm
   .erw[h,q2a]<;>symm
theorem Pp(az:-L)(lo hi:Option Int):slicePick az.toArray lo hi Z=((az.drop (HT.bP ↑az 0 lo)).take (HT.bP ↑az ↑az hi-HT.bP ↑az 0 lo)).toArray:=by
 let⟨h1,h2,h3⟩:=Pn lo hi az.toArray.size;unfold slicePick;rw[h1,h2,h3];erw[sliceRange_one,pick_run,PA]<;>rfl
def A0(K:My):V->Option Int->Option Int->Hp->VK->Prop:=λx lo hi H Q=>∃a xs,x=.ref a/\bU K H a xs/\∀p,H p=Z->Q (.ref p) (upd H p (.lst (dH xs lo hi)))
theorem hJ:qe X (A0 X.K):=by
 ext pins s σ H x v vl vu lo hi sl Q I rx hs pl pu h;let⟨a,xs,rfl,hx,q⟩:=h;cases rx
 let⟨az,r,ht,hz⟩:=I.list hx;let hlen:=↑r;calc⟨"list",_,q6e.lookup,ht.isList.typeIs,?_⟩;calc wpAny_getItem_list_slice ht.isList hs pl pu .none (by simp) ?_ (by rw[PA]<;>symm);rw[Pp,<-hlen];calc⟨.ref ⇑s,_,I.laid (t':=s.toks) (o:=.lst (dH xs lo hi)) (λb ob q=>u7 _ q) (Hz _) ?_,Y,q _ (I.bu.fresh (Hz _))⟩;calc⟨q0w (Hf xs lo hi) hz,_,0,(r.drop (HT.bP ↑xs 0 lo)).take (HT.bP ↑xs ↑xs hi-HT.bP ↑xs 0 lo),Zg _ Y⟩
theorem Hm:g9 X (.builtin "len") (λxs H Q=>∃p ys,xs=[.ref p]/\(bU X.K H p ys\/b8 X.K H p ys)/\Q (.int ↑ys) H):=by
 ext pins s σ H xs us Q I r h;let⟨p,ys,rfl,hq,q⟩:=h;let⟨u,rfl,rx⟩:=vals1 r;cases rx
 let hn:=s_;rcases hq with hq|hq
 .let⟨az,r',pl,hz⟩:=I.list hq
  let hlen:=↑r';exact Calls.call_len_list pl.isList (by erw[PA]<;>symm) ⟨.int ↑ys,H,I.tok _,⟨s.toks+1,by rw[PA,hlen]⟩,q⟩
 .let⟨az,r',pl,hz⟩:=I.tuple hq
  let hlen:=↑r';calc len_tuple pl (by erw[PA]<;>symm) ⟨.int ↑ys,H,I.tok _,⟨s.toks+1,by rw[PA,hlen]⟩,q⟩
theorem Pq:g9 X (.builtin "len") (λxs H Q=>∃z,xs=[.str z]/\↑z<=sizeLine/\Q (.int ↑z) H):=by
 ext pins s σ H xs us Q I r h;let⟨z,rfl,hz,q⟩:=h;let⟨u,rfl,t,rfl⟩:=vals1 r;let hn:=s_;calc len_str ⋯ ⟨.int ↑z,H,I.tok _,⟨_,Y⟩,q⟩
theorem A1:g9 X (.type "list") (λxs H Q=>∃p ys,xs=[.ref p]/\(bU X.K H p ys\/b8 X.K H p ys)/\∀l,H l=Z->Q (.ref l) (upd H l (.lst ys))):=by
 ext pins s σ H xs us Q I r h;let⟨p,ys,rfl,hq,q⟩:=h;let⟨u,rfl,rx⟩:=vals1 r;cases rx
 let fin:∀(az:-L),Vals ys az->↑ys<=sizeLine->∀(h':Α)(c':Nat),(∀b o',s.heap.get? b=U o'->h'.get? b=U o') →
   h'.get? ⇑s=U {cls:=.type "list",dict:=none,data:=.seq az.toArray c',slots := #[]}->EP X pins σ Q (.ref ⇑s) {s with heap:=h'}:=λaz r' hz h' c' kp e =>
  ⟨.ref ⇑s,_,I.laid (t':=s.toks) kp (Hz _) (show bw X.prog X.w _ h' _ (.lst ys) from⟨hz,az,c',r',e⟩),Y,q _ (I.bu.fresh (Hz _))⟩
 rcases hq with hq|hq
 .let⟨az,r',pl,hz⟩:=I.list hq
  let hlen:=↑r';let⟨o,ho,hc,n,hd⟩:=pl.isList;exact q7G p (.inl Y) ho hc hd (λh' c' kp e=>fin az r' hz h' c' kp e) (by erw[PA]<;>symm)
 .let⟨az,r',pl,hz⟩:=I.tuple hq
  let hlen:=↑r';let⟨o,ho,hc,n,hd⟩:=pl;calc q7G p (.inr Y) ho hc hd (λh' c' kp e=>fin az r' hz h' c' kp e) (by erw[PA]<;>symm)
theorem Hn:g9 X (.type "tuple") (λxs H Q=>∃p ys,xs=[.ref p]/\((bU X.K H p ys/\∀l,H l=Z->Q (.ref l) (upd H l (.tup ys)))\/(b8 X.K H p ys/\Q (.ref p) H))):=by
 ext pins s σ H xs us Q I r h;let⟨p,ys,rfl,h⟩:=h;let⟨u,rfl,rx⟩:=vals1 r;cases rx
 rcases h with⟨hq,q⟩|⟨hq,q⟩
 .let⟨az,r',pl,hz⟩:=I.list hq
  let hlen:=↑r';calc call_tuple_list pl.isList (λh' kp=>?_) (by erw[PA]<;>symm);let I1:Inv X pins σ H {s with heap:=h'}:=I.kept (t':=s.toks) kp
  let I2:Inv X pins σ (upd H h'.objs.size (.tup ys)) {s with heap:=h'.push {cls:=.type "tuple",data:=.seq az.toArray}} :=
   I1.laid (t':=s.toks) (λb o e=>u7 _ e) (Hz _) (show bw X.prog X.w _ _ _ (.tup ys) from⟨hz,az,r',IsTup.new _ _⟩)
  exact⟨.ref h'.objs.size,_,I2,Y,q _ (I1.bu.fresh (Hz _))⟩
 .let⟨az,r',pl,hz⟩:=I.tuple hq
  calc call_tuple_same pl ⟨.ref p,H,I,Y,q⟩
def Ho(K:My)(T:String)(x:V)(H:Hp):Prop:=match x with
 |.str _=>T="str"
 |.int _=>T="int"
 |.ref p=>(T="list" /\ ∃xs,bU K H p xs)\/(T="tuple" /\ ∃o,K.lookup p=U o/\o.cls=.type "tuple" /\ o.dict=Z) ∨
   (T="dict" /\ ((∃kvs,H p=U (.dK kvs))\/∃kvs,H p=U (.dT kvs)))\/(T="set" /\ ∃S n,H p=U (.set S n))
 |_=>False
theorem Pr{pins:aL}{σ:St}{H:Hp}{s:B}{T:String}{x:V}{v:L}(I:Inv X pins σ H s)(r:RelV x v)(ty:Ho X.K T x H):
  s.TypeIs v T/\∀a,v=.ref a->∃ob,s.heap.get? a=U ob/\ob.dict=Z:=by
 cases x with
 |str z =>
  let⟨t,rfl⟩:=r;cases(show T="str" from ty)
  exact⟨typeIs_str s z t,λ_ e=>nomatch e⟩
 |int i =>
  let⟨t,rfl⟩:=r;cases(show T="int" from ty)
  exact⟨q7g s i t,λ_ e=>nomatch e⟩
 |ref p =>
  cases r
  rcases ty with⟨rfl,xs,hq⟩|⟨rfl,o,hk,hc,hd⟩|⟨rfl,hk⟩|⟨rfl,S,n,hk⟩
  .let⟨az,_,pl,_⟩:=I.list hq
   calc⟨pl.isList.typeIs,λa e=>?_⟩;cases e
   let⟨o,n,e,c,hd,_⟩:=pl;exact⟨o,e,hd⟩
  .refine⟨⟨o,I.fF p o hk,hc⟩,λa e=>?_⟩
   cases e
   exact⟨o,I.fF _ o hk,hd⟩
  .let z:∃o,s.heap.get? p=U o/\o.ExactDict:=by
    rcases hk with⟨kvs,hk⟩|⟨kvs,hk⟩
    .let⟨_,_,_,_,o,_,_,e,ex,_⟩:=I.bu p _ hk
     exact⟨o,e,ex⟩
    .let⟨_,_,_,_,o,_,_,e,ex,_⟩:=I.bu p _ hk
     exact⟨o,e,ex⟩
   let⟨o,e,ex⟩:=z;calc⟨⟨o,e,ex.1⟩,λa e2=>?_⟩;cases e2
   exact⟨o,e,ex.2.1⟩
  .let⟨o,_,_,_,e,ex,_⟩:=I.bu p _ hk
   calc⟨⟨o,e,ex.1⟩,λa e2=>?_⟩;cases e2
   exact⟨o,e,ex.2.1⟩
 |_=>calc q1n ty
def xE(K:My)(T:String)(r:V->-V->Hp->VK->Prop)(to:TE)(t:TA):TE:=fun σ H Q=>to σ H λx H1=>Ho K T x H1/\t σ H1 λxs H2=>r x xs H2 Q
variable{o e:l}{es:-l}{to:TE}{t:TA}{name:J}{apos eA:y}{T id:String}{r:V->-V->Hp->VK->Prop}
theorem m_(pa:PlainAttrs T)(slot:Slot T name id)(Pt:typeOf (.builtin id)=pure (.type "method_descriptor"))(hm:Hi X id r)(ho:JE X o to)(ha:JA X (e::es) t)
  (u5:attributeBase o name X.env (eval o X.env)=eval o X.env:=by rfl)
  (A3:((backTo eA (starEach (e::es) X.env)).all (λx => !x.1)&&(backToKw eA (keywordEach [] X.env)).all (λx=>x.1.isSome)
   && G (↑(e::es)+↑([]:-Keyword)+(if([]:-Keyword).isEmpty then 0 else 1)<30))=θ:=by rfl)
  (u6:(apos.endLine==eA.line)=θ:=by rfl) (hs:cR X e es:=by rfl) (hplain:dh X eA es:=by rfl) :
  JE X (.Call (.Attribute o name apos) (e::es) [] eA) (xE X.K T r to t):=by
 calc⟨?_⟩;ext pins s σ H Q I h;calc wpAny_Call_method_late u5 A3 u6 Y (bL (ho pins s σ H _ I h) λv s1 ⟨x,H1,I1,r1,ty,q1⟩=>?_);let⟨h1,h2⟩:=Pr I1 r1 ty;calc⟨T,id,pa,slot,Pt,h1,h2,?_⟩;let hA:=ha eA pins s1 σ H1 _ I1 q1;rw[hs] at hA ⊢;calc q4Q (by show(ι||(backTo eA (starEach es X.env)).any (·.1))=ι;rw[hplain]<;>rfl) (q5q ?_);calc bL hA λus s2 ⟨vs,H2,I2,r2,q2⟩↦hm pins s2 σ H2 x vs v us Q I2 r1 r2 q2
end
def A4(X:Cx)(id:String)(r:V->-V->Hp->VK->Prop):Prop :=
 ∀(pins:aL)(s:B)(σ:St)(H:Hp)(x:V)(xs:-V)(v:L)(us:-L)(Q:VK),Inv X pins σ H s->RelV x v->Vals xs us->r x xs H Q →
  M (g X.prog X.w) X.A (call (.builtin id) (v::us)) (EP X pins σ Q) X.xe s
theorem Vals.one:∀{x:V}{us:-L},Vals [x] us->∃u,us=[u]/\RelV x u:=by
 ext x us h
 cases h with
 |cons r h=>cases h;calc⟨_,Y,r⟩
theorem Vals.two:∀{x y:V}{us:-L},Vals [x,y] us->∃u v,us=[u,v]/\RelV x u/\RelV y v:=by
 ext x y us h
 cases h with
 |cons r h =>
  let⟨v,rfl,q⟩:=Vals.one h;calc⟨_,_,Y,r,q⟩
theorem Vals.eraseIdx:∀{xs:-V}{us:-L}(i:Nat),Vals xs us->Vals (xs.eraseIdx i) (us.eraseIdx i)
 |_,_,_,.nil=>.nil
 |_,_,0,.cons _ t=>t
 |_,_,i+1,.cons r t=>.cons r (Vals.eraseIdx i t)
theorem Vals.rep{xs:-V}{us:-L}(h:Vals xs us):∀k:Nat,Vals (q0f k xs).flatten (q0f k us).flatten
 |0=>.nil
 |k+1=>by
  rw[q1m,q1m,q2r,q2r];calc Vals.append h (Vals.rep h k)
theorem Hq{α:Type}:∀(l:-α)(i:Nat),↑(l.eraseIdx i)<=↑l
 |[],_=>Hz _
 |_::_,0=>q3w _
 |_::r,i+1=>q4y (Hq r i)
theorem foldl_rep(az:-L):∀(k:Nat)(acc:-L),
  q7h (λx1 x2=>x1++x2) acc.toArray (q0f k az.toArray)=(acc++(q0f k az).flatten).toArray
 |0,acc=>by simp
 |k+1,acc=>by
  let e:acc.toArray++az.toArray=(acc++az).toArray:=by simp
  let e2:(acc++az)++(q0f k az).flatten=acc++(q0f (k+1) az).flatten:=by
   rw[q1m,q2r,q2p]
  rw[<-e2,<-foldl_rep az k (acc++az),<-e,q1m,rJ]
section
variable{X:Cx}{pins:aL}{σ:St}{H:Hp}{s:B}{l b:O}{xs ys zs:-V}
theorem Inv.rE{az its':-L}{n:Nat}{f:Array L->Array L}{t':Nat}(I:Inv X pins σ H s)(hH:H l=U (.lst xs))
  (e:s.heap.get? l=U {cls:=.type "list",data:=.seq az.toArray n}) (hf:f az.toArray=its'.toArray) (hv:Vals ys its') (hz:↑ys<=sizeLine) :
  Inv X pins σ (upd H l (.lst ys)) {s with heap:=s.heap.update l (q04 f),toks:=t'}:=by
 let q:=PySem.IsL.update e f;rw[hf] at q;calc I.write (x:=l) (e:=l) (by rw[hH];calc trivial) (.inl Y) (λb' u hb hu=>(q1f s.heap (q04 f) (q2b hb)).trans hu) ⟨_,q⟩ ?_;calc⟨hz,its',_,hv,q⟩
theorem Inv.cA{az:-L}{t':Nat}(I:Inv X pins σ H s)(hv:Vals ys az)(hz:↑ys<=sizeLine):
  Inv X pins σ (upd H ⇑s (.lst ys)) {s with heap:=s.heap.push {cls:=.type "list",data:=.seq az.toArray},toks:=t'} :=
 I.laid (λ_ _ q=>u7 _ q) (Hz _) ⟨hz,az,0,hv,Zg _ Y⟩
theorem Inv.fresh(I:Inv X pins σ H s):H ⇑s=Z:=I.bu.fresh (Hz _)
theorem Inv.jK(I:Inv X pins σ H s)(hH:H l=U (.lst xs)):↑xs<=sizeLine/\∃(az:-L)(n:Nat),Vals xs az/\↑xs=↑az/\s.heap.get? l=U {cls:=.type "list",data:=.seq az.toArray n}:=by
 let⟨z,az,n,r,e⟩:=I.bu l _ hH;calc⟨z,az,n,r,↑r,e⟩
theorem Hr{n:Nat}(h:n<=sizeLine):q2v n=ι:=by
 unfold q2v;calc Zi ⋯
end
section
variable{X:Cx}
def Hs:V->-V->Hp->VK->Prop:=λx vs H Q=>∃l xs y,x=.ref l/\vs=[y]/\H l=U (.lst xs)/\↑xs<sizeLine/\Q .non (upd H l (.lst (xs++[y])))
theorem qf:A4 X "list.append" Hs:=by
 ext pins s σ H x vs v us Q I rx rv h;let⟨l,xs,y,rfl,rfl,hH,hz,q⟩:=h;cases rx
 let⟨u,rfl,ru⟩:=rv.one;let⟨z,az,n,r,hl,e⟩:=I.jK hH;calc q4R F.slot_list_append ⟨_,e,Y⟩ F.entry_list_append (F.args_list_append_2 _ _) (PySem.list_append l az.toArray n u (by rw[PA];symm)) ⟨e,?_⟩;calc⟨.non,_,I.rE (its':=az++[u]) hH e (by simp) (r.append (.cons ru .nil)) ?_,Y,q⟩;rw[Pz,q0Q];symm
def Ht:V->-V->Hp->VK->Prop:=λx vs H Q=>∃l b xs zs,x=.ref l/\vs=[.ref b]/\H l=U (.lst xs)/\H b=U (.lst zs)/\↑xs+↑zs<=sizeLine/\Q .non (upd H l (.lst (xs++zs)))
theorem Hu:A4 X "list.extend" Ht:=by
 ext pins s σ H x vs v us Q I rx rv h;let⟨l,b,xs,zs,rfl,rfl,hH,hB,hz,q⟩:=h;cases rx
 let⟨u,rfl,ru⟩:=rv.one;cases ru
 let⟨z,az,n,r,hl,e⟩:=I.jK hH;let⟨z2,bO,n2,r2,tw,e2⟩:=I.jK hB;let hsz:az.toArray.size+bO.toArray.size<=sizeLine:=by rw[PA,PA];symm
 let l4:¬ (!az.toArray.isEmpty&&q2v (az.toArray.size+bO.toArray.size))=θ:=by
  rw[Hr hsz,q7i];exact q0z
 refine q4R F.slot_list_extend ⟨_,e,Y⟩ F.entry_list_extend (F.args_list_extend_2 _ _)
  (AutoSeq1.list_extend_list_list_0 l az.toArray n b bO.toArray n2 l4 (by rw[PA];symm) ⋯) ⟨e,e2,?_⟩
 calc⟨.non,_,I.rE (its':=az++bO) hH e (by simp) (r.append r2) ?_,Y,q⟩;rw[Pz];symm
def Hv:V->-V->Hp->VK->Prop:=λx vs H Q=>∃l xs i k y,x=.ref l/\vs=[.int i]/\H l=U (.lst xs) /\ -(2 ^ 63)<=i/\i<2 ^ 63/\seqIndex? i ↑xs=U k/\xs[k]?=U y/\Q y (upd H l (.lst (xs.eraseIdx k)))
theorem Pu:A4 X "list.pop" Hv:=by
 ext pins s σ H x vs v us Q I rx rv h;let⟨l,xs,i,k,y,rfl,rfl,hH,h1,h2,hk,hy,q⟩:=h;cases rx
 let⟨u,rfl,ru⟩:=rv.one;let⟨t,rfl⟩:=ru;let⟨z,az,n,r,hl,e⟩:=I.jK hH;let⟨w,hw,jJ⟩:=r.get hy
 refine q4R F.slot_list_pop ⟨_,e,Y⟩ F.entry_list_pop (F.args_list_pop_2 _ _)
  (MeetsSeq.list_pop_at l az.toArray n i t k w (q7j h1 h2) (by rw[PA,<-hl];calc hk) (by rw[<-q0B];calc hw) (by rw[PA];symm)) ⟨e,?_⟩
 refine⟨y,_,I.rE (its':=az.eraseIdx k) hH e ?_ (r.eraseIdx k) ?_,jJ,q⟩
 .show az.toArray.eraseIdxIfInBounds k=(az.eraseIdx k).toArray
  rw[List.eraseIdxIfInBounds_toArray]
 .let:=Hq xs k
  symm
def A5:R2:=λx y H Q=>∃l b xs zs,x=.ref l/\y=.ref b/\H l=U (.lst xs)/\H b=U (.lst zs)/\↑xs+↑zs<=sizeLine/\∀p,H p=Z->Q (.ref p) (upd H p (.lst (xs++zs)))
theorem Hw:eI X (binaryOp .Add) A5:=by
 ext pins s σ H x y v u Q I rx ry h;let⟨l,b,xs,zs,rfl,rfl,hH,hB,hz,q⟩:=h;cases rx
 cases ry
 let⟨z,az,n,r,hl,e⟩:=I.jK hH;let⟨z2,bO,n2,r2,tw,e2⟩:=I.jK hB;calc PySem.P.add_list e e2 ?_ (by rw[PA,PA];symm);let ea:az.toArray++bO.toArray=(az++bO).toArray:=by simp
 rw[ea];calc⟨.ref _,_,I.cA (t':=s.toks) (r.append r2) (by rw[Pz];symm),Y,q _ I.fresh⟩
def A6:R2:=λx y H Q=>∃l k xs,x=.ref l/\y=.int k/\H l=U (.lst xs) /\ -(2 ^ 63)<=k/\k<2 ^ 63/\↑xs*k.toNat<=sizeLine ∧
 ∀p,H p=Z->Q (.ref p) (upd H p (.lst (q0f k.toNat xs).flatten))
theorem len_rep{α:Type}(xs:-α)(k:Nat):(q0f k xs).flatten.length=k*↑xs:=by
 induction k with
 |zero=>simp
 |succ k ih=>rw[q1m,q2r,Pz,ih,q8d,Nat.add_comm]
theorem Pw:eI X (binaryOp .Mult) A6:=by
 ext pins s σ H x y v u Q I rx ry h;let⟨l,k,xs,rfl,rfl,hH,h1,h2,hz,q⟩:=h;cases rx
 let⟨t,rfl⟩:=ry;let⟨z,az,n,r,hl,e⟩:=I.jK hH;let hlen:az.toArray.size*k.toNat<=sizeLine:=by rw[PA,<-hl];exact hz
 let A7:¬ az.toArray.size*k.toNat>(2 ^ 63-1) / 8:=by
  let:(sizeLine:Nat)<=(2 ^ 63-1) / 8:=by decide
  symm
 let A8:¬ (!Builtin.List.listFitsIndex k)=θ:=by
  rw[q7j h1 h2];exact q0z
 let l4:¬ q2v (az.toArray.size*k.toNat)=θ:=by
  rw[Hr hlen];exact q0z
 let A9:q7h (λx1 x2=>x1++x2) #[] (q0f (if az.toArray.isEmpty=θ then 0 else k.toNat) az.toArray)=(q0f k.toNat az).flatten.toArray:=by
  let f0:∀m:Nat,q7h (λx1 x2=>x1++x2) #[] (q0f m az.toArray)=(q0f m az).flatten.toArray:=λm=>by
   let:=foldl_rep az m [];rw[q40] at this;exact this
  rw[f0]
  cases az with
  |nil=>simp
  |cons a r'=>rw[q0c (by simp)]
 refine wpAny_binaryOp_repeat_ref (T:="list") (U:="int") (by decide) ⟨_,e,Y⟩ (λs'=>q7g s' k t) noFill_list_mul F.fills_int_mul q6X repeat_list F.slot_int_index.lookup
  (q4R q6X (q7g s k t) F.entry_int_rmul (F.args_int_rmul_2 _ _) (int___rmul___int_list k t l az.toArray n)
   ⟨e,Y,⟨_,e,Y⟩,q4R F.slot_list_mul ⟨_,e,Y⟩ F.entry_list_mul (F.args_list_mul_2 _ _) (AutoListH.list___mul___list_int_3 l az.toArray n k t A8 A7 l4) ⟨e,?_⟩⟩)
 rw[A9];calc⟨.ref _,_,I.cA (t':=s.toks) (r.rep k.toNat) (by rw[len_rep,q76];calc hz),Y,q _ I.fresh⟩
end
section
variable{prog:t}{w:S}{A:o}{E:bA}{s:B}
end
section
variable{X:Cx}
end
end L2
namespace Att
open PySem PySem.W PySem.Calls PyProof.Rows
theorem fG{P:Params}{h:I}:∀(ns:-Int)(vs:-L),WellAll P h vs (ns.map WData.int)->IntsAre vs ns:=by
 ext ns
 induction ns with
 |nil =>
  ext vs w;rw[q16] at w;cases w
  exact .nil
 |cons n ns ih =>
  ext vs w;rw[q0m] at w
  cases w with
  |cons a b =>
   cases a
   calc .cons _ _ (ih _ b)
theorem kJ{l:OpenLaw}{n:Nat}(hn:l.most=U n){P:Params}{h:I}{args:-WData}{vals:-L}
  (oh:l.row.toRowW.claim.pre args=θ) (A_:WellAll P h vals args) :
  ∃a vs ns,vals=[q0F a]/\args=[WData.list (ns.map WData.int)]/\h.get? a=U {cls:=.type "list",data:=.seq vs.toArray}/\IntsAre vs ns/\↑ns<=n:=by
 let Px:WShape.hasAll [] args [.list .int]=θ:=(pre_splitW oh).1;let hc:l.pre.holds [] {args:=args}=θ:=(pre_splitW oh).2;let⟨d,r,rfl,h1,h2⟩:=hasAllW_cons Px;obtain rfl:=hasAllW_nil h2;let⟨xs,rfl,h3⟩:=hasW_list h1;let⟨ns,rfl⟩:=items_int h3
 let hlen:↑ns<=n:=by
  unfold OpenLaw.pre at hc
  let h4:(WTm.not (.lt (.lit (.int (n:Int))) (.len (.arg 0)))).holds [] {args:=[.list (ns.map .int)]}=θ:=by
   let h4:=(holds_andW hc).1;rw[hn] at h4;exact h4
  let h5:=condW_of h4 (w_not (w_lt w_lit (w_len_list (w_arg Y))));rw[Ba] at h5;calc q3n λq=>?_;let q':(n:Int)<((↑ns:Nat):Int):=by symm
  first
   |(rw[q0i q'] at h5;calc absurd h5 (by decide))
   |(simp at h5;symm)
 cases A_ with
 |cons w1 w2 =>
  cases w2
  cases w1 with
  |list ho iO=>calc⟨_,_,ns,Y,Y,ho,fG ns _ iO,hlen⟩
theorem kK(l:OpenLaw)(args:-WData):l.row.toRowW.claim.post args (.bool θ) args=θ :=
 postW_of (r:=l.row.toRowW) (X:=(θ==θ))
  (show WShape.has [] (.bool θ) .bool=θ by first|rfl|decide|simp[WShape.has,WShape.arms,WShape.armsAll])
  (show(WTm.eq .res (.lit (.bool θ))).value [] {args:=args,res:=U (.bool θ),after:=args}=U (.bool (θ==θ)) from w_eq_bool (w_res Y) w_lit) Y
theorem iT{l:OpenLaw}{n:Nat}{q:t}{loose:-J}{XP:(J->Option L)->I->Prop}{YP:S->I->Prop}{d:DefRec}
  (hn:l.most=U n) (u9:d.params.defaults=[])
  (call:∀(w:S)(s₀ s₁:B)(mg mb:J->Option L)(fa:O)(o:Q)(pm cd doc:L)(a:O)(vs:-L)(ns:-Int),
   Ground q loose [] XP w s₀ mg mb s₁.heap->YP w s₁.heap →
   s₁.heap.get? fa=U o->o.data=.func (docDef d.name d.params d.body d.scope pm cd doc)->s₁.heap.CodeRec cd d.name->mg d.name=U (.ref fa) →
   s₁.heap.get? a=U {cls:=.type "list",data:=.seq vs.toArray}->IntsAre vs ns->↑ns<=n->s₁.gens = #[] →
   codeAny (g l.prog w) callerA (.call (.ref fa) ⟨[.ref a],[]⟩) (λr s'=>r=.ok (.ret (.bool θ))/\OldK s₁.heap s'.heap/\s'.os=s₁.os/\AllBare s'.gens) s₁) :
  WalkO q loose XP YP l.row.toRowW d [] (λf vs=>q7l f vs):=by
 ext w s₀ s₁ mg mb G Y fa o pm cd doc dV kV ho hd g6 hD om hg args vals as oh Py Zb A_ Zc;obtain rfl:dV=.none:=Dflts.none hD u9;obtain rfl:kV=.none:=Dflts.noKw hD;let⟨a,vs,ns,rfl,rfl,rF,hints,hlen⟩:=kJ hn oh A_;calc enter_call (q2H (call w s₀ s₁ mg mb fa o pm cd doc a vs ns G Y ho (fd_plain hd) g6 om rF hints hlen hg) λr s' hq=>?_);let⟨rfl,h2,h3,h4⟩:=hq;calc⟨.inl ⟨.bool θ,.bool θ,[],rfl,λ_=>rfl,.bool θ,kK l _,λ_=>⟨q51,λ_ hm=>(nomatch hm)⟩⟩,h2,h3,h4⟩
section
variable{prog:t}{w:S}{A:o}{E:bA}{s:B}{K:Frag}
end
end Att
namespace L2
open PySem PySem.Spec PyProof.Rows
theorem Hx:∀{vs:-L}{ns:-Int},IntsAre vs ns->Vals (ns.map V.int) vs
 |_,_,.nil=>.nil
 |_,_,.cons n t h=>.cons ⟨t,Y⟩ (Hx h)
noncomputable def inClass(s:R)(j:Nat):R:=match s with
 |.ClassDef _ _ _ body _ _ _ _ _ _ _=>body.getD j (.Pass ⟨0,0,0,0⟩)
 |_=>.Pass ⟨0,0,0,0⟩
noncomputable def jL(s:R):Arguments:=match s with
 |.FunctionDef _ a _ _ _ _ _ _ _ _=>a
 |_=>{posonlyargs:=[],args:=[],vararg:=none,kwonlyargs:=[],kw_defaults:=[],kwarg:=none,defaults:=[]}
noncomputable def f_(s:R):-R:=match s with
 |.FunctionDef _ _ b _ _ _ _ _ _ _=>b
 |_=>[]
noncomputable def cK(s:R):a:=match s with
 |.FunctionDef _ _ _ _ _ _ sc _ _ _=>sc
 |_=>{kind:=.function,names:=[],isGenerator:=false,isCoroutine:=false}
abbrev ft:lq:=λ_ _ _ _ _ _=>False
abbrev E0:XK:=λ_ _ _=>False
theorem rK{X:Cx}:rm ft X E0:=λ_ _ _ _ _ _ _ h=>h.elim
structure gj(K:My)(x qual:J)(st:R)(f:O)(fd:FuncData):Prop where
 ex:∃(oc:L)(od:Option O)(kV doc pm:L)(an:Option O)(bH ct:L)(n_:Array (Option L)),
  fd=q06 x qual (jL st) (f_ st) (cK st) .none kV doc pm an bH ct/\K.lookup f=U ⟨oc,od,.func fd,n_⟩/\q2N K bH qual=θ
 kp:q09 K (.ref f)=θ
section
variable{P:t}{w:S}{K:My}{mg:J->Option L}{base:I}
theorem gj.xG{x qual:J}{st:R}{f:O}{fd:FuncData}{N ps:-J}{k:Nat}{sp:Sp}(F:gj K x qual st f fd)(S:n8 N ps (cK st))(len:∀vs H Q E,sp vs H Q E->↑vs=↑ps)
  (eT:∀(bH:L)(A:o)(outer:-X)(s:B)(H:Hp)(vs:-V)(Q:VK)(E:XK),bD k (A.deeper (envOfC qual (cK st) ⇑s f bH))->sp vs H Q E →
   ∃t,dO (fm ft P w K mg base N qual (cK st) f bH A outer s H E).lj (f_ st) t/\t {nx:=λ_ H'=>Q .non H',rt:=Q} (start N vs) H):cj P w K mg base ft (k+1) f fd ps sp:=by
 let⟨oc,od,kV,doc,pm,an,bH,ct,n_,rfl,lk,g6⟩:=F.ex;calc G7 lk g6 S len λA outer s H vs Q E hr qd=>?_;let⟨t,h,q⟩:=eT bH A outer s H vs Q E hr qd;calc⟨t,h.lj,q⟩
theorem gj.binds{x qual:J}{st:R}{f:O}{fd:FuncData}{ps:-J}(F:gj K x qual st f fd)
  (h:∀(kV doc pm:L)(an:Option O)(bH ct:L)(us:-L),↑us=↑ps->bindArgs (q06 x qual (jL st) (f_ st) (cK st) .none kV doc pm an bH ct) ⟨us,[]⟩=pure (ps.zip us)):Binds K fd ps []:=by
 let⟨oc,od,kV,doc,pm,an,bH,ct,n_,rfl,lk,g6⟩:=F.ex;calc .all (h kV doc pm an bH ct)
theorem xH{x qual:J}{st:R}{f:O}{oc:L}{od an:Option O}{n_:Array (Option L)}{kV doc pm bH ct:L}(l:K.lookup f=U ⟨oc,od,.func (q06 x qual (jL st) (f_ st) (cK st) .none kV doc pm an bH ct),n_⟩)
  (c:q2N K bH qual=θ) (k:q09 K (.ref f)=θ):gj K x qual st f (q06 x qual (jL st) (f_ st) (cK st) .none kV doc pm an bH ct):=⟨⟨oc,od,kV,doc,pm,an,bH,ct,n_,Y,l,c⟩,k⟩
end
theorem qg{n:Nat}(h:n<=1000):n<sizeLine:=q24 h (by decide)
section
variable{X:Cx}
theorem jv(i:Nat){x:J}{pos:y}(hN:X.N[i]?=U x:=by rfl)(hv:uL X.env.scope x:=by first|exact q5c Y|exact q5d (q5c Y)|calc q5d (q5d Y))(hd:b9 x:=by decide)
  (g6:(x==("__classdict__" : J))=ι:=by decide):JE X (.Name x pos) (uO i):=GI hN hv hd g6
end
def aP(H H':Hp):Prop:=∀b o,H b=U o->H' b=U o
theorem aP.trans{H H1 H2:Hp}(a:aP H H1)(b:aP H1 H2):aP H H2:=λc o h=>b c o (a c o h)
theorem aP.free{H H':Hp}(e:aP H H'){l:O}(h:H' l=q9k):H l=q9k:=by
 cases q:H l with
 |none=>rfl
 |some o =>
  rw[e l o q] at h;cases h
theorem aP.seq{K:My}{H H':Hp}{a:O}{xs:-V}(e:aP H H')(h:bU K H a xs):bU K H' a xs:=by
 rcases h with(h|⟨o,h⟩)|h
 .exact .inl (.inl (e _ _ h))
 .exact .inl (.inr ⟨o,e _ _ h⟩)
 .calc .inr h
theorem PE{prog:t}{w:S}{A:o}{R:Result->B->Prop}{s:B}{elt target iter:l}{ifs:-l}{scope:a}{pos:y}{it acc:L}{env:X}(I:Nat->B->Prop)
  (turn:∀n s,I n s->M (g prog w) A (pyNext it) (λr s₁=>match r with
   |none=>R (.ok .next) s₁
   |some v=>M (g prog w) A (letOwnedTupleGo target it v) (λ_ s₂=>M (g prog w) A (assign target env v) (λ_ s₃ =>
     M (g prog w) A (forIn ifs θ λc r=>if r=θ then do let ok <- isTrue c env (eval c env);pure (q1J ok) else pure (q1J r)) (λok s₄ =>
      if ok=θ then M (g prog w) A (eval elt env) (λx s₅ =>
       M (g prog w) A (call (.builtin "list.append") [acc,x]) (λ_ s₆=>∃m,m<n/\I m s₆) (λ_ _=>False) s₅) (λ_ _=>False) s₄
      else ∃m,m<n/\I m s₄) (λ_ _=>False) s₃) (λ_ _=>False) s₂) (λ_ _=>False) s₁) (λ_ _=>False) s)
  (n:Nat) (h:I n s) :
  codeAny (g prog w) A (.compLoop (.ListComp elt [⟨target,iter,ifs,0⟩] scope pos) 0 it acc env) R s:=by
 calc codeAny_loop Y I (λn s hI=>?_) n h;show M _ A ((compTurn (.ListComp elt [⟨target,iter,ifs,0⟩] scope pos) 0 it acc env).onRaise (λx=>do noteFrame x env;theTreesLotGoes x)) _ _ s;calc wpAny_noted ?_;rw[compTurn_list];refine rH (q2Y (rH (q1M (turn n s hI) (λr s₁ h₁=>?_) λ_ _ h'=>q1n h')))
 cases r with
 |none=>exact HA h₁
 |some v =>
  calc rH (q1M h₁ (λ_ s₂ h₂=>?_) λ_ _ h'=>q1n h');refine rH (q1M h₂ (λ_ s₃ h₃=>rH (q1M h₃ (λok s₄ h₄=>?_) λ_ _ h'=>q1n h')) λ_ _ h'=>q1n h')
  cases ok with
  |false=>exact HA ⟨Y,h₄⟩
  |true =>
   calc rH (rH (q1M h₄ (λx s₄ h₄=>rH (q1M h₄ (λ_ s₅ h₅=>HA (HA ⟨Y,h₅⟩)) λ_ _ h'=>q1n h')) λ_ _ h'=>q1n h'))
theorem Bb{env:X}:∀(names:-(J×NameKind))(acc:-(J×O)),(∀y∈names,y.2=.free->∃c,env.cells.lookup y.1=U c)->(∀x c,acc.lookup x=U c->env.cells.lookup x=U c) →
  ∃cl,(forIn names acc (λ(x:Str×NameKind) (cs:-(Str×Addr))=>if x.2==q1T then cellOf env x.1 >>= λa=>pure (q1J ((x.1,a)::cs)) else pure (q1J cs)):Sem (-(J×O)))=pure cl ∧
   (∀x c,cl.lookup x=U c->env.cells.lookup x=U c)/\(∀y∈names,y.2=.free->∃c,cl.lookup y.1=U c)/\(∀x c,acc.lookup x=U c->∃c,cl.lookup x=U c)
 |[],acc,_,h2=>⟨acc,Y,h2,λ_ hy=>absurd hy (by simp),λx c e=>⟨c,e⟩⟩
 |(n,k)::r,acc,h1,h2=>by
  rw[q41]
  by_cases hk:k=.free
  .subst hk
   let⟨c,hc⟩:=h1 (n,.free) q0h Y;let kD:env.cells.lookup n=U c:=hc;let ec:cellOf env n=pure c:=by unfold cellOf;rw[kD]
   let f6:∀x d,((n,c)::acc).lookup x=U d->env.cells.lookup x=U d:=λx d e=>by
    rw[q0q] at e
    cases q:x==n with
    |true =>
     rw[q] at e;cases e
     rw[q1w q];exact kD
    |false =>
     rw[q] at e;exact h2 x d e
   let⟨cl,e,p1,p2,p3⟩:=Bb r ((n,c)::acc) (λy hy=>h1 y (q0g _ hy)) f6;refine⟨cl,?_,p1,λy hy hf=>?_,λx d e=>?_⟩
   .dsimp only
    rw[q0e (by decide),ec];exact e
   .rcases PC.mp hy with rfl|hy
    .exact p3 n c (by simp)
    .exact p2 y hy hf
   .cases q:x==n with
    |true=>exact p3 x c (by rw[q0q,q])
    |false=>exact p3 x d (by rw[q0q,q];calc e)
  .let⟨cl,e,p1,p2,p3⟩:=Bb r acc (λy hy=>h1 y (q0g _ hy)) h2
   refine⟨cl,?_,p1,λy hy hf=>?_,p3⟩
   .dsimp only
    rw[q0c hk⁻¹];exact e
   .rcases PC.mp hy with rfl|hy
    .exact absurd hf hk
    .calc p2 y hy hf
theorem HC{scope:Δ}{env:X}(h:∀y∈scope.names,y.2=.free->∃c,env.cells.lookup y.1=U c):
  ∃cl,closureFor scope env=pure cl/\(∀x c,cl.lookup x=U c->env.cells.lookup x=U c)/\∀y∈scope.names,y.2=.free->∃c,cl.lookup y.1=U c:=by
 let⟨cl,e,p1,p2,_⟩:=Bb scope.names [] h (λx c e=>by simp at e);calc⟨cl,?_,p1,p2⟩;let e':closureFor scope env=(forIn scope.names ([]:-(J×O)) (λ(x:Str×NameKind) (cs:-(Str×Addr))=>if x.2==q1T then cellOf env x.1 >>= λa=>pure (q1J ((x.1,a)::cs)) else pure (q1J cs)):Sem (-(J×O))) >>= pure:=Y;rw[e',e];rfl
structure BD where
 cl:-(J×O)
 C:O
 s:B
 H:Hp
 fp:-O
@[reducible] noncomputable def cN (X:Cx) (scope:a) (Nb:-J) (d:BD):Cx where
 prog:=X.prog
 w:=X.w
 K:=X.K
 mg:=X.mg
 base:=X.base
 A:=X.A
 N:=Nb
 s₀:=d.s
 H₀:=d.H
 env:=compEnvC scope d.cl d.C X.env
 outer:=X.stack
 stack:=X.stack
 ex:=d.fp
 fn:=λx=>G (scope.names.lookup x=U .cell)
 calm:=X.calm
 pn:=[]
 xe:=λ_ _=>False
noncomputable def jr(cp:-(Option Nat))(σ:St):St:=cp.map λo=>match o with
 |some i=>(σ[i]?).join
 |none=>Z
noncomputable def l5(N:-J)(xI scope:a)(Nb:-J)(cp:-(Option Nat)):Bool :=
 (scope.names.all λy=>(G (y.2≠.cell)||G (scope.names.lookup y.1=U .cell))&&(G (y.2≠.local)||G (scope.names.lookup y.1=U .local))&&(G (y.2≠.free)||G (xI.names.lookup y.1=U .cell)||G (xI.names.lookup y.1=U .free))) &&
 G (↑cp=↑Nb)&&(cp.zip Nb).all λz=>match z.1 with
  |none=>θ
  |some i=>G (N[i]?=U z.2)&&G (scope.names.lookup z.2=U .free)
structure xJ(X:Cx)(scope:a)(Nb:-J)(cp:-(Option Nat)):Prop where
 kind:scope.kind=.function
 cell:∀y∈scope.names,y.2=.cell->scope.names.lookup y.1=U .cell
 names:∀y∈scope.names,y.2=.local->scope.names.lookup y.1=U .local
 free:∀y∈scope.names,y.2=.free->(X.env.kindOf y.1=U .cell\/X.env.kindOf y.1=U .free)
 len:↑cp=↑Nb
 u_:∀(j i:Nat)(x:J),cp[j]?=U (U i)->Nb[j]?=U x->X.N[i]?=U x/\scope.names.lookup x=U .free
theorem x3N{X:Cx}{scope:a}{Nb:-J}{cp:-(Option Nat)}(hk:scope.kind=.function)(h:l5 X.N X.env.scope scope Nb cp=θ):xJ X scope Nb cp:=by
 unfold l5 at h;erw[q0G,q1N,q3B,q0t] at h;let⟨⟨h1,h2⟩,h3⟩:=h;refine⟨hk,λy hy e=>(h1 y hy).1.1.resolve_left (λz=>z e),λy hy e=>?_,λy hy e=>?_,h2,λj i x e1 e2=>?_⟩
 .rcases (h1 y hy).1.2 with z|z
  .exact absurd e z
  .exact z
 .rcases (h1 y hy).2 with(z|z)|z
  .exact absurd e z
  .exact .inl z
  .exact .inr z
 .let hm:(U i,x)∈cp.zip Nb:=by
   let:(cp.zip Nb)[j]?=U (U i,x):=by
    rw[List.getElem?_zip_eq_some];exact⟨e1,e2⟩
   exact q0S this
  let:=h3 _ hm;simpa using this
theorem Bc{env:X}{x:J}:∀{names:-(J×NameKind)}{k:NameKind},names.lookup x=U k →
  (names.map λ(n,k)=>if(k==q1T&&env.scope.kind==.function&&env.kindOf n==U .cell) then(n,q1F) else(n,k)).lookup x =
   U (if(k==q1T&&env.scope.kind==.function&&env.kindOf x==U .cell) then q1F else k)
 |[],k,h=>by simp at h
 |(n,k')::r,k,h=>by
  let ih:=@Bc env x r k;show q2D x ((if(k'==q1T&&env.scope.kind==.function&&env.kindOf n==U .cell)=θ then(n,q1F) else(n,k'))::_)=_
  cases hx:x==n with
  |true =>
   erw[q0q,hx] at h;cases h
   let e:x=n:=q1w hx;subst e
   by_cases hc:(k'==q1T&&env.scope.kind==.function&&env.kindOf x==U .cell)=θ
   .rw[q0e hc,q0e hc];simp[q0q]
   .rw[q0c hc,q0c hc];simp[q0q]
  |false =>
   erw[q0q,hx] at h
   by_cases hc:(k'==q1T&&env.scope.kind==.function&&env.kindOf n==U .cell)=θ
   .rw[q0e hc];erw[q0q,hx];exact ih h
   .rw[q0c hc];erw[q0q,hx];calc ih h
theorem HD{env:X}{x:J}:∀{names:-(J×NameKind)},names.lookup x=Z →
  (names.map λ(n,k)=>if(k==q1T&&env.scope.kind==.function&&env.kindOf n==U .cell) then(n,q1F) else(n,k)).lookup x=Z
 |[],h=>by simp
 |(n,k')::r,h=>by
  let ih:=@HD env x r;show q2D x ((if(k'==q1T&&env.scope.kind==.function&&env.kindOf n==U .cell)=θ then(n,q1F) else(n,k'))::_)=_
  cases hx:x==n with
  |true=>erw[q0q,hx] at h;cases h
  |false =>
   erw[q0q,hx] at h
   by_cases hc:(k'==q1T&&env.scope.kind==.function&&env.kindOf n==U .cell)=θ
   .rw[q0e hc];erw[q0q,hx];exact ih h
   .rw[q0c hc];erw[q0q,hx];calc ih h
structure JF(X:Cx)(ifs:-l)(t:TT):Prop where
 out:∀(pins:aL)(s:B)(σ:St)(H:Hp)(Q:Bool->Hp->Prop),Inv X pins σ H s->t σ H Q →
  M (g X.prog X.w) X.A (forIn ifs θ λc r=>if r=θ then do let ok <- isTrue c X.env (eval c X.env);pure (q1J ok) else pure (q1J r)) (TP X pins σ Q) X.xe s
instance {X:Cx} {ifs:-l} {t:TT}:CoeFun (JF X ifs t) (λ_=>∀(pins:aL)(s:B)(σ:St)(H:Hp)(Q:Bool->Hp->Prop),Inv X pins σ H s->t σ H Q->M (g X.prog X.w) X.A (forIn ifs θ λc r=>if r=θ then do let ok <- isTrue c X.env (eval c X.env);pure (q1J ok) else pure (q1J r)) (TP X pins σ Q) X.xe s):=⟨JF.out⟩
def Bd:TT:=λ_ H Q=>Q θ H
theorem rL{X:Cx}:JF X [] Bd:=⟨λ_ _ _ H _ I h=>wpAny_tests_nil ⟨H,I,h⟩⟩
theorem PF{X:Cx}{c:l}{t:TT}(h:JT X c t):JF X [c] t:=⟨λpins s σ H Q I hw=>wpAny_tests_one (h pins s σ H Q I hw)
⟩
def PG(g:TG)(tf:TT)(te:TE)(l:O)(x:V)(τ:St)(H:Hp)(N:St->Hp->Prop):Prop :=
 g x τ H fun τ2 H2=>tf τ2 H2 λb H3=>if b=θ then te τ2 H3 λy H4=>∃ys,H4 l=U (.lst ys)/\↑ys<sizeLine/\N τ2 (upd H4 l (.lst (ys++[y]))) else N τ2 H3
def HE(J:It)(g:TG)(tf:TT)(te:TE)(l:O)(τ0:St)(H0:Hp)(Q:VK):Prop :=
 ∃W:Nat->Nat->St->Hp->Prop,(∃m,W 0 m τ0 H0)/\∀i m τ H,W i m τ H →
  (J.stop i H/\Q (.ref l) H)\/(J.go i H/\∃N:St->Hp->Prop,(∀τ' H',N τ' H'->∃m',m'<m/\W (i+1) m' τ' H')/\∀x H',J.sZ i H x H'->PG g tf te l x τ H' N)
def va(wi:TI)(cp:-(Option Nat))(g:BD->TG)(tf:BD->TT)(te:BD->TE):TE:=fun σ H Q=>wi σ H λJ H1=>∀(d:BD)(l:O),H1 l=Z->HE J (g d) (tf d) (te d) l (jr cp σ) (upd H1 l (.lst [])) Q
theorem tF:∀{names:-(J×NameKind)}{n:Nat}{acc:-(J×O)}{x:J}{c:O},(cellsFrom n names acc).lookup x=U c->acc.lookup x=U c\/(n<=c/\(x,q1F)∈names)
 |[],n,acc,x,c,h=>.inl h
 |(y,k)::r,n,acc,x,c,h=>by
  unfold cellsFrom at h;split at h
  .rename_i hk
   let ek:k=.cell:=q1w hk;subst ek;rcases tF h with h|⟨h,m⟩
   .rw[q0q] at h
    cases q:x==y with
    |true=>rw[q] at h;cases h;rw[q1w q];exact .inr ⟨Hz _,q0h ..⟩
    |false=>rw[q] at h;exact .inl h
   .exact .inr ⟨⋯,q0g _ m⟩
  .rcases tF h with h|⟨h,m⟩
   .exact .inl h
   .calc .inr ⟨h,q0g _ m⟩
theorem Be:∀{names:-(J×NameKind)}{n:Nat}{acc:-(J×O)}{x:J}{c:O},(x,q1F)∈names->(cellsFrom n names acc).lookup x=U c->n<=c
 |[],n,acc,x,c,m,h=>by cases m
 |(y,k)::r,n,acc,x,c,m,h=>by
  unfold cellsFrom at h
  by_cases mr:(x,q1F)∈r
  .split at h
   .let:=Be mr h;symm
   .exact Be mr h
  .let e:(x,q1F)=(y,k):=by
    rcases PC.mp m with e|e
    .exact e
    .exact absurd e mr
   cases e
   rw[q0e (by decide)] at h;rcases tF h with h|⟨h,_⟩
   .rw[q0q,beq_self_eq_true] at h
    cases h;exact Hz _
   .omega
theorem Bf:∀{names:-(J×NameKind)}{n:Nat}{acc:-(J×O)}{x y:J}{c:O},(∀u v c,acc.lookup u=U c->acc.lookup v=U c->u=v)->(∀u c,acc.lookup u=U c->c<n)->(cellsFrom n names acc).lookup x=U c->(cellsFrom n names acc).lookup y=U c->x=y
 |[],n,acc,x,y,c,hi,_,h1,h2=>hi x y c h1 h2
 |(z,k)::r,n,acc,x,y,c,hi,hb,h1,h2=>by
  unfold cellsFrom at h1 h2;split at h1
  .rename_i hk
   rw[q0e hk] at h2;refine Bf (λu v c q1 q2=>?_) (λu c q=>?_) h1 h2
   .rw[q0q] at q1 q2
    cases e1:u==z with
    |true =>
     rw[e1] at q1;cases q1
     cases e2:v==z with
     |true=>rw[q1w e1,q1w e2]
     |false=>rw[e2] at q2;exact absurd (hb v _ q2) (q1E _)
    |false =>
     rw[e1] at q1
     cases e2:v==z with
     |true=>rw[e2] at q2;cases q2;exact absurd (hb u _ q1) (q1E _)
     |false=>rw[e2] at q2;exact hi u v c q1 q2
   .rw[q0q] at q
    cases e1:u==z with
    |true=>rw[e1] at q;cases q;exact q0N _
    |false=>rw[e1] at q;exact q0J (hb u c q)
  .rename_i hk
   rw[q0c hk] at h2;calc Bf hi hb h1 h2
theorem Bg:∀{names:-(J×NameKind)}{n:Nat}{acc:-(J×O)}{x:J},(x,q1F)∉names->(cellsFrom n names acc).lookup x=acc.lookup x
 |[],n,acc,x,_=>Y
 |(y,k)::r,n,acc,x,m=>by
  unfold cellsFrom;split
  .rename_i hk
   let ek:k=.cell:=q1w hk;subst ek;rw[Bg λz=>m (q0g _ z),q0q]
   cases q:x==y with
   |true=>exact absurd (by rw[q1w q];calc q0h ..) m
   |false=>rfl
  .calc Bg λz=>m (q0g _ z)
theorem Bh:∀{names:-(J×NameKind)}{h:I}{acc:-(J×O)}{x:J}{c:O},(∀u c,acc.lookup u=U c->∃v,h.IsCell c v)->(cellsFrom h.objs.size names acc).lookup x=U c->∃v,(pushCells h names).IsCell c v
 |[],h,acc,x,c,hc,e=>hc x c e
 |(y,k)::r,h,acc,x,c,hc,e=>by
  unfold cellsFrom at e;unfold pushCells;split at e
  .rename_i hk
   rw[q0e hk];let hz:(h.push {cls:=.type "cell",data:=.cell Z}).objs.size=h.objs.size+1:=q0T ..;rw[<-hz] at e;calc Bh (λu c q=>?_) e;rw[q0q] at q
   cases e1:u==y with
   |true=>rw[e1] at q;cases q;exact⟨Z,_,Zg _ Y,Y⟩
   |false =>
    rw[e1] at q;let⟨v,o,g1,g2⟩:=hc u c q;exact⟨v,o,u7 _ g1,g2⟩
  .rename_i hk
   rw[q0c hk];calc Bh hc e
theorem PH{M:Model}{A:o}{E:bA}{s:B}{scope:a}{g:O}{cl:-(J×O)}{qual:J}{env:X}{Q:X->B->Prop}
  (h:Q (newEnv scope ⇑s g (cellsFrom (⇑s+1) scope.names cl) qual Z .none (U env) builtinsNs) {s with heap:=pushCells (s.heap.push {cls:=.type "dict",data:=.dict #[]}) scope.names}) :
  ρ M A (newFunctionEnv scope g cl [] qual Z .none (U env)) Q E s:=by
 erw[newFunctionEnv,q3V,q2G];calc rH (wpAny_alloc ?_);calc rH (wpAny_layCells _ (λname kind cells=>by cases PJ:kind==q1F<;>simp[PJ]) _ _ _ _ ?_);rw[show({s with heap:=s.heap.push {cls:=.type "dict",data:=.dict #[]}}:B).heap.objs.size=⇑s+1 from q0T ..];calc rH ?_;rw[q5r];calc HA (HA h)
section
variable{X:Cx}{elt tg iter:l}{ifs:-l}{scope:a}{pos:y}{Nb:-J}{cp:-(Option Nat)}{wi:TI}{g:BD->TG}{tf:BD->TT}{te:BD->TE}
variable{pins:aL}{σ:St}{H:Hp}{s:B}
noncomputable abbrev vc(scope:a)(s:B)(cl:-(J×O)):-(J×O):=cellsFrom (⇑s+1) scope.names cl
theorem PK{fp:-O}{cl:-(J×O)}(S:xJ X scope Nb cp)(I:Inv X pins σ H s)(hf:∀b∈fp,b7 X pins H b)(ho:∀b∈fp,∃o,s.heap.get? b=U o)
  (c1:∀x c,cl.lookup x=U c->X.env.cells.lookup x=U c) (c2:∀y∈scope.names,y.2=.free->∃c,cl.lookup y.1=U c):(cN X scope Nb ⟨vc scope s cl,⇑s,s,H,fp⟩).Ok:=by
 let PL:∀b∈fp,b∉lh X.stack:=λb hb z=>by
  let⟨_,f1,f2,_⟩:=hf b hb;rcases PC.mp (I.g5 b z) with e|e
  .exact f1 e
  .exact f2 e
 let lt:∀u c,cl.lookup u=U c->c<⇑s:=λu c e=>by
  let⟨v,q⟩:=I.cell u c (c1 _ _ e);exact q.lt
 refine⟨I.ok.mod,?_,I.ok.glob,I.ok.blt,Hz _,λx y c h1 h2=>?_,λx hx=>?_,λx c h hc=>?_,I.ok.hd,I.ok.frames,.inl Y,λb hb=>⟨?_,λx c e=>?_⟩,I.bs,q0w I.ok.lV I.sz,λb o e hb=>?_,PL,I.stack,I.j6⟩
 .exact S.kind
 .exact Bf (λu v c q1 q2=>I.ok.inj u v c (c1 _ _ q1) (c1 _ _ q2)) (λu c e=>q0J (lt u c e)) h1 h2
 .cases q:scope.names.lookup x with
  |none =>
   let z:(relabel scope X.env).names.lookup x=Z:=HD q;let tG:(relabel scope X.env).names.lookup x=U .cell\/(relabel scope X.env).names.lookup x=U .free:=hx;rw[z] at tG;rcases tG with h|h<;>cases h
  |some k =>
   let hm:=q1l q;let z:(relabel scope X.env).names.lookup x=_:=Bc (env:=X.env) q;let tG:(relabel scope X.env).names.lookup x=U .cell\/(relabel scope X.env).names.lookup x=U .free:=hx;rw[z] at tG
   let kf:k=.free\/k=.cell:=by
    by_cases hk:k=.free
    .exact .inl hk
    .let:(k==q1T)=ι:=by simpa using hk
     erw[this,q5n,q03,q2a] at tG;rcases tG with h|h
     .exact .inr (q0v h)
     .exact absurd (q0v h) hk
   calc q4h.mp (q3e scope.names _ cl ?_);rcases kf with rfl|rfl
   .let⟨c,e⟩:=c2 (x,.free) hm Y
    exact .inr (by rw[show cl.lookup x=U c from e];rfl)
   .exact .inl q
 .let hl:scope.names.lookup x=U .cell:=q0O h
  let:=Be (q1l hl) hc;exact q6g this
 .let⟨o,e⟩:=ho b hb
  exact q0b (Ze e)
 .rcases tF e with e|⟨e,_⟩
  .exact (hf b hb).2.2.2.2.1 x c (c1 _ _ e)
  .let⟨o,eo⟩:=ho b hb
   let Bi:=Ze eo;ext z;subst z;exact absurd (q6h e) (x0z.mpr (q1d Bi))
 .rcases (hf b hb).2.2.2.1 with z|z
  .exact I.ok.iR b o e z
  .calc absurd (q0j (Ze (I.ok.bs b o e).1) z) (q1E _)
theorem PM{cp:-(Option Nat)}{σ:St}{j:Nat}{v:V}(h:(jr cp σ)[j]?=U (U v)):∃i,cp[j]?=U (U i)/\σ[i]?=U (U v):=by
 unfold jr at h;rw[PB] at h
 cases e:cp[j]? with
 |none=>rw[e] at h;cases h
 |some o =>
  rw[e] at h
  cases o with
  |none=>cases h
  |some i =>
   calc⟨i,Y,?_⟩;let h':(σ[i]?).join=U v:=q0v h
   cases q:σ[i]? with
   |none=>rw[q] at h';cases h'
   |some z =>
    rw[q] at h';let:z=U v:=h';rw[this]
theorem PN{fp:-O}{cl:-(J×O)}{h1:Α}{tk:Nat}(S:xJ X scope Nb cp)(I:Inv X pins σ H s)(hf:∀b∈fp,b7 X pins H b)(ho:∀b∈fp,∃o,s.heap.get? b=U o)
  (c1:∀x c,cl.lookup x=U c->X.env.cells.lookup x=U c) (c2:∀y∈scope.names,y.2=.free->∃c,cl.lookup y.1=U c)
  (hn:h1.Ns ⇑s (λx=>([]:-(J×L)).reverse.lookup x)) (hk:∀b o,s.heap.get? b=U o->h1.get? b=U o) (tu:∀x c,(vc scope s cl).lookup x=U c->∃v,h1.IsCell c v) :
  Inv (cN X scope Nb ⟨vc scope s cl,⇑s,s,H,fp⟩) [] (jr cp σ) H {s with heap:=h1,toks:=tk}:=by
 refine⟨PK S I hf ho c1 c2,Y,I.bare,Un.kept hk,⟨_,hn,λj x v e1 e2 e3=>?_⟩,tu,I.bu.fresh (Hz _),λx c e=>?_,λp hp=>absurd (show p∈([]:aL) from hp) (by simp),I.bu.kept hk,?_⟩
 .let⟨i,q1,q2⟩:=PM e2
  let⟨q3,q4⟩:=S.u_ j i x q1 e1;let hm:=q1l q4;let qh:=S.free _ hm Y;let⟨m,_,hl⟩:=I.loc
  let PQ:uL X.env.scope x:=by
   rcases qh with h|h
   .exact .inr (.inl h)
   .exact .inr (.inr h)
  let⟨u,ru,lk⟩:=hl i x v q3 q2 PQ;refine⟨u,ru,?_⟩
  let nl:X.env.kindOf x≠U .local:=by
   rcases qh with h|h
   .ext z;rw[h] at z;cases z
   .ext z;rw[h] at z;cases z
  rcases lk with⟨k,_⟩|⟨_,c,ec,hc⟩
  .exact absurd k nl
  .let⟨c',HF⟩:=c2 (x,.free) hm Y
   let HG:=c1 _ _ HF;rw[ec] at HG;cases HG;let nc:(x,q1F)∉scope.names:=λz=>by let:=S.cell _ z Y;rw[show scope.names.lookup x=U .free from q4] at this;cases this
   refine .inr ⟨?_,c,(Bg nc).trans HF,?_⟩
   .let z:(relabel scope X.env).names.lookup x=_:=Bc (env:=X.env) q4
    show(relabel scope X.env).names.lookup x=U .cell\/(relabel scope X.env).names.lookup x=U .free;rw[z];split
    .exact .inl Y
    .exact .inr Y
   .let⟨o,e,d⟩:=hc
    exact⟨o,hk _ _ e,d⟩
 .rcases tF e with e|⟨e,_⟩
  .exact I.cJ x c (c1 _ _ e)
  .exact I.bu.fresh (q6g e)
 .unfold jr
  rw[Ba];calc S.len
theorem PR{fp:-O}{d:BD}{it l:O}{tn:Nat->I->Prop}{J:It}{R:Result->B->Prop}{Q:VK}{H1:Hp}{s1:B}{τ:St}(hc:X.calm=θ)
  (hg:JG (cN X scope Nb d) tg (g d)) (hf:JF (cN X scope Nb d) ifs (tf d)) (he:JE (cN X scope Nb d) elt (te d)) (T:Turn X.prog X.w X.K tg J fp it tn)
  (Zj:d.fp=fp) (I1:Inv (cN X scope Nb d) [] τ H1 s1) (iS:tn 0 s1.heap) (HH:∀b∈fp,b7 (cN X scope Nb d) [] H1 b)
  (W:Nat->Nat->St->Hp->Prop) (w0:∃m,W 0 m τ H1)
  (turn:∀i m τ H,W i m τ H->(J.stop i H/\Q (.ref l) H)\/(J.go i H/\∃N:St->Hp->Prop,(∀τ' H',N τ' H'->∃m',m'<m/\W (i+1) m' τ' H')/\∀x H',J.sZ i H x H'->g d x τ H' fun τ2 H2=>tf d τ2 H2 λb H3 =>
   if b=θ then te d τ2 H3 λy H4=>∃ys,H4 l=U (.lst ys)/\↑ys<sizeLine/\N τ2 (upd H4 l (.lst (ys++[y]))) else N τ2 H3))
  (fin:∀τ' H' s',Inv (cN X scope Nb d) [] τ' H' s'->Q (.ref l) H'->R (.ok .next) s') :
  codeAny (ς X.prog X.w) X.A (.compStart (.ListComp elt [⟨tg,iter,ifs,0⟩] scope pos) 0 (.ref it) (.ref l) (compEnvC scope d.cl d.C X.env)) R s1:=by
 let jD:∀{H':Hp},(∀b∈fp,H' b=Z)->∀b∈fp,b7 (cN X scope Nb d) [] H' b:=λhn b hb=>⟨hn b hb,(HH b hb).2⟩
 let loop:codeAny (ς X.prog X.w) X.A (.compLoop (.ListComp elt [⟨tg,iter,ifs,0⟩] scope pos) 0 (.ref it) (.ref l) (compEnvC scope d.cl d.C X.env)) R s1:=by
  let⟨m0,w0⟩:=w0;calc PE (λn s'=>∃i τ' H',Inv (cN X scope Nb d) [] τ' H' s'/\tn i s'.heap/\(∀b∈fp,H' b=Z)/\W i n τ' H') ?_ m0 ⟨0,τ,H1,I1,iS,λb hb=>(HH b hb).1,w0⟩;ext n s3 ⟨i,σ3,H3,I3,qa,uU,w3⟩;rcases turn i n σ3 H3 w3 with⟨stop,qn⟩|⟨go,N,hN,step⟩
  .refine bL (T.done (cN X scope Nb d) Y Y Y hc i [] s3 σ3 H3 (λ_ _=>False) I3 (jD uU) qa stop) λr s4 ⟨hr,I4⟩=>?_
   subst hr;exact fin σ3 H3 s4 I4 qn
  .refine bL (T.item (cN X scope Nb d) Y Y Y hc i [] s3 σ3 H3 (λ_ _=>False) I3 (jD uU) qa go) λr s4 ⟨u,hr,h4⟩=>?_
   subst hr;calc bL h4 λ_ s5 ⟨x,H5,I5,r5,y5,q9,Ax⟩=>?_;let Ay:=I5.pinned (jD Ax) (T.obj _ _ q9);refine bL (hg _ s5 σ3 H5 x u _ Ay r5 (step x H5 y5)) λ_ s6 ⟨σ6,H6,I6,q6⟩=>?_
   let again:∀{σ7:St}{H7:Hp}{s7:B}{m':Nat},Inv (cN X scope Nb d) ([]++uT fp s5.heap) σ7 H7 s7->m'<n->W (i+1) m' σ7 H7->∃m,m<n/\∃i σ' H',Inv (cN X scope Nb d) [] σ' H' s7/\tn i s7.heap/\(∀b∈fp,H' b=Z)/\W i m σ' H':=λ{σ7 H7 s7 m'} I7 hm w7=>by
    calc⟨m',hm,i+1,σ7,H7,I7.eR,T.keep _ _ _ q9 λb hb o e=>(I7.pin (b,o) (q0k _ (q0k _ (xu hb e)))).1,λb hb=>?_,w7⟩;let⟨o,e,d⟩:=T.obj _ _ q9 b hb;exact(I7.pin (b,o) (q0k _ (q0k _ (xu hb e)))).2.1
   refine bL (hf _ s6 σ6 H6 _ I6 q6) λok s7 h0_=>el3 h0_ λH7 I7 q7=>?_
   cases ok with
   |false =>
    rw[q0c q0z] at q7 ⊢;let⟨m',hm,w7⟩:=hN _ _ q7;exact again I7 hm w7
   |true =>
    rw[q0e Y] at q7 ⊢;calc bL (he _ s7 σ6 H7 _ I7 q7) λy s8 ⟨yv,H8,I8,r8,ys,hy,hz,q8⟩=>?_;let⟨m',hm,w8⟩:=hN _ _ q8;calc bL (qf _ s8 σ6 H8 (.ref l) [yv] (.ref l) [y] (λ_ H9=>H9=upd H8 l (.lst (ys++[yv]))) I8 Y (.cons r8 .nil) ⟨l,ys,yv,Y,Y,hy,hz,Y⟩) λ_ s9 ⟨_,H9,I9,_,e9⟩=>?_;subst e9;exact again I9 hm w8
 calc codeAny_compStart_list loop (T.self _ 0 s1 _ _ iS loop)
theorem PS{fp:-O}{d:BD}{τ:St}{H1 H':Hp}{s1 s':B}(I1:Inv X pins σ H1 s1)(hs:d.s=s1)(hH:d.H=H1)(hd:d.fp=fp)(hf:∀b∈fp,b7 X pins H1 b)(J:Inv (cN X scope Nb d) [] τ H' s'):Inv X pins σ H' s':=by
 subst hs hH hd;calc I1.uN (ch:=d.fp) J.os J.base J.bu J.bare λb hb=>⟨(hf b hb).2.2.2.1,(hf b hb).2.1,(hf b hb).2.2.2.2.1,(hf b hb).2.2.2.2.2⟩
theorem HI{use:Option (L->Sem Unit)}{P:bA}{Q:VK}(hc:X.calm=θ)(S:xJ X scope Nb cp)(hi:JI X tg iter wi)(hg:∀d,JG (cN X scope Nb d) tg (g d))(hf:∀d,JF (cN X scope Nb d) ifs (tf d))(he:∀d,JE (cN X scope Nb d) elt (te d))
  (hs:∀x,foldedSetIterable iter X.env x=pure x) (I:Inv X pins σ H s) (h:va wi cp g tf te σ H Q)
  (fin:∀(l C:O)(H':Hp)(s':B)(m:π->Option L),Inv X pins σ H' s'->b7 X pins H' C->(∀p c,X.env.cells.lookup p=U c->c≠C)->s'.heap.Ns C m->Q (.ref l) H'->compPost (ς X.prog X.w) X.A X.xe use P (.ref l) C (.ok .next) s') :
  M (ς X.prog X.w) X.A (comprehension (.ListComp elt [⟨tg,iter,ifs,0⟩] scope pos) scope X.env (firstIterPos [⟨tg,iter,ifs,0⟩] pos) (newList []) ι (eval iter X.env) use) P X.xe s:=by
 let⟨cl,PT,c1,c2⟩:=HC (scope:=scope) (env:=X.env) λy hy PU=>by
  rcases S.free y hy PU with z|z
  .exact I.ok.has _ (.inl z)
  .exact I.ok.has _ (.inr z)
 calc wpAny_comprehension_free (cl:=cl) Y hs PT S.kind S.names (bL (hi pins s σ H _ I h) λv s1 h1=>bL h1 λAu s2 h2=>?_);let⟨it,fp,tn,J,H2,e,I2,T,j5,f2,q2⟩:=h2;subst e;calc q1A ?_;let hl:H2 ⇑s2=Z:=I2.fresh;let I3:Inv X pins σ (upd H2 ⇑s2 (.lst [])) {s2 with heap:=s2.heap.push {cls:=.type "list",data:=.seq ([]:-L).toArray}}:=I2.cA (t':=s2.toks) (ys:=[]) .nil (q0Z _);let k3:∀b o,s2.heap.get? b=U o->(s2.heap.push {cls:=.type "list",data:=.seq ([]:-L).toArray}).get? b=U o:=λb o e=>u7 _ e
 let f3:∀b∈fp,b7 X pins (upd H2 ⇑s2 (.lst [])) b:=λb hb=>by
  let⟨o,e,_⟩:=T.obj _ _ j5 b hb;calc⟨?_,(f2 b hb).2⟩;rw[bF (q0b (Ze e))];exact(f2 b hb).1
 generalize PV:upd H2 ⇑s2 (.lst [])=H3 at I3 f3;generalize PW:({s2 with heap:=s2.heap.push {cls:=.type "list",data:=.seq ([]:-L).toArray}}:B)=s3 at I3;let HJ:∀b o,s2.heap.get? b=U o->s3.heap.get? b=U o:=by rw[<-PW];exact k3
 let o3:∀b∈fp,∃o,s3.heap.get? b=U o:=λb hb=>let⟨o,e,_⟩:=T.obj _ _ j5 b hb;⟨o,HJ b o e⟩;calc PH ?_;let k4:∀b o,s3.heap.get? b=U o->(pushCells (s3.heap.push {cls:=.type "dict",data:=.dict #[]}) scope.names).get? b=U o:=λb o e=>q6Y _ _ _ _ (u7 _ e);let vd:(pushCells (s3.heap.push {cls:=.type "dict",data:=.dict #[]}) scope.names).Ns ⇑s3 (λx=>([]:-(π×L)).reverse.lookup x):=(Heap.Ns.new s3.heap (.type "dict")).keeps (q6Y _ _)
 let I4:=PN (Nb:=Nb) (tk:=s3.toks) S I3 f3 o3 c1 c2 vd k4 λx c e=>by
  let hz:(s3.heap.push {cls:=.type "dict",data:=.dict #[]}).objs.size=⇑s3+1:=q0T ..;let e':(cellsFrom (s3.heap.push {cls:=.type "dict",data:=.dict #[]}).objs.size scope.names cl).lookup x=U c:=by rw[hz];exact e
  calc Bh (λu c q=>?_) e';let⟨v,o,g1,g2⟩:=I3.cell u c (c1 _ _ q);exact⟨v,o,u7 _ g1,g2⟩
 generalize PX:pushCells (s3.heap.push {cls:=.type "dict",data:=.dict #[]}) scope.names=h₁ at k4 vd I4 ⊢;let⟨W,w0,turn⟩:=q2 ⟨vc scope s3 cl,⇑s3,s3,H3,fp⟩ ⇑s2 hl;rw[PV] at w0;refine PR (d:=⟨vc scope s3 cl,⇑s3,s3,H3,fp⟩) (fp:=fp) (tn:=tn) (J:=J) (Q:=Q) hc (hg _) (hf _) (he _) T Y I4 (T.keep _ _ _ j5 λb hb o e=>k4 b o (HJ b o e)) (λb hb=>?_) W w0 turn fun τ' H' s' I5 q5=>?_
 .let⟨o,e⟩:=o3 b hb
  refine⟨(f3 b hb).1,q0b (Ze e),λz=>?_,.inl hb,λx c ec=>?_,λp hp=>absurd (show p∈([]:aL) from hp) (by simp)⟩
  .rcases PC.mp (I3.g5 b z) with r|r
   .exact (f3 b hb).2.1 r
   .exact (f3 b hb).2.2.1 r
  .rcases tF ec with q|⟨q,_⟩
   .exact (f3 b hb).2.2.2.2.1 x c (c1 _ _ q)
   .let Bi:=Ze e
    ext z;subst z;exact absurd (q6h q) (x0z.mpr (q1d Bi))
 .let I6:Inv X pins σ H' s':=PS I3 Y Y Y f3 I5
  let⟨m,hn,_⟩:=I5.loc;let fC:b7 X pins H' ⇑s3:=I3.g8 (Hz _) I5.free;calc fin _ _ _ _ m I6 fC (λp c e=>fC.2.2.2.2.1 p c e) hn q5
theorem HK(cp:-(Option Nat))(Nb:-J)(hc:X.calm=θ)(hi:JI X tg iter wi)(hg:∀d,JG (cN X scope Nb d) tg (g d))(hf:∀d,JF (cN X scope Nb d) ifs (tf d))(he:∀d,JE (cN X scope Nb d) elt (te d))
  (hk:scope.kind=.function:=by rfl) (ho:l5 X.N X.env.scope scope Nb cp=θ:=by first|rfl|kernel_rfl) (hs:∀x,foldedSetIterable iter X.env x=pure x:=by ext _;rfl) :
  JE X (.ListComp elt [⟨tg,iter,ifs,0⟩] scope pos) (va wi cp g tf te):=by
 calc⟨?_⟩;ext pins s σ H Q I h;rw[eval_ListComp];calc HI (use:=none) hc (x3N hk ho) hi hg hf he hs I h λl C H' s' m I' fC hcc hn q=>⟨m,hn,λh' vf=>⟨.ref l,H',?_,Y,q⟩⟩;calc I'.turned (t':=s'.toks) (λb o hb e=>(vf.2 b hb).trans e) fC.1 fC.2.1 fC.2.2.2.1 fC.2.2.2.2.1 fC.2.2.2.2.2
theorem PY(cp:-(Option Nat))(Nb:-J){i:Nat}{x:J}{pos' iU:y}(hN:X.N.Nodup)(hi:X.N[i]?=U x)(hx:Loc X.env.scope x)(hc:X.calm=θ)(hit:JI X tg iter wi)(hg:∀d,JG (cN X scope Nb d) tg (g d))(hf:∀d,JF (cN X scope Nb d) ifs (tf d))(he:∀d,JE (cN X scope Nb d) elt (te d))
  (hk:scope.kind=.function:=by rfl) (ho:l5 X.N X.env.scope scope Nb cp=θ:=by first|rfl|kernel_rfl) (hs:∀x,foldedSetIterable iter X.env x=pure x:=by ext _;rfl)
  (vg:swapsWith (.ListComp elt [⟨tg,iter,ifs,0⟩] scope pos) (U (.Name x pos')) iU.line X.env=pure θ:=by rfl)
  (m9:gZ X x:=by first|exact .inl Y|exact .inr Y|assumption) :
  JS X (.Assign [.Name x pos'] (.ListComp elt [⟨tg,iter,ifs,0⟩] scope pos) iU) (lY (va wi cp g tf te) (xp i)):=by
 calc⟨?_⟩;ext pins s σ H D I h;rw[exec_Assign_Name_used _ _ _ _ vg];calc rH (q2Y (rH ?_));show M _ X.A (do let _ <- comprehension (.ListComp elt [⟨tg,iter,ifs,0⟩] scope pos) scope X.env _ (newList []) ι (eval iter X.env) (U (assign (.Name x pos') X.env))) _ _ s;calc rH (bL (HI (use:=U (assign (.Name x pos') X.env)) (P:=λ_ s'=>SP X pins D .next s') hc (x3N hk ho) hit hg hf he hs I h λl C H' s' m I' fC hcc hn q=>?_) λ_ s' hq=>HA (HA hq));show M _ X.A (assign (.Name x pos') X.env (.ref l)) _ _ s';refine q54 (GF I' hN hi hx (v:=.ref l) Y (λjG PZ ⟨a,sb,ha⟩=>?_) m9)
 let nC:C≠a:=by
  rcases ha with e|e
  .rw[e];exact fC.2.1
  .exact q2b (hcc _ _ e)
 calc⟨m,hn.sameBut sb nC,λh' vf=>⟨_,H',?_,q⟩⟩;calc PZ.turned (t':=jG.toks) (λb o hb e=>(vf.2 b hb).trans e) fC.1 fC.2.1 fC.2.2.2.1 fC.2.2.2.2.1 fC.2.2.2.2.2
end
section
variable{g:TG}{tf:TT}{te:TE}
end
section
variable{X:Cx}{pins:aL}{σ:St}{H:Hp}{s:B}{h':I}{T:O}{o:HO}{ch:-O}{t':Nat}
theorem Inv.gb(I:Inv X pins σ H s)(hf:∀b∈ch,b7 X pins H b)(k:∀b u,b∉ch->s.heap.get? b=U u->h'.get? b=U u)(hT:⇑s<=T)(new:bw X.prog X.w (upd H T o) h' T o):
  Inv X pins σ (upd H T o) {s with heap:=h',toks:=t'}:=by
 let hn:H T=Z:=I.bu.fresh hT;let lX:∀b u,H b=U u->b∉ch:=λb u e hb=>by rw[(hf b hb).1] at e;cases e
 refine I.step (g':=s.gens) (d':=s.drawn) (ch:=ch) (λb hb=>⟨(hf b hb).2.2.2.1,(hf b hb).2.1,(hf b hb).2.2.2.2.1,(hf b hb).2.2.2.2.2⟩) (λb u _ _ hc e _=>k b u hc e) (λb u _ _ hc e _=>⟨u.slots,k b u hc e⟩)
  (λb u _ e n=>by rw[bF (q0b (q0j (Ze e) hT))];calc n) (λb u hc e=>⟨u,k b u hc e⟩) (λb xs e=>by rw[bF (dQ e hn)];calc e)
  (λb u xs e=>by rw[bF (dQ e hn)];calc e) (λb ps e=>⟨#[],by rw[bF (dQ e hn),e];simp⟩) (λb _ u _ e hc=>k b u hc e) (λm hm=>?_) (λb u e=>?_) I.bare
 .let⟨u,es,ep,ho,r⟩:=hm
  exact⟨u,es,ep,k _ u (λhb=>(hf _ hb).2.1 Y) ho,r⟩
 .by_cases hb:b=T
  .subst hb;rw[cz] at e;cases e;exact new
  .rw[bF hb] at e
   refine(I.bu b u e).gY (λc v hc q=>k c v ?_ q) (λc q=>by rw[bF (dQ q hn)];calc q) λc xs q=>by rw[bF (dQ q hn)];exact q
   rcases hc with z|z
   .rw[z];exact lX b u e
   .calc lX c _ z
theorem Inv.kL(I:Inv X pins σ H s)(hf:∀b∈ch,b7 X pins H b)(k:∀b u,b∉ch->s.heap.get? b=U u->h'.get? b=U u):Inv X pins σ H {s with heap:=h',toks:=t'}:=by
 let lX:∀b u,H b=U u->b∉ch:=λb u e hb=>by rw[(hf b hb).1] at e;cases e
 refine I.step (g':=s.gens) (d':=s.drawn) (ch:=ch) (λb hb=>⟨(hf b hb).2.2.2.1,(hf b hb).2.1,(hf b hb).2.2.2.2.1,(hf b hb).2.2.2.2.2⟩) (λb u _ _ hc e _=>k b u hc e) (λb u _ _ hc e _=>⟨u.slots,k b u hc e⟩)
  (λb u _ e n=>n) (λb u hc e=>⟨u,k b u hc e⟩) (λb xs e=>e)
  (λb u xs e=>e) (λb ps e=>⟨#[],by rw[e];simp⟩) (λb _ u _ e hc=>k b u hc e) (λm hm=>?_) (λb u e=>?_) I.bare
 .let⟨u,es,ep,ho,r⟩:=hm
  exact⟨u,es,ep,k _ u (λhb=>(hf _ hb).2.1 Y) ho,r⟩
 .refine (I.bu b u e).gY (λc v hc q=>k c v ?_ q) (λc q=>q) λc xs q=>q
  rcases hc with z|z
  .rw[z];exact lX b u e
  .calc lX c _ z
end
noncomputable def tH(K:My)(a:O):It :=
 ⟨λi H=>∃xs x,bU K H a xs/\xs[i]?=U x,λi H x H'=>∃T v,x=.ref T/\H T=Z/\H'=upd H T (.tup [.int (i:Nat),v])/\∀xs,bU K H a xs->xs[i]?=U v,λi H=>∃xs,bU K H a xs/\↑xs<=i⟩
theorem HL{P:t}{w:S}{K:My}{elts:-l}{x1}{tp:y}(a e it:O)(gv:e≠it):
  Turn P w K (.Tuple elts x1 tp) (tH K a) [e,it] e (λi h=>(∃old,IsEnum h e it (i:Nat) old)/\h.IsListIter it a i) where
 mem:=by simp
 obj:=λi h st b hb=>by
  let⟨⟨old,he⟩,o,hi,hc,hd⟩:=st;rcases PC.mp hb with rfl|hb
  .exact⟨_,he,λv z=>by cases z⟩
  .let z:b=it:=by simpa using hb
   subst z;exact⟨o,hi,λv z=>by rw[hd] at z;cases z⟩
 keep:=λi h h' st k=>by
  let⟨⟨old,he⟩,hi⟩:=st;exact⟨⟨old,k e (by simp) _ he⟩,hi.at λo q=>k it (by simp) o q⟩
 item:=by
  ext X hP hw hK hc i pins s σ H E I hf st hg;subst hP hw hK;let⟨⟨old,he⟩,hi⟩:=st;let⟨xs,x,hq,hx⟩:=hg;let⟨az,rv,p,hz⟩:=I.list hq;let⟨u,hu,ru⟩:=rv.get hx;calc wpAny_pyNext_enum_item he hi p.isList (x:=u) hu⁻¹ gv λh1 mY vh vi hsz hk=>⟨_,Y,?_⟩;calc q3W mY λh2 xK eQ=>?_;let hT:⇑s≠e:=q1I (Ze he);let lQ:h2.get? ⇑s=U {cls:=.type "tuple",data:=.seq #[.int i s.toks,u]}:=(eQ.2 _ hT).trans vi
  let k2:∀b o,b∉[e,it]->s.heap.get? b=U o->h2.get? b=U o:=λb o hb q=>by
   let oq:b≠e:=λz=>hb (by simp[z]);let f6:b≠it:=λz=>hb (by simp[z]);exact(eQ.2 _ oq).trans (hk b o oq f6 q)
  let hn:H ⇑s=Z:=I.bu.fresh (Hz _);refine⟨.ref ⇑s,upd H ⇑s (.tup [.int i,x]),I.gb (ch:=[e,it]) (t':=s.toks+1) hf k2 (Hz _) ?_,Y,⟨_,x,Y,hn,Y,λys hy=>by rw[I.f9 hy hq];calc hx⟩,⟨⟨u,?_⟩,?_⟩,λb hb=>?_⟩
  .exact⟨by show 2<=sizeLine;decide,[.int i s.toks,u],.cons ⟨_,Y⟩ (.cons ru .nil),_,lQ,Y,_,Y⟩
  .let e3:((i:Int)+1)=(((i+1:Nat)):Int):=by symm
   rw[e3] at xK;exact xK
  .exact vh.at λo q=>(eQ.2 _ (q2b gv)).trans q
  .let:b<⇑s:=by
    let⟨o,q,_⟩:=hi;rcases PC.mp hb with rfl|hb
    .exact Ze he
    .let z:b=it:=by simpa using hb
     subst z;exact Ze q
   rw[bF (q0b this)];exact(hf b hb).1
 done:=by
  ext X hP hw hK hc i pins s σ H E I hf st hg;subst hP hw hK;let⟨⟨old,he⟩,hi⟩:=st;let⟨xs,hq,hx⟩:=hg;let⟨az,rv,p,hz⟩:=I.list hq;let hl:=↑rv;calc wpAny_pyNext_enum_end (I.ok.hd hc) he hi p.isList (by simp;symm) λh1 eb=>⟨Y,?_⟩;let⟨f0,f1,f2,f3,f4,f5⟩:=hf it (by simp);exact I.turned (t':=s.toks) (λb o hb q=>eb b o hb q) f0 f1 f3 f4 f5
 self:=λA i s Q E st h=>by
  let⟨⟨old,he⟩,hi⟩:=st;let hT:s.TypeIs (.ref e) "enumerate" := ⟨_,he,Y⟩;calc q18 he h
section
variable{X:Cx}{elts:-l}{x1:Nat}{tp:y}
def P0(K:My)(ta:TA):TI:=fun σ H R=>ta σ H λvs H1=>∃a,vs=[.ref a]/\(∃xs,bU K H1 a xs)/\R (tH K a) H1
theorem HM:bootBuiltins "enumerate" = U (.type "enumerate"):=by decide +kernel
theorem P6:bootBuiltins "zip" = U (.type "zip"):=by decide +kernel
theorem P7{a:υ}{ta:TA}{p pos:y}(hg:Gl X "enumerate")(hm:X.mg "enumerate" = Z)(ha:JA X [a] ta)(hs:starEach [a] X.env=[(ι,eval a X.env)]:=by rfl):
  JI X (.Tuple elts x1 tp) (.Call (.Name "enumerate" p) [a] [] pos) (P0 X.K ta):=by
 calc⟨?_⟩;ext pins s σ H R I h;calc Call_ (nX I hg hm HM (q1o (bL (ha pos pins s σ H _ I h) λus s1 ⟨vs,H1,I1,r1,q1⟩=>?_) hs Y));let⟨l,e,⟨xs,hq⟩,q⟩:=q1;subst e
 cases r1 with
 |cons r rr =>
  cases rr
  cases r
  let⟨az,rv,p,hz⟩:=I1.list hq;calc q5v p.isList λh' he hi hsz hk=>?_;let I2:Inv X pins σ H1 {s1 with heap:=h'}:=I1.kept (t':=s1.toks) hk;calc q18 he ?_;refine⟨_,_,_,_,H1,Y,I2,HL l (⇑s1+1) ⇑s1 (q4z _),⟨⟨_,he⟩,hi⟩,λb hb=>?_,q⟩
  let hb':⇑s1<=b:=by
   rcases PC.mp hb with rfl|hb
   .exact q3w _
   .let z:b=⇑s1:=by simpa using hb
    rw[z];exact Hz _
  calc I1.g8 hb' (I1.bu.fresh hb')
end
section
variable{X:Cx}{nm:J}{tp:y}
end
end L2
namespace L2
open PySem PySem.Spec PyProof.Rows PySem.W
open Builtin Builtin.ObjectAttr
section
variable{prog:t}{w:S}{A:o}{E:bA}{s:B}{K:Frag}{x D:O}{ox:Q}{Zk:Option Q}{name:J}
variable{h:I}{g:Array GenState}{d:Drawn}{t:Nat}{os:OsState}{nm q:J}{C N:O}{bs bm Zl:-L}{P8:Bool}{sn:-J}{sub:-L}{ab:Bool}{col:Option Bool}{dd:Option O}{k0 k1 k2 k3 k5:Option L}{B newId Bj:String}
end
end L2
namespace L2
open PySem PySem.Spec PyProof.Rows
section
variable{X:Cx}{pins:aL}{σ:St}{H:Hp}{s:B}{C f:O}{CX:lq}{k:Nat}{fd:FuncData}{ps:-J}{sp:Sp}{E:XK}{x:J}{p pos pos':y}{e o value:l}{es:-l}{ta tv:TE}{t:TA}
end
section
variable{X:Cx}
noncomputable def vj:V->Option L
 |.ty n=>U (.type n)
 |.ref a=>U (.ref a)
 |_=>Z
theorem P9{y:V}{u c:L}(r:RelV y u)(e:vj y=U c):u=c:=by
 cases y with
 |ty n=>cases e;exact r
 |ref a=>cases e;exact r
 |_=>cases e
theorem P_:g9 X (.builtin "isinstance") (λxs H Q=>∃x y c t b,xs=[x,y]/\vj y=U c/\eS X.K H x t/\q1g X.K t c=U b/\Q (.bl b) H):=by
 ext pins s σ H xs us Q I rv h;let⟨x,y,c,t,b,rfl,hc,ty,e,q⟩:=h;let⟨u,w',rfl,rx,ry⟩:=rv.two;rw[P9 ry hc];calc OR I rx ty e λtk=>⟨.bl b,H,I.tok tk,Y,q⟩
end
theorem Qa{K:My}{a:O}{xs:-V}{g:TG}{tb:TS}{D:Ends}{σ:St}{H:Hp}(Pv:Nat->St->Hp->Prop)(h0:Pv 0 σ H)(hl:∀i σ H,i<=↑xs->Pv i σ H->bU K H a xs)
  (hs:∀i x T σ H,xs[i]?=U x->Pv i σ H->H T=Z->g (.ref T) σ (upd H T (.tup [.int (i:Nat),x])) fun σ2 H2=>tb {D with nx:=Pv (i+1),ct:=Pv (i+1),bk:=D.nx} σ2 H2) (hd:∀σ H,Pv ↑xs σ H->D.nx σ H) :
  ∃W:Nat->Nat->St->Hp->Prop,(∃m,W 0 m σ H)/\∀i m σ H,W i m σ H →
   ((tH K a).stop i H/\D.nx σ H)\/((tH K a).go i H/\∃N:St->Hp->Prop,(∀σ' H',N σ' H'->∃m',m'<m/\W (i+1) m' σ' H')/\∀x H',(tH K a).sZ i H x H'->g x σ H' fun σ2 H2=>tb {D with nx:=N,ct:=N,bk:=D.nx} σ2 H2):=by
 calc⟨λi m σ H=>m=↑xs-i/\i<=↑xs/\Pv i σ H,⟨↑xs,by simp,q0Z _,h0⟩,?_⟩;ext i m σ H ⟨rfl,hi,p⟩;let q:=hl i σ H hi p
 by_cases d_:i<↑xs
 .refine .inr ⟨⟨xs,xs[i],q,by simp[d_]⟩,Pv (i+1),fun σ' H' p'=>⟨↑xs-(i+1),⋯,Y,d_,p'⟩,λx H' y=>?_⟩
  let⟨T,v,rfl,hT,rfl,y⟩:=y;exact hs i v T σ H (y xs q) p hT
 .let e:i=↑xs:=by symm
  subst e;calc .inl ⟨⟨xs,q,Hz _⟩,hd σ H p⟩
section
variable{g:TG}{tf:TT}{te:TE}{l:O}{τ0:St}{H0:Hp}{Q:VK}
end
section
variable{X:Cx}{es:-l}{te:TE}{t:TA}
theorem Bk{c j p}(ha:JE X (.Constant c j p) te)(hr:JA X es t):JA X (.Constant c j p::es) (qb te t):=kG ha hr Y
theorem rM{x p}(ha:JE X (.Name x p) te)(hr:JA X es t):JA X (.Name x p::es) (qb te t):=kG ha hr Y
theorem ot{f a k p}(ha:JE X (.Call f a k p) te)(hr:JA X es t):JA X (.Call f a k p::es) (qb te t):=kG ha hr Y
theorem Bl{a p}(ha:JE X (.List a p) te)(hr:JA X es t):JA X (.List a p::es) (qb te t):=kG ha hr Y
theorem Bm{a k p}(ha:JE X (.Tuple a k p) te)(hr:JA X es t):JA X (.Tuple a k p::es) (qb te t):=kG ha hr Y
theorem Bn{a k p}(ha:JE X (.Subscript a k p) te)(hr:JA X es t):JA X (.Subscript a k p::es) (qb te t):=kG ha hr Y
end
inductive D where
 |non|bl (b:Bool)|int (i:Int)|str (x:J)|tup (xs:-D)|lst (xs:-D)
mutual
def Is (H:Hp):D->V->Prop
 |.non,v=>v=.non
 |.bl b,v=>v=.bl b
 |.int i,v=>v=.int i
 |.str x,v=>v=.str x
 |.tup ds,v=>∃a vs,v=.ref a/\H a=U (.tup vs)/\af H ds vs
 |.lst ds,v=>∃a vs,v=.ref a/\H a=U (.lst vs)/\af H ds vs
def af (H:Hp):-D->-V->Prop
 |[],vs=>vs=[]
 |d::ds,vs=>∃v r,vs=v::r/\Is H d v/\af H ds r
end
mutual
theorem Is.same {H H':Hp} (s:aP H H'):∀{d:D}{v:V},Is H d v->Is H' d v
 |.non,_,h=>h
 |.bl _,_,h=>h
 |.int _,_,h=>h
 |.str _,_,h=>h
 |.tup _,_,h=>by
  erw[Is] at h ⊢;let⟨a,vs,e,h1,h2⟩:=h;exact⟨a,vs,e,s _ _ h1,af.same s h2⟩
 |.lst _,_,h=>by
  erw[Is] at h ⊢;let⟨a,vs,e,h1,h2⟩:=h;calc⟨a,vs,e,s _ _ h1,af.same s h2⟩
theorem af.same {H H':Hp} (s:aP H H'):∀{d:-D}{v:-V},af H d v->af H' d v
 |[],_,h=>h
 |_::_,_,h=>by
  erw[af] at h ⊢;let⟨v,r,e,h1,h2⟩:=h;calc⟨v,r,e,Is.same s h1,af.same s h2⟩
end
theorem af.length{H:Hp}:∀{ds:-D}{vs:-V},af H ds vs->↑vs=↑ds
 |[],_,h=>by erw[af] at h;rw[h];rfl
 |_::_,_,h=>by
  erw[af] at h;let⟨v,r,rfl,_,h2⟩:=h;rw[HB,HB,af.length h2]
theorem af.get{H:Hp}:∀{ds:-D}{vs:-V}{i:Nat}{v:V},af H ds vs->vs[i]?=U v->∃d,ds[i]?=U d/\Is H d v
 |[],_,i,v,h,e=>by erw[af] at h;rw[h] at e;simp at e
 |d::ds,_,i,v,h,e=>by
  erw[af] at h;let⟨v',r,rfl,h1,h2⟩:=h
  cases i with
  |zero=>simp at e;subst e;exact⟨d,Y,h1⟩
  |succ i=>simp at e;simpa using af.get h2 e
theorem af.nil{H:Hp}:af H [] []:=by erw[af]
theorem af.cons{H:Hp}{d:D}{ds:-D}{v:V}{vs:-V}(h:Is H d v)(r:af H ds vs):af H (d::ds) (v::vs):=by
 erw[af];calc⟨v,vs,Y,h,r⟩
theorem af.snoc{H:Hp}{d:D}{v:V}:∀{ds:-D}{vs:-V},af H ds vs->Is H d v->af H (ds++[d]) (vs++[v])
 |[],_,h,q=>by erw[af] at h;subst h;exact .cons q .nil
 |_::_,_,h,q=>by
  erw[af] at h;let⟨v',r,rfl,h1,h2⟩:=h;exact .cons h1 (af.snoc h2 q)
mutual
noncomputable def dep:D->Nat
 |.tup ds=>bT ds+1
 |.lst ds=>bT ds+1
 |_=>0
noncomputable def bT:-D->Nat
 |[]=>0
 |d::ds=>max (dep d) (bT ds)
end
theorem Bo:∀{ds:-D}{i:Nat}{d:D},ds[i]?=U d->dep d<=bT ds
 |[],i,d,e=>by simp at e
 |d'::ds,0,d,e=>by simp at e;subst e;erw[bT];exact Nat.le_max_left _ _
 |d'::ds,i+1,d,e=>by simp at e;erw[bT];calc q0w (Bo e) (Nat.le_max_right _ _)
noncomputable def cW:D->String
 |.non=>"NoneType" | .bl _=>"bool" | .int _=>"int" | .str _=>"str" | .tup _=>"tuple" | .lst _=>"list"
theorem Is.ty{K:My}{H:Hp}:∀{d:D}{v:V},Is H d v->eS K H v (.type (cW d))
 |.non,_,h=>by cases(show _=_ from h);exact .non
 |.bl b,_,h=>by cases(show _=_ from h);exact .bl b
 |.int i,_,h=>by cases(show _=_ from h);exact .int i
 |.str x,_,h=>by cases(show _=_ from h);exact .str x
 |.tup _,_,h=>by
  erw[Is] at h;let⟨a,vs,rfl,h1,_⟩:=h;exact .tup h1
 |.lst _,_,h=>by
  erw[Is] at h;let⟨a,vs,rfl,h1,_⟩:=h;calc .lst h1
noncomputable def bK(T c:String):Bool:=T==c||(T=="bool" && c=="int")
section
variable{K:My}
theorem Qb:∀T∈["NoneType", "bool", "int", "str", "tuple", "list"],q1g K (.type T) (.type "bool")=U (bK T "bool"):=by
 ext T hT;erw[PC,q0o,q1r] at hT;rcases hT with rfl|rfl|rfl|rfl|rfl|rfl<;>kernel_rfl
theorem Qc:∀T∈["NoneType", "bool", "int", "str", "tuple", "list"],q1g K (.type T) (.type "int")=U (bK T "int"):=by
 ext T hT;erw[PC,q0o,q1r] at hT;rcases hT with rfl|rfl|rfl|rfl|rfl|rfl<;>kernel_rfl
theorem Qd:∀T∈["NoneType", "bool", "int", "str", "tuple", "list"],q1g K (.type T) (.type "str")=U (bK T "str"):=by
 ext T hT;erw[PC,q0o,q1r] at hT;rcases hT with rfl|rfl|rfl|rfl|rfl|rfl<;>kernel_rfl
theorem kit_tuple:∀T∈["NoneType", "bool", "int", "str", "tuple", "list"],q1g K (.type T) (.type "tuple")=U (bK T "tuple"):=by
 ext T hT;erw[PC,q0o,q1r] at hT;rcases hT with rfl|rfl|rfl|rfl|rfl|rfl<;>kernel_rfl
theorem Qe:∀T∈["NoneType", "bool", "int", "str", "tuple", "list"],q1g K (.type T) (.type "list")=U (bK T "list"):=by
 ext T hT;erw[PC,q0o,q1r] at hT;rcases hT with rfl|rfl|rfl|rfl|rfl|rfl<;>kernel_rfl
theorem vk(d:D):cW d∈["NoneType", "bool", "int", "str", "tuple", "list"]:=by cases d<;>simp[cW]
end
section
variable{X:Cx}
theorem JE.weak{e:l}{t t':TE}(h:JE X e t)(k:∀σ H Q,t' σ H Q->t σ H Q):JE X e t':=⟨λpins s σ H Q I q=>h pins s σ H Q I (k σ H Q q)⟩
theorem JT.weak{e:l}{t t':TT}(h:JT X e t)(k:∀σ H Q,t' σ H Q->t σ H Q):JT X e t':=⟨λpins s σ H Q I q=>h pins s σ H Q I (k σ H Q q)⟩
theorem JA.weak{es:-l}{t t':TA}(h:JA X es t)(k:∀σ H Q,t' σ H Q->t σ H Q):JA X es t':=⟨λpos pins s σ H Q I q=>h pos pins s σ H Q I (k σ H Q q)⟩
theorem JS.weak{st:R}{t t':TS}(h:JS X st t)(k:∀D σ H,t' D σ H->t D σ H):JS X st t':=⟨λpins s σ H D I q=>h pins s σ H D I (k D σ H q)⟩
theorem dO.weak{st:-R}{t t':TS}(h:dO X st t)(k:∀D σ H,t' D σ H->t D σ H):dO X st t':=⟨λpins s σ H D I q=>h pins s σ H D I (k D σ H q)⟩
end
section
variable{κ:Type}[DecidableEq κ]
noncomputable def dS(kvs:-(κ×V))(k:κ):Option V:=(kvs.find? λkv=>G (kv.1=k)).map (·.2)
noncomputable def putK(kvs:-(κ×V))(k:κ)(v:V):-(κ×V) :=
 if(kvs.any λkv=>G (kv.1=k))=θ then kvs.map (λkv=>if kv.1=k then(kv.1,v) else kv) else kvs++[(k,v)]
noncomputable def qi(kvs:-(κ×V))(k:κ):-(κ×V):=kvs.filter λkv=>G (kv.1≠k)
theorem xM{p:κ×V}{r:-(κ×V)}{k:κ}(e:p.1=k):dS (p::r) k=U p.2:=by simp[dS,q2J,e]
theorem xN{p:κ×V}{r:-(κ×V)}{k:κ}(e:¬ p.1=k):dS (p::r) k=dS r k:=by simp[dS,q2J,e]
theorem HN(k:κ):∀kvs:-(κ×V),(kvs.any λkv=>G (kv.1=k))=(dS kvs k).isSome
 |[]=>Y
 |p::r=>by
  rw[q2w]
  by_cases e:p.1=k
  .erw[xM e,q0i e,Bool.true_or,q3V]
  .rw[xN e,Zi e,Bool.false_or];calc HN k r
theorem Bp(kvs:-(κ×V))(k:κ)(v:V):↑(putK kvs k v)<=↑kvs+1:=by
 unfold putK;split
 .rw[Ba];symm
 .rw[Pz,HB,q1i];symm
theorem dE.fu{o:Option V}{u:Option L}(r:dE o u):o.isSome=u.isSome:=by
 cases o with
 |none=>cases u with
  |none=>rfl
  |some _=>exact(show False from r).elim
 |some _=>cases u with
  |none=>exact(show False from r).elim
  |some _=>rfl
theorem KV.val{kvs:-(κ×V)}{vs:-(κ×L)}(r:KV kvs vs)(k:κ):dE (dS kvs k) (valueAt vs k):=by
 unfold KV at r
 induction r with
 |nil=>exact q14
 | @cons p q ps qs h t ih =>
  let⟨h1,h2⟩:=h
  by_cases e:p.1=k
  .let e':q.1=k:=h1.symm.trans e
   let b:valueAt (q::qs) k=U q.2:=by simp[valueAt,q2J,e']
   rw[xM e,b];exact h2
  .let e':¬ q.1=k:=λz=>e (h1.trans z)
   let b:valueAt (q::qs) k=valueAt qs k:=by simp[valueAt,q2J,e']
   rw[xN e,b];calc ih
theorem KV.any{kvs:-(κ×V)}{vs:-(κ×L)}(r:KV kvs vs)(k:κ):(kvs.any λkv=>G (kv.1=k))=vs.any λkv=>G (kv.1=k):=by
 unfold KV at r
 induction r with
 |nil=>rfl
 |cons h t ih=>rw[q2w,q2w,ih,h.1]
theorem KV.jM{kvs:-(κ×V)}{vs:-(κ×L)}(r:KV kvs vs)(k:κ){y:V}{u:L}(ry:RelV y u):
  KV (kvs.map λkv=>if kv.1=k then(kv.1,y) else kv) (vs.map λkv=>if kv.1=k then(kv.1,u) else kv):=by
 unfold KV at r ⊢
 induction r with
 |nil=>exact .nil
 | @cons p q ps qs h t ih =>
  rw[q0m,q0m];calc .cons ?_ ih;let⟨h1,h2⟩:=h
  by_cases e:p.1=k
  .rw[q0e e,q0e (h1.symm.trans e)];exact⟨h1,ry⟩
  .rw[q0c e,q0c (λz=>e (h1.trans z))];calc⟨h1,h2⟩
theorem KV.put{kvs:-(κ×V)}{vs:-(κ×L)}(r:KV kvs vs)(k:κ){y:V}{u:L}(ry:RelV y u):KV (putK kvs k y) (stored vs k u):=by
 unfold putK stored;rw[r.any k]
 by_cases e:(vs.any λkv=>G (kv.1=k))=θ
 .rw[q0e e,q0e e];exact r.jM k ry
 .rw[q0c e,q0c e];calc Paired.snoc r ⟨Y,ry⟩
theorem KV.drop{kvs:-(κ×V)}{vs:-(κ×L)}(r:KV kvs vs)(k:κ):KV (qi kvs k) (without vs k):=by
 unfold KV at r ⊢;unfold qi without
 induction r with
 |nil=>exact .nil
 | @cons p q ps qs h t ih =>
  let⟨h1,h2⟩:=h;rw[q0_,q0_]
  by_cases e:p.1=k
  .let a:¬ G (p.1≠k)=θ:=by simp[e]
   let b:¬ G (q.1≠k)=θ:=by simp[h1.symm.trans e]
   rw[q0c a,q0c b];exact ih
  .let e':¬ q.1=k:=λz=>e (h1.trans z)
   let a:G (p.1≠k)=θ:=by simp[e]
   let b:G (q.1≠k)=θ:=by simp[e']
   rw[q0e a,q0e b];calc .cons ⟨h1,h2⟩ ih
theorem KV.length{kvs:-(κ×V)}{vs:-(κ×L)}(r:KV kvs vs):↑kvs=↑vs:=q5E r
theorem Qf(kvs:-(κ×V))(k:κ):↑(qi kvs k)<=↑kvs:=q0K _ _
end
theorem tI{P:ψ}{w:S}{k:Key}{u:L}(r:RelV (kV k) u):(jq P w).is k u=θ:=by
 cases k with
 |inl i=>let⟨t,e⟩:=(show ∃t,u=q0X i t from r);subst e;exact NB P w i t
 |inr x=>let⟨t,e⟩:=(show ∃t,u=q4t x t from r);subst e;calc NC P w x t
theorem HP{P:ψ}{w:S}:∀{ks:-Key}{us:-L},Vals (ks.map kV) us->ItemsAre (jq P w) ks us
 |[],_,r=>by rw[q16] at r;cases r;exact .nil
 |k::ks,_,r=>by
  rw[q0m] at r
  cases r with
  |cons h t=>calc .cons (tI h) (HP t)
abbrev KT(H:Hp):-(-Key×V)->-(-Key×O×L)->Prop:=Paired λp q=>p.1=q.1/\H q.2.1=U (.tup (p.1.map kV))/\RelV p.2 q.2.2
theorem KT.val{H:Hp}{kvs:-(-Key×V)}{xs:-(-Key×O×L)}(r:KT H kvs xs)(k:-Key):dE (dS kvs k) ((atKey xs k).map (·.2)):=by
 induction r with
 |nil=>exact q14
 | @cons p q ps qs h t ih =>
  let⟨h1,_,h2⟩:=h
  by_cases e:p.1=k
  .let e':q.1=k:=h1.symm.trans e
   let b:atKey (q::qs) k=U q.2:=by simp[atKey,q2J,e']
   rw[xM e,b];exact h2
  .let e':¬ q.1=k:=λz=>e (h1.trans z)
   let b:atKey (q::qs) k=atKey qs k:=by simp[atKey,q2J,e']
   rw[xN e,b];calc ih
theorem KT.jM{H:Hp}{kvs:-(-Key×V)}{xs:-(-Key×O×L)}(r:KT H kvs xs)(k:-Key){y:V}{u:L}(ry:RelV y u):
  KT H (kvs.map λkv=>if kv.1=k then(kv.1,y) else kv) (xs.map (putAt k u)):=by
 induction r with
 |nil=>exact .nil
 | @cons p q ps qs h t ih =>
  rw[q0m,q0m];calc .cons ?_ ih;let⟨h1,h2,h3⟩:=h;unfold putAt
  by_cases e:p.1=k
  .rw[q0e e,q0e (h1.symm.trans e)];exact⟨h1,h2,ry⟩
  .rw[q0c e,q0c (λz=>e (h1.trans z))];calc⟨h1,h2,h3⟩
theorem KT.put{H:Hp}{kvs:-(-Key×V)}{xs:-(-Key×O×L)}(r:KT H kvs xs)(k:-Key){b:O}{y:V}{u:L}(hb:H b=U (.tup (k.map kV)))(ry:RelV y u):
  KT H (putK kvs k y) (storedH xs k b u):=by
 let e:(kvs.any λkv=>G (kv.1=k))=(atKey xs k).isSome:=by
  rw[HN,(r.val k).fu,q6i]
 unfold putK storedH;rw[e]
 by_cases q:(atKey xs k).isSome=θ
 .rw[q0e q,q0e q];exact r.jM k ry
 .rw[q0c q,q0c q];calc Paired.snoc r ⟨Y,hb,ry⟩
theorem KT.keeps{H H':Hp}{kvs:-(-Key×V)}{xs:-(-Key×O×L)}(r:KT H kvs xs)(ht:∀b ys,H b=U (.tup ys)->H' b=U (.tup ys)):KT H' kvs xs :=
 Paired.qV r λ_ _ z=>⟨z.1,ht _ _ z.2.1,z.2.2⟩
section
variable{P:t}{w:S}{H:Hp}{h:I}{a:O}
theorem HQ{u:HO}(ok:eG P w H h)(e:Rd H a u):bw P w H h a u:=e.ok ok
theorem vm{kvs:-(Key×V)}(ok:eG P w H h)(e:Rd H a (.dK kvs)):↑kvs<=sizeLine/\(a==sysModules)=ι/\∃vs,KV kvs vs/\h.DictOf (jq P w) a vs :=
 show bw P w H h a (.dK kvs) from HQ ok e
theorem Bq{kvs:-(Key×V)}(ok:eG P w H h)(e:H a=U (.dK kvs)):↑kvs<=sizeLine/\(a==sysModules)=ι/\∃vs,KV kvs vs/\h.DictOf (jq P w) a vs:=vm ok (.inl e)
theorem xO{ks:-Key}(ok:eG P w H h)(e:H a=U (.tup (ks.map kV))):(tupleKind (jq P w)).is h ks a:=by
 let⟨_,az,r,o,h1,h2,n,h3⟩:=(show bw P w H h a (.tup (ks.map kV)) from ok a _ e);calc⟨o,az.toArray,n,h1,h2,h3,by simpa using HP r⟩
theorem vn{kvs:-(-Key×V)}(ok:eG P w H h)(e:Rd H a (.dT kvs)):↑kvs<=sizeLine/\(a==sysModules)=ι ∧
  ∃xs,KT H kvs xs/\h.DictOfH (tupleKind (jq P w)) a xs:=by
 let⟨z,y,xs,r,o,es,ep,h1,h2,h3,h4,h5⟩:=(show bw P w H h a (.dT kvs) from HQ ok e);refine⟨z,y,xs,r,o,es,ep,h1,h2,h3,h4,λx hx=>?_,h5⟩
 let all:∀{l:-(-Key×V)}{m:-(-Key×O×L)},KT H l m->∀x∈m,(tupleKind (jq P w)).is h x.1 x.2.1:=by
  ext l m q
  induction q with
  |nil=>ext x hx;exact nomatch hx
  | @cons p q ps qs hq t ih =>
   ext x hx;rcases PC.mp hx with e|hx
   .subst e
    exact xO ok (by rw[<-hq.1];calc hq.2.1)
   .exact ih x hx
 calc all r x hx
theorem Qg{kvs:-(-Key×V)}(ok:eG P w H h)(e:H a=U (.dT kvs)):↑kvs<=sizeLine/\(a==sysModules)=ι ∧
  ∃xs,KT H kvs xs/\h.DictOfH (tupleKind (jq P w)) a xs:=vn ok (.inl e)
end
def gC(H:Hp)(a:O)(y:V)(r:Option V):Prop :=
 (∃kvs k,Rd H a (.dK kvs)/\y=kV k/\r=dS kvs k)\/∃kvs k b,Rd H a (.dT kvs)/\y=.ref b/\H b=U (.tup (k.map kV))/\r=dS kvs k
def kM(H:Hp)(a:O)(y v:V)(H':Hp):Prop :=
 (∃kvs k,H a=U (.dK kvs)/\y=kV k/\↑kvs<sizeLine/\H'=upd H a (.dK (putK kvs k v))) ∨
 ∃kvs k b,H a=U (.dT kvs)/\y=.ref b/\H b=U (.tup (k.map kV))/\↑kvs<sizeLine/\H'=upd H a (.dT (putK kvs k v))
theorem gC.k{H:Hp}{a:O}{kvs:-(Key×V)}{k:Key}(e:H a=U (.dK kvs)):gC H a (kV k) (dS kvs k):=.inl ⟨kvs,k,.inl e,Y,Y⟩
theorem kM.k{H:Hp}{a:O}{kvs:-(Key×V)}{k:Key}{v:V}(e:H a=U (.dK kvs))(hl:↑kvs<sizeLine):kM H a (kV k) v (upd H a (.dK (putK kvs k v))):=.inl ⟨kvs,k,e,Y,hl,Y⟩
section
variable{X:Cx}{pins:aL}{σ:St}{H:Hp}{s:B}{a:O}{y v:V}{u r:L}{o:Option V}{A:Β}{E:bA}
theorem Inv.big(I:Inv X pins σ H s):sysModules<⇑s:=by
 let h:mainGlobals<⇑s:=(I.mod.glob.keeps I.bk).lt;calc q4G (by decide) h
theorem Qh{Q:bA}(hu:A.units+1<cLine)(I:Inv X pins σ H s)(g:gC H a y (U v))(ry:RelV y u)(h:∀w' s',Inv X pins σ H s'->RelV v w'->Q w' s'):
  M (ς X.prog X.w) A (getItem (.ref a) u) Q E s:=by
 rcases g with⟨kvs,k,e,ey,l⟩|⟨kvs,k,b,e,ey,eb,l⟩
 .subst ey
  let⟨z,hd,vs,rel,dd⟩:=vm I.bu e;let⟨w',hw,jJ⟩:=dE.some_of (v:=v) (o:=valueAt vs k) (by rw[l];calc rel.val k);exact wpAny_getItem_of (tI ry) dd.mapOf hw (h w' _ (I.tok _) jJ)
 .subst ey
  cases(show u=q0F b from ry)
  let⟨z,hd,xs,rel,dd⟩:=vn I.bu e;let⟨w',hw,jJ⟩:=dE.some_of (v:=v) (o:=(atKey xs k).map (·.2)) (by rw[l];calc rel.val k);let⟨p,hp,Qi⟩:=q0a.mp hw;calc wpAny_getItem_heap (q3X hu) (xO I.bu eb) dd hp ?_;rw[Qi];calc h w' _ (I.tok _) jJ
theorem Qj{Q:bA}(hu:A.units+1<cLine)(I:Inv X pins σ H s)(g:gC H a y o)(ry:RelV y u)(h:∀s',Inv X pins σ H s'->Q (.bool (!o.isSome)) s'):
  M (ς X.prog X.w) A (compareOp .NotIn u (.ref a)) Q E s:=by
 rcases g with⟨kvs,k,e,ey,l⟩|⟨kvs,k,b,e,ey,eb,l⟩
 .subst ey
  let⟨z,hd,vs,rel,dd⟩:=vm I.bu e;calc wpAny_notIn_of (tI ry) hd dd.mapOf ?_;rw[<-(rel.val k).fu,<-l];exact h _ (I.tok _)
 .subst ey
  cases(show u=q0F b from ry)
  let⟨z,hd,xs,rel,dd⟩:=vn I.bu e;calc wpAny_notIn_heap (q3X hu) (xO I.bu eb) hd dd ?_;let q:=(rel.val k).fu;rw[q6i] at q;rw[<-q,<-l];calc h _ (I.tok _)
theorem xP{h':Α}{t':Nat}{ob:HO}(I:Inv X pins σ H s)(mu:uJ (H a))(hs:q2E a s.heap h')(he:∃q,h'.get? a=U q)(new:bw X.prog X.w (upd H a ob) h' a ob):
  Inv X pins σ (upd H a ob) {s with heap:=h',toks:=t'} :=
 I.write (x:=a) (e:=a) mu (.inl Y) (λb q hb z=>(hs.2 b hb).trans z) he new
theorem Br{P:t}{w:S}{H':Hp}{h':I}{kvs:-(Key×V)}{vs:-(Key×L)}(z:↑kvs<=sizeLine)(hd:(a==sysModules)=ι)(rel:KV kvs vs)(dd:h'.DictOf (jq P w) a vs):
  bw P w H' h' a (.dK kvs):=⟨z,hd,vs,rel,dd⟩
theorem Qk{H':Hp}{Q:Unit->B->Prop}(hu:A.units+1<cLine)(I:Inv X pins σ H s)(g:kM H a y v H')(ry:RelV y u)(rv:RelV v r)(h:∀s',Inv X pins σ H' s'->Q () s'):
  M (ς X.prog X.w) A (setItem (.ref a) u r) Q E s:=by
 rcases g with⟨kvs,k,e,ey,l,eH⟩|⟨kvs,k,b,e,ey,eb,l,eH⟩
 .subst ey eH
  let⟨z,hd,vs,rel,dd⟩:=Bq I.bu e;let hz:↑vs<=sizeLine:=by rw[<-↑rel];exact z
  let hl:↑(putK kvs k v)<=sizeLine:=by let:=Bp kvs k v;symm
  calc wpAny_setItem_pairs (hsz:=hz) (tI ry) dd λh' nh hs=>h _ ?_;let he:∃q,h'.get? a=U q:=let⟨q,_,_,hq,_⟩:=nh;⟨q,hq⟩;exact xP I (by rw[e];calc q14) hs he (Br hl hd (rel.put k rv) nh)
 .subst ey eH
  cases(show u=q0F b from ry)
  let⟨z,hd,xs,rel,dd⟩:=Qg I.bu e;let hz:↑xs<=sizeLine:=by rw[<-q5E rel];exact z
  let hl:↑(putK kvs k v)<=sizeLine:=by let:=Bp kvs k v;symm
  calc wpAny_setItem_heap (hsz:=hz) (q3X hu) (xO I.bu eb) dd λh' nh hs=>h _ ?_;let⟨q,es,ep,hq,h2,h3,h4,_,h5⟩:=nh;calc xP I (by rw[e];calc q14) hs ⟨q,hq⟩ ⟨hl,hd,_,(rel.put k eb rv).keeps λc ys ec=>?_,q,es,ep,hq,h2,h3,h4,h5⟩;rw[bF (ND ec e (λz=>nomatch z))];calc ec
end
section
variable{X:Cx}{pins:aL}{σ:St}{H:Hp}{s:B}{a:O}{kvs:-(Key×V)}{k:Key}{u:L}{A:o}{E:bA}
theorem Ql{v:V}{more:-L}{Q:bA}(I:Inv X pins σ H s)(e:H a=U (.dK kvs))(ry:RelV (kV k) u)(l:dS kvs k=U v)(hm:more=[]\/∃x,more=[x])
  (h:∀w' s',Inv X pins σ (upd H a (.dK (qi kvs k))) s'->RelV v w'->Q w' s'):M (g X.prog X.w) A (call (.builtin "dict.pop") (.ref a::u::more)) Q E s:=by
 let⟨z,hd,vs,rel,dd⟩:=Bq I.bu e;let⟨w',hw,jJ⟩:=dE.some_of (v:=v) (o:=valueAt vs k) (by rw[<-l];calc rel.val k)
 let hp:(keyPart u).isSome=θ:=by
  cases k with
  |inl i=>let⟨t,q⟩:=(show ∃t,u=q0X i t from ry);subst q;rfl
  |inr x=>let⟨t,q⟩:=(show ∃t,u=q4t x t from ry);subst q;rfl
 let ha:argsOk "dict.pop" ⟨.ref a::u::more,[]⟩:=by
  rcases hm with q|⟨x,q⟩
  .subst q;exact PySem.F.args_dict_pop_2 _ _
  .subst q;exact PySem.F.args_dict_pop_3 _ _ _
 refine call_meetsIn q5a dd.typeIs PySem.F.entry_dict_pop ha (meets_dict_pop_there (jq X.prog X.w) a (tI ry) more hm hp)
  ⟨vs,w',dd,by rw[<-↑rel];calc z,hw,λh' nh hs=>h w' _ ?_ jJ⟩
 let he:∃q,h'.get? a=U q:=let⟨q,_,_,hq,_⟩:=nh;⟨q,hq⟩;calc xP I (by rw[e];calc q14) hs he (Br (q0w (Qf kvs k) z) hd (rel.drop k) nh)
end
def rN(i:l):Prop:=∀ov iv,subscripted i ι ov iv=operate [ov,iv] (getItem ov iv)
theorem Qm{prog:t}{w:S}{A:Β}{E:bA}{s:B}{env:X}{value slice:l}{pos:y}{T id:String}{Q:bA}
  (hl:typeLookup (.type T) "__getitem__" = pure (U (.builtin id))) (hs:rN slice)
  (h:M (g prog w) A (eval value env) (λo s₁=>M (g prog w) A (eval slice env) (λi s₂=>s₂.TypeIs o T/\M (g prog w) A (getItem o i) Q E s₂) E s₁) E s) :
  M (g prog w) A (eval (.Subscript value slice pos) env) Q E s:=by
 calc Subscript_ (q1M h (λo s₁ h₁=>q1M h₁ (λi s₂ h₂=>?_) λ_ _ x=>x) λ_ _ x=>x);let⟨hT,h₂⟩:=h₂;unfold subscriptTail;calc rH ?_;rw[getitemInPython_of_ne hT.not_modules];refine rH (q3y hT hl ?_)
 let fin:M (g prog w) A (subscripted slice ι o i) (λr s₃=>M (g prog w) A (letTemporaryGo value o r >>= λ_=>pure r) Q E s₃) E s₂:=by
  rw[hs o i];exact wpAny_operating (q1M h₂ (λr s₃ h₃=>rH (wpAny_letTemporaryGo (HA h₃))) λ_ _ x=>x)
 first
  |exact HA (rH fin)
  |exact rH (HA (rH fin))
  |calc rH fin
theorem Qn{X:Cx}{pins:aL}{σ:St}{H:Hp}{s:B}{a:O}{y:V}{o:Option V}(I:Inv X pins σ H s)(g:gC H a y o):s.TypeIs (.ref a) "dict" := by
 rcases g with⟨kvs,k,e,_,_⟩|⟨kvs,k,b,e,_,_,_⟩
 .let⟨_,_,vs,_,dd⟩:=vm I.bu e
  exact dd.typeIs
 .let⟨_,_,xs,_,dd⟩:=vn I.bu e
  calc dd.typeIs
def Qo(td ty:TE):TE:=fun σ H Q=>td σ H λx H1=>ty σ H1 λy H2=>∃a v,x=.ref a/\gC H2 a y (U v)/\Q v H2
def HR(ty td:TE):TE:=fun σ H Q=>ty σ H λy H1=>td σ H1 λx H2=>∃a o,x=.ref a/\gC H2 a y o/\Q (.bl (!o.isSome)) H2
def Qp(td ty tv:TE):TS:=λD σ H=>tv σ H λv H1=>td σ H1 λx H2=>ty σ H2 λy H3=>∃a H4,x=.ref a/\kM H3 a y v H4/\D.nx σ H4
section
variable{X:Cx}{o i e value:l}{pos pos' AG:y}{td ty tv:TE}
theorem Qq(hu:X.A.units+1<cLine)(ho:JE X o td)(hi:JE X i ty)(hs:rN i):JE X (.Subscript o i pos) (Qo td ty):=by
 calc⟨?_⟩;ext pins s σ H Q I h;calc Qm PySem.F.slot_dict_getitem.lookup hs (bL (ho pins s σ H _ I h) λu s1 ⟨x,H1,I1,rx,q1⟩=>bL (hi pins s1 σ H1 _ I1 q1) λiv s2 ⟨y,H2,I2,ry,a,v,ex,g,q2⟩=>?_);subst ex;obtain rfl:u=q0F a:=rx;calc⟨Qn I2 g,Qh hu I2 g ry λw' s3 I3 jJ=>⟨v,H2,I3,jJ,q2⟩⟩
theorem Qr(hu:X.A.units+1<cLine)(hi:JE X i ty)(ho:JE X o td):JC X .NotIn i o (HR ty td):=by
 calc⟨?_⟩;ext pins s σ H Q I h;calc bL (hi pins s σ H _ I h) λiv s1 ⟨y,H1,I1,ry,q1⟩=>bL (ho pins s1 σ H1 _ I1 q1) λu s2 ⟨x,H2,I2,rx,a,ov,ex,g,q2⟩=>?_;subst ex;obtain rfl:u=q0F a:=rx;calc Qj hu I2 g ry λs3 I3=>⟨.bl (!ov.isSome),H2,I3,Y,q2⟩
theorem HS(hu:X.A.units+1<cLine)(ho:JE X o td)(hi:JE X i ty)(hv:JE X value tv)(hs:swapsWith value (U (.Subscript o i pos')) pos.line X.env=pure ι):
  JS X (.Assign [.Subscript o i pos'] value pos) (Qp td ty tv):=by
 calc⟨?_⟩;ext pins s σ H D I h;calc wpAny_Assign_Subscript (bL (hv pins s σ H _ I h) λr s1 ⟨v,H1,I1,rv,q1⟩=>bL (ho pins s1 σ H1 _ I1 q1) λu s2 ⟨x,H2,I2,rx,q2⟩=>bL (hi pins s2 σ H2 _ I2 q2) λiv s3 ⟨y,H3,I3,ry,a,H4,ex,g,q3⟩=>?_) hs;subst ex;obtain rfl:u=q0F a:=rx;calc Qk hu I3 g ry rv λs4 I4=>⟨σ,H4,I4,q3⟩
end
theorem HU{P:t}{w:S}{H:Hp}(h:I)(hb:sysModules<h.objs.size):bw P w H (h.push {cls:=.type "dict",data:=.dict #[]}) h.objs.size (.dK []) :=
 ⟨q0Z _,q2x.mpr (q2b (q0b hb)),[],.nil,Heap.DictOf.new h⟩
def Qs:TE:=λ_ H Q=>∀p,H p=Z->Q (.ref p) (upd H p (.dK []))
section
variable{X:Cx}{pos:y}
theorem l6:JE X (.Dict [] [] pos) Qs:=⟨λpins s σ H Q I h =>
 wpAny_Dict_empty ⟨.ref ⇑s,_,I.laid (a:=s.heap.objs.size) (o:=.dK []) (t':=s.toks) (λ_ _ q=>u7 _ q) (Hz _) (HU s.heap I.big),Y,h _ (I.bu.fresh (Hz _))⟩⟩
end
def xQ:-(TE×TE)->St->Hp->(-(V×V)->Hp->Prop)->Prop
 |[],_,H,Q=>Q [] H
 |(tk,tv)::r,σ,H,Q=>tk σ H λx H1=>tv σ H1 λy H2=>xQ r σ H2 λps H3=>Q ((x,y)::ps) H3
abbrev VV:-(V×V)->-(L×L)->Prop:=Paired λp q=>RelV p.1 q.1/\RelV p.2 q.2
def vo(X:Cx)(pos:y)(keys:-(Option l))(values:-l)(iV:-(TE×TE)):Prop :=
 ∀(pins:aL)(s:B)(σ:St)(H:Hp)(Q:-(V×V)->Hp->Prop),Inv X pins σ H s->xQ iV σ H Q →
  M (g X.prog X.w) X.A (evalPairs (pairTrees keys values X.env pos)) (λvs s'=>∃ps H',Inv X pins σ H' s'/\VV ps vs/\Q ps H') X.xe s
theorem Qt{X:Cx}{pos:y}:vo X pos [] [] []:=λpins s σ H Q I h=>pairTrees_nil_walk ⟨[],H,I,.nil,h⟩
theorem Qu{X:Cx}{pos:Ε}{k v:l}{ks:-(Option l)}{vs:-l}{tk tv:TE}{iV:-(TE×TE)}(hk:JE X k tk)(hv:JE X v tv)(hr:vo X pos ks vs iV):
  vo X pos (U k::ks) (v::vs) ((tk,tv)::iV):=λpins s σ H Q I h =>
 pairTrees_cons_walk (bL (hk pins s σ H _ I h) λu s1 ⟨x,H1,I1,rx,q1⟩↦bL (hv pins s1 σ H1 _ I1 q1) λw2 s2 ⟨y,H2,I2,ry,q2⟩ ↦
  bL (hr pins s2 σ H2 _ I2 q2) λws s3 ⟨ps,H3,I3,rel,q3⟩↦⟨(x,y)::ps,H3,I3,.cons ⟨rx,ry⟩ rel,q3⟩)
noncomputable def rO(kvs more:-(Key×V)):-(Key×V):=more.foldl (λacc kv=>putK acc kv.1 kv.2) kvs
theorem KV.merge:∀{more:-(Key×V)}{rs:-(Key×L)}{kvs:-(Key×V)}{vs:-(Key×L)},KV more rs->KV kvs vs->KV (rO kvs more) (merged vs rs):=by
 ext more rs kvs vs r;unfold KV at r
 induction r generalizing kvs vs with
 |nil=>ext q;exact q
 | @cons p q ps qs h t ih =>
  ext r0
  let e:KV (putK kvs p.1 p.2) (stored vs q.1 q.2):=by
   let:=r0.put p.1 h.2;rw[<-h.1];exact this
  calc ih e
theorem HV:∀(more kvs:-(Key×V)),↑(rO kvs more)<=↑kvs+↑more
 |[],kvs=>by show ↑kvs<=↑kvs+0;symm
 |p::r,kvs=>by
  let h1:=HV r (putK kvs p.1 p.2);let h2:=Bp kvs p.1 p.2;show↑(rO (putK kvs p.1 p.2) r)<=_;rw[HB];symm
theorem HW{P:ψ}{w:S}:∀{kvs:-(Key×V)}{ws:-(L×L)},VV (kvs.map λkv=>(kV kv.1,kv.2)) ws->∃rs,Carries (jq P w) ws rs/\KV kvs rs
 |[],_,r=>by rw[q16] at r;cases r;exact⟨[],q14,.nil⟩
 |p::kvs,_,r=>by
  rw[q0m] at r
  cases r with
  | @cons a b as bs h t =>
   let⟨rs,c,q⟩:=HW (P:=P) (w:=w) t;let⟨b1,b2⟩:=b;calc⟨(p.1,b2)::rs,⟨tI h.1,Y,c⟩,.cons ⟨Y,h.2⟩ q⟩
def Qv(iV:-(TE×TE)):TE:=fun σ H Q=>∀p,H p=Z->xQ iV σ (upd H p (.dK [])) λps H2=>H2 p=U (.dK [])/\∃kvs:-(Key×V),ps=kvs.map (λkv=>(kV kv.1,kv.2))/\↑kvs<=15/\Q (.ref p) (upd H2 p (.dK (rO [] kvs)))
theorem Qw{X:Cx}{pos:y}{keys:-(Option l)}{values:-l}{iV:-(TE×TE)}(h:vo X pos keys values iV)(iO:keys.all (·.isSome)=θ)(hl:↑keys=↑values)(h0:keys≠[])
  (Bs:↑keys<=15):JE X (.Dict keys values pos) (Qv iV):=by
 calc⟨?_⟩;ext pins s σ H Q I q;let hn:=I.bu.fresh (Hz ⇑s);let I1:=I.laid (a:=s.heap.objs.size) (o:=.dK []) (h':=s.heap.push {cls:=.type "dict",data:=.dict #[]}) (t':=s.toks) (λ_ _ q=>u7 _ q) (Hz _) (HU s.heap I.big);calc wpAny_Dict_walk (knd:=jq X.prog X.w) iO hl h0 Bs (bL (h pins _ σ _ _ I1 (q _ hn)) λws s2 ⟨ps,H2,I2,rel,e,kvs,ep,lk,q2⟩=>?_);subst ep;let⟨rs,c,rk⟩:=HW (P:=X.prog) (w:=X.w) rel;let⟨z,hd,Zm,r0,dd⟩:=Bq I2.bu e;cases r0
 refine⟨rs,c,dd,λh' nh hs=>⟨.ref ⇑s,_,?_,Y,q2⟩⟩
 let hz:↑(rO [] kvs)<=sizeLine:=by
  let h1:=HV kvs [];rw[q1i] at h1;rw[q1O];symm
 let he:∃q,h'.get? ⇑s=U q:=let⟨q,_,_,hq,_⟩:=nh;⟨q,hq⟩;calc xP I2 (by rw[e];calc q14) hs he (Br hz hd (rk.merge .nil) nh)
structure M1(X:Cx)(o:l)(m:J)(apos:y)(e:l)(eA:y):Prop where
 base:attributeBase o m X.env (eval o X.env)=eval o X.env
 iM:((backTo eA (starEach [e] X.env)).all (λx => !x.1)&&(backToKw eA (keywordEach [] X.env)).all (λx=>x.1.isSome)
  && G (↑([e]:-l)+↑([]:-Keyword)+(if([]:-Keyword).isEmpty then 0 else 1)<30))=θ
 line:(apos.endLine==eA.line)=θ
 trees:backTo eA (starEach [e] X.env)=[(ι,eval e X.env)]
def HX(H:Hp)(a:O):Prop:=(∃kvs,Rd H a (.dK kvs))\/∃kvs,Rd H a (.dT kvs)
theorem Qx{X:Cx}{pins:aL}{σ:St}{H:Hp}{s:B}{a:O}(I:Inv X pins σ H s)(d:HX H a):
  s.TypeIs (.ref a) "dict" /\ (∀b,q0F a=.ref b->∃ob,s.heap.get? b=U ob/\ob.dict=Z)/\(a==sysModules)=ι:=by
 rcases d with⟨kvs,e⟩|⟨kvs,e⟩
 .let⟨_,hd,vs,_,dd⟩:=vm I.bu e
  calc⟨dd.typeIs,λb q=>?_,hd⟩;cases q
  let⟨ob,_,_,h1,h2,_⟩:=dd;exact⟨ob,h1,h2.2.1⟩
 .let⟨_,hd,xs,_,dd⟩:=vn I.bu e
  calc⟨dd.typeIs,λb q=>?_,hd⟩;cases q
  let⟨ob,_,_,h1,h2,_⟩:=dd;calc⟨ob,h1,h2.2.1⟩
section
variable{X:Cx}{pins:aL}{σ:St}{H:Hp}{s:B}{a:O}{y d:V}{u r:L}{o:Option V}{A:Β}{E:bA}
end
def Qy(td ty:TE):TE:=fun σ H Q=>td σ H λx H1=>∃a,x=.ref a/\HX H1 a/\ty σ H1 λy H2=>∃kvs k v,H2 a=U (.dK kvs)/\y=kV k/\dS kvs k=U v/\Q v (upd H2 a (.dK (qi kvs k)))
section
variable{X:Cx}{o e f:l}{apos eA:y}{td ty tx:TE}
theorem Qz(ho:JE X o td)(he:JE X e ty)(m:M1 X o "pop" apos e eA):JE X (.Call (.Attribute o "pop" apos) [e] [] eA) (Qy td ty):=by
 calc⟨?_⟩;ext pins s σ H Q I h;calc wpAny_Call_method m.base m.iM m.line PySem.F.plainAttrs_dict q5a PySem.F.type_dict_pop (bL (ho pins s σ H _ I h) λu s1 ⟨x,H1,I1,rx,a,ex,d,q1⟩=>?_);subst ex;obtain rfl:u=q0F a:=rx;let⟨t1,t2,_⟩:=Qx I1 d;calc⟨t1,t2,?_⟩;rw[m.trees];calc q4Q Y (q5q (q5R (bL (he pins s1 σ H1 _ I1 q1) λiv s2 ⟨y,H2,I2,ry,kvs,k,v,ea,ey,l,q2⟩=>q6a ?_)));subst ey;calc Ql I2 ea ry l (.inl Y) λw' s3 I3 jJ=>⟨v,_,I3,jJ,q2⟩
end
section
variable{X:Cx}{pins:aL}{σ:St}{H:Hp}{s:B}{a:O}{kvs:-(Key×V)}{A:o}{E:bA}
end
section
variable{X:Cx}{pins:aL}{σ:St}{H:Hp}{s:B}{a:O}{y:V}{u:L}{A:o}{E:bA}
end
end L2
namespace L2
section
variable{κ:Type}[DecidableEq κ]
end
end L2
namespace L2
open PySem PySem.Spec PyProof.Rows
end L2
namespace LJS
open PySem
noncomputable def hp(i j:Int):Int:=reduceHash (Builtin.Tuple.tupleHashOf [hashInt i,hashInt j])
theorem HY{prog:t}{w:S}(i j:Int):hT prog w [i,j]=hp i j:=rfl
noncomputable def xR:-(Int×Int):=(q0x 12).flatMap λj=>(q0x j).map λi:Nat=>(q6A i,q6A j)
theorem QA:∀a∈xR,∀b∈xR,hp a.1 a.2=hp b.1 b.2->a=b:=by decide +kernel
theorem HZ{i j:Int}(h0:0<=i)(h1:i<j)(h2:j<12):(i,j)∈xR:=by
 let⟨a,rfl⟩:∃a:Nat,i=a:=⟨i.toNat,⋯⟩;let⟨b,rfl⟩:∃b:Nat,j=b:=⟨j.toNat,⋯⟩;unfold xR;calc q6B.mpr ⟨b,q0Y.mpr ⋯,q0l.mpr ⟨a,q0Y.mpr ⋯,Y⟩⟩
end LJS
namespace L2
open PySem PySem.Spec PyProof.Rows
noncomputable def l7(S:O)(n:Nat):HO:=.ext λh=>∃hs:-Int,↑hs=n/\LJS.fZ h S hs
theorem QB{P:t}{w:ω}{H:Hp}{h:I}{S:O}{hs:-Int}{n:Nat}(e:LJS.fZ h S hs)(hn:↑hs=n):bw P w H h S (l7 S n) :=
 ⟨⟨hs,hn,e⟩,let⟨o,_,_,_,ho,_⟩:=e;⟨o,ho⟩,λh1 h2 ⟨xS,en,e1⟩ k↦⟨xS,en,LJS.zP e1 λo eo=>k o eo⟩⟩
section
variable{X:Cx}
theorem H_:∀{ps:-O}{az:-L},Vals (ps.map V.ref) az->az=ps.map q0F
 |[],_,.nil=>Y
 |_::_,_,.cons r rs=>by cases r;rw[H_ rs];rfl
theorem QC(hc:X.calm=θ)(hu:X.A.units+64<cLine):g9 X (.type "set") (λxs H Q=>∃(l:O)(ps:-O)(ks:-(Int×Int)),xs=[.ref l]/\bU X.K H l (ps.map V.ref)/\↑ps=↑ks ∧
  (∀(i:Nat)(a:O)(k:Int×Int),ps[i]?=U a->ks[i]?=U k->H a=U (.tup [.int k.1,.int k.2]))/\(∀k∈ks,0<=k.1/\k.1<k.2/\k.2<12)/\ks.Nodup/\↑ks<=30/\∀p,H p=Z->Q (.ref p) (upd H p (l7 p ↑ks))):=by
 ext pins s σ H xs us Q I r h;let⟨l,ps,ks,rfl,hq,hl,fh,bd,lR,iP,q⟩:=h;let⟨u,rfl,rx⟩:=vals1 r;cases rx
 let⟨az,r',pl,_⟩:=I.list hq;obtain rfl:=H_ r';let sz:(ps.map q0F).toArray.size=↑ks:=by rw[PA,Ba,hl]
 let rP:∀i,i<↑ks->∃k,ks[i]?=U k/\ks.getD i (0,0)=k:=λi hi=>⟨ks[i],xF hi,by rw[PD,xF hi];rfl⟩;let Bt:∀i,i<↑ks->∃a,ps[i]?=U a/\ps.getD i 0=a:=λi hi=>⟨ps[i]'(by rw[hl];calc hi),xF (by rw[hl];calc hi),by rw[PD,xF (by rw[hl];calc hi)];rfl⟩;refine LJS.Na (λi=>ps.getD i 0) (λi=>[(ks.getD i (0,0)).1,(ks.getD i (0,0)).2]) (I.ok.hd hc) ⋯ pl.isList (λi v hv=>?_) (λi hi=>?_) (λi j hi hj=>?_) (by rw[sz];calc iP) λh' tk se kp=>?_
 .rw[q2l,PB] at hv
  let⟨a,ea,rfl⟩:=q0a.mp hv;rw[PD,ea];rfl
 .rw[sz] at hi
  let⟨k,ek,dk⟩:=rP i hi;let⟨a,ea,da⟩:=Bt i hi;show IsTupleKey _ _ [(ks.getD i (0,0)).1,(ks.getD i (0,0)).2] (ps.getD i 0);rw[dk,da];let⟨_,bO,r2,o,ho,qj,n,hd⟩:=I.bu a _ (fh i a k ea ek)
  cases r2 with
  |cons ra rr =>
   cases rr with
   |cons rb rn =>
    cases rn
    let⟨t1,rfl⟩:=ra;let⟨t2,rfl⟩:=rb;exact⟨o,_,n,ho,qj,hd,.cons (q3o ..) (.cons (q3o ..) .nil)⟩
 .rw[sz] at hi
  let⟨k,ek,dk⟩:=rP i hi;let⟨k',tJ,QD⟩:=rP j ⋯;show LJS.hT _ _ [(ks.getD j (0,0)).1,(ks.getD j (0,0)).2]≠LJS.hT _ _ [(ks.getD i (0,0)).1,(ks.getD i (0,0)).2];rw[dk,QD,LJS.HY,LJS.HY];ext z;let b1:=bd k (q0d.mpr ⟨i,ek⟩);let b2:=bd k' (q0d.mpr ⟨j,tJ⟩);let e:=LJS.QA (k'.1,k'.2) (LJS.HZ b2.1 b2.2.1 b2.2.2) (k.1,k.2) (LJS.HZ b1.1 b1.2.1 b1.2.2) z;let e':k'=k:=e;rw[e'] at tJ;let⟨vp,QE⟩:=Hy.mp tJ;let⟨dy,zJ⟩:=Hy.mp ek;let:=(q4v (h₀:=vp) (h₁:=dy) lR).mp (by rw[QE,zJ]);symm
 .calc⟨.ref ⇑s,upd H ⇑s (l7 ⇑s ↑ks),I.laid (t':=tk) (λb o e=>kp b o (Ze e) e) (Hz _) (QB se (by rw[Ba,q00,sz])),Y,q _ (I.bu.fresh (Hz _))⟩
theorem QF:g9 X (.builtin "len") (λxs H Q=>∃(p:O)(n:Nat),xs=[.ref p]/\H p=U (l7 p n)/\n<1000/\Q (.int n) H):=by
 ext pins s σ H xs us Q I r h;let⟨p,n,rfl,hp,hn,q⟩:=h;let⟨u,rfl,rx⟩:=vals1 r;cases rx
 let⟨⟨hs,hl,o,es,ep,t,ho,hex,hd,T⟩,_⟩:=I.bu p _ hp;let e:es.size=n:=by rw[T.num,hl]
 calc call_len_set ho hex hd T.fits ⋯ ⟨.int n,H,I.tok _,⟨_,by rw[e]⟩,q⟩
theorem Ia:∀{bs:-Bool}{az:-L},Vals (bs.map V.bl) az->az=bs.map q2I
 |[],_,.nil=>Y
 |_::_,_,.cons r rs=>by cases r;rw[Ia rs];rfl
theorem all_range(bs:-Bool):(q0x bs.length).all (λi=>bs.getD i θ)=bs.all id:=by
 rw[Bool.eq_iff_iff,q1N,q1N]
 constructor
 .ext h b hb
  let⟨i,hi⟩:=q0d.mp hb;let hl:=(Hy.mp hi).1;let:=h i (q0Y.mpr hl);rw[PD,hi] at this;exact this
 .ext h i hi
  let hl:=q0Y.mp hi;rw[PD,xF hl];calc h _ (q1Q hl)
theorem QG(hc:X.calm=θ):g9 X (.builtin "all") (λxs H Q=>∃(l:O)(bs:-Bool),xs=[.ref l]/\bU X.K H l (bs.map V.bl)/\Q (.bl (bs.all id)) H):=by
 ext pins s σ H xs us Q I r h;let⟨l,bs,rfl,hq,q⟩:=h;let⟨u,rfl,rx⟩:=vals1 r;cases rx
 let⟨az,r',pl,_⟩:=I.list hq;obtain rfl:=Ia r';let hL:=pl.isList;let ll:l<⇑s:=by let⟨o,e,_⟩:=hL;exact Ze e
 let nI:l≠⇑s:=q0b ll;calc call_all_walk (q1X hL ?_);refine⟨⇑s,_,_,_,_,_,λi=>bs.getD i θ,Y,q3q (by rw[q2h];calc I.ok.hd hc) ⇑s l nI _,⟨⟨_,Zg _ Y,Y,Y⟩,hL.push _⟩,λi v s' Q' E' hv xT=>?_,λh' tk kp=>?_⟩
 .let hv:(bs.map q2I).toArray[i]?=U v:=hv
  let xT:Q' (bs.getD i θ) s':=xT;rw[q2l,PB] at hv;let⟨b,eb,rfl⟩:=q0a.mp hv;rw[PD,eb] at xT;exact q1Y xT
 .refine⟨.bl (bs.all id),H,I.kept (t':=tk) λb o e=>kp b o (λz=>?_) (u7 _ e),?_,q⟩
  .let:=Ze e
   rw[q0D.mp z] at this;exact q1E _ this
  .show q2I _=q2I _
   rw[PA,Ba,all_range]
end
end L2
namespace LJ
open PySem L2
structure Fn(P:t)(w:S)(K:My)(mg:J->Option L)(base:I)(k:Nat)(x:J)(ps:-J)(sp:Sp)(f:O)(fd:FuncData):Prop where
 ok:cj P w K mg base ft k f fd ps sp
 vq:mg x=U (.ref f)
 kp:q09 K (.ref f)=θ
 bd:Binds K fd ps []
theorem vt:bootBuiltins "bool" = U (.type "bool"):=by decide +kernel
theorem Bu:bootBuiltins "int" = U (.type "int"):=by decide +kernel
theorem Ib:bootBuiltins "str" = U (.type "str"):=by decide +kernel
theorem xU:bootBuiltins "tuple" = U (.type "tuple"):=by decide +kernel
theorem vv:bootBuiltins "list" = U (.type "list"):=by decide +kernel
theorem xV:bootBuiltins "set" = U (.type "set"):=by decide +kernel
theorem QH:bootBuiltins "all" = U (.builtin "all"):=by decide +kernel
section
variable{K:My}
end
structure aO(many:Int)(ys:-(Int×Int×Int)):Prop where
 m1:1<=many
 iI:many<=12
 iP:↑ys<=30
 ends:∀y∈ys,0<=y.1/\y.1<y.2.1/\y.2.1<many/\0<=y.2.2/\y.2.2<=1000000000
 unlike:(ys.map λy=>(y.1,y.2.1)).Nodup
end LJ
namespace L2
open PySem PySem.Spec PyProof.Rows
section
variable{X:Cx}
end
end L2
namespace LJ
open PySem L2
noncomputable def j_:Nat->-(Int×Int)
 |0=>[]
 |n+1=>j_ n++(q0x n).map λa:Nat=>(q6A a,q6A n)
theorem Bv:∀{n:Nat}{k:Int×Int},k∈j_ n->0<=k.1/\k.1<k.2/\k.2<n
 |0,_,h=>nomatch h
 |n+1,k,h=>by
  rcases q0u.mp h with h|h
  .let:=Bv h;symm
  .let⟨a,ha,rfl⟩:=q0l.mp h
   let:=q0Y.mp ha;refine⟨Int.natCast_nonneg a,?_,?_⟩
   .show (a:Int)<(n:Int);symm
   .show (n:Int)<((n+1:Nat):Int);symm
theorem Ic:∀n:Nat,(j_ n).Nodup
 |0=>q5k
 |n+1=>by
  refine q1W.mpr ⟨Ic n,?_,λk h1 k' h2 e=>?_⟩
  .refine q2L.mpr (q4o.imp λ{a b} ne e=>ne ?_)
   exact q7H (congrArg q9m e)
  .subst e
   let⟨a,ha,rfl⟩:=q0l.mp h2;let:=(Bv h1).2.2;let:(n:Int)<(n:Int):=this;symm
theorem Ie:∀n:Nat,n<=12->↑(j_ n)<=66:=by
 ext n h;rcases n with _|_|_|_|_|_|_|_|_|_|_|_|_|n
 all_goals first|decide|symm
end LJ
namespace LJ
open PySem
theorem QI{j n:Nat}(h:j<n):seqIndex? (j:Int) n=U j:=by
 unfold seqIndex?
 first|(simp;symm)|skip
end LJ
namespace L2
open PySem PySem.Spec PyProof.Rows
section
variable{X:Cx}
theorem QJ:g9 X (.type "range") (λxs H Q=>∃j:Int,xs=[.int j]/\∀r,H r=Z->Q (.ref r) (upd H r (.rng 0 j))):=by
 ext pins s σ H xs us Q I r h;let⟨j,rfl,q⟩:=h;let⟨u,rfl,t,rfl⟩:=vals1 r;calc call_range_1 ⟨.ref ⇑s,_,I.laid (t':=s.toks+1+1) (o:=.rng 0 j) (λb o e=>u7 _ e) (Hz _) ?_,Y,q _ (I.bu.fresh (Hz _))⟩;calc⟨_,_,_,Zg _ Y⟩
noncomputable def b_(n:Nat):-Int:=(q0x n).map λa:Nat=>(a:Int)
theorem Ig:∀{ns:-Int}{us:-L},↑us=↑ns->(∀(i:Nat)(u:L),us[i]?=U u->∃t,u=.int (ns.getD i 0) t)->Vals (ns.map V.int) us
 |[],[],_,_=>.nil
 |[],_::_,h,_=>by simp at h
 |_::_,[],h,_=>by simp at h
 |n::ns,u::us,h,g=>by
  let⟨t,e⟩:=g 0 u Y;calc .cons ⟨t,e⟩ (Ig h⁻¹ λi v e2=>?_);let⟨t,e⟩:=g (i+1) v e2⁻¹;calc⟨t,by simpa using e⟩
theorem QK(hc:X.calm=θ):g9 X (.type "list") (λxs H Q=>∃(r:O)(n:Nat),xs=[.ref r]/\H r=U (.rng 0 (n:Int))/\n<=1000/\∀l,H l=Z->Q (.ref l) (upd H l (.lst ((b_ n).map V.int)))):=by
 ext pins s σ H xs us Q I r h;let⟨a,n,rfl,ha,hn,q⟩:=h;let⟨u,rfl,rx⟩:=vals1 r;cases rx
 let⟨t,u,v,e⟩:=(show ∃t u v,s.heap.get? a=U {cls:=.type "range",data:=.fields #[.int 0 t,.int (n:Int) u,.int 1 v]} from I.bu a _ ha);let hs:q4w 0 (n:Int) 1=n:=by rw[q7C];split<;>symm
 calc call_list_range (n:=n) (I.ok.hd hc) e (small_one ⋯ ⋯ ⋯ ⋯) hs ⋯ λh' tk acc c' kp e' it=>?_;calc⟨.ref ⇑s,_,I.laid (t':=tk) (o:=.lst ((b_ n).map V.int)) kp (Hz _) ?_,Y,q _ (I.bu.fresh (Hz _))⟩;calc⟨q1d (qg (by rw[Ba,b_,Ba,q00];calc hn)),acc.toList,c',?_,by simpa using e'⟩;refine Ig ?_ λi u e=>?_
 .rw[Zh,it.1,b_,Ba,q00]
 .rw[q0B] at e
  let⟨t',e2⟩:=it.2 i u e;let hi:i<n:=by rw[<-it.1];exact(q3K.mp e).1
  calc⟨t',e2.trans ?_⟩;rw[b_,PD,PB,q1_ hi];show q0X (0+(i:Int)*1) t'=q0X (i:Int) t';rw[q6j,q9g]
theorem Bw:∀{us:-L}{ns:-Int},IntsAre us ns->Vals (ns.map V.int) us
 |_,_,.nil=>.nil
 |_,_,.cons n t r=>.cons ⟨t,Y⟩ (Bw r)
theorem QL:g9 X (.builtin "sorted") (λxs H Q=>∃(l:O)(ns:-Int),xs=[.ref l]/\bU X.K H l (ns.map V.int)/\↑ns<64/\∀(r:O)(dz:-Int),dz.Perm ns->dz.Pairwise (· <= ·)->H r=Z->Q (.ref r) (upd H r (.lst (dz.map V.int)))):=by
 ext pins s σ H xs us Q I r h;let⟨l,ns,rfl,hq,qk,q⟩:=h;let⟨u,rfl,rx⟩:=vals1 r;cases rx
 let⟨az,r',pl,_⟩:=I.list hq;let hl:=↑r';rw[Ba] at hl;calc sorted_ints pl.isList (intsAre_of r')⁻¹ ⋯ λout dz hI pm pw=>?_;let hf:H (⇑s+1)=Z:=I.bu.fresh (q3w _);let⟨e,he⟩:=sortedAll_at s.heap az out;calc⟨.ref (⇑s+1),_,I.laid (t':=s.toks) (o:=.lst (dz.map V.int)) (λb o e=>sortedAll_old e) (q3w _) ?_,Y,q _ dz pm pw hf⟩;calc⟨q1d (qg (by rw[Ba,pm.length_eq];symm)),out.toList,e,Bw hI,?_⟩;simpa[seqObj] using he
theorem Ih{prog:t}{w:S}{A:Β}{E:bA}{I l:O}{items:Array L}(W:Walks prog w A I [I,l] [I] items.size (λi v=>items[i]?=U v) (λi h=>h.IsListIter I l i/\h.IsList l items)):
  ∀(k i:Nat)(s:B)(Q:-L->B->Prop),i+k<=items.size->(s.heap.IsListIter I l i/\s.heap.IsList l items) →
   (∀h' tk,(h'.IsListIter I l (i+k)/\h'.IsList l items)->(∀b o,b∉[I]->s.heap.get? b=U o->h'.get? b=U o)->Q ((items.toList.drop i).take k) {s with heap:=h',toks:=tk})->M (ς prog w) A (draw (.ref I) k) Q E s
 |0,i,s,Q,_,st,g=>by
  show M _ _ (pure []) Q E s;calc HA ?_;let:=g s.heap s.toks st λ_ _ _ e=>e;rw[q3Y] at this;exact this
 |k+1,i,s,Q,hk,st,g=>by
  let hi:i<items.size:=by symm
  show M _ _ (pyNext (.ref I) >>= _) Q E s;calc rH (W.item i s _ _ hi st λv h1 mX hv lg tK=>?_);refine rH (q0H (Ih W k (i+1) _ _ ⋯ lg λh2 Bx j5 qT=>HA ?_))
  let e:items.toList.drop i=v::items.toList.drop (i+1):=by
   rw[q2U (by rw[Zh];calc hi)];congr 1;let xw:items[i]?=U v:=hv;rw[q0p hi] at xw;simpa using xw
  let:=g h2 Bx (by rw[show i+(k+1)=i+1+k by symm];calc j5) λb o hb e=>qT b o hb (tK b o hb e);rw[e,q5w] at this;calc this
theorem QM{prog:t}{w:S}{A:Β}{E:bA}{s:B}{l:O}{items:Array L}{Q:-L->B->Prop}(hh:A.handled=Z)(hl:s.heap.IsList l items)
  (g:∀h' tk,(∀b o,b≠⇑s->s.heap.get? b=U o->h'.get? b=U o)->Q items.toList {s with heap:=h',toks:=tk}):M (ς prog w) A (unpackItems (.ref l) items.size Z) Q E s:=by
 let ll:l<⇑s:=by let⟨o,e,_⟩:=hl;exact Ze e
 let W:=q3q (prog:=prog) (w:=w) hh ⇑s l (q0b ll) items;unfold unpackItems;calc rH ?_;unfold notIterableAtAll;calc rH (q3y hl.typeIs slot_list_iter.lookup (HA ?_));erw[q03,q2a];calc rH (q0H (q1X hl ?_));calc rH (q0H (Ih W items.size 0 _ _ ⋯ ⟨⟨_,Zg _ Y,Y,Y⟩,hl.push _⟩ λh1 mX lg tK=>?_));rw[q5g,q1y (by rw[Zh];calc Hz _),q0c (by rw[Zh];calc q1E _)];rw[q0A] at lg;calc rH (q0H (W.done _ _ _ lg λh2 Bx qT=>?_));erw[Option.isSome_none,q03,q2a];calc HA (g h2 Bx λb o hb e=>qT b o hb⁻¹ (tK b o hb⁻¹ (u7 _ e)))
def QN(K:My)(n:Nat)(t:kE):TG:=λv σ H Q=>∃a xs,v=.ref a/\bU K H a xs/\↑xs=n/\t xs σ H Q
theorem QO{es:-l}{k:Nat}{t:kE}{n:Nat}{pos:y}(hc:X.calm=θ)(h:iH X es t)
  (hn:↑(assignEach es X.env)=n:=by rfl) (iS:(assignEach es X.env).findIdx? (·.1)=Z:=by rfl):JG X (.Tuple es k pos) (QN X.K n t):=by
 calc⟨?_⟩;ext pins s σ H v u Q I r hw;let⟨a,xs,e1,hq,hl,hw⟩:=hw;subst e1;cases r
 let⟨az,rv,ht,hz⟩:=I.list hq;let hlen:=↑rv;rw[assign_Tuple];calc rH (q2Y ?_);unfold unpack;rw[iS,show↑(assignEach es X.env)=az.toArray.size by rw[hn,<-hl,hlen];simp];calc rH (q0H (QM (I.ok.hd hc) ht.isList λh' tk kp=>?_));let I1:Inv X pins σ H {s with heap:=h',toks:=tk}:=I.kept λb o e=>kp b o (q0b (Ze e)) e;calc h pins _ σ H xs _ Q I1 rv⁻¹ hw
end
section
variable{X:Cx}{e:l}{te:TE}{pos p2 p3 p4:y}
end
inductive FV where
 |p (d:D)|w (a:O)
inductive DV where
 |p (d:D)|o (k:Nat)|t (d:D) (k:Nat)|w (a:O)|u (t:Bool) (fs:-FV)
noncomputable def FV.v:FV->DV
 |.p d=>.p d
 |.w a=>.w a
inductive OV where
 |lst (ds:-D)|dct (kvs:-(Key×D))|dtt (kvs:-(-Int×Int))
 |al (a:O) (ds:-D)|ac (a:O) (kvs:-(Key×D))|ins (a C:O) (fs:-(J×FV))|av (a:O) (kvs:-(Key×FV))
structure aM where
 sl:-(Option DV)
 mu:-(Option OV)
def di{κ α:Type}(R:α->V->Prop):-(κ×α)->-(κ×V)->Prop
 |[],ws=>ws=[]
 |kd::r,ws=>∃v t,ws=(kd.1,v)::t/\R kd.2 v/\di R r t
def ju(F:Hp):FV->V->Prop
 |.p d,v=>Is F d v
 |.w a,v=>v=.ref a
abbrev xW(F:Hp):-(Key×D)->-(Key×V)->Prop:=di (Is F)
abbrev ni(F:Hp){κ:Type}:-(κ×FV)->-(κ×V)->Prop:=di (ju F)
theorem di.mono{κ α:Type}{R R':α->V->Prop}(s:∀a v,R a v->R' a v):∀{ks:-(κ×α)}{ws:-(κ×V)},di R ks ws->di R' ks ws
 |[],_,h=>h
 |_::_,_,⟨v,t,e,h1,h2⟩=>⟨v,t,e,s _ _ h1,di.mono s h2⟩
theorem ju.same{F F':Hp}(s:aP F F'):∀(f:FV)(v:V),ju F f v->ju F' f v
 |.p _,_,h=>Is.same s h
 |.w _,_,h=>h
def eU(F:Hp)(a:O):OV->HO->Prop
 |.lst ds,o=>∃vs,o=.lst vs/\af F ds vs
 |.dct kvs,o=>∃ws,o=.dK ws/\xW F kvs ws
 |.dtt kvs,o=>o=.dT (kvs.map λp=>(p.1.map q38,V.int p.2))
 |.al b ds,o=>b=a/\∃vs,o=.lst vs/\af F ds vs
 |.ac b kvs,o=>b=a/\∃ws,o=.dK ws/\xW F kvs ws
 |.ins b C fs,o=>b=a/\∃dx ws,o=.ins C dx ws/\ni F fs ws
 |.av b kvs,o=>b=a/\∃ws,o=.dK ws/\ni F kvs ws
theorem eU.same{F F':Hp}{a:O}(s:aP F F'):∀{ov:OV}{o:HO},eU F a ov o->eU F' a ov o
 |.lst _,_,⟨vs,e,h⟩=>⟨vs,e,h.same s⟩
 |.dct _,_,⟨ws,e,h⟩=>⟨ws,e,h.mono λ_ _=>Is.same s⟩
 |.dtt _,_,e=>e
 |.al _ _,_,⟨z,vs,e,h⟩=>⟨z,vs,e,h.same s⟩
 |.ac _ _,_,⟨z,ws,e,h⟩=>⟨z,ws,e,h.mono λ_ _=>Is.same s⟩
 |.ins _ _ _,_,⟨z,dx,ws,e,h⟩=>⟨z,dx,ws,e,h.mono (ju.same s)⟩
 |.av _ _,_,⟨z,ws,e,h⟩=>⟨z,ws,e,h.mono (ju.same s)⟩
noncomputable def ou:Bool->-V->HO
 |true,us=>.tup us
 |false,us=>.lst us
def fH(F:Hp):-FV->-V->Prop
 |[],us=>us=[]
 |f::r,us=>∃v t,us=v::t/\ju F f v/\fH F r t
theorem fH.same{F F':Hp}(s:aP F F'):∀{fs:-FV}{us:-V},fH F fs us->fH F' fs us
 |[],_,h=>h
 |_::_,_,⟨v,t,e,h1,h2⟩=>⟨v,t,e,ju.same s _ _ h1,fH.same s h2⟩
def dI(F:Hp)(ad:-O):DV->V->Prop
 |.p d,v=>Is F d v
 |.o k,v=>∃a,ad[k]?=U a/\v=.ref a
 |.w a,v=>v=.ref a
 |.u t fs,v=>∃b us,v=.ref b/\F b=U (ou t us)/\fH F fs us
 |.t d k,v=>∃a b u,v=.ref a/\F a=U (.tup [u,.ref b])/\Is F d u/\ad[k]?=U b
def Lv(ad:-O)(mu:-(Option OV))(a:O):Prop:=∃(k:Nat)(ov:OV),ad[k]?=U a/\mu[k]?=U (U ov)
class aR where
 ad:-O
 ok:Hp->Prop
 same:∀{H H':Hp},ok H->aP H H'->ok H'
 put:∀{H:Hp}{a:O}{o o':HO},ok H->H a=U o->((∃vs,o=.lst vs)\/(∃ws,o=.dK ws)\/(∃ws,o=.dT ws)\/∃C dx ws,o=.ins C dx ws)->ok (upd H a o')
 tb:∀{H:Hp}{a:O},ok H->a∈ad->∃ps,H a=U (.tbl ps)
 cs:Hp
 ct:∀{a:O}{o:HO},cs a=U o->∃vs,o=.tup vs
 co:∀{H:Hp},ok H->aP cs H
theorem eU.kd{F:Hp}{a:O}:∀{ov:OV}{o:HO},eU F a ov o->(∃vs,o=.lst vs)\/(∃ws,o=.dK ws)\/(∃ws,o=.dT ws)\/∃C dx ws,o=.ins C dx ws
 |.lst _,_,⟨vs,e,_⟩=>.inl ⟨vs,e⟩
 |.dct _,_,⟨ws,e,_⟩=>.inr (.inl ⟨ws,e⟩)
 |.dtt _,_,e=>.inr (.inr (.inl ⟨_,e⟩))
 |.al _ _,_,⟨_,vs,e,_⟩=>.inl ⟨vs,e⟩
 |.ac _ _,_,⟨_,ws,e,_⟩=>.inr (.inl ⟨ws,e⟩)
 |.av _ _,_,⟨_,ws,e,_⟩=>.inr (.inl ⟨ws,e⟩)
 |.ins _ _ _,_,⟨_,dx,ws,e,_⟩=>.inr (.inr (.inr ⟨_,dx,ws,e⟩))
theorem eU.kind{F:Hp}{a:O}{ov:OV}{o:HO}(h:eU F a ov o)(ps:Array L)(z:o=.tbl ps):False:=by
 rcases h.kd with⟨_,e⟩|⟨_,e⟩|⟨_,e⟩|⟨_,_,_,e⟩<;>rw[e] at z<;>cases z
variable[aR]
structure NT(F:Hp):Prop where
 no:∀a∈aR.ad,F a=Z
 cs:aP aR.cs F
instance {F:Hp}:CoeFun (NT F) λ_=>∀a∈aR.ad,F a=Z:=⟨NT.no⟩
theorem NT.up{F F':Hp}(h:NT F)(s:aP F F')(n:∀a∈aR.ad,F' a=Z):NT F':=⟨n,λa o e=>s a o (h.cs a o e)⟩
structure SR(F:Hp)(ad:-O)(δ:aM)(σ:St)(H:Hp):Prop where
 sub:aP F H
 off:∀a,Lv ad δ.mu a->F a=Z
 cF:↑ad=↑δ.mu
 inj:∀(k l:Nat)(a:O)(ov ow:OV),ad[k]?=U a->ad[l]?=U a->δ.mu[k]?=U (U ov)->δ.mu[l]?=U (U ow)->k=l
 mu:∀(k:Nat)(ov:OV),δ.mu[k]?=U (U ov)->∃a o,ad[k]?=U a/\H a=U o/\eU F a ov o
 sl:∀(i:Nat)(x:DV),δ.sl[i]?=U (U x)->∃v,σ[i]?=U (U v)/\dI F ad x v
 len:↑σ=↑δ.sl
 tab:aR.ok H
 nt:NT F
structure Ext(F:Hp)(ad:-O)(mu:-(Option OV))(H:Hp)(F':Hp)(aN:-O)(c5:-(Option OV))(H':Hp):Prop where
 same:aP F F'
 new:∀a o,F' a=U o->F a=U o\/H a=Z\/Lv ad mu a
 keep:∀a o,H a=U o->¬ Lv ad mu a->a∉aR.ad->H' a=U o
 pre:∀(k:Nat)(a:O),ad[k]?=U a->aN[k]?=U a
 cA:∀a,Lv aN c5 a->Lv ad mu a\/H a=Z
 iW:∀a o,H a=U o->∃o',H' a=U o'
section
variable{F F' Ii H H' lA:Hp}{ad aN vw:-O}{mu c5 vx:-(Option OV)}{δ:aM}{σ:St}
theorem cI{H:Hp}{a:O}{o:HO}(h:H a=Z):aP H (upd H a o):=λb u e=>by rw[bF (dQ e h)];calc e
theorem Ext.refl:Ext F ad mu H F ad mu H:=⟨λ_ _ e=>e,λ_ _ e=>.inl e,λ_ _ e _ _=>e,λ_ _ e=>e,λ_ e=>.inl e,λ_ o e=>⟨o,e⟩⟩
theorem Ext.trans(x:Ext F ad mu H F' aN c5 H')(y:Ext F' aN c5 H' Ii vw vx lA):Ext F ad mu H Ii vw vx lA where
 same:=x.same.trans y.same
 new:=λa o e=>by
  rcases y.new a o e with h|h|h
  .exact x.new a o h
  .refine .inr (.inl ?_)
   cases q:H a with
   |none=>rfl
   |some u=>let⟨u',h'⟩:=x.iW a u q;rw[h] at h';cases h'
  .rcases x.cA a h with h|h
   .exact .inr (.inr h)
   .exact .inr (.inl h)
 keep:=λa o e n t=>y.keep a o (x.keep a o e n t) (λl=>by
  rcases x.cA a l with h|h
  .exact n h
  .rw[e] at h;cases h) t
 pre:=λk a e=>y.pre k a (x.pre k a e)
 cA:=λa l=>by
  rcases y.cA a l with h|h
  .exact x.cA a h
  .refine .inr ?_
   cases q:H a with
   |none=>rfl
   |some u=>let⟨u',h'⟩:=x.iW a u q;rw[h] at h';cases h'
 iW:=λa o e=>let⟨o1,e1⟩:=x.iW a o e;y.iW a o1 e1
theorem dI.ext{x:DV}{v:V}(h:dI F ad x v)(e:Ext F ad mu H F' aN c5 H'):dI F' aN x v:=by
 cases x with
 |p d=>exact Is.same e.same h
 |o k=>let⟨a,h1,h2⟩:=h;exact⟨a,e.pre k a h1,h2⟩
 |w a=>exact h
 |u t fs=>let⟨b,us,h1,h2,h3⟩:=h;exact⟨b,us,h1,e.same _ _ h2,h3.same e.same⟩
 |t d k=>let⟨a,b,u,h1,h2,h3,h4⟩:=h;calc⟨a,b,u,h1,e.same _ _ h2,h3.same e.same,e.pre k b h4⟩
theorem dI.same{x:DV}{v:V}(h:dI F ad x v)(s:aP F F'):dI F' ad x v:=by
 cases x with
 |p d=>exact Is.same s h
 |o k=>exact h
 |w a=>exact h
 |u t fs=>let⟨b,us,h1,h2,h3⟩:=h;exact⟨b,us,h1,s _ _ h2,h3.same s⟩
 |t d k=>let⟨a,b,u,h1,h2,h3,h4⟩:=h;calc⟨a,b,u,h1,s _ _ h2,h3.same s,h4⟩
theorem dI.pre{cG:-O}{x:DV}{v:V}(h:dI F ad x v)(s:∀k a,ad[k]?=U a->x=.o k\/(∃d,x=.t d k)->cG[k]?=U a):dI F cG x v:=by
 cases x with
 |p d=>exact h
 |o k=>let⟨a,h1,h2⟩:=h;exact⟨a,s k a h1 (.inl Y),h2⟩
 |w a=>exact h
 |u t fs=>exact h
 |t d k=>let⟨a,b,u,h1,h2,h3,h4⟩:=h;calc⟨a,b,u,h1,h2,h3,s k b h4 (.inr ⟨d,Y⟩)⟩
noncomputable def Nw(F H H':Hp):Hp:=λa=>match H a with
 |none=>H' a
 |some _=>F a
theorem Nw.same(s:aP F H):aP F (Nw F H H'):=λa o e=>by
 unfold Nw;rw[s a o e];calc e
theorem Nw.sub(s:aP F H)(k:aP H H'):aP (Nw F H H') H':=λa o e=>by
 unfold Nw at e
 cases q:H a with
 |none=>rw[q] at e;exact e
 |some u=>rw[q] at e;calc k a o (s a o e)
theorem Nw.upd{p:O}{o:HO}(s:aP F H)(hp:H p=Z):Nw F H (upd H p o)=upd F p o:=by
 funext a;unfold Nw L2.upd
 by_cases c:a=p
 .subst c;rw[hp,q0e Y];simp
 .rw[q0c c,q0c c]
  cases q:H a with
  |none =>
   cases q2:F a with
   |none=>rfl
   |some u=>rw[s a u q2] at q;cases q
  |some u=>rfl
theorem Nw.refl(s:aP F H):Nw F H H=F:=by
 funext a;unfold Nw
 cases q:H a with
 |none =>
  cases q2:F a with
  |none=>rfl
  |some u=>rw[s a u q2] at q;cases q
 |some u=>rfl
theorem SR.al(S:SR F ad δ σ H)(k:aP H H'):SR (Nw F H H') ad δ σ H':=by
 let sm:=Nw.same (H':=H') S.sub;refine⟨Nw.sub S.sub k,λa l=>?_,S.cF,S.inj,λi ov e=>?_,λi x e=>?_,S.len,aR.same S.tab k,S.nt.up sm λa ha=>by let⟨ps,q⟩:=aR.tb S.tab ha;unfold Nw;rw[q];calc S.nt a ha⟩
 .let⟨i,ov,e1,e2⟩:=l
  let⟨a',o,e3,e4,_⟩:=S.mu i ov e2;rw[e1] at e3;cases e3;unfold Nw;rw[e4];exact S.off a ⟨i,ov,e1,e2⟩
 .let⟨a,o,e1,e2,h⟩:=S.mu i ov e
  exact⟨a,o,e1,k a o e2,h.same sm⟩
 .let⟨v,e1,h⟩:=S.sl i x e
  calc⟨v,e1,h.same sm⟩
theorem Ext.al(S:SR F ad δ σ H)(k:aP H H'):Ext F ad δ.mu H (Nw F H H') ad δ.mu H' where
 same:=Nw.same S.sub
 new:=λa o e=>by
  unfold Nw at e
  cases q:H a with
  |none=>exact .inr (.inl Y)
  |some u=>rw[q] at e;exact .inl e
 keep:=λa o e _ _=>k a o e
 pre:=λ_ _ e=>e
 cA:=λ_ l=>.inl l
 iW:=λa o e=>⟨o,k a o e⟩
theorem SR.own{p:O}{o:HO}{ov:OV}(S:SR F ad δ σ H)(hp:H p=Z)(h:eU F p ov o):SR F (ad++[p]) ⟨δ.sl,δ.mu++[U ov]⟩ σ (upd H p o):=by
 let old:∀{k:Nat}{w:OV},(δ.mu++[U ov])[k]?=U (U w)->(k<↑δ.mu/\δ.mu[k]?=U (U w))\/(k=↑δ.mu/\w=ov):=λ{k w} e=>by
  by_cases c:k<↑δ.mu
  .rw[Zd c] at e;exact .inl ⟨c,e⟩
  .let hl:=(Hy.mp e).1
   rw[Pz,q0Q] at hl;let ek:k=↑δ.mu:=by symm
   subst ek;rw[Zf (Hz _),q0W] at e;exact .inr ⟨Y,by simpa using e.symm⟩
 let pre:∀{k:Nat},k<↑δ.mu->(ad++[p])[k]?=ad[k]?:=λ{k} c=>Zd (by rw[S.cF];calc c);let last:(ad++[p])[↑δ.mu]?=U p:=by rw[<-S.cF,Zf (Hz _),q0W];rfl
 let np:∀{k:Nat}{a:O}{w:OV},ad[k]?=U a->δ.mu[k]?=U (U w)->a≠p:=λ{k a w} e1 e2=>by
  let⟨a',u,e3,e4,_⟩:=S.mu k w e2;rw[e1] at e3;cases e3;exact dQ e4 hp
 refine⟨λa u e=>?_,λa l=>?_,by rw[Pz,Pz,S.cF];rfl,λk l a w w' e1 e2 e3 e4=>?_,λk w e=>?_,λi x e=>?_,S.len,aR.same S.tab (cI hp),S.nt⟩
 .let:=S.sub a u e
  rw[bF (dQ this hp)];exact this
 .let⟨k,w,e1,e2⟩:=l
  rcases old e2 with⟨c,e3⟩|⟨c,e3⟩
  .rw[pre c] at e1;exact S.off a ⟨k,w,e1,e3⟩
  .subst c;rw[last] at e1;cases e1
   cases q:F p with
   |none=>rfl
   |some u=>rw[S.sub p u q] at hp;cases hp
 .rcases old e3 with⟨c,q⟩|⟨c,q⟩
  .rw[pre c] at e1
   rcases old e4 with⟨c',q'⟩|⟨c',q'⟩
   .rw[pre c'] at e2;exact S.inj k l a w w' e1 e2 q q'
   .subst c';rw[last] at e2;cases e2;exact absurd Y (np e1 q)
  .subst c;rw[last] at e1;cases e1
   rcases old e4 with⟨c',q'⟩|⟨c',q'⟩
   .rw[pre c'] at e2;exact absurd Y (np e2 q')
   .exact c'.symm
 .rcases old e with⟨c,q⟩|⟨c,q⟩
  .let⟨a,u,e1,e2,h'⟩:=S.mu k w q
   exact⟨a,u,by rw[pre c];calc e1,by rw[bF (np e1 q)];calc e2,h'⟩
  .subst c;subst q;exact⟨p,o,last,cz,h⟩
 .let⟨v,e1,h'⟩:=S.sl i x e
  calc⟨v,e1,h'.pre λk a e2 _=>by rw[Zd (Hy.mp e2).1];calc e2⟩
theorem Ext.own{p:O}{o:HO}{ov:OV}(S:SR F ad δ σ H)(hp:H p=Z):Ext F ad δ.mu H F (ad++[p]) (δ.mu++[U ov]) (upd H p o) where
 same:=λ_ _ e=>e
 new:=λ_ _ e=>.inl e
 keep:=λa u e _ _=>by rw[bF (dQ e hp)];exact e
 pre:=λk a e=>by rw[Zd (Hy.mp e).1];exact e
 cA:=λa l=>by
  let⟨k,w,e1,e2⟩:=l
  by_cases c:k<↑δ.mu
  .rw[Zd c] at e2
   rw[Zd (by rw[S.cF];calc c)] at e1;exact .inl ⟨k,w,e1,e2⟩
  .let hl:=(Hy.mp e2).1
   rw[Pz,q0Q] at hl;let ek:k=↑ad:=by rw[S.cF];symm
   subst ek;rw[Zf (Hz _),q0W] at e1;let:p=a:=by simpa using e1
   subst this;exact .inr hp
 iW:=λa u e=>⟨u,by rw[bF (dQ e hp)];calc e⟩
theorem SR.put{k:Nat}{a:O}{o:HO}{ov ow:OV}(S:SR F ad δ σ H)(hk:δ.mu[k]?=U (U ow))(ha:ad[k]?=U a)(h:eU F a ov o):SR F ad ⟨δ.sl,δ.mu.set k (U ov)⟩ σ (upd H a o):=by
 let kl:=(Hy.mp hk).1
 let old:∀{l:Nat}{w:OV},(δ.mu.set k (U ov))[l]?=U (U w)->(l≠k/\δ.mu[l]?=U (U w))\/(l=k/\w=ov):=λ{l w} e=>by
  by_cases c:k=l
  .subst c;rw[q01 kl] at e;exact .inr ⟨Y,by simpa using e.symm⟩
  .rw[q02 c] at e;exact .inl ⟨λz=>c z.symm,e⟩
 let lv:∀{l:Nat}{w:OV}{b:O},ad[l]?=U b->(δ.mu.set k (U ov))[l]?=U (U w)->Lv ad δ.mu b:=λ{l w b} e1 e2=>by
  rcases old e2 with⟨_,q⟩|⟨c,_⟩
  .exact⟨l,w,e1,q⟩
  .subst c;exact⟨l,ow,e1,hk⟩
 let tk:aR.ok (upd H a o):=by
  let⟨a',u,e1,e2,h'⟩:=S.mu k ow hk;rw[ha] at e1;cases e1;exact aR.put S.tab e2 h'.kd
 refine⟨λb u e=>?_,λb l=>?_,by rw[q1v];calc S.cF,λl l' b w w' e1 e2 e3 e4=>?_,λl w e=>?_,λi x e=>?_,S.len,tk,S.nt⟩
 .let nb:b≠a:=λz=>by
   subst z;rw[S.off b ⟨k,ow,ha,hk⟩] at e;cases e
  rw[bF nb];exact S.sub b u e
 .let⟨l,w,e1,e2⟩:=l
  exact S.off b (lv e1 e2)
 .let h1:∃w,δ.mu[l]?=U (U w):=by
   rcases old e3 with⟨_,q⟩|⟨c,_⟩
   .exact⟨_,q⟩
   .subst c;exact⟨_,hk⟩
  let h2:∃w,δ.mu[l']?=U (U w):=by
   rcases old e4 with⟨_,q⟩|⟨c,_⟩
   .exact⟨_,q⟩
   .subst c;exact⟨_,hk⟩
  let⟨w1,q1⟩:=h1;let⟨w2,q2⟩:=h2;exact S.inj l l' b _ _ e1 e2 q1 q2
 .rcases old e with⟨c,q⟩|⟨c,q⟩
  .let⟨b,u,e1,e2,h'⟩:=S.mu l w q
   let nb:b≠a:=λz=>by subst z;exact c (S.inj l k b _ _ e1 ha q hk)
   exact⟨b,u,e1,by rw[bF nb];calc e2,h'⟩
  .subst c;subst q;exact⟨a,o,ha,cz,h⟩
 .calc S.sl i x e
theorem Ext.put{k:Nat}{a:O}{o:HO}{ov ow:OV}(S:SR F ad δ σ H)(hk:δ.mu[k]?=U (U ow))(ha:ad[k]?=U a):Ext F ad δ.mu H F ad (δ.mu.set k (U ov)) (upd H a o) where
 same:=λ_ _ e=>e
 new:=λ_ _ e=>.inl e
 keep:=λb u e n _=>by rw[bF λz=>n (by subst z;calc⟨k,ow,ha,hk⟩)];exact e
 pre:=λ_ _ e=>e
 cA:=λb l=>by
  let⟨l,w,e1,e2⟩:=l
  by_cases c:k=l
  .subst c;exact .inl ⟨k,ow,e1,hk⟩
  .rw[q02 c] at e2;exact .inl ⟨l,w,e1,e2⟩
 iW:=λb u e=>by
  by_cases c:b=a
  .subst c;exact⟨o,cz⟩
  .calc⟨u,by rw[bF c];calc e⟩
theorem SR.fix{k:Nat}{a:O}{o:HO}{ow:OV}(S:SR F ad δ σ H)(hk:δ.mu[k]?=U (U ow))(ha:ad[k]?=U a)(ho:H a=U o):SR (upd F a o) ad ⟨δ.sl,δ.mu.set k Z⟩ σ H:=by
 let kl:=(Hy.mp hk).1;let fa:=S.off a ⟨k,ow,ha,hk⟩;let sm:aP F (upd F a o):=λb u e=>by rw[bF (dQ e fa)];exact e
 let old:∀{l:Nat}{w:OV},(δ.mu.set k Z)[l]?=U (U w)->l≠k/\δ.mu[l]?=U (U w):=λ{l w} e=>by
  by_cases c:k=l
  .subst c;rw[q01 kl] at e;cases e
  .rw[q02 c] at e;exact⟨λz=>c z.symm,e⟩
 refine⟨λb u e=>?_,λb l=>?_,by rw[q1v];calc S.cF,λl l' b w w' e1 e2 e3 e4=>S.inj l l' b w w' e1 e2 (old e3).2 (old e4).2,λl w e=>?_,λi x e=>?_,S.len,S.tab,S.nt.up sm λb hb=>?_⟩
 .by_cases c:b=a
  .subst c;rw[cz] at e;cases e;exact ho
  .rw[bF c] at e;exact S.sub b u e
 .let⟨l,w,e1,e2⟩:=l
  let⟨c,q⟩:=old e2;let nb:b≠a:=λz=>by subst z;exact c (S.inj l k b _ _ e1 ha q hk)
  rw[bF nb];exact S.off b ⟨l,w,e1,q⟩
 .let⟨b,u,e1,e2,h'⟩:=S.mu l w (old e).2
  exact⟨b,u,e1,e2,h'.same sm⟩
 .let⟨v,e1,h'⟩:=S.sl i x e
  exact⟨v,e1,h'.same sm⟩
 .let⟨ps,q⟩:=aR.tb S.tab hb
  let nb:b≠a:=λz=>by
   subst z;let⟨a',u,e1,e2,h'⟩:=S.mu k ow hk;rw[ha] at e1;cases e1;rw[q] at e2;cases e2;exact h'.kind ps Y
  rw[bF nb];calc S.nt b hb
theorem Ext.fix{k:Nat}{a:O}{o:HO}{ow:OV}(S:SR F ad δ σ H)(hk:δ.mu[k]?=U (U ow))(ha:ad[k]?=U a):Ext F ad δ.mu H (upd F a o) ad (δ.mu.set k Z) H where
 same:=λb u e=>by rw[bF (dQ e (S.off a ⟨k,ow,ha,hk⟩))];exact e
 new:=λb u e=>by
  by_cases c:b=a
  .subst c;exact .inr (.inr ⟨k,ow,ha,hk⟩)
  .rw[bF c] at e;exact .inl e
 keep:=λb u e _ _=>e
 pre:=λ_ _ e=>e
 cA:=λb l=>by
  let⟨l,w,e1,e2⟩:=l
  by_cases c:k=l
  .subst c;rw[q01 (Hy.mp hk).1] at e2;cases e2
  .rw[q02 c] at e2;exact .inl ⟨l,w,e1,e2⟩
 iW:=λb u e=>⟨u,e⟩
theorem SR.set{i:Nat}{x:DV}{v:V}(S:SR F ad δ σ H)(h:dI F ad x v):SR F ad ⟨δ.sl.set i (U x),δ.mu⟩ (σ.set i (U v)) H:=by
 refine⟨S.sub,S.off,S.cF,S.inj,S.mu,λj y e=>?_,by rw[q1v,q1v];calc S.len,S.tab,S.nt⟩
 by_cases c:i=j
 .subst c
  let hl:=(Hy.mp e).1;rw[q1v] at hl;rw[q01 hl] at e;cases e
  exact⟨v,q01 (by rw[S.len];calc hl),h⟩
 .rw[q02 c] at e
  let⟨w,e1,h1⟩:=S.sl j y e;calc⟨w,by rw[q02 c];calc e1,h1⟩
end
abbrev WE:=aM->(DV->aM->Prop)->Prop
abbrev WA:=aM->(-DV->aM->Prop)->Prop
abbrev WT:=aM->(Bool->aM->Prop)->Prop
def cS(F:Hp)(ad:-O):-DV->-V->Prop
 |[],vs=>vs=[]
 |x::xs,vs=>∃v r,vs=v::r/\dI F ad x v/\cS F ad xs r
theorem cS.ext{F F' H H':Hp}{ad aN:-O}{mu c5:-(Option OV)}(e:Ext F ad mu H F' aN c5 H'):∀{xs:-DV}{vs:-V},cS F ad xs vs->cS F' aN xs vs
 |[],_,h=>h
 |_::_,_,⟨v,r,q,h1,h2⟩=>⟨v,r,q,h1.ext e,cS.ext e h2⟩
inductive tD (f:WE) (σ:St) (H:Hp) (Q:VK):Prop
 |mk (F:Hp) (ad:-O) (δ:aM) (K:DV->aM->Prop) (S:SR F ad δ σ H) (q:f δ K) (k:∀x δ',K x δ'->∀v F' aN H',Ext F ad δ.mu H F' aN δ'.mu H'->SR F' aN δ' σ H'->dI F' aN x v->Q v H')
inductive cE (f:WA) (σ:St) (H:Hp) (Q:-V->Hp->Prop):Prop
 |mk (F:Hp) (ad:-O) (δ:aM) (K:-DV->aM->Prop) (S:SR F ad δ σ H) (q:f δ K) (k:∀xs δ',K xs δ'->∀vs F' aN H',Ext F ad δ.mu H F' aN δ'.mu H'->SR F' aN δ' σ H'->cS F' aN xs vs->Q vs H')
inductive c_ (f:WT) (σ:St) (H:Hp) (Q:Bool->Hp->Prop):Prop
 |mk (F:Hp) (ad:-O) (δ:aM) (K:Bool->aM->Prop) (S:SR F ad δ σ H) (q:f δ K) (k:∀b δ',K b δ'->∀F' aN H',Ext F ad δ.mu H F' aN δ'.mu H'->SR F' aN δ' σ H'->Q b H')
def ka(F H:Hp):D->V->Prop
 |.lst ds,v=>∃a vs,v=.ref a/\H a=U (.lst vs)/\af F ds vs
 |d,v=>Is F d v
def jN(x:DV)(δ:aM)(K:D->Prop):Prop:=match x with
 |.p d=>K d
 |.o k=>match δ.mu[k]? with
  |some (some (.lst ds))=>K (.lst ds)
  |some (some (.al _ ds))=>K (.lst ds)
  |_=>False
 |.w _=>False
 |.u _ _=>False
 |.t _ _=>False
theorem ka.of{F H:Hp}(s:aP F H):∀{d:D}{v:V},Is F d v->ka F H d v
 |.lst _,_,h=>by
  erw[Is] at h;let⟨a,vs,e,h1,h2⟩:=h;exact⟨a,vs,e,s _ _ h1,h2⟩
 |.tup _,_,h=>h
 |.non,_,h=>h
 |.bl _,_,h=>h
 |.int _,_,h=>h
 |.str _,_,h=>h
theorem ka.is{F H:Hp}(s:aP F H):∀{d:D}{v:V},ka F H d v->Is H d v
 |.lst _,_,h=>by
  let⟨a,vs,e,h1,h2⟩:=h;erw[Is];exact⟨a,vs,e,h1,h2.same s⟩
 |.tup _,_,h=>Is.same s h
 |.non,_,h=>Is.same s h
 |.bl _,_,h=>Is.same s h
 |.int _,_,h=>Is.same s h
 |.str _,_,h=>Is.same s h
theorem lB{F H:Hp}{ad:-O}{δ:aM}{σ:St}{x:DV}{v:V}{K:D->Prop}(S:SR F ad δ σ H)(hv:dI F ad x v)(h:jN x δ K):∃d,K d/\ka F H d v:=by
 cases x with
 |p d=>exact⟨d,h,ka.of S.sub hv⟩
 |o k =>
  unfold jN at h;dsimp only at h;split at h
  .rename_i ds e
   let⟨a,e1,rfl⟩:=hv;let⟨a',o,e2,e3,vs,rfl,h4⟩:=S.mu k _ e;rw[e1] at e2;cases e2;exact⟨_,h,a,vs,Y,e3,h4⟩
  .rename_i ds e
   let⟨a,e1,rfl⟩:=hv;let⟨a',o,e2,e3,_,vs,rfl,h4⟩:=S.mu k _ e;rw[e1] at e2;cases e2;exact⟨_,h,a,vs,Y,e3,h4⟩
  .exact h.elim
 |w _=>exact h.elim
 |u _ _=>exact h.elim
 |t _ _=>calc h.elim
def oy:-DV->aM->(-D->Prop)->Prop
 |[],_,K=>K []
 |x::xs,δ,K=>jN x δ λd=>oy xs δ λds=>K (d::ds)
def l8(F H:Hp):-D->-V->Prop
 |[],vs=>vs=[]
 |d::ds,vs=>∃v r,vs=v::r/\ka F H d v/\l8 F H ds r
theorem xX{F H:Hp}{ad:-O}{δ:aM}{σ:St}(S:SR F ad δ σ H):∀{xs:-DV}{vs:-V}{K:-D->Prop},cS F ad xs vs->oy xs δ K->∃ds,K ds/\l8 F H ds vs
 |[],_,_,hv,h=>⟨[],h,hv⟩
 |x::xs,_,_,⟨v,r,rfl,h1,h2⟩,h=>by
  let⟨d,h',rd⟩:=lB S h1 h;let⟨ds,tL,qm⟩:=xX S h2 h';calc⟨d::ds,tL,v,r,Y,rd,qm⟩
abbrev Made(F H:Hp)(K:D->Prop)(Q:VK):Prop:=∀z v H',K z->aP H H'->Is (Nw F H H') z v->Q v H'
inductive By (g:D->D->(D->Prop)->Prop) (x y:V) (H:Hp) (Q:VK):Prop
 |mk (F:Hp) (d e:D) (K:D->Prop) (s:aP F H) (rd:ka F H d x) (re:ka F H e y) (q:g d e K) (md:Made F H K Q)
inductive Ij (g:-D->(D->Prop)->Prop) (xs:-V) (H:Hp) (Q:VK):Prop
 |mk (F:Hp) (ds:-D) (K:D->Prop) (s:aP F H) (rd:l8 F H ds xs) (q:g ds K) (md:Made F H K Q)
def fB(X:Cx)(f:L->L->Sem L)(g:D->D->(D->Prop)->Prop):Prop :=
 eI X f λx y H Q=>By g x y H Q
def Ik(X:Cx)(g:D->D->(D->Prop)->Prop):Prop :=
 u4 X λx y H Q=>By g x y H Q
def dJ(X:Cx)(f:L)(g:-D->(D->Prop)->Prop):Prop :=
 g9 X f λxs H Q=>Ij g xs H Q
def d2(f g:WE)(op:D->D->(D->Prop)->Prop):WE:=fun δ K=>f δ λx δ1=>g δ1 λy δ2=>jN x δ2 λd=>jN y δ2 λe=>op d e λz=>K (.p z) δ2
def d1(f:WE)(op:D->(D->Prop)->Prop):WE:=fun δ K=>f δ λx δ1=>jN x δ1 λd=>op d λz=>K (.p z) δ1
def dN(f:WA)(op:-D->(D->Prop)->Prop):WE:=fun δ K=>f δ λxs δ1=>oy xs δ1 λds=>op ds λz=>K (.p z) δ1
def dC(d:D):WE:=fun δ K=>K (.p d) δ
def aa(i:Nat):WE:=fun δ K=>match δ.sl[i]? with
 |some (some x)=>K x δ
 |_=>False
def ag:WA:=fun δ K=>K [] δ
def ak(f:WE)(g:WA):WA:=fun δ K=>f δ λx δ1=>g δ1 λxs δ2=>K (x::xs) δ2
section
variable{X:Cx}{a b c:l}{f g h:WE}{fa:WA}{pos:y}
theorem vy{e:l}{d:D}{v:V}(h:JE X e (tC v))(hi:∀F,Is F d v):JE X e (tD (dC d)):=h.weak fun σ H Q ⟨F,ad,δ,K,S,q,k⟩↦k _ _ q _ _ _ _ .refl S (hi F)
theorem cb{i j pos}:JE X (.Constant (.int i) j pos) (tD (dC (.int i))):=vy p_ λ_=>Y
theorem tM{i j pos}:JE X (.Constant (.bool i) j pos) (tD (dC (.bl i))):=vy NI λ_=>Y
theorem jw{j pos}:JE X (.Constant .none j pos) (tD (dC .non)):=vy NJ λ_=>Y
theorem vz{x j pos}:JE X (.Constant (.str x) j pos) (tD (dC (.str x))):=vy xk λ_=>Y
theorem QP{x:J}{i:Int}{u:L}{pos:y}(hg:Gl X x)(hm:X.mg x=U u)(r:RelV (.int i) u)(hd:b9 x:=by decide):JE X (.Name x pos) (tD (dC (.int i))):=vy (GJ hg hm r hd) λ_=>Y
theorem dv(i:Nat){x:J}{pos:y}(hN:X.N[i]?=U x:=by rfl)(hv:uL X.env.scope x:=by first|exact q5c Y|exact q5d (q5c Y)|calc q5d (q5d Y))
  (hd:b9 x:=by decide) (g6:(x==("__classdict__" : J))=ι:=by decide):JE X (.Name x pos) (tD (aa i)) :=
 (GI hN hv hd g6).weak fun σ H Q ⟨F,ad,δ,K,S,q,k⟩↦by
  unfold aa at q;split at q
  .rename_i x e
   let⟨v,e1,h1⟩:=S.sl i x e;exact⟨v,e1,k _ _ q _ _ _ _ .refl S h1⟩
  .calc q.elim
theorem xY{r:R2}{ta tb:TE}{op:D->D->(D->Prop)->Prop}(hr:∀x y H Q,(By op x y H Q)->r x y H Q):∀σ H Q,tD (d2 f g op) σ H Q->uV r (tD f) (tD g) σ H Q:=by
 ext σ H Q ⟨F,ad,δ,K,S,q,k⟩;calc⟨F,ad,δ,_,S,q,λx δ1 h1 v1 F1 bt H1 E1 S1 V1=>⟨F1,bt,δ1,_,S1,h1,λy δ2 h2 v2 F2 cG H2 E2 S2 V2=>hr _ _ _ _ ?_⟩⟩;let⟨d,h3,rd⟩:=lB S2 (V1.ext E2) h2;let⟨e,h4,re⟩:=lB S2 V2 h3;calc⟨F2,d,e,_,S2.sub,rd,re,h4,λz v H' hz sm is=>k _ _ hz _ _ _ _ ((E1.trans E2).trans (Ext.al S2 sm)) (S2.al sm) is⟩
theorem gQ{op:Operator}{o:D->D->(D->Prop)->Prop}(ho:fB X (binaryOp op) o)(ha:JE X a (tD f))(hb:JE X b (tD g)):JE X (.BinOp a op b pos) (tD (d2 f g o)) :=
 (uW ho ha hb).weak (xY (ta:=tD f) (tb:=tD g) λ_ _ _ _ h=>h)
theorem nk{op:CmpOp}{o:D->D->(D->Prop)->Prop}(ho:fB X (compareOp op) o)(ha:JE X a (tD f))(hb:JE X b (tD g))(hm:behindInMarks op b=ι):JE X (.Compare a [op] [b] pos) (tD (d2 f g o)) :=
 (Oq ho ha hb hm).weak (xY (ta:=tD f) (tb:=tD g) λ_ _ _ _ h=>h)
theorem eJ{o:D->D->(D->Prop)->Prop}(ho:Ik X o)(ha:JE X a (tD f))(hb:JE X b (tD g))(hs:Hh b):JE X (.Subscript a b pos) (tD (d2 f g o)) :=
 (Hj ho ha hb hs).weak (xY (ta:=tD f) (tb:=tD g) λ_ _ _ _ h=>h)
theorem bI:JA X [] (cE ag):=cZ.weak fun σ H Q ⟨F,ad,δ,K,S,q,k⟩↦k _ _ q _ _ _ _ .refl S Y
theorem rQ:∀σ H Q,cE (ak f fa) σ H Q->qb (tD f) (cE fa) σ H Q:=by
 ext σ H Q ⟨F,ad,δ,K,S,q,k⟩;calc⟨F,ad,δ,_,S,q,λx δ1 h1 v1 F1 bt H1 E1 S1 V1=>⟨F1,bt,δ1,_,S1,h1,λxs δ2 h2 vs F2 cG H2 E2 S2 V2=>k _ _ h2 _ _ _ _ (E1.trans E2) S2 ⟨v1,vs,Y,V1.ext E2,V2⟩⟩⟩
theorem jO{e:l}{es:-l}(ha:JE X e (tD f))(hr:JA X es (cE fa))(hs:cR X e es:=by rfl):JA X (e::es) (cE (ak f fa)):=(kG ha hr hs).weak rQ
theorem bW{es:-l}{c j p}(ha:JE X (.Constant c j p) (tD f))(hr:JA X es (cE fa)):JA X (.Constant c j p::es) (cE (ak f fa)):=(Bk ha hr).weak rQ
theorem aV{es:-l}{x p}(ha:JE X (.Name x p) (tD f))(hr:JA X es (cE fa)):JA X (.Name x p::es) (cE (ak f fa)):=(rM ha hr).weak rQ
theorem hU{es:-l}{x y k p}(ha:JE X (.Call x y k p) (tD f))(hr:JA X es (cE fa)):JA X (.Call x y k p::es) (cE (ak f fa)):=(ot ha hr).weak rQ
theorem Bz{es:-l}{x p}(ha:JE X (.List x p) (tD f))(hr:JA X es (cE fa)):JA X (.List x p::es) (cE (ak f fa)):=(Bl ha hr).weak rQ
theorem rR{es:-l}{x k p}(ha:JE X (.Tuple x k p) (tD f))(hr:JA X es (cE fa)):JA X (.Tuple x k p::es) (cE (ak f fa)):=(Bm ha hr).weak rQ
theorem cU{es:-l}{x k p}(ha:JE X (.Subscript x k p) (tD f))(hr:JA X es (cE fa)):JA X (.Subscript x k p::es) (cE (ak f fa)):=(Bn ha hr).weak rQ
theorem Il{r:-V->Hp->VK->Prop}{op:-D->(D->Prop)->Prop}(hr:∀xs H Q,(Ij op xs H Q)->r xs H Q):∀σ H Q,tD (dN fa op) σ H Q->AL r (cE fa) σ H Q:=by
 ext σ H Q ⟨F,ad,δ,K,S,q,k⟩;calc⟨F,ad,δ,_,S,q,λxs δ1 h1 vs F1 bt H1 E1 S1 V1=>hr _ _ _ ?_⟩;let⟨ds,h2,qm⟩:=xX S1 V1 h1;calc⟨F1,ds,_,S1.sub,qm,h2,λz v H' hz sm is=>k _ _ hz _ _ _ _ (E1.trans (Ext.al S1 sm)) (S1.al sm) is⟩
theorem hV{x:J}{p:y}{e:l}{es:-l}{id:String}{o:-D->(D->Prop)->Prop}(hc:dJ X (.builtin id) o)(hg:Gl X x)(hm:X.mg x=Z)(hv:bootBuiltins x=U (.builtin id))(ha:JA X (e::es) (cE fa))(hn:x≠"__name__" := by decide)(dR:b9 x:=by decide)
  (he:cR X e es:=by rfl) (dP:dh X pos es:=by rfl):JE X (.Call (.Name x p) (e::es) [] pos) (tD (dN fa o)) :=
 (xC hc hg hm hv ha hn dR he dP).weak (Il λ_ _ _ h=>h)
theorem BA{x:J}{p:y}{e:l}{es:-l}{T:String}{o:-D->(D->Prop)->Prop}(hc:dJ X (.type T) o)(hg:Gl X x)(hm:X.mg x=Z)(hv:bootBuiltins x=U (.type T))(ha:JA X (e::es) (cE fa))(hn:x≠"__name__" := by decide)(dR:b9 x:=by decide)
  (he:cR X e es:=by rfl) (dP:dh X pos es:=by rfl):JE X (.Call (.Name x p) (e::es) [] pos) (tD (dN fa o)) :=
 (tj hc hg hm hv ha hn dR he dP).weak (Il λ_ _ _ h=>h)
end
noncomputable def Im(k:Nat)(ds:-D):Option DV->Option DV
 |some (.o j)=>if j=k then U (.p (.lst ds)) else U (.o j)
 |some (.t d j)=>if j=k then Z else U (.t d j)
 |s=>s
noncomputable def aM.fix(δ:aM)(k:Nat)(ds:-D):aM:=⟨δ.sl.map (Im k ds),δ.mu.set k Z⟩
def lC(x:DV)(δ:aM)(K:D->aM->Prop):Prop:=match x with
 |.p d=>K d δ
 |.o k=>match δ.mu[k]? with
  |some (some (.lst ds))=>K (.lst ds) (δ.fix k ds)
  |_=>False
 |.w _=>False
 |.u _ _=>False
 |.t _ _=>False
def kN:-DV->aM->(-D->aM->Prop)->Prop
 |[],δ,K=>K [] δ
 |x::xs,δ,K=>lC x δ λd δ1=>kN xs δ1 λds δ2=>K (d::ds) δ2
section
variable{F F' H H':Hp}{ad aN:-O}{δ δ':aM}{σ σ':St}
theorem SR.fixed{k:Nat}{a:O}{vs:-V}{ds:-D}(S:SR F ad δ σ H)(hk:δ.mu[k]?=U (U (.lst ds)))(ha:ad[k]?=U a)(ho:H a=U (.lst vs))(hi:af F ds vs):SR (upd F a (.lst vs)) ad (δ.fix k ds) σ H:=by
 let S1:=S.fix hk ha ho;let sm:aP F (upd F a (.lst vs)):=(Ext.fix (o:=.lst vs) S hk ha).same;calc⟨S1.sub,S1.off,S1.cF,S1.inj,S1.mu,λi x e=>?_,by rw[S.len];unfold aM.fix;rw[Ba],S1.tab,S1.nt⟩;unfold aM.fix at e;rw[PB] at e;let⟨s,e1,e2⟩:=q0a.mp e
 match s,e2 with
 |none,e2=>cases e2
 |some (.p d),e2 =>
  cases(show U (DV.p d)=U x from e2)
  exact S1.sl i _ e1
 |some (.w d),e2 =>
  cases(show U (DV.w d)=U x from e2)
  exact S1.sl i _ e1
 |some (.u t fs),e2 =>
  cases(show U (DV.u t fs)=U x from e2)
  exact S1.sl i _ e1
 |some (.t d j),e2 =>
  let e3:(if j=k then Z else U (DV.t d j))=U x:=e2
  by_cases c:j=k
  .rw[q0e c] at e3;cases e3
  .rw[q0c c] at e3;cases e3;exact S1.sl i _ e1
 |some (.o j),e2 =>
  let e3:(if j=k then U (DV.p (.lst ds)) else U (DV.o j))=U x:=e2;clear e2;let⟨v,h1,a',h2,h3⟩:=S.sl i _ e1
  by_cases c:j=k
  .rw[q0e c] at e3
   subst c;cases e3
   rw[ha] at h2;cases h2;calc⟨v,h1,?_⟩;show Is _ (.lst ds) v;erw[Is];exact⟨a,vs,h3,cz,hi.same sm⟩
  .rw[q0c c] at e3
   cases e3
   calc⟨v,h1,a',h2,h3⟩
theorem rS{x:DV}{v:V}{K:D->aM->Prop}(S:SR F ad δ σ H)(hv:dI F ad x v)(h:lC x δ K):∃d δ' F',K d δ'/\Ext F ad δ.mu H F' ad δ'.mu H/\SR F' ad δ' σ H/\Is F' d v:=by
 cases x with
 |p d=>exact⟨d,δ,F,h,.refl,S,hv⟩
 |o k =>
  unfold lC at h;dsimp only at h;split at h
  .rename_i ds e
   let⟨a,e1,rfl⟩:=hv;let⟨a',o,e2,e3,vs,rfl,h4⟩:=S.mu k _ e;rw[e1] at e2;cases e2;calc⟨_,_,_,h,Ext.fix S e e1,S.fixed e e1 e3 h4,?_⟩;erw[Is];exact⟨a,vs,Y,cz,h4.same (Ext.fix (o:=.lst vs) S e e1).same⟩
  .exact h.elim
 |w _=>exact h.elim
 |u _ _=>exact h.elim
 |t _ _=>calc h.elim
theorem xZ:∀{xs:-DV}{vs:-V}{δ:aM}{F:Hp}{K:-D->aM->Prop},SR F ad δ σ H->cS F ad xs vs->kN xs δ K->∃ds δ' F',K ds δ'/\Ext F ad δ.mu H F' ad δ'.mu H/\SR F' ad δ' σ H/\af F' ds vs
 |[],_,δ,F,_,S,hv,h=>⟨[],δ,F,h,.refl,S,by erw[af];calc hv⟩
 |x::xs,_,δ,F,_,S,⟨v,r,e,h1,h2⟩,h=>by
  subst e;let⟨d,δ1,F1,h',E1,S1,i1⟩:=rS S h1 h;let⟨ds,δ2,F2,tL,E2,S2,i2⟩:=xZ S1 (h2.ext E1) h';calc⟨d::ds,δ2,F2,tL,E1.trans E2,S2,.cons (i1.same E2.same) i2⟩
end
def bV(fa:WA):WE:=fun δ K=>fa δ λxs δ1=>kN xs δ1 λds δ2=>↑ds<=1000/\K (.p (.tup ds)) δ2
def dU(fa:WA):WE:=fun δ K=>fa δ λxs δ1=>kN xs δ1 λds δ2=>↑ds<=1000/\K (.p (.lst ds)) δ2
def oz(fa:WA):WE:=fun δ K=>fa δ λxs δ1=>kN xs δ1 λds δ2=>↑ds<=1000/\K (.o ↑δ2.mu) ⟨δ2.sl,δ2.mu++[U (.lst ds)]⟩
section
variable{X:Cx}{a b c:l}{es:-l}{f g h:WE}{fa:WA}{t u:WT}{pos:y}
theorem lD{n:Nat}(h:n<=1000):n<=sizeLine:=q1d (qg h)
theorem kg{x1}(ha:JA X es (cE fa)):JE X (.Tuple es x1 pos) (tD (bV fa)):=(GZ ha).weak fun σ H Q ⟨F,ad,δ,K,S,q,k⟩ =>
 ⟨F,ad,δ,_,S,q,λxs δ1 h1 vs F1 bt H1 E1 S1 V1=>by
  let⟨ds,δ2,F2,⟨hl,h2⟩,E2,S2,i2⟩:=xZ S1 V1 h1;calc⟨lD (by rw[↑i2];calc hl),λp hp=>?_⟩;let sm:aP H1 (upd H1 p (.tup vs)):=cI hp;calc k _ _ h2 _ _ _ _ ((E1.trans E2).trans (Ext.al S2 sm)) (S2.al sm) ?_;show Is _ (.tup ds) _;erw[Is];rw[Nw.upd S2.sub hp];refine⟨p,vs,Y,cz,i2.same λb o e=>?_⟩
  rw[bF (dQ (S2.sub b o e) hp)];calc e⟩
theorem nq(ha:JA X es (cE fa)):JE X (.List es pos) (tD (dU fa)):=(AJ ha).weak fun σ H Q ⟨F,ad,δ,K,S,q,k⟩ =>
 ⟨F,ad,δ,_,S,q,λxs δ1 h1 vs F1 bt H1 E1 S1 V1=>by
  let⟨ds,δ2,F2,⟨hl,h2⟩,E2,S2,i2⟩:=xZ S1 V1 h1;calc⟨lD (by rw[↑i2];calc hl),λp hp=>?_⟩;let sm:aP H1 (upd H1 p (.lst vs)):=cI hp;calc k _ _ h2 _ _ _ _ ((E1.trans E2).trans (Ext.al S2 sm)) (S2.al sm) ?_;show Is _ (.lst ds) _;erw[Is];rw[Nw.upd S2.sub hp];refine⟨p,vs,Y,cz,i2.same λb o e=>?_⟩
  rw[bF (dQ (S2.sub b o e) hp)];calc e⟩
theorem tN(ha:JA X es (cE fa)):JE X (.List es pos) (tD (oz fa)):=(AJ ha).weak fun σ H Q ⟨F,ad,δ,K,S,q,k⟩ =>
 ⟨F,ad,δ,_,S,q,λxs δ1 h1 vs F1 bt H1 E1 S1 V1=>by
  let⟨ds,δ2,F2,⟨hl,h2⟩,E2,S2,i2⟩:=xZ S1 V1 h1;calc⟨lD (by rw[↑i2];calc hl),λp hp=>?_⟩;let oi:∀{qo},eU F2 qo (.lst ds) (.lst vs):=λ{qo}=>⟨vs,Y,i2⟩;refine k _ _ h2 _ _ _ _ ((E1.trans E2).trans (Ext.own S2 hp)) (S2.own hp oi) ⟨p,?_,Y⟩
  rw[<-S2.cF,Zf (Hz _),q0W];rfl⟩
def tO(x:DV)(P:Bool->Prop):Prop:=match x with
 |.p (.bl b)=>P b
 |_=>False
def dT(f:WE):WT:=fun δ K=>f δ λx δ1=>tO x λb=>K b δ1
def fJ(t u:WT):WT:=fun δ K=>t δ λb δ1=>if b=θ then u δ1 K else K ι δ1
def nr(t u:WT):WT:=fun δ K=>t δ λb δ1=>if b=θ then K θ δ1 else u δ1 K
def gD(t:WT):WT:=fun δ K=>t δ λb δ1=>K (!b) δ1
def tP(t:WT)(f g:WE):WE:=fun δ K=>t δ λb δ1=>if b=θ then f δ1 K else g δ1 K
def lE(f g:WE):WE:=fun δ K=>f δ λx δ1=>tO x λb=>if b=θ then g δ1 K else K (.p (.bl ι)) δ1
def BB(f:WE):WE:=fun δ K=>f δ λx δ1=>tO x λb=>K (.p (.bl (!b))) δ1
theorem vA{F:Hp}{ad:-O}{x:DV}{v:V}{P:Bool->Prop}(hv:dI F ad x v)(h:tO x P):∃b,v=.bl b/\P b:=by
 unfold tO at h;split at h
 .rename_i b
  exact⟨b,hv,h⟩
 .calc h.elim
theorem nu(ha:JE X a (tD f))(he:∀whole,isTrue a X.env whole=(do let v <- whole;standAt a.pos;holding [v] (truthy v)):=by ext _;rfl):JT X a (c_ (dT f)) :=
 (NM ha he).weak fun σ H Q ⟨F,ad,δ,K,S,q,k⟩↦⟨F,ad,δ,_,S,q,λx δ1 h1 v F1 bt H1 E1 S1 V1=>by
  let⟨b,rfl,h2⟩:=vA V1 h1
  calc⟨b,Y,k _ _ h2 _ _ _ E1 S1⟩⟩
theorem eK{op:CmpOp}{o:D->D->(D->Prop)->Prop}(ho:fB X (compareOp op) o)(ha:JE X a (tD f))(hb:JE X b (tD g))(hm:behindInMarks op b=ι):JT X (.Compare a [op] [b] pos) (c_ (dT (d2 f g o))) :=
 (Ou ho ha hb hm).weak fun σ H Q ⟨F,ad,δ,K,S,q,k⟩↦xY (ta:=tD f) (tb:=tD g) (λ_ _ _ _ h=>h) σ H _ ⟨F,ad,δ,_,S,q,λx δ1 h1 v F1 bt H1 E1 S1 V1=>by
  let⟨b,rfl,h2⟩:=vA V1 h1
  calc⟨b,Y,k _ _ h2 _ _ _ E1 S1⟩⟩
theorem x4(ha:JT X a (c_ t)):JT X (.UnaryOp .Not a pos) (c_ (gD t)):=(NR ha).weak fun σ H Q ⟨F,ad,δ,K,S,q,k⟩↦⟨F,ad,δ,_,S,q,λb δ1 h1 F1 bt H1 E1 S1=>k _ _ h1 _ _ _ E1 S1⟩
theorem QQ:∀σ H Q,c_ (fJ t u) σ H Q->uP (c_ t) (c_ u) σ H Q:=fun σ H Q ⟨F,ad,δ,K,S,q,k⟩↦⟨F,ad,δ,_,S,q,λb δ1 h1 F1 bt H1 E1 S1=>by
 cases b with
 |true =>
  rw[q0e Y] at h1 ⊢;exact⟨F1,bt,δ1,_,S1,h1,λb δ2 h2 F2 cG H2 E2 S2=>k _ _ h2 _ _ _ (E1.trans E2) S2⟩
 |false =>
  rw[q0c q0z] at h1 ⊢
  calc k _ _ h1 _ _ _ E1 S1⟩
theorem QR:∀σ H Q,c_ (nr t u) σ H Q->GL (c_ t) (c_ u) σ H Q:=fun σ H Q ⟨F,ad,δ,K,S,q,k⟩↦⟨F,ad,δ,_,S,q,λb δ1 h1 F1 bt H1 E1 S1=>by
 cases b with
 |false =>
  rw[q0c q0z] at h1 ⊢;exact⟨F1,bt,δ1,_,S1,h1,λb δ2 h2 F2 cG H2 E2 S2=>k _ _ h2 _ _ _ (E1.trans E2) S2⟩
 |true =>
  rw[q0e Y] at h1 ⊢
  calc k _ _ h1 _ _ _ E1 S1⟩
theorem JW.weak{e:l}{t t':TT}(h:JW X e t)(k:∀σ H Q,t' σ H Q->t σ H Q):JW X e t':=⟨λwh pins s σ H Q I q=>h wh pins s σ H Q I (k σ H Q q)⟩
theorem vB(ha:JT X a (c_ t)):JW X (.BoolOp .And [a] pos) (c_ t):=NN ha
theorem rT(ha:JT X a (c_ t)):JW X (.BoolOp .Or [a] pos) (c_ t):=NO ha
theorem tQ{rest:-l}(ha:JT X a (c_ t))(hb:JW X (.BoolOp .And (b::rest) pos) (c_ u)):JW X (.BoolOp .And (a::b::rest) pos) (c_ (fJ t u)):=(NP ha hb).weak QQ
theorem qp{rest:-l}(ha:JT X a (c_ t))(hb:JW X (.BoolOp .Or (b::rest) pos) (c_ u)):JW X (.BoolOp .Or (a::b::rest) pos) (c_ (nr t u)):=(NQ ha hb).weak QR
theorem x5{op}(ha:JE X a (tD f)):JE X (.BoolOp op [a] pos) (tD f):=NV ha
theorem vC{rest:-l}(ha:JE X a (tD f))(hb:JE X (.BoolOp .And (b::rest) pos) (tD g)):JE X (.BoolOp .And (a::b::rest) pos) (tD (lE f g)) :=
 (NW ha hb).weak fun σ H Q ⟨F,ad,δ,K,S,q,k⟩=>⟨F,ad,δ,_,S,q,λx δ1 h1 v F1 bt H1 E1 S1 V1=>by
  let⟨b,rfl,h2⟩:=vA V1 h1;refine⟨b,Y,?_⟩
  cases b with
  |true =>
   rw[q0e Y] at h2 ⊢;exact⟨F1,bt,δ1,_,S1,h2,λx δ2 h3 v F2 cG H2 E2 S2 V2=>k _ _ h3 _ _ _ _ (E1.trans E2) S2 V2⟩
  |false =>
   rw[q0c q0z] at h2 ⊢
   calc k _ _ h2 _ _ _ _ E1 S1 Y⟩
theorem QS(ha:JE X a (tD f)):JE X (.UnaryOp .Not a pos) (tD (BB f)) :=
 (NX ha).weak fun σ H Q ⟨F,ad,δ,K,S,q,k⟩↦⟨F,ad,δ,_,S,q,λx δ1 h1 v F1 bt H1 E1 S1 V1=>by
  let⟨b,rfl,h2⟩:=vA V1 h1
  calc⟨b,Y,k _ _ h2 _ _ _ _ E1 S1 Y⟩⟩
theorem Io(hc:JT X c (c_ t))(ha:JE X a (tD f))(hb:JE X b (tD g)):JE X (.IfExp c a b pos) (tD (tP t f g)) :=
 (NZ hc ha hb).weak fun σ H Q ⟨F,ad,δ,K,S,q,k⟩↦⟨F,ad,δ,_,S,q,λb δ1 h1 F1 bt H1 E1 S1=>by
  cases b with
  |true =>
   rw[q0e Y] at h1 ⊢;exact⟨F1,bt,δ1,_,S1,h1,λx δ2 h3 v F2 cG H2 E2 S2 V2=>k _ _ h3 _ _ _ _ (E1.trans E2) S2 V2⟩
  |false =>
   rw[q0c q0z] at h1 ⊢
   calc⟨F1,bt,δ1,_,S1,h1,λx δ2 h3 v F2 cG H2 E2 S2 V2=>k _ _ h3 _ _ _ _ (E1.trans E2) S2 V2⟩⟩
end
structure KS where
 nx:aM->Prop
 rt:DV->aM->Prop
 bk:aM->Prop:=λ_=>False
 ct:aM->Prop:=λ_=>False
abbrev WS:=KS->aM->Prop
def Cn(F:Hp)(ad:-O)(mu:-(Option OV))(H:Hp)(P:aM->Prop)(R:St->Hp->Prop):Prop:=∀δ',P δ'->∀F' aN σ' H',Ext F ad mu H F' aN δ'.mu H'->SR F' aN δ' σ' H'->R σ' H'
class kO where
 ok:Nat->Int->Prop
 kp:-O->-(Option OV)->Hp->Prop
 st:∀{F ad mu H F' aN c5 H'},Ext F ad mu H F' aN c5 H'->kp ad mu H->kp aN c5 H'
instance (priority:=low) QT:kO:=⟨λ_ _=>False,λ_ _ _=>True,λ_ _=>trivial⟩
section
variable[kO]
structure x6(F:Hp)(ad:-O)(mu:-(Option OV))(H:Hp)(K:KS)(D:Ends):Prop where
 nx:Cn F ad mu H K.nx D.nx
 bk:Cn F ad mu H K.bk D.bk
 ct:Cn F ad mu H K.ct D.ct
 rt:∀x δ',K.rt x δ'->∀v F' aN σ' H',Ext F ad mu H F' aN δ'.mu H'->SR F' aN δ' σ' H'->dI F' aN x v->D.rt v H'
 kp:kO.kp ad mu H
theorem Cn.ext{F F' H H':Hp}{ad aN:-O}{mu c5:-(Option OV)}{P:aM->Prop}{R:St->Hp->Prop}(c:Cn F ad mu H P R)(e:Ext F ad mu H F' aN c5 H'):Cn F' aN c5 H' P R:=fun δ' h _ _ _ _ E S=>c δ' h _ _ _ _ (e.trans E) S
theorem x6.ext{F F' H H':Hp}{ad aN:-O}{mu c5:-(Option OV)}{K:KS}{D:Ends}(c:x6 F ad mu H K D)(e:Ext F ad mu H F' aN c5 H'):x6 F' aN c5 H' K D :=
 ⟨c.nx.ext e,c.bk.ext e,c.ct.ext e,λx δ' h _ _ _ _ _ E S V=>c.rt x δ' h _ _ _ _ _ (e.trans E) S V,kO.st e c.kp⟩
inductive dW (G:WS) (D:Ends) (σ:St) (H:Hp):Prop
 |mk (F:Hp) (ad:-O) (δ:aM) (K:KS) (S:SR F ad δ σ H) (q:G K δ) (k:x6 F ad δ.mu H K D)
def aD(G G':WS):WS:=λK δ=>G {K with nx:=G' K} δ
def dM:WS:=λK δ=>K.nx δ
def bo(i:Nat)(f:WE):WS:=λK δ=>f δ λx δ1=>K.nx ⟨δ1.sl.set i (U x),δ1.mu⟩
def lF(f:WE):WS:=λK δ=>f δ λ_ δ1=>K.nx δ1
def aQ(f:WE):WS:=λK δ=>f δ λx δ1=>K.rt x δ1
def bS(t:WT)(G G':WS):WS:=λK δ=>t δ λb δ1=>if b=θ then G K δ1 else G' K δ1
section
variable{X:Cx}{e c:l}{st:R}{rest:-R}{f:WE}{t:WT}{G G':WS}{pos:y}
theorem hW:dO X [] (dW dM):=nY.weak λD σ H ⟨F,ad,δ,K,S,q,k⟩↦k.nx _ q _ _ _ _ .refl S
theorem cV(h:JS X st (dW G)):dO X [st] (dW G):=Aj h
theorem bY(h:JS X st (dW G))(r:dO X rest (dW G')):dO X (st::rest) (dW (aD G G')) :=
 (xo h r).weak λD σ H ⟨F,ad,δ,K,S,q,k⟩↦⟨F,ad,δ,_,S,q,⟨fun δ' h _ _ _ _ E S'=>⟨_,_,δ',K,S',h,k.ext E⟩,k.bk,k.ct,k.rt,k.kp⟩⟩
theorem QU{i:Nat}:∀D σ H,dW (bo i f) D σ H->lY (tD f) (xp i) D σ H:=λD σ H ⟨F,ad,δ,K,S,q,k⟩↦⟨F,ad,δ,_,S,q,λx δ1 h1 v F1 bt H1 E1 S1 V1=>k.nx _ h1 _ _ _ _ E1 (S1.set V1)⟩
theorem fW{i:Nat}{x:J}{pos':y}(hN:X.N.Nodup)(hi:X.N[i]?=U x)(hx:Loc X.env.scope x)(he:JE X e (tD f))(hs:swapsWith e (U (.Name x pos')) pos.line X.env=pure ι:=by rfl)
  (hf:gZ X x:=by first|exact .inl Y|exact .inr Y|assumption):JS X (.Assign [.Name x pos'] e pos) (dW (bo i f)):=(Ar hN hi hx he hs hf).weak QU
theorem oA(he:JE X e (tD f))(hs:swapsWith e Z pos.line X.env=pure ι:=by rfl):JS X (.Expr e pos) (dW (lF f)) :=
 (N4 he hs).weak λD σ H ⟨F,ad,δ,K,S,q,k⟩↦⟨F,ad,δ,_,S,q,λx δ1 h1 v F1 bt H1 E1 S1 V1=>k.nx _ h1 _ _ _ _ E1 S1⟩
theorem eM(he:JE X e (tD f)):JS X (.Return (U e) pos) (dW (aQ f)) :=
 (GN he).weak λD σ H ⟨F,ad,δ,K,S,q,k⟩↦⟨F,ad,δ,_,S,q,λx δ1 h1 v F1 bt H1 E1 S1 V1=>k.rt _ _ h1 _ _ _ _ _ E1 S1 V1⟩
theorem hX{a b:-R}(hc:JT X c (c_ t))(ha:dO X a (dW G))(hb:dO X b (dW G')):JS X (.If c a b pos) (dW (bS t G G')) :=
 (N5 hc ha hb).weak λD σ H ⟨F,ad,δ,K,S,q,k⟩↦⟨F,ad,δ,_,S,q,λb δ1 h1 F1 bt H1 E1 S1=>by
  cases b with
  |true =>
   rw[q0e Y] at h1 ⊢;exact⟨F1,bt,δ1,K,S1,h1,k.ext E1⟩
  |false =>
   rw[q0c q0z] at h1 ⊢
   calc⟨F1,bt,δ1,K,S1,h1,k.ext E1⟩⟩
def tR:WS:=λ_ _=>False
abbrev WG:=DV->aM->(aM->Prop)->Prop
inductive jx (g:WG) (v:V) (σ:St) (H:Hp) (Q:St->Hp->Prop):Prop
 |mk (F:Hp) (ad:-O) (δ:aM) (x:DV) (K:aM->Prop) (S:SR F ad δ σ H) (V:dI F ad x v) (q:g x δ K) (k:Cn F ad δ.mu H K Q)
abbrev rU:=-D->aM->(aM->Prop)->Prop
def oB(g:rU):kE:=λvs σ H Q=>∃F ad δ ds K,SR F ad δ σ H/\af F ds vs/\g ds δ K/\Cn F ad δ.mu H K Q
def bR(i:Nat):WG:=λx δ K=>K ⟨δ.sl.set i (U x),δ.mu⟩
def iJ:rU:=λds δ K=>match ds with
 |[]=>K δ
 |_=>False
def dX(g:WG)(g':rU):rU:=λds δ K=>match ds with
 |d::r=>g (.p d) δ fun δ1=>g' r δ1 K
 |[]=>False
theorem JG.weak{tg:l}{t t':TG}(h:JG X tg t)(k:∀v σ H Q,t' v σ H Q->t v σ H Q):JG X tg t':=⟨λpins s σ H v u Q I r q=>h pins s σ H v u Q I r (k v σ H Q q)⟩
theorem iH.weak{ts:-l}{t t':kE}(h:iH X ts t)(k:∀v σ H Q,t' v σ H Q->t v σ H Q):iH X ts t':=⟨λpins s σ H v u Q I r q=>h pins s σ H v u Q I r (k v σ H Q q)⟩
theorem gR{i:Nat}{x:J}(hN:X.N.Nodup)(hi:X.N[i]?=U x)(hx:Loc X.env.scope x)(hf:gZ X x:=by first|exact .inl Y|exact .inr Y|assumption):JG X (.Name x pos) (jx (bR i)) :=
 (Am hN hi hx hf).weak λv σ H Q ⟨F,ad,δ,x,K,S,V,q,k⟩↦k _ q _ _ _ _ .refl (S.set V)
theorem tT:iH X [] (oB iJ):=g7.weak λvs σ H Q ⟨F,ad,δ,ds,K,S,V,q,k⟩↦by
 unfold iJ at q;split at q
 .erw[af] at V
  exact⟨V,k _ q _ _ _ _ .refl S⟩
 .calc q.elim
theorem l9{es:-l}{g:WG}{g':rU}(h1:JG X e (jx g))(h2:iH X es (oB g'))(hs:(assignEach (e::es) X.env).map (·.2)=assign e X.env::(assignEach es X.env).map (·.2):=by rfl):iH X (e::es) (oB (dX g g')) :=
 (xq h1 h2 hs).weak λvs σ H Q ⟨F,ad,δ,ds,K,S,V,q,k⟩↦by
  unfold dX at q;split at q
  .rename_i d r
   erw[af] at V;let⟨v,r',e,i1,i2⟩:=V;exact⟨v,r',e,F,ad,δ,.p d,_,S,i1,q,fun δ' h _ _ _ _ E S'=>⟨_,_,δ',r,K,S',i2.same E.same,h,k.ext E⟩⟩
  .calc q.elim
def iX(n:Nat)(g:rU):WG:=λx δ K=>jN x δ λd=>match d with
 |.tup ds=>↑ds=n/\g ds δ K
 |.lst ds=>↑ds=n/\g ds δ K
 |_=>False
theorem JG.or{tg:l}{t t':TG}(h:JG X tg t)(h':JG X tg t'):JG X tg (λv σ H Q=>t v σ H Q\/t' v σ H Q):=⟨λpins s σ H v u Q I r q=>q.elim (λq=>h pins s σ H v u Q I r q) λq=>h' pins s σ H v u Q I r q⟩
theorem tU{es:-l}{k:Nat}{g:rU}{n:Nat}(hc:X.calm=θ)(h:iH X es (oB g))(hn:↑(assignEach es X.env)=n:=by rfl)(iS:(assignEach es X.env).findIdx? (·.1)=Z:=by rfl):JG X (.Tuple es k pos) (jx (iX n g)) :=
 ((Ap hc h hn iS).or (QO hc h hn iS)).weak λv σ H Q ⟨F,ad,δ,x,K,S,V,q,k⟩↦by
  let⟨d,q,rd⟩:=lB S V q;split at q
  .rename_i ds
   let x8:Is F (.tup ds) v:=rd;erw[Is] at x8;let⟨a,vs,e,h1,h2⟩:=x8;exact .inl ⟨a,vs,e,b8.of (S.sub _ _ h1),by rw[↑h2];calc q.1,F,ad,δ,ds,K,S,h2,q.2,k⟩
  .rename_i ds
   let⟨a,vs,e,h1,h2⟩:=rd;exact .inr ⟨a,vs,e,bU.of h1,by rw[↑h2];calc q.1,F,ad,δ,ds,K,S,h2,q.2,k⟩
  .calc q.elim
def hZ(f:WE)(g:WG):WS:=λK δ=>f δ λx δ1=>g x δ1 K.nx
theorem BC{tg:l}{g:WG}(he:JE X e (tD f))(hg:JG X tg (jx g))(hs:swapsWithSole [tg] e pos.line X.env=pure ι:=by rfl)(hw:swappedStores [tg] e X.env=pure Z:=by rfl)
  (h1:(assignEach [tg] X.env).map (·.2)=[assign tg X.env]:=by rfl):JS X (.Assign [tg] e pos) (dW (hZ f g)) :=
 (xt he hg hs hw h1).weak λD σ H ⟨F,ad,δ,K,S,q,k⟩↦⟨F,ad,δ,_,S,q,λx δ1 h1 v F1 bt H1 E1 S1 V1=>⟨F1,bt,δ1,x,K.nx,S1,V1,h1,k.nx.ext E1⟩⟩
end
end
structure oC where
 items:-D
 bZ:aM->Prop
abbrev WI:=aM->(oC->aM->Prop)->Prop
def rV(F:Hp)(ad:-O)(it:oC)(J:It):Prop:=∀(F':Hp)(aN:-O)(δ:aM)(σ:St)(H:Hp),aP F F'->(∀(k:Nat)(a:O),ad[k]?=U a->aN[k]?=U a)->SR F' aN δ σ H->it.bZ δ →
 J.stop ↑it.items H/\∀(i:Nat)(d:D),it.items[i]?=U d->J.go i H/\∀x H',J.sZ i H x H'->aP H H'/\Is (Nw F' H H') d x
inductive kh (w:WI) (σ:St) (H:Hp) (R:It->Hp->Prop):Prop
 |mk (F:Hp) (ad:-O) (δ:aM) (K:oC->aM->Prop) (S:SR F ad δ σ H) (q:w δ K) (k:∀it δ',K it δ'->∀J F' aN H',Ext F ad δ.mu H F' aN δ'.mu H'->SR F' aN δ' σ H'->rV F' aN it J->R J H')
noncomputable def x9(n:Nat):Option DV->Option DV->Option DV
 |none,_=>Z
 |some _,some (.o k)=>if k<n then U (.o k) else Z
 |some _,some (.t d k)=>if k<n then U (.t d k) else Z
 |some _,s=>s
noncomputable def gE(n:Nat):-(Option DV)->-(Option DV)->-(Option DV)
 |s0::r0,s::r=>x9 n s0 s::gE n r0 r
 |[],_::r=>Z::gE n [] r
 |_,[]=>[]
noncomputable def aM.trim(δ0 δ:aM):aM:=⟨gE ↑δ0.mu δ0.sl δ.sl,δ.mu.take ↑δ0.mu⟩
theorem BE{n:Nat}:∀(l0 l:-(Option DV)),↑(gE n l0 l)=↑l
 |_::r0,_::r=>by rw[gE,HB,HB,BE r0 r]
 |[],_::r=>by rw[gE,HB,HB,BE [] r]
 |[],[]=>Y
 |_::_,[]=>Y
theorem BF{n:Nat}:∀{l0 l:-(Option DV)}{i:Nat}{x:DV},(gE n l0 l)[i]?=U (U x)->l[i]?=U (U x)/\∀k,x=.o k\/(∃d,x=.t d k)->k<n
 |s0::r0,s::r,0,x,h=>by
  let h:x9 n s0 s=U x:=by simpa[gE] using h
  match s0,s,h with
  |none,_,h=>cases h
  |some _,none,h=>cases h
  |some _,some (.p d),h=>cases(show U (DV.p d)=U x from h);exact⟨Y,λk e=>by rcases e with e|⟨_,e⟩<;>cases e⟩
  |some _,some (.w d),h=>cases(show U (DV.w d)=U x from h);exact⟨Y,λk e=>by rcases e with e|⟨_,e⟩<;>cases e⟩
  |some _,some (.u t d),h=>cases(show U (DV.u t d)=U x from h);exact⟨Y,λk e=>by rcases e with e|⟨_,e⟩<;>cases e⟩
  |some _,some (.t d k),h =>
   let h:(if k<n then U (DV.t d k) else Z)=U x:=h
   by_cases c:k<n
   .rw[q0e c] at h;cases h;exact⟨Y,λk' e=>by rcases e with e|⟨_,e⟩<;>cases e;calc c⟩
   .rw[q0c c] at h;cases h
  |some _,some (.o k),h =>
   let h:(if k<n then U (DV.o k) else Z)=U x:=h
   by_cases c:k<n
   .rw[q0e c] at h;cases h;exact⟨Y,λk' e=>by rcases e with e|⟨_,e⟩<;>cases e;calc c⟩
   .rw[q0c c] at h;cases h
 |s0::r0,s::r,i+1,x,h=>by
  let h:(gE n r0 r)[i]?=U (U x):=by simpa[gE] using h
  simpa using BF h
 |[],s::r,0,x,h=>by simp[gE] at h
 |[],s::r,i+1,x,h=>by
  let h:(gE n [] r)[i]?=U (U x):=by simpa[gE] using h
  simpa using BF h
 |[],[],i,x,h=>by simp[gE] at h
 |_::_,[],i,x,h=>by simp[gE] at h
section
variable{F F' H H':Hp}{ad aN:-O}{δ δ' δ0:aM}{σ σ' τ:St}{mu c5:-(Option OV)}{l:O}{o:HO}
theorem Lv.take{n:Nat}{a:O}(h:Lv (ad.take n) (mu.take n) a):Lv ad mu a:=by
 let⟨k,ov,e1,e2⟩:=h
 let hk:k<n:=by
  let:=(Hy.mp e1).1;rw[q0E] at this;symm
 rw[q0I hk] at e1 e2;calc⟨k,ov,e1,e2⟩
theorem SR.trim(S:SR F ad δ σ H):SR F (ad.take ↑δ0.mu) (δ0.trim δ) σ H:=by
 let tk:∀{k:Nat}{a:O},(ad.take ↑δ0.mu)[k]?=U a->k<↑δ0.mu/\ad[k]?=U a:=λ{k a} e=>by
  let hk:k<↑δ0.mu:=by
   let:=(Hy.mp e).1;rw[q0E] at this;symm
  rw[q0I hk] at e;exact⟨hk,e⟩
 let tm:∀{k:Nat}{w:Option OV},(δ.mu.take ↑δ0.mu)[k]?=U w->k<↑δ0.mu/\δ.mu[k]?=U w:=λ{k w} e=>by
  let hk:k<↑δ0.mu:=by
   let:=(Hy.mp e).1;rw[q0E] at this;symm
  rw[q0I hk] at e;exact⟨hk,e⟩
 refine⟨S.sub,λa x=>S.off a x.take,?_,λk l a w w' e1 e2 e3 e4=>S.inj k l a w w' (tk e1).2 (tk e2).2 (tm e3).2 (tm e4).2,λk ov e=>?_,λi x e=>?_,?_,S.tab,S.nt⟩
 .show ↑(ad.take _)=↑(δ.mu.take _)
  rw[q0E,q0E,S.cF]
 .let⟨a,o,e1,e2,h⟩:=S.mu k ov (tm e).2
  exact⟨a,o,by rw[q0I (tm e).1];calc e1,e2,h⟩
 .let⟨e1,e2⟩:=BF e
  let⟨v,h1,h2⟩:=S.sl i x e1;exact⟨v,h1,h2.pre λk a h3 z=>by rw[q0I (e2 k z)];calc h3⟩
 .show ↑σ=↑(gE _ _ _)
  rw[BE];calc S.len
theorem Ext.trim{n:Nat}(e:Ext F ad mu H F' aN c5 H')(hn:↑ad=n):Ext F ad mu H F' (aN.take n) (c5.take n) H' :=
 ⟨e.same,e.new,e.keep,λk a h=>by rw[q0I (by rw[<-hn];calc(Hy.mp h).1)];calc e.pre k a h,λa x=>e.cA a x.take,e.iW⟩
theorem SR.other(S:SR F ad δ σ H)(hf:F l=Z)(hl:¬ Lv ad δ.mu l)(tk:aR.ok (upd H l o)):SR F ad δ σ (upd H l o):=by
 refine⟨λa u e=>?_,S.off,S.cF,S.inj,λk ov e=>?_,S.sl,S.len,tk,S.nt⟩
 .rw[bF (dQ e hf)];exact S.sub a u e
 .let⟨a,u,e1,e2,h⟩:=S.mu k ov e
  calc⟨a,u,e1,by rw[bF λz=>hl (by subst z;calc⟨k,ov,e1,e⟩)];calc e2,h⟩
theorem Ext.other(e:Ext F ad mu H F' aN c5 H')(hl:H l=Z):Ext F ad mu H F' aN c5 (upd H' l o) :=
 ⟨e.same,e.new,λa u h n t=>by rw[bF (dQ h hl)];calc e.keep a u h n t,e.pre,e.cA,λa u h=>by rw[bF (dQ h hl)];calc e.iW a u h⟩
theorem SR.adopt(S:SR F ad δ σ H)(hf:F l=Z)(ho:H l=U o)(hl:¬ Lv ad δ.mu l)(no:∀ps,o≠.tbl ps:=by ext _ z;cases z):SR (upd F l o) ad δ σ H:=by
 let sm:aP F (upd F l o):=cI hf
 refine⟨λa u e=>?_,λa x=>?_,S.cF,S.inj,λk ov e=>?_,λi x e=>?_,S.len,S.tab,S.nt.up sm λa ha=>by
  let⟨ps,q⟩:=aR.tb S.tab ha;rw[bF λz=>by subst z;rw[ho] at q;calc no ps (q0v q)]
  calc S.nt a ha⟩
 .by_cases c:a=l
  .subst c;rw[cz] at e;cases e;exact ho
  .rw[bF c] at e;exact S.sub a u e
 .rw[bF λz=>hl (by subst z;calc x)];exact S.off a x
 .let⟨a,u,e1,e2,h⟩:=S.mu k ov e
  exact⟨a,u,e1,e2,h.same sm⟩
 .let⟨v,e1,h⟩:=S.sl i x e
  calc⟨v,e1,h.same sm⟩
theorem Ext.adopt(e:Ext F ad mu H F' aN c5 H')(hl:H l=Z)(hf:F' l=Z):Ext F ad mu H (upd F' l o) aN c5 H' :=
 ⟨e.same.trans (cI hf),λa u h=>by
  by_cases c:a=l
  .subst c;exact .inr (.inl hl)
  .rw[bF c] at h;calc e.new a u h,e.keep,e.pre,e.cA,e.iW⟩
theorem SR.c6{ov:OV}(S:SR F ad δ σ H)(hf:F l=Z)(ho:H l=U o)(hl:¬ Lv ad δ.mu l)(h:eU F l ov o):SR F (ad++[l]) ⟨δ.sl,δ.mu++[U ov]⟩ σ H:=by
 let old:∀{k:Nat}{w:OV},(δ.mu++[U ov])[k]?=U (U w)->(k<↑δ.mu/\δ.mu[k]?=U (U w))\/(k=↑δ.mu/\w=ov):=λ{k w} e=>by
  by_cases c:k<↑δ.mu
  .rw[Zd c] at e;exact .inl ⟨c,e⟩
  .let hl:=(Hy.mp e).1
   rw[Pz,q0Q] at hl;let ek:k=↑δ.mu:=by symm
   subst ek;rw[Zf (Hz _),q0W] at e;exact .inr ⟨Y,by simpa using e.symm⟩
 let pre:∀{k:Nat},k<↑δ.mu->(ad++[l])[k]?=ad[k]?:=λ{k} c=>Zd (by rw[S.cF];calc c);let last:(ad++[l])[↑δ.mu]?=U l:=by rw[<-S.cF,Zf (Hz _),q0W];rfl
 refine⟨S.sub,λa x=>?_,by rw[Pz,Pz,S.cF];rfl,λk k' a w w' e1 e2 e3 e4=>?_,λk w e=>?_,λi x e=>?_,S.len,S.tab,S.nt⟩
 .let⟨k,w,e1,e2⟩:=x
  rcases old e2 with⟨c,e3⟩|⟨c,e3⟩
  .rw[pre c] at e1;exact S.off a ⟨k,w,e1,e3⟩
  .subst c;rw[last] at e1;cases e1;exact hf
 .rcases old e3 with⟨c,q⟩|⟨c,q⟩
  .rw[pre c] at e1
   rcases old e4 with⟨c',q'⟩|⟨c',q'⟩
   .rw[pre c'] at e2;exact S.inj k k' a w w' e1 e2 q q'
   .subst c';rw[last] at e2;cases e2;exact absurd ⟨k,w,e1,q⟩ hl
  .subst c;rw[last] at e1;cases e1
   rcases old e4 with⟨c',q'⟩|⟨c',q'⟩
   .rw[pre c'] at e2;exact absurd ⟨k',w',e2,q'⟩ hl
   .exact c'.symm
 .rcases old e with⟨c,q⟩|⟨c,q⟩
  .let⟨a,u,e1,e2,h'⟩:=S.mu k w q
   exact⟨a,u,by rw[pre c];calc e1,e2,h'⟩
  .subst c;subst q;exact⟨l,o,last,ho,h⟩
 .let⟨v,e1,h'⟩:=S.sl i x e
  calc⟨v,e1,h'.pre λk a e2 _=>by rw[Zd (Hy.mp e2).1];calc e2⟩
theorem Ext.c6{ov:OV}(e:Ext F ad mu H F' aN c5 H')(hl:H l=Z)(hm:↑aN=↑c5):Ext F ad mu H F' (aN++[l]) (c5++[U ov]) H' :=
 ⟨e.same,e.new,e.keep,λk a h=>by rw[Zd (Hy.mp (e.pre k a h)).1];calc e.pre k a h,λa x=>by
  let⟨k,w,e1,e2⟩:=x
  by_cases c:k<↑c5
  .rw[Zd c] at e2
   rw[Zd (by rw[hm];calc c)] at e1;exact e.cA a ⟨k,w,e1,e2⟩
  .let jP:=(Hy.mp e2).1
   rw[Pz,q0Q] at jP;let ek:k=↑aN:=by rw[hm];symm
   subst ek;rw[Zf (Hz _),q0W] at e1;let:l=a:=by simpa using e1
   subst this;calc .inr hl,e.iW⟩
theorem SR.back{sl:-(Option DV)}(S0:SR F ad δ σ H)(e:Ext F ad δ.mu H F' aN c5 H')(S:SR F' aN ⟨sl,c5⟩ τ H'):SR F' aN ⟨δ.sl,c5⟩ σ H' :=
 ⟨S.sub,S.off,S.cF,S.inj,S.mu,λi x q=>let⟨v,h1,h2⟩:=S0.sl i x q;⟨v,h1,h2.ext e⟩,S0.len,S.tab,S.nt⟩
noncomputable def dY(cp:-(Option Nat))(sl:-(Option DV)):-(Option DV):=cp.map λo=>match o with
 |some i=>(sl[i]?).join
 |none=>Z
theorem SR.vD{cp:-(Option Nat)}(S:SR F ad δ σ H):SR F ad ⟨dY cp δ.sl,δ.mu⟩ (jr cp σ) H:=by
 calc⟨S.sub,S.off,S.cF,S.inj,S.mu,λj x e=>?_,by unfold jr dY;rw[Ba,Ba],S.tab,S.nt⟩;unfold dY at e;rw[PB] at e;let⟨o,e1,e2⟩:=q0a.mp e
 match o,e2 with
 |none,e2=>cases e2
 |some i,e2 =>
  let e2:(δ.sl[i]?).join=U x:=e2
  cases q:δ.sl[i]? with
  |none=>rw[q] at e2;cases e2
  |some z =>
   rw[q] at e2;let e3:z=U x:=e2;subst e3;let⟨v,h1,h2⟩:=S.sl i x q;calc⟨v,?_,h2⟩;unfold jr;rw[PB,e1];show U ((σ[i]?).join)=U (U v);rw[h1];rfl
end
def l_(δ0:aM)(bZ:aM->Prop)(g:WG)(b:WS)(K:KS):-D->aM->Prop
 |[],δ=>bZ δ/\K.nx δ
 |d::r,δ=>bZ δ/\g (.p d) δ fun δ1=>b {nx:=fun δ2=>l_ δ0 bZ g b K r (δ0.trim δ2),ct:=fun δ2=>l_ δ0 bZ g b K r (δ0.trim δ2),bk:=K.nx,rt:=K.rt} δ1
def fK(w:WI)(g:WG)(b:WS):WS:=λK δ=>w δ λit δ1=>l_ δ1 it.bZ g b K it.items δ1
def ki(δ0:aM)(bZ:aM->Prop)(g:WG)(t:WT)(f:WE)(K:-D->aM->Prop):-D->-D->aM->Prop
 |[],acc,δ=>bZ δ/\K acc δ
 |d::r,acc,δ=>bZ δ/\g (.p d) δ fun δ1=>t δ1 λb δ2=>if b=θ then f δ2 λx δ3=>lC x δ3 λe δ4=>↑acc<1000/\ki δ0 bZ g t f K r (acc++[e]) (δ0.trim δ4) else ki δ0 bZ g t f K r acc (δ0.trim δ2)
def dZ(w:WI)(cp:-(Option Nat))(g:WG)(t:WT)(f:WE):WE:=fun δ K=>w δ λit δ1=>ki ⟨dY cp δ1.sl,δ1.mu⟩ it.bZ g t f (λacc δ'=>K (.p (.lst acc)) ⟨δ1.sl,δ'.mu⟩) it.items [] ⟨dY cp δ1.sl,δ1.mu⟩
def qq(w:WI)(cp:-(Option Nat))(g:WG)(t:WT)(f:WE):WE:=fun δ K=>w δ λit δ1=>ki ⟨dY cp δ1.sl,δ1.mu⟩ it.bZ g t f (λacc δ'=>K (.o ↑δ'.mu) ⟨δ1.sl,δ'.mu++[U (.lst acc)]⟩) it.items [] ⟨dY cp δ1.sl,δ1.mu⟩
section
variable{X:Cx}{tg iter elt:l}{body:-R}{w:WI}{g:WG}{b:WS}{pos:y}{ifs:-l}{t:WT}{f:WE}{scope:a}
theorem tV[kO](hp:PassesOwn (ς X.prog X.w) X.A X.env X.xe)(hc:X.calm=θ)(hi:JI X tg iter (kh w))(hg:JG X tg (jx g))(hb:dO X body (dW b))(hs:∀x,foldedSetIterable iter X.env x=pure x:=by ext _;rfl):
  JS X (.For tg iter body [] pos) (dW (fK w g b)):=(GS hp hc hi hg hb hs).weak λD σ H ⟨F,ad,δ,K,S,q,k⟩=>by
 calc⟨F,ad,δ,_,S,q,λit δ1 h1 J F1 bt H1 E1 S1 I1=>?_⟩;let k1:=k.ext E1;calc⟨λi m σ' H'=>∃F' aN δ',i+m=↑it.items/\Ext F1 bt δ1.mu H1 F' aN δ'.mu H'/\SR F' aN δ' σ' H'/\l_ δ1 it.bZ g b K (it.items.drop i) δ',⟨↑it.items,F1,bt,δ1,⋯,.refl,S1,h1⟩,?_⟩;ext i m σ' H' ⟨F',aN,δ',hm,E',S',h⟩
 by_cases d_:i<↑it.items
 .rw[q2U d_] at h
  let⟨ck,h⟩:=h;let⟨go,yl⟩:=(I1 F' aN δ' σ' H' E'.same E'.pre S' ck).2 i _ (xF d_);calc .inr ⟨go,fun σ2 H2=>∃F2 cG δ2,Ext F1 bt δ1.mu H1 F2 cG δ2.mu H2/\SR F2 cG δ2 σ2 H2/\l_ δ1 it.bZ g b K (it.items.drop (i+1)) δ2,fun σ2 H2 ⟨F2,cG,δ2,e1,e2,e3⟩↦⟨m-1,⋯,F2,cG,δ2,⋯,e1,e2,e3⟩,λx H2 y=>?_⟩;let⟨sm,is⟩:=yl x H2 y;let E2:=E'.trans (Ext.al S' sm);calc⟨_,aN,δ',.p _,_,S'.al sm,is,h,fun δ3 h3 F3 rW σ3 H3 E3 S3=>?_⟩;let vE:=E2.trans E3;refine⟨F3,rW,δ3,_,S3,h3,⟨fun δ4 h4 F4 x_ σ4 H4 E4 S4=>⟨F4,_,_,(vE.trans E4).trim S1.cF,S4.trim,h4⟩,k1.nx.ext vE,fun δ4 h4 F4 x_ σ4 H4 E4 S4=>⟨F4,_,_,(vE.trans E4).trim S1.cF,S4.trim,h4⟩,(k1.ext vE).rt,(k1.ext vE).kp⟩⟩
 .let ei:i=↑it.items:=by symm
  subst ei;rw[q4S (Hz _)] at h;let⟨ck,h⟩:=h;calc .inl ⟨(I1 F' aN δ' σ' H' E'.same E'.pre S' ck).1,k1.nx _ h _ _ _ _ E' S'⟩
def dj:WT:=fun δ K=>K θ δ
theorem JF.weak{ifs:-l}{t t':TT}(h:JF X ifs t)(k:∀σ H Q,t' σ H Q->t σ H Q):JF X ifs t':=⟨λpins s σ H Q I q=>h pins s σ H Q I (k σ H Q q)⟩
theorem BG:JF X [] (c_ dj):=rL.weak fun σ H Q ⟨F,ad,δ,K,S,q,k⟩↦k _ _ q _ _ _ .refl S
theorem ya{c:l}(h:JT X c (c_ t)):JF X [c] (c_ t):=PF h
theorem Ip{J:It}{l:O}{F1:Hp}{bt:-O}{δ1:aM}{σ:St}{H1:Hp}{it:oC}{cp:-(Option Nat)}{Q:VK}{K:-D->aM->Prop}(S1:SR F1 bt δ1 σ H1)(I1:rV F1 bt it J)(hl:H1 l=Z)
  (h:ki ⟨dY cp δ1.sl,δ1.mu⟩ it.bZ g t f K it.items [] ⟨dY cp δ1.sl,δ1.mu⟩)
  (fin:∀acc δ' F' aN τ H' ys,K acc δ'->Ext F1 bt δ1.mu H1 F' aN δ'.mu H'->SR F' aN δ' τ H'->H' l=U (.lst ys)->F' l=Z->¬ Lv aN δ'.mu l->af F' acc ys->Q (.ref l) H') :
  HE J (jx g) (c_ t) (tD f) l (jr cp σ) (upd H1 l (.lst [])) Q:=by
 let f1:F1 l=Z:=by
  cases q:F1 l with
  |none=>rfl
  |some u=>rw[S1.sub l u q] at hl;cases hl
 let nl:∀{ad mu},(∀a,Lv ad mu a->Lv bt δ1.mu a\/H1 a=Z)->True:=λ_=>trivial
 let l1:¬ Lv bt δ1.mu l:=λ⟨k,ov,e1,e2⟩↦by
  let⟨a,o,e3,e4,_⟩:=S1.mu k ov e2;rw[e1] at e3;cases e3;rw[hl] at e4;cases e4
 let S0:SR F1 bt ⟨dY cp δ1.sl,δ1.mu⟩ (jr cp σ) (upd H1 l (.lst [])):=S1.vD.other f1 l1 (aR.same S1.tab (cI hl));calc⟨λi m τ H'=>∃F' aN δ' acc ys,i+m=↑it.items/\Ext F1 bt δ1.mu H1 F' aN δ'.mu H'/\SR F' aN δ' τ H'/\H' l=U (.lst ys)/\F' l=Z/\¬ Lv aN δ'.mu l/\af F' acc ys/\ki ⟨dY cp δ1.sl,δ1.mu⟩ it.bZ g t f K (it.items.drop i) acc δ',⟨↑it.items,F1,bt,_,[],[],⋯,Ext.refl.other hl,S0,cz,f1,l1,.nil,h⟩,?_⟩;ext i m τ H' ⟨F',aN,δ',acc,ys,hm,E',S',jP,oE,qr,ia,h⟩
 by_cases d_:i<↑it.items
 .rw[q2U d_] at h
  let⟨ck,h⟩:=h;let⟨go,yl⟩:=(I1 F' aN δ' τ H' E'.same E'.pre S' ck).2 i _ (xF d_)
  let step:∀{F2:Hp}{cG:-O}{BH:-(Option OV)}{H2:Hp},Ext F' aN δ'.mu H' F2 cG BH H2->H2 l=U (.lst ys)/\F2 l=Z/\¬ Lv cG BH l/\af F2 acc ys:=λ{F2 cG BH H2} e=>by
   refine⟨e.keep _ _ jP qr (λz=>by let⟨ps,q⟩:=aR.tb S1.tab z;rw[hl] at q;cases q),?_,λz=>?_,ia.same e.same⟩
   .cases q:F2 l with
    |none=>rfl
    |some u =>
     rcases e.new l u q with z|z|z
     .rw[oE] at z;cases z
     .rw[jP] at z;cases z
     .exact absurd z qr
   .rcases e.cA l z with z|z
    .exact qr z
    .rw[jP] at z;cases z
  refine .inr ⟨go,fun τ2 H2=>∃F2 cG δ2 oF yb,Ext F1 bt δ1.mu H1 F2 cG δ2.mu H2/\SR F2 cG δ2 τ2 H2/\H2 l=U (.lst yb)/\F2 l=Z/\¬ Lv cG δ2.mu l/\af F2 oF yb/\ki ⟨dY cp δ1.sl,δ1.mu⟩ it.bZ g t f K (it.items.drop (i+1)) oF δ2,
   fun τ2 H2 ⟨F2,cG,δ2,oF,yb,r⟩↦⟨m-1,⋯,F2,cG,δ2,oF,yb,⋯,r⟩,λx H2 y=>?_⟩
  let⟨sm,is⟩:=yl x H2 y;let X2:=Ext.al S' sm;calc⟨_,aN,δ',.p _,_,S'.al sm,is,h,fun δ3 h3 F3 rW σ3 H3 X3 S3=>?_⟩;calc⟨F3,rW,δ3,_,S3,h3,λbb δ4 h4 F4 x_ H4 X4 S4=>?_⟩;let BI:=(X2.trans X3).trans X4
  cases bb with
  |false =>
   dsimp only at h4 ⊢;rw[q0c q0z] at h4 ⊢;let⟨a1,a2,a3,a4⟩:=step BI;exact⟨F4,_,_,acc,ys,(E'.trans BI).trim S1.cF,S4.trim (δ0:=⟨dY cp δ1.sl,δ1.mu⟩),a1,a2,λz=>a3 z.take,a4,h4⟩
  |true =>
   dsimp only at h4 ⊢;rw[q0e Y] at h4 ⊢;calc⟨F4,x_,δ4,_,S4,h4,λy δ5 h5 v F5 Zn H5 X5 S5 V5=>?_⟩;let⟨e,δ6,F6,⟨hlen,h6⟩,X6,S6,i6⟩:=rS S5 V5 h5;let Iq:=(BI.trans X5).trans X6;let⟨a1,a2,a3,a4⟩:=step Iq;calc⟨ys,a1,qg (by rw[↑a4];symm),F6,_,_,acc++[e],ys++[v],?_,(S6.other a2 a3 (aR.put S6.tab a1 (.inl ⟨_,Y⟩))).trim (δ0:=⟨dY cp δ1.sl,δ1.mu⟩),cz,a2,λz=>a3 z.take,a4.snoc i6,h6⟩;exact((E'.trans Iq).other hl).trim S1.cF
 .let ei:i=↑it.items:=by symm
  subst ei;rw[q4S (Hz _)] at h;let⟨ck,h⟩:=h;calc .inl ⟨(I1 F' aN δ' τ H' E'.same E'.pre S' ck).1,fin _ _ _ _ _ _ _ h E' S' jP oE qr ia⟩
theorem Ir{cp:-(Option Nat)}:∀σ H Q,tD (dZ w cp g t f) σ H Q->va (kh w) cp (λ_=>jx g) (λ_=>c_ t) (λ_=>tD f) σ H Q:=fun σ H Q ⟨F,ad,δ,K,S,q,k⟩=>by
 calc⟨F,ad,δ,_,S,q,λit δ1 h1 J F1 bt H1 E1 S1 I1=>λd l hl=>?_⟩;calc Ip S1 I1 hl h1 λacc δ' F' aN τ H' ys hk E' S' jP oE qr ia=>?_;let sm:aP F' (upd F' l (.lst ys)):=cI oE;calc k _ _ hk _ _ _ _ (E1.trans (E'.adopt hl oE)) (SR.back (sl:=δ'.sl) S1 (E'.adopt hl oE) (S'.adopt oE jP qr)) ?_;show Is _ (.lst acc) _;erw[Is];calc⟨l,ys,Y,cz,ia.same sm⟩
theorem QV{cp:-(Option Nat)}:∀σ H Q,tD (qq w cp g t f) σ H Q->va (kh w) cp (λ_=>jx g) (λ_=>c_ t) (λ_=>tD f) σ H Q:=fun σ H Q ⟨F,ad,δ,K,S,q,k⟩=>by
 calc⟨F,ad,δ,_,S,q,λit δ1 h1 J F1 bt H1 E1 S1 I1=>λd l hl=>?_⟩;calc Ip S1 I1 hl h1 λacc δ' F' aN τ H' ys hk E' S' jP oE qr ia=>?_;let S2:=S'.c6 (ov:=.lst acc) oE jP qr ⟨ys,Y,ia⟩;let E2:=E'.c6 (ov:=.lst acc) hl S'.cF;calc k _ _ hk _ _ _ _ (E1.trans E2) (SR.back (sl:=δ'.sl) S1 E2 S2) ⟨l,?_,Y⟩;rw[<-S'.cF,Zf (Hz _),q0W];rfl
theorem vF(cp:-(Option Nat))(Nb:-J)(hc:X.calm=θ)(hi:JI X tg iter (kh w))(hg:∀d,JG (cN X scope Nb d) tg (jx g))(hf:∀d,JF (cN X scope Nb d) ifs (c_ t))(he:∀d,JE (cN X scope Nb d) elt (tD f))
  (hk:scope.kind=.function:=by rfl) (ho:l5 X.N X.env.scope scope Nb cp=θ:=by first|rfl|kernel_rfl) (hs:∀x,foldedSetIterable iter X.env x=pure x:=by ext _;rfl) :
  JE X (.ListComp elt [⟨tg,iter,ifs,0⟩] scope pos) (tD (dZ w cp g t f)):=(HK cp Nb hc hi hg hf he hk ho hs).weak Ir
theorem QW(cp:-(Option Nat))(Nb:-J)(hc:X.calm=θ)(hi:JI X tg iter (kh w))(hg:∀d,JG (cN X scope Nb d) tg (jx g))(hf:∀d,JF (cN X scope Nb d) ifs (c_ t))(he:∀d,JE (cN X scope Nb d) elt (tD f))
  (hk:scope.kind=.function:=by rfl) (ho:l5 X.N X.env.scope scope Nb cp=θ:=by first|rfl|kernel_rfl) (hs:∀x,foldedSetIterable iter X.env x=pure x:=by ext _;rfl) :
  JE X (.ListComp elt [⟨tg,iter,ifs,0⟩] scope pos) (tD (qq w cp g t f)):=(HK cp Nb hc hi hg hf he hk ho hs).weak QV
theorem Iu[kO](cp:-(Option Nat))(Nb:-J){i:Nat}{x:J}{pos' iU:y}(hN:X.N.Nodup)(hi:X.N[i]?=U x)(hx:Loc X.env.scope x)(hc:X.calm=θ)(hit:JI X tg iter (kh w))(hg:∀d,JG (cN X scope Nb d) tg (jx g))(hf:∀d,JF (cN X scope Nb d) ifs (c_ t))(he:∀d,JE (cN X scope Nb d) elt (tD f))
  (hk:scope.kind=.function:=by rfl) (ho:l5 X.N X.env.scope scope Nb cp=θ:=by first|rfl|kernel_rfl) (hs:∀x,foldedSetIterable iter X.env x=pure x:=by ext _;rfl)
  (vg:swapsWith (.ListComp elt [⟨tg,iter,ifs,0⟩] scope pos) (U (.Name x pos')) iU.line X.env=pure θ:=by rfl)
  (m9:gZ X x:=by first|exact .inl Y|exact .inr Y|assumption) :
  JS X (.Assign [.Name x pos'] (.ListComp elt [⟨tg,iter,ifs,0⟩] scope pos) iU) (dW (bo i (dZ w cp g t f))) :=
 (PY cp Nb hN hi hx hc hit hg hf he hk ho hs vg m9).weak λD σ H ⟨F,ad,δ,K,S,q,k⟩↦Ir σ H _ ⟨F,ad,δ,_,S,q,λx δ1 h1 v F1 bt H1 E1 S1 V1=>k.nx _ h1 _ _ _ _ E1 (S1.set V1)⟩
end
inductive RV where
 |p (d:D)|n (ds:-D)|a (j:Nat)|t (d:D) (ds:-D)
def rX(F' H H':Hp)(d:D)(ds:-D)(v:V):Prop:=∃a b u vs,v=.ref a/\F' a=U (.tup [u,.ref b])/\Is F' d u/\H b=Z/\H' b=U (.lst vs)/\F' b=Z/\af F' ds vs
abbrev GD:=-DV->-OV->(RV->-OV->Prop)->Prop
structure BJ(F:Hp)(ad:-O)(H:Hp)(r:RV)(ows:-OV)(v:V)(F' H':Hp):Prop where
 sub:aP F' H'
 same:aP F F'
 new:∀a o,F' a=U o->F a=U o\/H a=Z
 keep:∀a o,H a=U o->a∉ad->a∉aR.ad->H' a=U o
 tab:aR.ok H'
 nt:NT F'
 len:↑ows=↑ad
 own:∀(j:Nat)(ow:OV),ows[j]?=U ow->∃a o,ad[j]?=U a/\H' a=U o/\eU F' a ow o
 off:∀a∈ad,F' a=Z
 res:match r with
  |.p d=>Is F' d v
  |.n ds=>∃a vs,v=.ref a/\H a=Z/\H' a=U (.lst vs)/\F' a=Z/\af F' ds vs
  |.a j=>∃a,ad[j]?=U a/\v=.ref a
  |.t d ds=>rX F' H H' d ds v
inductive oG (G:GD) (n:Nat) (vs:-V) (H:Hp) (Q:VK) (_:XK):Prop
 |mk (hl:↑vs=n) (F:Hp) (ad:-O) (ys:-DV) (aB:-OV) (K:RV->-OV->Prop) (S:SR F ad ⟨ys.map U,aB.map U⟩ (vs.map U) H) (g:G ys aB K) (k:∀r ows,K r ows->∀v F' H',BJ F ad H r ows v F' H'->Q v H')
def h8(n:Nat)(K:RV->-OV->Prop)(x:DV)(δ:aM):Prop:=∃ows,δ.mu.take n=ows.map U/\↑ows=n/\match x with
 |.p d=>K (.p d) ows
 |.o k=>if k<n then K (.a k) ows else match δ.mu[k]? with
  |some (some (.lst ds))=>K (.n ds) ows\/K (.p (.lst ds)) ows
  |_=>False
 |.w _=>False
 |.u _ _=>False
 |.t d k=>n<=k/\match δ.mu[k]? with
  |some (some (.lst ds))=>K (.t d ds) ows
  |_=>False
noncomputable def jQ(n:Nat)(K:RV->-OV->Prop):KS where
 nx:=h8 n K (.p .non)
 rt:=h8 n K
section
variable{F F' H H':Hp}{ad aN:-O}{σ σ':St}
theorem vG{α:Type}{l:-α}{i:Nat}{x:α}(h:(l.map U)[i]?=U (U x)):l[i]?=U x:=by
 rw[PB] at h;let⟨y,e,q⟩:=q0a.mp h;cases q;calc e
theorem vH{α:Type}{l:-α}{i:Nat}{x:α}(h:l[i]?=U x):(l.map U)[i]?=U (U x):=by
 rw[PB,h];rfl
theorem SR.start{ys:-DV}{mu:-(Option OV)}{vs:-V}{N:-J}(S:SR F ad ⟨ys.map U,mu⟩ (vs.map U) H):SR F ad ⟨ys.map U++q0f (↑N-↑vs) Z,mu⟩ (start N vs) H:=by
 let hl:↑vs=↑ys:=by
  let:=S.len;rw[Ba] at this;rw[this];rw[Ba]
 refine⟨S.sub,S.off,S.cF,S.inj,S.mu,λi x e=>?_,?_,S.tab,S.nt⟩
 .let hi:i<↑ys:=by
   by_cases c:i<↑ys
   .exact c
   .rw[Zf (by rw[Ba];symm),q25] at e
    split at e
    .cases e
    .cases e
  rw[Zd (by rw[Ba];calc hi)] at e;let⟨v,h1,h2⟩:=S.sl i x e;exact⟨v,by unfold L2.start;rw[Zd (by rw[Ba,hl];calc hi)];calc h1,h2⟩
 .unfold L2.start
  rw[Pz,Pz,q3l,q3l,Ba,Ba,hl]
theorem yc{aB:-OV}{δ:aM}{x:DV}{v:V}{K:RV->-OV->Prop}{Q:VK}{sl:-(Option DV)}{τ:St}(S0:SR F ad ⟨sl,aB.map U⟩ τ H)(E:Ext F ad (aB.map U) H F' aN δ.mu H')(S:SR F' aN δ σ' H')(V:dI F' aN x v)
  (h:h8 ↑aB K x δ) (k:∀r ows,K r ows->∀v F' H',BJ F ad H r ows v F' H'->Q v H'):Q v H':=by
 let⟨ows,tk,hl,h⟩:=h;let al:↑ad=↑aB:=by let:=S0.cF;rwa [Ba] at this
 let lv:∀(j:Nat)(a:O),ad[j]?=U a->∃ow,ows[j]?=U ow/\δ.mu[j]?=U (U ow)/\Lv aN δ.mu a:=λj a e=>by
  let hj:j<↑aB:=by rw[<-al];exact(Hy.mp e).1
  let h1:(δ.mu.take ↑aB)[j]?=U (U (ows[j]'(by rw[hl];calc hj))):=by
   rw[tk,PB,xF (by rw[hl];calc hj)];rfl
  rw[q0I hj] at h1;exact⟨_,xF (by rw[hl];calc hj),h1,j,_,E.pre j a e,h1⟩
 let kP:∀a∈ad,F' a=Z:=λa ha=>by
  let⟨j,e⟩:=q0d.mp ha;let⟨_,_,_,l⟩:=lv j a e;exact S.off a l
 let base:∀{F2:Hp},aP F' F2->aP F2 H'->(∀a o,F2 a=U o->F' a=U o\/(H a=Z/\¬ a∈ad))->(∀a∈ad,F2 a=Z)->NT F2->∀{r:RV},(match r with
   |.p d=>Is F2 d v
   |.n ds=>∃a vs,v=.ref a/\H a=Z/\H' a=U (.lst vs)/\F2 a=Z/\af F2 ds vs
   |.a j=>∃a,ad[j]?=U a/\v=.ref a
   |.t d ds=>rX F2 H H' d ds v)->BJ F ad H r ows v F2 H':=λ{F2} s1 s2 n2 o2 QX {r} res=>by
  refine⟨s2,E.same.trans s1,λa o e=>?_,λa o e n t=>?_,S.tab,QX,by rw[hl,al],λj ow e=>?_,o2,res⟩
  .rcases n2 a o e with e|⟨e,_⟩
   .rcases E.new a o e with z|z|⟨j,ov,z,_⟩
    .exact .inl z
    .exact .inr z
    .rw[kP a (q0d.mpr ⟨j,z⟩)] at e;cases e
   .exact .inr e
  .exact E.keep a o e (λ⟨j,ov,z,_⟩↦n (q0d.mpr ⟨j,z⟩)) t
  .let hj:j<↑ad:=by rw[al,<-hl];exact(Hy.mp e).1
   let⟨BK,e1,e2,_⟩:=lv j _ (xF hj);rw[e] at e1;cases e1;let⟨a,o,e3,e4,h5⟩:=S.mu j _ e2;rw[E.pre j _ (xF hj)] at e3;cases e3
   exact⟨_,o,xF hj,e4,h5.same s1⟩
 let fresh:∀{i:Nat}{ds:-D}{a:O},¬ i<↑aB->aN[i]?=U a->δ.mu[i]?=U (U (.lst ds))->∃vs,H' a=U (.lst vs)/\af F' ds vs/\a∉ad/\F' a=Z/\H a=Z:=λ{i ds a} c e1 em=>by
  let⟨a',o,e2,e3,vs,rfl,h4⟩:=S.mu i _ em;rw[e1] at e2;cases e2
  let na:a∉ad:=λz=>by
   let⟨j,e⟩:=q0d.mp z;let⟨ow,_,e5,_⟩:=lv j a e;let:i=j:=S.inj i j a _ _ e1 (E.pre j a e) em e5;subst this;exact c (by rw[<-al];calc(Hy.mp e).1)
  calc⟨vs,e3,h4,na,S.off a ⟨i,_,e1,em⟩,?_⟩;rcases E.cA a ⟨i,_,e1,em⟩ with⟨j,ov,z,_⟩|z
  .exact absurd (q0d.mpr ⟨j,z⟩) na
  .exact z
 cases x with
 |p d=>exact k _ _ h _ _ _ (base (F2:=F') (λ_ _ e=>e) S.sub (λ_ _ e=>.inl e) kP S.nt V)
 |w _=>exact h.elim
 |u _ _=>exact h.elim
 |t d i =>
  let⟨a,b,u,rfl,e0,e2,e1⟩:=V;let⟨c,h⟩:=h;split at h
  .rename_i ds em
   let⟨vs,e3,h4,na,fa,ha⟩:=fresh ⋯ e1 em;exact k _ _ h _ _ _ (base (F2:=F') (λ_ _ e=>e) S.sub (λ_ _ e=>.inl e) kP S.nt ⟨a,b,u,vs,Y,e0,e2,ha,e3,fa,h4⟩)
  .exact h.elim
 |o i =>
  dsimp only at h;let⟨a,e1,rfl⟩:=V
  by_cases c:i<↑aB
  .rw[q0e c] at h
   let ei:ad[i]?=U a:=by
    let:=E.pre i _ (xF (by rw[al];calc c));rw[e1] at this;rw[xF (by rw[al];calc c)];exact this.symm
   exact k _ _ h _ _ _ (base (F2:=F') (λ_ _ e=>e) S.sub (λ_ _ e=>.inl e) kP S.nt ⟨a,ei,Y⟩)
  .rw[q0c c] at h
   split at h
   .rename_i ds em
    let⟨vs,e3,h4,na,fa,ha⟩:=fresh c e1 em;rcases h with h|h
    .exact k _ _ h _ _ _ (base (F2:=F') (λ_ _ e=>e) S.sub (λ_ _ e=>.inl e) kP S.nt ⟨a,vs,Y,ha,e3,fa,h4⟩)
    .refine k _ _ h _ _ _ (base (F2:=upd F' a (.lst vs)) (cI fa) (λb o e=>?_) (λb o e=>?_) (λb hb=>?_) (S.nt.up (cI fa) λb hb=>?_) ?_)
     .by_cases z:b=a
      .subst z;rw[cz] at e;cases e;exact e3
      .rw[bF z] at e;exact S.sub b o e
     .by_cases z:b=a
      .subst z;exact .inr ⟨ha,na⟩
      .rw[bF z] at e;exact .inl e
     .rw[bF λz=>na (by subst z;calc hb)];exact kP b hb
     .let⟨ps,q⟩:=aR.tb S.tab hb
      rw[bF λz=>by subst z;rw[e3] at q;cases q];exact S.nt b hb
     .show Is _ (.lst ds) _
      exact⟨a,vs,Y,cz,h4.same (cI fa)⟩
   .calc h.elim
end
theorem gj.QY{P:t}{w:ω}{K:My}{mg:J->Option L}{base:I}{x qual:J}{st:R}{f:O}{fd:FuncData}{N ps:-J}{k:Nat}{G:GD}(F:gj K x qual st f fd)(S:n8 N ps (cK st))
  (eT:∀(bH:L)(A:o)(outer:-X)(s:ο)(H:Hp)(E:XK),bD k (A.deeper (envOfC qual (cK st) ⇑s f bH)) →
   ∃B:WS,dO (fm ft P w K mg base N qual (cK st) f bH A outer s H E).lj (f_ st) (dW B)/\∀ys aB K',↑ys=↑ps->G ys aB K'->B (jQ ↑aB K') ⟨ys.map U++q0f (↑N-↑ps) Z,aB.map U⟩) :
  cj P w K mg base ft (k+1) f fd ps (oG G ↑ps) :=
 F.xG S (λvs H Q E h=>h.1) λbH A outer s H vs Q E hr h=>by
  let⟨hl,Fz,ad,ys,aB,K',S0,g,kk⟩:=h;let⟨B,jb,hb⟩:=eT bH A outer s H E hr
  let hy:↑ys=↑ps:=by
   let:=S0.len;rw[Ba] at this;rw[<-hl,this];rw[Ba]
  refine⟨_,jb,Fz,ad,⟨ys.map U++q0f (↑N-↑ps) Z,aB.map U⟩,jQ ↑aB K',by rw[<-hl];calc S0.start,hb ys aB K' hy g,⟨fun δ' h F' aN σ' H' E' S'=>?_,fun δ' h=>h.elim,fun δ' h=>h.elim,λy δ' h v F' aN σ' H' E' S' V=>?_,trivial⟩⟩
  .exact yc (σ':=σ') S0 E' S' (x:=.p .non) (v:=.non) Y h kk
  .calc yc (σ':=σ') S0 E' S' V h kk
noncomputable def passes(mu:-(Option OV)):-DV->Nat->Option (-DV×-(Nat×OV))
 |[],_=>U ([],[])
 |.p d::xs,j=>match passes mu xs j with
  |some r=>U (.p d::r.1,r.2)
  |none=>Z
 |.o k::xs,j=>match mu[k]? with
  |some (some ov)=>match passes mu xs (j+1) with
   |some r=>U (.o j::r.1,(k,ov)::r.2)
   |none=>Z
  |_=>Z
 |.w a::xs,j=>match passes mu xs j with
  |some r=>U (.w a::r.1,r.2)
  |none=>Z
 |.u _ _::_,_=>Z
 |.t _ _::_,_=>Z
noncomputable def cP(mu:-(Option OV)):-(Nat×OV)->-OV->-(Option OV)
 |(k,_)::r,ow::ows=>cP (mu.set k (U ow)) r ows
 |_,_=>mu
noncomputable def kQ:-(Nat×OV)->Bool
 |[]=>θ
 |(k,_)::r => !(r.any λe=>e.1==k)&&kQ r
def oH(δ:aM)(bX:-(Nat×OV))(K:DV->aM->Prop)(r:RV)(ows:-OV):Prop:=match r with
 |.p d=>K (.p d) ⟨δ.sl,cP δ.mu bX ows⟩
 |.n ds=>K (.p (.lst ds)) ⟨δ.sl,cP δ.mu bX ows⟩
 |.t d ds=>K (.p (.tup [d,.lst ds])) ⟨δ.sl,cP δ.mu bX ows⟩
 |.a j=>match bX[j]? with
  |some ko=>K (.o ko.1) ⟨δ.sl,cP δ.mu bX ows⟩
  |none=>False
def vI(δ:aM)(bX:-(Nat×OV))(K:DV->aM->Prop)(r:RV)(ows:-OV):Prop:=match r with
 |.n ds=>K (.o ↑(cP δ.mu bX ows)) ⟨δ.sl,cP δ.mu bX ows++[U (.lst ds)]⟩
 |_=>False
def aE(n:Nat)(G:GD)(fa:WA):WE:=fun δ K=>fa δ λxs δ1=>match passes δ1.mu xs 0 with
 |some r=>(kQ r.2=θ/\↑r.1=n)/\G r.1 (r.2.map (·.2)) (oH δ1 r.2 K)
 |none=>False
def vJ(n:Nat)(G:GD)(fa:WA):WE:=fun δ K=>fa δ λxs δ1=>match passes δ1.mu xs 0 with
 |some r=>(kQ r.2=θ/\↑r.1=n)/\G r.1 (r.2.map (·.2)) (vI δ1 r.2 K)
 |none=>False
section
variable{F F' H H':Hp}{ad aN:-O}{δ:aM}{σ σ':St}
theorem tW{mu:-(Option OV)}(hm:∀(k:Nat) (ov:OV),mu[k]?=U (U ov)->∃a o,ad[k]?=U a/\H a=U o/\eU F a ov o):∀{xs:-DV}{vs:-V}{j:Nat}{r:-DV×-(Nat×OV)},passes mu xs j=U r->cS F ad xs vs →
  ∃as:-O,↑as=↑r.2/\(∀(i:Nat)(ko:Nat×OV),r.2[i]?=U ko->mu[ko.1]?=U (U ko.2)/\∃a o,as[i]?=U a/\ad[ko.1]?=U a/\H a=U o/\eU F a ko.2 o) ∧
   ∀(pre:-O),pre.length=j->∃_u:Unit,↑vs=↑r.1/\∀(i:Nat)(y:DV),r.1[i]?=U y->∃v,vs[i]?=U v/\dI F (pre++as) y v
 |[],vs,j,r,h,hv=>by
  cases h
  let:vs=[]:=hv;subst this;exact⟨[],Y,λi ko e=>by simp at e,λpre _=>⟨(),Y,λi y e=>by simp at e⟩⟩
 |.p d::xs,_,j,r,h,⟨v,t,e,h1,h2⟩=>by
  subst e;unfold passes at h;split at h
  .rename_i r' hr
   cases h
   let⟨as,l,b,c⟩:=tW hm hr h2;refine⟨as,l,b,λpre hp=>⟨(),?_,λi y e=>?_⟩⟩
   .let⟨_,c1,_⟩:=c pre hp
    rw[HB,HB,c1]
   .let⟨_,_,c2⟩:=c pre hp
    cases i with
    |zero=>cases(show U (DV.p d)=U y by simpa using e);exact⟨v,Y,h1⟩
    |succ i=>simpa using c2 i y e⁻¹
  .cases h
 |.w d::xs,_,j,r,h,⟨v,t,e,h1,h2⟩=>by
  subst e;unfold passes at h;split at h
  .rename_i r' hr
   cases h
   let⟨as,l,b,c⟩:=tW hm hr h2;refine⟨as,l,b,λpre hp=>⟨(),?_,λi y e=>?_⟩⟩
   .let⟨_,c1,_⟩:=c pre hp
    rw[HB,HB,c1]
   .let⟨_,_,c2⟩:=c pre hp
    cases i with
    |zero=>cases(show U (DV.w d)=U y by simpa using e);exact⟨v,Y,h1⟩
    |succ i=>simpa using c2 i y e⁻¹
  .cases h
 |.o k::xs,_,j,r,h,⟨v,t,e,h1,h2⟩=>by
  subst e;unfold passes at h;split at h
  .rename_i ov hk
   split at h
   .rename_i r' hr
    cases h
    let⟨as,l,b,c⟩:=tW hm hr h2;let⟨a,e1,rfl⟩:=h1;let⟨a',o,e2,e3,e4⟩:=hm k ov hk;rw[e1] at e2;cases e2;refine⟨a::as,by rw[HB,HB,l],λi ko e=>?_,λpre hp=>⟨(),?_,λi y e=>?_⟩⟩
    .cases i with
     |zero=>cases(show U (k,ov)=U ko by simpa using e);exact⟨hk,a,o,Y,e1,e3,e4⟩
     |succ i=>simpa using b i ko e⁻¹
    .let⟨_,c1,_⟩:=c (pre++[a]) (by rw[Pz,hp];rfl)
     rw[HB,HB,c1]
    .let⟨_,_,c2⟩:=c (pre++[a]) (by rw[Pz,hp];rfl)
     cases i with
     |zero =>
      cases(show U (DV.o j)=U y by simpa using e)
      calc⟨_,Y,a,?_,Y⟩;rw[Zf ⋯,hp,q0W];rfl
     |succ i =>
      let⟨v',c3,c4⟩:=c2 i y e⁻¹;exact⟨v',by simpa using c3,by rw[q2p] at c4;calc c4⟩
   .cases h
  .cases h
theorem BL:∀{bX:-(Nat×OV)},kQ bX=θ->∀(i j:Nat)(k:Nat)(a b:OV),bX[i]?=U (k,a)->bX[j]?=U (k,b)->i=j
 |[],_,i,j,k,a,b,e,_=>by simp at e
 |(k',ov)::r,h,i,j,k,a,b,e1,e2=>by
  unfold kQ at h;erw[q0G,q3g] at h
  let no:∀(m:Nat)(c:OV),r[m]?=U (k',c)->False:=λm c e=>by
   let:=q17.mp h.1 _ (q0d.mpr ⟨m,e⟩);exact this (by simp)
  cases i with
  |zero =>
   cases(show U (k',ov)=U (k,a) by simpa using e1)
   cases j with
   |zero=>rfl
   |succ j=>exact(no j b e2⁻¹).elim
  |succ i =>
   cases j with
   |zero=>cases(show U (k',ov)=U (k,b) by simpa using e2);exact(no i a e1⁻¹).elim
   |succ j=>rw[BL h.2 i j k a b e1⁻¹ e2⁻¹]
theorem BM:∀(bX:-(Nat×OV))(ows:-OV)(mu:-(Option OV)),↑(cP mu bX ows)=↑mu
 |(k,_)::r,ow::ows,mu=>by rw[cP,BM r ows,q1v]
 |[],_,_=>Y
 |_::_,[],_=>Y
theorem vK:∀(bX:-(Nat×OV))(ows:-OV)(mu:-(Option OV))(l:Nat),(∀ko∈bX,ko.1≠l)->(cP mu bX ows)[l]?=mu[l]?
 |(k,_)::r,ow::ows,mu,l,h=>by
  rw[cP,vK r ows _ l λko hk=>h ko (q0g _ hk),q02 (h _ q0h)]
 |[],_,_,_,_=>Y
 |_::_,[],_,_,_=>Y
theorem BN:∀{bX:-(Nat×OV)}{ows:-OV}{mu:-(Option OV)}{i:Nat}{ko:Nat×OV}{ow:OV},kQ bX=θ->bX[i]?=U ko->ows[i]?=U ow->ko.1<↑mu->(cP mu bX ows)[ko.1]?=U (U ow)
 |(k,ov)::r,BK::ows,mu,0,ko,ow,h,e1,e2,hl=>by
  cases(show U (k,ov)=U ko by simpa using e1)
  cases(show U BK=U ow by simpa using e2)
  unfold kQ at h;erw[q0G,q3g] at h;rw[cP,vK r ows _ k λko hk z=>absurd z⁻¹ (q17.mp h.1 ko hk),q01 hl]
 |(k,ov)::r,BK::ows,mu,i+1,ko,ow,h,e1,e2,hl=>by
  unfold kQ at h;erw[q0G,q3g] at h;rw[cP];exact BN h.2 e1⁻¹ e2⁻¹ (by rw[q1v];calc hl)
 |[],_,_,i,_,_,_,e1,_,_=>by simp at e1
 |_::_,[],_,i,_,_,_,_,e2,_=>by simp at e2
theorem Iv{xs:-DV}{vs:-V}{r:-DV×-(Nat×OV)}{G:GD}{n:Nat}{Q:VK}{E:XK}{K:RV->-OV->Prop}(S:SR F ad δ σ H)(V:cS F ad xs vs)(hn:↑vs=n)(hp:passes δ.mu xs 0=U r)(nd:kQ r.2=θ)(g:G r.1 (r.2.map (·.2)) K)
  (fin:∀res ows v F' H',K res ows->Ext F ad δ.mu H F' ad (cP δ.mu r.2 ows) H'->SR F' ad ⟨δ.sl,cP δ.mu r.2 ows⟩ σ H'->(match res with
   |.p d=>Is F' d v
   |.n ds=>∃a vs,v=.ref a/\H a=Z/\H' a=U (.lst vs)/\F' a=Z/\af F' ds vs
   |.a j=>∃ko a,r.2[j]?=U ko/\ad[ko.1]?=U a/\v=.ref a
   |.t d ds=>rX F' H H' d ds v)->Q v H'):oG G n vs H Q E:=by
 let⟨as,al,b,c⟩:=tW S.mu hp V;let⟨_,c1,c2⟩:=c [] Y
 let kj:∀(i:Nat)(a:O),as[i]?=U a->Lv ad δ.mu a/\∃ko,r.2[i]?=U ko/\ad[ko.1]?=U a/\δ.mu[ko.1]?=U (U ko.2):=λi a e=>by
  let hi:i<↑r.2:=by rw[<-al];exact(Hy.mp e).1
  let⟨m1,a',o,e1,e2,_,_⟩:=b i _ (xF hi);rw[e] at e1;cases e1;exact⟨⟨_,_,e2,m1⟩,_,xF hi,e2,m1⟩
 refine⟨hn,F,as,r.1,r.2.map (·.2),K,⟨S.sub,λa ⟨i,ov,e1,e2⟩↦S.off a (kj i a e1).1,by rw[al];rw[Ba,Ba],λi j a ov ow e1 e2 _ _=>?_,λi ov e=>?_,λi y e=>?_,?_,S.tab,S.nt⟩,g,λres ows hk v F' H' P=>?_⟩
 .let⟨_,ko,k1,k2,k3⟩:=kj i a e1
  let⟨_,kp,p1,p2,p3⟩:=kj j a e2;let:ko.1=kp.1:=S.inj _ _ a _ _ k2 p2 k3 p3;exact BL nd i j ko.1 ko.2 kp.2 k1 (by rw[this];calc p1)
 .let e:=vG e
  rw[PB] at e;let⟨ko,e1,rfl⟩:=q0a.mp e;let⟨_,a,o,e2,_,e4,e5⟩:=b i ko e1;exact⟨a,o,e2,e4,e5⟩
 .let⟨v,e1,e2⟩:=c2 i y (vG e)
  exact⟨v,vH e1,by simpa using e2⟩
 .show ↑(vs.map U)=↑(r.1.map U)
  rw[Ba,Ba,c1]
 .let ol:↑ows=↑r.2:=by rw[P.len,al]
  let gz:∀(l:Nat)(ow:OV),(cP δ.mu r.2 ows)[l]?=U (U ow)->(∃(i:Nat)(ko:Nat×OV),r.2[i]?=U ko/\ko.1=l/\ows[i]?=U ow)\/((∀ko∈r.2,ko.1≠l)/\δ.mu[l]?=U (U ow)):=λl ow e=>by
   by_cases z:∃ko∈r.2,ko.1=l
   .let⟨ko,hk,rfl⟩:=z
    let⟨i,hi⟩:=q0d.mp hk;let nv:i<↑ows:=by rw[ol];exact(Hy.mp hi).1
    let:=BN (mu:=δ.mu) nd hi (xF nv) (Hy.mp (b i ko hi).1).1;rw[e] at this;cases this
    exact .inl ⟨i,ko,hi,Y,xF nv⟩
   .let z':∀ko∈r.2,ko.1≠l:=λko hk q=>z ⟨ko,hk,q⟩
    rw[vK _ _ _ _ z'] at e;exact .inr ⟨z',e⟩
  let oJ:∀(l:Nat)(ow:OV)(a:O),ad[l]?=U a->(cP δ.mu r.2 ows)[l]?=U (U ow)->Lv ad δ.mu a:=λl ow a e1 e2=>by
   rcases gz l ow e2 with⟨i,ko,hi,rfl,_⟩|⟨_,q⟩
   .exact⟨_,_,e1,(b i ko hi).1⟩
   .exact⟨_,_,e1,q⟩
  let vL:∀a,a∈as->Lv ad δ.mu a:=λa ha=>by
   let⟨i,e⟩:=q0d.mp ha;exact(kj i a e).1
  let ex:Ext F ad δ.mu H F' ad (cP δ.mu r.2 ows) H':=by
   refine⟨P.same,λa o e=>?_,λa o e n t=>P.keep a o e (λz=>n (vL a z)) t,λ_ _ e=>e,λa ⟨l,ow,e1,e2⟩↦.inl (oJ l ow a e1 e2),λa o e=>?_⟩
   .rcases P.new a o e with z|z
    .exact .inl z
    .exact .inr (.inl z)
   .by_cases z:a∈as
    .let⟨i,e1⟩:=q0d.mp z
     let hi:i<↑ows:=by rw[P.len];exact(Hy.mp e1).1
     let⟨a',o',e2,e3,_⟩:=P.own i _ (xF hi);rw[e1] at e2;cases e2;exact⟨o',e3⟩
    .by_cases t:a∈aR.ad
     .let⟨ps,q⟩:=aR.tb P.tab t
      exact⟨_,q⟩
     .exact⟨o,P.keep a o e z t⟩
  let rY:∀a,Lv ad δ.mu a->F' a=Z:=λa l=>by
   by_cases z:a∈as
   .exact P.off a z
   .cases q:F' a with
    |none=>rfl
    |some u =>
     rcases P.new a u q with y|y
     .rw[S.off a l] at y;cases y
     .let⟨k,ov,e1,e2⟩:=l
      let⟨a',o,e3,e4,_⟩:=S.mu k ov e2;rw[e1] at e3;cases e3;rw[y] at e4;cases e4
  let sr:SR F' ad ⟨δ.sl,cP δ.mu r.2 ows⟩ σ H':=by
   refine⟨P.sub,λa ⟨l,ow,e1,e2⟩↦rY a (oJ l ow a e1 e2),by rw[S.cF];calc(BM _ _ _).symm,λk l a ov ow e1 e2 e3 e4=>?_,λl ow e=>?_,λi y e=>?_,S.len,P.tab,P.nt⟩
   .let h3:∃w,δ.mu[k]?=U (U w):=by
     rcases gz k ov e3 with⟨i,ko,hi,rfl,_⟩|⟨_,q⟩
     .exact⟨_,(b i ko hi).1⟩
     .exact⟨_,q⟩
    let h4:∃w,δ.mu[l]?=U (U w):=by
     rcases gz l ow e4 with⟨i,ko,hi,rfl,_⟩|⟨_,q⟩
     .exact⟨_,(b i ko hi).1⟩
     .exact⟨_,q⟩
    let⟨_,h3⟩:=h3;let⟨_,h4⟩:=h4;exact S.inj k l a _ _ e1 e2 h3 h4
   .rcases gz l ow e with⟨i,ko,hi,rfl,ho⟩|⟨z,q⟩
    .let⟨_,a,o,e1,e2,_,_⟩:=b i ko hi
     let⟨a',o',e3,e4,h5⟩:=P.own i ow ho;rw[e1] at e3;cases e3;exact⟨a,o',e2,e4,h5⟩
    .let⟨a,o,e1,e2,h⟩:=S.mu l ow q
     refine⟨a,o,e1,P.keep a o e2 (λy=>?_) (λt=>?_),h.same P.same⟩
     .let⟨i,e3⟩:=q0d.mp y
      let⟨_,ko,k1,k2,k3⟩:=kj i a e3;exact z ko (q0d.mpr ⟨i,k1⟩) (S.inj _ _ a _ _ k2 e1 k3 q)
     .let⟨ps,q2⟩:=aR.tb S.tab t
      rw[e2] at q2;cases q2
      exact h.kind ps Y
   .let⟨v,e1,h⟩:=S.sl i y e
    exact⟨v,e1,h.ext ex⟩
  calc fin res ows v F' H' hk ex sr ?_;let h9:=P.res
  cases res with
  |p d=>exact h9
  |n ds=>exact h9
  |t d ds=>exact h9
  |a j =>
   let⟨a,e1,e2⟩:=h9;let⟨_,ko,k1,k2,_⟩:=kj j a e1;calc⟨ko,a,k1,k2,e2⟩
end
section
variable{X:Cx}{fa:WA}{G:GD}{pos:y}
theorem BO{F1 F2 H1 H2:Hp}{bt:-O}{δ1:aM}{σ:St}{xs:-DV}{vs:-V}{r:-DV×-(Nat×OV)}{ows:-OV}{a:O}(S1:SR F1 bt δ1 σ H1)(V1:cS F1 bt xs vs)(hp:passes δ1.mu xs 0=U r)(n1:H1 a=Z):¬ Lv bt (cP δ1.mu r.2 ows) a:=λ⟨k,ov,e1,e2⟩↦by
 let c:∃ov,δ1.mu[k]?=U (U ov):=by
  by_cases y:∃ko∈r.2,ko.1=k
  .let⟨ko,jy,rfl⟩:=y
   let⟨as,_,b,_⟩:=tW S1.mu hp V1;let⟨i,hi⟩:=q0d.mp jy;exact⟨_,(b i ko hi).1⟩
  .rw[vK _ _ _ _ λko jy q=>y ⟨ko,jy,q⟩] at e2
   exact⟨_,e2⟩
 let⟨QZ,c⟩:=c;let⟨a',o,e3,e4,_⟩:=S1.mu k QZ c;rw[e1] at e3;cases e3;rw[n1] at e4;cases e4
theorem cS.length{F:Hp}{ad:-O}:∀{xs:-DV}{vs:-V},cS F ad xs vs->↑vs=↑xs
 |[],vs,h=>by let h:vs=[]:=h;rw[h];rfl
 |x::xs,vs,⟨v,r,e,_,h2⟩=>by rw[e,HB,HB,cS.length h2]
theorem tX{mu:-(Option OV)}:∀{xs:-DV}{j:Nat}{r:-DV×-(Nat×OV)},passes mu xs j=U r->↑r.1=↑xs
 |[],j,r,h=>by cases h;rfl
 |.p d::xs,j,r,h=>by
  unfold passes at h;split at h
  .rename_i r' hr;cases h;rw[HB,HB,tX hr]
  .cases h
 |.w d::xs,j,r,h=>by
  unfold passes at h;split at h
  .rename_i r' hr;cases h;rw[HB,HB,tX hr]
  .cases h
 |.o k::xs,j,r,h=>by
  unfold passes at h;split at h
  .split at h
   .rename_i r' hr;cases h;rw[HB,HB,tX hr]
   .cases h
  .cases h
section
variable{k:Nat}{f:O}{fd:FuncData}{ps:-J}{x:J}{p:y}{e:l}{es:-l}{n:Nat}
theorem Q0{E:XK}{F F1 H H1:Hp}{ad bt:-O}{δ δ1:aM}{σ:St}{K:DV->aM->Prop}{Q:VK}{xs:-DV}{vs:-V}(kk:∀x δ',K x δ'->∀v F' aN H',Ext F ad δ.mu H F' aN δ'.mu H'->SR F' aN δ' σ H'->dI F' aN x v->Q v H')(h1:match passes δ1.mu xs 0 with
 |some r=>(kQ r.2=θ/\↑r.1=n)/\G r.1 (r.2.map (·.2)) (oH δ1 r.2 K)
 |none=>False)(E1:Ext F ad δ.mu H F1 bt δ1.mu H1)(S1:SR F1 bt δ1 σ H1)(V1:cS F1 bt xs vs):oG G n (vs++[]) H1 Q E:=by
 split at h1
 .rename_i r hp
  let⟨⟨nd,hn⟩,h1⟩:=h1;rw[oo];calc Iv S1 V1 (by rw[↑V1,<-tX hp,hn]) hp nd h1 λres ows v F2 H2 hk E2 S2 fL=>?_;unfold oH at hk
  cases res with
  |p d=>exact kk _ _ hk _ _ _ _ (E1.trans E2) S2 fL
  |n ds =>
   let⟨a,us,rfl,n1,n2,n3,n4⟩:=fL;calc kk _ _ hk _ _ _ _ (E1.trans (E2.adopt (o:=.lst us) n1 n3)) (S2.adopt n3 n2 (BO (F2:=F2) (H2:=H2) S1 V1 hp n1)) ?_;show Is _ (.lst ds) _;exact⟨a,us,Y,cz,n4.same (cI n3)⟩
  |t d ds =>
   let⟨a,b,u,us,rfl,m1,m2,n1,n2,n3,n4⟩:=fL;calc kk _ _ hk _ _ _ _ (E1.trans (E2.adopt (o:=.lst us) n1 n3)) (S2.adopt n3 n2 (BO (F2:=F2) (H2:=H2) S1 V1 hp n1)) ?_;show Is _ (.tup [d,.lst ds]) _;let sm:aP F2 (upd F2 b (.lst us)):=cI n3;exact⟨a,_,Y,sm _ _ m1,u,_,Y,m2.same sm,.ref b,_,Y,⟨b,us,Y,cz,n4.same sm⟩,Y⟩
  |a j =>
   let⟨ko,a,h1,h2,h3⟩:=fL;dsimp only at hk;rw[h1] at hk;exact kk _ _ hk _ _ _ _ (E1.trans E2) S2 ⟨a,h2,h3⟩
 .calc h1.elim
theorem Q1{E:XK}:∀σ H Q,tD (aE n G fa) σ H Q->xA (oG G n) [] E (cE fa) σ H Q:=fun σ H Q ⟨F,ad,δ,K,S,q,kk⟩ ↦
 ⟨F,ad,δ,_,S,q,λxs δ1 h1 vs F1 bt H1 E1 S1 V1=>Q0 kk h1 E1 S1 V1⟩
theorem Q2{E:XK}:∀σ H Q,tD (vJ n G fa) σ H Q->xA (oG G n) [] E (cE fa) σ H Q:=fun σ H Q ⟨F,ad,δ,K,S,q,kk⟩=>by
 calc⟨F,ad,δ,_,S,q,λxs δ1 h1 vs F1 bt H1 E1 S1 V1=>?_⟩;split at h1
 .rename_i r hp
  let⟨⟨nd,hn⟩,h1⟩:=h1;rw[oo];refine Iv S1 V1 (by rw[↑V1,<-tX hp,hn]) hp nd h1 λres ows v F2 H2 hk E2 S2 fL=>?_
  cases res with
  |p d=>exact hk.elim
  |n ds =>
   let⟨a,us,rfl,n1,n2,n3,n4⟩:=fL;let oi:∀{ax},eU F2 ax (.lst ds) (.lst us):=λ{ax}=>⟨us,Y,n4⟩;calc kk _ _ hk _ _ _ _ (E1.trans (E2.c6 (ov:=.lst ds) n1 S2.cF)) (S2.c6 n3 n2 (BO (F2:=F2) (H2:=H2) S1 V1 hp n1) oi) ⟨a,?_,Y⟩;let:↑bt=↑(cP δ1.mu r.2 ows):=S2.cF;rw[<-this,Zf (Hz _),q0W];rfl
  |a j=>exact hk.elim
  |t d ds=>exact hk.elim
 .calc h1.elim
theorem Q3(Fn:cj X.prog X.w X.K X.mg X.base ft k f fd ps (oG G n))(hr:bD k X.A)(hg:Gl X x)(hm:X.mg x=U (.ref f))(hk:q09 X.K (.ref f)=θ)(hb:Binds X.K fd ps [])
  (ha:JA X (e::es) (cE fa)) (dR:b9 x:=by decide) (he:cR X e es:=by rfl) (dP:dh X pos es:=by rfl) :
  JE X (.Call (.Name x p) (e::es) [] pos) (tD (aE n G fa)):=(xB Fn hr hg hm hk hb .nil rK ha dR he dP).weak Q1
theorem Q4(Fn:cj X.prog X.w X.K X.mg X.base ft k f fd ps (oG G n))(hr:bD k X.A)(hg:Gl X x)(hm:X.mg x=U (.ref f))(hk:q09 X.K (.ref f)=θ)(hb:Binds X.K fd ps [])
  (ha:JA X (e::es) (cE fa)) (dR:b9 x:=by decide) (he:cR X e es:=by rfl) (dP:dh X pos es:=by rfl) :
  JE X (.Call (.Name x p) (e::es) [] pos) (tD (vJ n G fa)):=(xB Fn hr hg hm hk hb .nil rK ha dR he dP).weak Q2
end
end
end L2
namespace PySem
open Sem (wp)
open AutoSeq1 (wpAny_loadPart')
theorem Q5(l:O)(items:Array L)(n:Nat)(dct:Option O)(sl:Array (Option L)):
  Meets (Builtin.«enumerate.__new__» ⟨[.type "enumerate",.ref l],[]⟩) (λ_ R s=>s.heap.get? l=U {cls:=.type "tuple",dict:=dct,data:=.seq items n,slots:=sl} ∧
   R (.ok (.ret (.ref (s.heap.push {cls:=.type "tuple_iterator",data:=.fields #[.ref l,.int 0 0]}).objs.size)))
    {s with heap:=(s.heap.push {cls:=.type "tuple_iterator",data:=.fields #[.ref l,.int 0 0]}).push {cls:=.type "enumerate",data:=.fields #[.none,.bool ι,.ref ⇑s,rawInt 0,.none,.none]}}) :=
 .of_wp λprog w A R s h=>by
  let⟨hp,g,d,tk,os⟩:=s;let⟨hl,h⟩:=h;let BP:=sub_enumerate;let hL:Heap.IsTuple (q6M ⟨hp,g,d,tk,os⟩) l items:=⟨_,hl,Y,n,Y⟩
  wp_walk using q1h hl
  calc wpAny_stack_any λst=>HA ?_;split
  .rename_i c _ _ _ _ _
   cases(c==q1L "enumerate")
   .wp_walk using q1h hl,q2i hL
    exact⟨_,Y,h⟩
   .wp_walk using q1h hl,q2i hL
    exact⟨_,Y,h⟩
  .wp_walk using q1h hl,q2i hL
   calc⟨_,Y,h⟩
section
variable{prog:t}{w:S}{A:o}{E:bA}{s:B}
theorem Q6{l:O}{items:Array L}{Q:bA}(hL:s.heap.IsTuple l items)
  (h:∀h',IsEnum h' (⇑s+1) ⇑s 0 .none->h'.IsTupleIter ⇑s l 0->h'.objs.size=⇑s+2 →
   (∀b o,s.heap.get? b=U o->h'.get? b=U o)->Q (.ref (⇑s+1)) {s with heap:=h'}) :
  M (g prog w) A (call (.type "enumerate") [.ref l]) Q E s:=by
 let⟨⟨c,dct,dt,sl⟩,hl,hc,n,hd⟩:=hL;subst hc hd
 refine callType_new F.called_enumerate (by decide) (F.typeCall_enumerate_1 _) (F.newCall_enumerate_1 _) (λobj=>F.args_object_init_2 obj _) F.entry_enumerate_new
  (Q5 l items n dct sl) ⟨hl,?_⟩
 let hz:(s.heap.push {cls:=.type "tuple_iterator",data:=.fields #[.ref l,.int 0 0]}).objs.size=⇑s+1:=q0T ..;rw[hz]
 let he:IsEnum ((s.heap.push {cls:=.type "tuple_iterator",data:=.fields #[.ref l,.int 0 0]}).push
   {cls:=.type "enumerate",data:=.fields #[.none,.bool ι,.ref ⇑s,rawInt 0,.none,.none]}) (⇑s+1) ⇑s 0 .none:=by
  let:=Zg (s.heap.push {cls:=.type "tuple_iterator",data:=.fields #[.ref l,.int 0 0]})
   (o:={cls:=.type "enumerate",data:=.fields #[.none,.bool ι,.ref ⇑s,rawInt 0,.none,.none]}) Y
  rw[hz] at this;exact this
 calc⟨⟨_,he,Y⟩,h _ he ⟨_,u7 _ (Zg _ Y),Y,Y⟩ (by rw[q0T,hz]) λb o x=>u7 _ (u7 _ x)⟩
theorem Q7{it l:O}{i:Nat}{items:Array L}{x:L}{Q:bA}(hit:s.heap.IsTupleIter it l i)(hl:s.heap.IsTuple l items)(hx:items[i]?=U x)
  (hQ:∀h',h'.IsTupleIter it l (i+1)->q2E it s.heap h'->Q x {s with heap:=h'}):M (g prog w) A (q1z (.ref it)) Q E s:=by
 let⟨o,ho,hc,hd⟩:=id hit;let⟨ol,BQ,_,nl,BR⟩:=hl;let nn:¬ ((q0F l==q0y)=θ):=q0z;calc rH (q07 (name:=q0V "__next__") hit.typeIs q2j (q08 q2j hit.typeIs q3J ?_ (q3C _)));show M _ _ (field (.ref it) 0 >>= _) _ _ s;calc rH (q1C ho hd (x:=.ref l) Y ?_);calc rH (q1C ho hd (x:=.int i 0) Y ?_);calc rH (q1D BQ BR ?_);erw[q0s,hx];calc rH (q3d ho hd (by simp) (HA ⟨x,Y,HA (hQ _ ⟨_,q0U _ ho (q3k (q2f hd _)),(q37 ..).trans hc,?_⟩ (q0L ..))⟩));rw[q2f hd];simp[rawInt]
theorem Q8{it l:O}{i:Nat}{items:Array L}{Q:bA}(hh:A.handled=Z)(hit:s.heap.IsTupleIter it l i)(hl:s.heap.IsTuple l items)(hx:items[i]?=Z)
  (hE:∀h' e,Heap.ExtBut it s.heap h'->(∃o,h'.get? e=U o/\o.cls=.type "StopIteration")->E (.ref e) {s with heap:=h'}):M (g prog w) A (q1z (.ref it)) Q E s:=by
 let⟨o,ho,hc,hd⟩:=id hit;let⟨ol,BQ,_,nl,BR⟩:=hl;let nn:¬ ((q0F l==q0y)=θ):=q0z;calc rH (q07 (name:=q0V "__next__") hit.typeIs q2j (q08 q2j hit.typeIs q3J ?_ (q3C _)));show M _ _ (field (.ref it) 0 >>= _) _ _ s;calc rH (q1C ho hd (x:=.ref l) Y ?_);calc rH (q1C ho hd (x:=.int i 0) Y ?_);calc rH (q1D BQ BR ?_);erw[q0s,hx];calc rH (q3p (rH (q3d ho hd (by simp) ?_)));calc rH ?_;calc rH (m:=firstArgMember _ _) (q5l (a:=q0y) (by first|rfl|(erw[firstArgMember];rfl)) (q1A ?_ (by size_fits)));refine rH (q7z ?_)
 first|rw[show A.in1.handled=Z from hh]|rw[hh]
 calc rH (HA (wpAny_throw (hE _ _ (((q0L ..).extBut.push _).push _) ⟨_,Zg _ Y,Y⟩)))
theorem BS(hh:A.handled=Z)(it l:O)(gv:l≠it)(items:Array L):Draws prog w A it [it,l] items.size (λi v=>items[i]?=U v) (λi h=>h.IsTupleIter it l i/\h.IsTuple l items) where
 live:=λ_ _ st=>let⟨o,ho,_⟩:=st.1;⟨o,ho⟩
 frame:=λ_ _ _ st hk=>⟨st.1.at λo e=>hk it (by simp) o e,st.2.at λo e=>hk l (by simp) o e⟩
 item:=λi s Q E hi st hQ=>Q7 st.1 st.2 (x:=items[i]) (by simp[hi]) λh' BU xS=>hQ _ h' s.toks (by simp[hi]) ⟨BU,st.2.extBut xS.extBut gv⟩ xS
 done:=λs Q E st hE=>Q8 hh st.1 st.2 (by simp) hE
end
end PySem
namespace L2
open PySem PySem.Spec PyProof.Rows
noncomputable def vM(K:My)(a:O):It :=
 ⟨λi H=>∃xs x,b8 K H a xs/\xs[i]?=U x,λi H x H'=>∃T v,x=.ref T/\H T=Z/\H'=upd H T (.tup [.int (i:Nat),v])/\∀xs,b8 K H a xs->xs[i]?=U v,λi H=>∃xs,b8 K H a xs/\↑xs=i⟩
theorem Q9{P:t}{w:S}{K:My}{elts:-l}{x1}{tp:Ε}(a e it:O)(gv:e≠it)(Q_:a≠e)(Iw:a≠it):
  Turn P w K (.Tuple elts x1 tp) (vM K a) [e,it] e (λi h=>(∃old,IsEnum h e it (i:Nat) old)/\h.IsTupleIter it a i) where
 mem:=by simp
 obj:=λi h st b hb=>by
  let⟨⟨old,he⟩,o,hi,hc,hd⟩:=st;rcases PC.mp hb with rfl|hb
  .exact⟨_,he,λv z=>by cases z⟩
  .let z:b=it:=by simpa using hb
   subst z;exact⟨o,hi,λv z=>by rw[hd] at z;cases z⟩
 keep:=λi h h' st k=>by
  let⟨⟨old,he⟩,hi⟩:=st;exact⟨⟨old,k e (by simp) _ he⟩,hi.at λo q=>k it (by simp) o q⟩
 item:=by
  ext X hP hw hK hc i pins s σ H E I hf st hg;subst hP hw hK;let⟨⟨old,he⟩,hi⟩:=st;let⟨xs,x,hq,hx⟩:=hg;let⟨az,rv,p,hz⟩:=I.tuple hq;let⟨u,hu,ru⟩:=rv.get hx;let D:=BS (prog:=X.prog) (w:=X.w) (A:=X.A.in1) (by rw[q2h];calc I.ok.hd hc) it a Iw az.toArray;let nv:i<az.toArray.size:=by rw[PA];exact(Hy.mp hu).1
  refine wpAny_pyNext_enum_itemD D he ⟨hi,p⟩ nv gv (by simp[gv,q2b Q_]) λy h1 tk py mY vh vi hsz hk=>⟨_,Y,?_⟩
  let ey:y=u:=by
   rw[q2l,hu] at py;cases py;rfl
  subst ey;calc q3W mY λh2 xK eQ=>?_;let hT:⇑s≠e:=q1I (Ze he);let lQ:h2.get? ⇑s=U {cls:=.type "tuple",data:=.seq #[.int i tk,y]}:=(eQ.2 _ hT).trans vi
  let k2:∀b o,b∉[e,it]->s.heap.get? b=U o->h2.get? b=U o:=λb o hb q=>by
   let oq:b≠e:=λz=>hb (by simp[z]);let f6:b≠it:=λz=>hb (by simp[z]);exact(eQ.2 _ oq).trans (hk b o oq f6 q)
  let hn:H ⇑s=Z:=I.bu.fresh (Hz _);refine⟨.ref ⇑s,upd H ⇑s (.tup [.int i,x]),I.gb (ch:=[e,it]) (t':=tk+1) hf k2 (Hz _) ?_,Y,⟨_,x,Y,hn,Y,λys hy=>by rw[I.fj hy hq];calc hx⟩,⟨⟨y,?_⟩,?_⟩,λb hb=>?_⟩
  .exact⟨by show 2<=sizeLine;decide,[.int i tk,y],.cons ⟨_,Y⟩ (.cons ru .nil),_,lQ,Y,_,Y⟩
  .let e3:((i:Int)+1)=(((i+1:Nat)):Int):=by symm
   exact xK
  .exact vh.1.at λo q=>(eQ.2 _ (q2b gv)).trans q
  .let:b<⇑s:=by
    let⟨o,q,_⟩:=hi;rcases PC.mp hb with rfl|hb
    .exact Ze he
    .let z:b=it:=by simpa using hb
     subst z;exact Ze q
   rw[bF (q0b this)];exact(hf b hb).1
 done:=by
  ext X hP hw hK hc i pins s σ H E I hf st hg;subst hP hw hK;let⟨⟨old,he⟩,hi⟩:=st;let⟨xs,hq,hx⟩:=hg;let⟨az,rv,p,hz⟩:=I.tuple hq;let D:=BS (prog:=X.prog) (w:=X.w) (A:=X.A.in1) (by rw[q2h];calc I.ok.hd hc) it a Iw az.toArray;let nv:az.toArray.size=i:=by rw[PA,<-↑rv];exact hx
  calc wpAny_pyNext_enum_endD D he (by rw[nv];calc⟨hi,p⟩) λh1 eb=>⟨Y,?_⟩;let⟨f0,f1,f2,f3,f4,f5⟩:=hf it (by simp);exact I.turned (t':=s.toks) (λb o hb q=>eb b o hb q) f0 f1 f3 f4 f5
 self:=λA i s Q E st h=>by
  let⟨⟨old,he⟩,hi⟩:=st;calc q18 he h
section
variable{X:Cx}{elts:-l}{x1:Nat}{tp:y}{tg:l}
def Ra(K:My)(ta:TA):TI:=fun σ H R=>ta σ H λvs H1=>∃a,vs=[.ref a]/\(((∃xs,bU K H1 a xs)/\R (tH K a) H1)\/((∃xs,b8 K H1 a xs)/\R (vM K a) H1))
theorem Rb{a:υ}{ta:TA}{p pos:y}(hg:Gl X "enumerate")(hm:X.mg "enumerate" = Z)(ha:JA X [a] ta)(hs:starEach [a] X.env=[(ι,eval a X.env)]:=by rfl):
  JI X (.Tuple elts x1 tp) (.Call (.Name "enumerate" p) [a] [] pos) (Ra X.K ta):=by
 calc⟨?_⟩;ext pins s σ H R I h;calc Call_ (nX I hg hm HM (q1o (bL (ha pos pins s σ H _ I h) λus s1 ⟨vs,H1,I1,r1,q1⟩=>?_) hs Y));let⟨l,e,q⟩:=q1;subst e;let⟨u,rfl,rx⟩:=vals1 r1;cases rx
 let fp:∀b∈[⇑s1+1,⇑s1],b7 X pins H1 b:=λb hb=>by
  let hb':⇑s1<=b:=by
   rcases PC.mp hb with rfl|hb
   .exact q3w _
   .let z:b=⇑s1:=by simpa using hb
    rw[z];exact Hz _
  exact I1.g8 hb' (I1.bu.fresh hb')
 rcases q with⟨⟨xs,hq⟩,q⟩|⟨⟨xs,hq⟩,q⟩
 .let⟨az,rv,p,hz⟩:=I1.list hq
  calc q5v p.isList λh' he hi hsz hk=>?_;let I2:Inv X pins σ H1 {s1 with heap:=h'}:=I1.kept (t':=s1.toks) hk;calc q18 he ?_;exact⟨_,_,_,_,H1,Y,I2,HL l (⇑s1+1) ⇑s1 (q4z _),⟨⟨_,he⟩,hi⟩,fp,q⟩
 .let⟨az,rv,p,hz⟩:=I1.tuple hq
  let yd:l<⇑s1:=by let⟨o,e,_⟩:=p;exact Ze e
  calc Q6 p λh' he hi hsz hk=>?_;let I2:Inv X pins σ H1 {s1 with heap:=h'}:=I1.kept (t':=s1.toks) hk;calc q18 he ?_;calc⟨_,_,_,_,H1,Y,I2,Q9 l (⇑s1+1) ⇑s1 (q4z _) (q0b (q0J yd)) (q0b yd),⟨⟨_,he⟩,hi⟩,fp,q⟩
def BV(K:My)(tl:TE):TI:=fun σ H R=>tl σ H λx H1=>∃a,x=.ref a/\(((∃xs,bU K H1 a xs)/\R (GP K a) H1)\/((∃xs,b8 K H1 a xs)/\R (GQ K a) H1))
theorem Rc{l:υ}{tl:TE}(hl:JE X l tl):JI X tg l (BV X.K tl):=by
 calc⟨?_⟩;ext pins s σ H R I h;calc bL (hl pins s σ H _ I h) λv s1 ⟨x,H1,I1,r1,q1⟩=>?_;let⟨a,e,q⟩:=q1;subst e;cases r1
 let fp:∀b∈[⇑s1],b7 X pins H1 b:=λb hb=>by
  let e:b=⇑s1:=by simpa using hb
  subst e;exact I1.g8 (Hz _) (I1.bu.fresh (Hz _))
 rcases q with⟨⟨xs,hq⟩,q⟩|⟨⟨xs,hq⟩,q⟩
 .let⟨az,rv,p,hz⟩:=I1.list hq
  exact q1X p.isList ⟨⇑s1,[⇑s1],_,_,H1,Y,I1.kept (t':=s1.toks) λb o e=>u7 _ e,N7 a _,⟨_,Zg _ Y,Y,Y⟩,fp,q⟩
 .let⟨az,rv,p,hz⟩:=I1.tuple hq
  calc q2i (show s1.heap.IsTuple a az.toArray from p) ⟨⇑s1,[⇑s1],_,_,H1,Y,I1.kept (t':=s1.toks) λb o e=>u7 _ e,N8 a _,⟨_,Zg _ Y,Y,Y⟩,fp,q⟩
end
variable[aR]
noncomputable def dm(lo:Int)(n:Nat):-D:=(q0x n).map λi:Nat=>D.int (lo+i)
noncomputable def jz:Nat->-D->-D
 |_,[]=>[]
 |i,d::r=>.tup [.int i,d]::jz (i+1) r
noncomputable def c7:-D->-D->-D
 |a::r,b::s=>.tup [a,b]::c7 r s
 |_,_=>[]
def qt(x:DV)(δ:aM)(K:oC->Prop):Prop:=match x with
 |.p (.lst ds)=>K ⟨ds,λ_=>True⟩
 |.p (.tup ds)=>K ⟨ds,λ_=>True⟩
 |.o k=>match δ.mu[k]? with
  |some (some (.lst ds))=>K ⟨ds,fun δ'=>δ'.mu[k]?=U (U (.lst ds))⟩
  |some (some (.al a ds))=>K ⟨ds,fun δ'=>δ'.mu[k]?=U (U (.al a ds))⟩
  |_=>False
 |_=>False
def cm(f:WE):WI:=fun δ K=>f δ λx δ1=>qt x δ1 λit=>K it δ1
def me(fa:WA):WI:=fun δ K=>fa δ λxs δ1=>match xs with
 |[.p (.int j)]=>(-(2 ^ 62)<=j/\j<2 ^ 62)/\K ⟨dm 0 j.toNat,λ_=>True⟩ δ1
 |_=>False
def BW(fa:WA):WI:=fun δ K=>fa δ λxs δ1=>match xs with
 |[.p (.int i),.p (.int j)]=>(-(2 ^ 62)<=i/\i<2 ^ 62 /\ -(2 ^ 62)<=j/\j<2 ^ 62)/\K ⟨dm i (j-i).toNat,λ_=>True⟩ δ1
 |_=>False
def iY(fa:WA):WI:=fun δ K=>fa δ λxs δ1=>match xs with
 |[x]=>qt x δ1 λit=>K ⟨jz 0 it.items,it.bZ⟩ δ1
 |_=>False
def BX(x:DV)(δ:aM)(K:oC->Prop):Prop:=match x with
 |.p (.lst ds)=>K ⟨ds,λ_=>True⟩
 |.o k=>match δ.mu[k]? with
  |some (some (.lst ds))=>K ⟨ds,fun δ'=>δ'.mu[k]?=U (U (.lst ds))⟩
  |some (some (.al a ds))=>K ⟨ds,fun δ'=>δ'.mu[k]?=U (U (.al a ds))⟩
  |_=>False
 |_=>False
theorem oK{lo:Int}{n i:Nat}{d:D}(h:(dm lo n)[i]?=U d):i<n/\d=.int (lo+i):=by
 unfold dm at h;rw[PB] at h;let⟨j,e,rfl⟩:=q0a.mp h;let hj:=(Hy.mp e).1;rw[q00] at hj;rw[q1_ hj] at e;cases e
 calc⟨hj,Y⟩
theorem ny(lo:Int)(n:Nat):↑(dm lo n)=n:=by unfold dm;rw[Ba,q00]
theorem oM:∀(ds:-D)(i:Nat),↑(jz i ds)=↑ds
 |[],_=>Y
 |d::r,i=>by rw[jz,HB,HB,oM r]
theorem oN:∀{ds:-D}{k i:Nat}{d:D},(jz k ds)[i]?=U d->∃e,ds[i]?=U e/\d=.tup [.int ((k+i:Nat):Int),e]
 |[],k,i,d,h=>by simp[jz] at h
 |e::r,k,0,d,h=>by
  cases(show U (D.tup [.int (k:Nat),e])=U d by simpa[jz] using h)
  exact⟨e,Y,Y⟩
 |e::r,k,i+1,d,h=>by
  let⟨e',h1,h2⟩:=oN (ds:=r) (k:=k+1) (i:=i) (d:=d) (by simpa[jz] using h);calc⟨e',by simpa using h1,by rw[h2];congr 4;symm⟩
theorem Iy:∀{as bs:-D}{i:Nat}{d:D},(c7 as bs)[i]?=U d->∃a b,as[i]?=U a/\bs[i]?=U b/\d=.tup [a,b]
 |[],_,i,d,h=>by simp[c7] at h
 |_::_,[],i,d,h=>by simp[c7] at h
 |a::r,b::s,0,d,h=>by
  cases(show U (D.tup [a,b])=U d by simpa[c7] using h)
  exact⟨a,b,Y,Y,Y⟩
 |a::r,b::s,i+1,d,h=>by
  let⟨x,y,h1,h2,h3⟩:=Iy (as:=r) (bs:=s) (i:=i) (d:=d) (by simpa[c7] using h);calc⟨x,y,by simpa using h1,by simpa using h2,h3⟩
theorem ye:∀(as bs:-D),↑(c7 as bs)=min ↑as bs.length
 |[],_=>by simp[c7]
 |_::_,[]=>by simp[c7]
 |a::r,b::s=>by rw[c7,HB,HB,HB,ye r s];symm
section
variable{X:Cx}{tg l a b:υ}{f:WE}{fa:WA}{F H:Hp}{ad:-O}{δ:aM}{σ:St}
theorem JI.weak{iter:υ}{w w':TI}(h:JI X tg iter w)(k:∀σ H R,w' σ H R->w σ H R):JI X tg iter w':=⟨λpins s σ H R I q=>h pins s σ H R I (k σ H R q)⟩
theorem qv{ds:-D}{vs:-V}(h:af F ds vs){i:Nat}{d:D}(e:ds[i]?=U d):∃v,vs[i]?=U v/\Is F d v:=by
 let hl:=↑h;let hi:i<↑vs:=by rw[hl];exact(Hy.mp e).1
 let⟨d',e1,h1⟩:=h.get (xF hi);rw[e] at e1;cases e1;calc⟨_,xF hi,h1⟩
theorem Iz{x:DV}{v:V}{K:oC->Prop}(S:SR F ad δ σ H)(V1:dI F ad x v)(h:BX x δ K):∃a it,v=.ref a/\K it/\(∃vs,H a=U (.lst vs)) ∧
  ∀(F':Hp)(aN:-O)(δ':aM)(σ':St)(H':Hp),aP F F'->(∀(k:Nat)(a:O),ad[k]?=U a->aN[k]?=U a)->SR F' aN δ' σ' H'->it.bZ δ'->∃vs,H' a=U (.lst vs)/\af F' it.items vs:=by
 unfold BX at h;split at h
 .rename_i ds
  let V2:Is F (.lst ds) v:=V1;erw[Is] at V2;let⟨a,vs,rfl,h1,h2⟩:=V2;exact⟨a,_,Y,h,⟨vs,S.sub _ _ h1⟩,λF' aN δ' σ' H' s _ S' _=>⟨vs,S'.sub _ _ (s _ _ h1),h2.same s⟩⟩
 .rename_i k
  split at h
  .rename_i ds e
   let⟨a,e1,rfl⟩:=V1;let⟨a',o,e2,e3,vs,rfl,h4⟩:=S.mu k _ e;rw[e1] at e2;cases e2;calc⟨a,_,Y,h,⟨vs,e3⟩,λF' aN δ' σ' H' _ pre S' ck=>?_⟩;let⟨Rf,o,e5,e6,ws,rfl,h7⟩:=S'.mu k _ ck;rw[pre k a e1] at e5;cases e5;exact⟨ws,e6,h7⟩
  .rename_i b ds e
   let⟨a,e1,rfl⟩:=V1;let⟨a',o,e2,e3,z,vs,rfl,h4⟩:=S.mu k _ e;rw[e1] at e2;cases e2;calc⟨a,_,Y,h,⟨vs,e3⟩,λF' aN δ' σ' H' _ pre S' ck=>?_⟩;let⟨Rf,o,e5,e6,_,ws,rfl,h7⟩:=S'.mu k _ ck;rw[pre k a e1] at e5;cases e5;exact⟨ws,e6,h7⟩
  .exact h.elim
 .calc h.elim
theorem BY{x:DV}{v:V}{K:oC->Prop}(S:SR F ad δ σ H)(V1:dI F ad x v)(h:qt x δ K):∃a it,v=.ref a/\K it ∧
  (((∃vs,H a=U (.lst vs))/\∀(F':Hp)(aN:-O)(δ':aM)(σ':St)(H':Hp),aP F F'->(∀(k:Nat)(a:O),ad[k]?=U a->aN[k]?=U a)->SR F' aN δ' σ' H'->it.bZ δ'->∃vs,H' a=U (.lst vs)/\af F' it.items vs) ∨
  ((∃vs,H a=U (.tup vs))/\∀(F':Hp)(aN:-O)(δ':aM)(σ':St)(H':Hp),aP F F'->(∀(k:Nat)(a:O),ad[k]?=U a->aN[k]?=U a)->SR F' aN δ' σ' H'->it.bZ δ'->∃vs,H' a=U (.tup vs)/\af F' it.items vs)):=by
 unfold qt at h;split at h
 .rename_i ds
  let⟨a,it,e,k,r⟩:=Iz (x:=.p (.lst ds)) S V1 h;exact⟨a,it,e,k,.inl r⟩
 .rename_i ds
  let V2:Is F (.tup ds) v:=V1;erw[Is] at V2;let⟨a,vs,rfl,h1,h2⟩:=V2;exact⟨a,_,Y,h,.inr ⟨⟨vs,S.sub _ _ h1⟩,λF' aN δ' σ' H' s _ S' _=>⟨vs,S'.sub _ _ (s _ _ h1),h2.same s⟩⟩⟩
 .rename_i k
  let⟨a,it,e,k,r⟩:=Iz (x:=.o k) S V1 h;exact⟨a,it,e,k,.inl r⟩
 .calc h.elim
theorem yf(hl:JE X l (tD f)):JI X tg l (kh (cm f)):=(Rc hl).weak fun σ H R ⟨F,ad,δ,K,S,q,k⟩=>⟨F,ad,δ,_,S,q,λx δ1 h1 v F1 bt H1 E1 S1 V1=>by
 let⟨a,it,rfl,hk,r⟩:=BY S1 V1 h1;calc⟨a,Y,?_⟩;rcases r with⟨⟨vs,e⟩,r⟩|⟨⟨vs,e⟩,r⟩
 .refine .inl ⟨⟨vs,bU.of e⟩,k _ _ hk _ _ _ _ E1 S1 λF' aN δ' σ' H' s pre S' ck=>?_⟩
  let⟨ws,e1,e2⟩:=r F' aN δ' σ' H' s pre S' ck;calc⟨⟨ws,bU.of e1,by rw[↑e2];calc Hz _⟩,λi d ed=>?_⟩;let⟨w,e3,e4⟩:=qv e2 ed;calc⟨⟨ws,w,bU.of e1,e3⟩,λy lA ⟨eh,hy⟩=>?_⟩;subst eh;calc⟨λ_ _ e=>e,?_⟩;let:=hy ws (bU.of e1);rw[e3] at this;cases this;rw[Nw.refl S'.sub];exact e4
 .refine .inr ⟨⟨vs,b8.of e⟩,k _ _ hk _ _ _ _ E1 S1 λF' aN δ' σ' H' s pre S' ck=>?_⟩
  let⟨ws,e1,e2⟩:=r F' aN δ' σ' H' s pre S' ck;calc⟨⟨ws,b8.of e1,by rw[↑e2];calc Hz _⟩,λi d ed=>?_⟩;let⟨w,e3,e4⟩:=qv e2 ed;calc⟨⟨ws,w,b8.of e1,e3⟩,λy lA ⟨eh,hy⟩=>?_⟩;subst eh;calc⟨λ_ _ e=>e,?_⟩;let:=hy ws (b8.of e1);rw[e3] at this;cases this
  rw[Nw.refl S'.sub];calc e4⟩
theorem BZ{F H:Hp}{T:O}{d e:D}{x y:V}(s:aP F H)(hT:H T=Z)(h1:Is F d x)(h2:Is F e y):Is (Nw F H (upd H T (.tup [x,y]))) (.tup [d,e]) (.ref T):=by
 rw[Nw.upd s hT]
 let hF:F T=Z:=by
  cases q:F T with
  |none=>rfl
  |some u=>rw[s T u q] at hT;cases hT
 let sm:aP F (upd F T (.tup [x,y])):=cI hF;erw[Is];calc⟨T,_,Y,cz,.cons (h1.same sm) (.cons (h2.same sm) .nil)⟩
theorem yg{elts:-υ}{x1:Nat}{tp p pos:Ε}(hg:Gl X "enumerate")(hm:X.mg "enumerate" = Z)(ha:JA X [a] (cE fa))(hs:starEach [a] X.env=[(ι,eval a X.env)]:=by rfl):
  JI X (.Tuple elts x1 tp) (.Call (.Name "enumerate" p) [a] [] pos) (kh (iY fa)):=(Rb hg hm ha hs).weak fun σ H R ⟨F,ad,δ,K,S,q,k⟩=>⟨F,ad,δ,_,S,q,λxs δ1 h1 vs F1 bt H1 E1 S1 V1=>by
 match xs,h1,V1 with
 |[x],g1,⟨v,r,e,W1,W2⟩ =>
  subst e;let W3:r=[]:=W2;subst W3;let⟨a,it,rfl,hk,r⟩:=BY S1 W1 g1;calc⟨a,Y,?_⟩;rcases r with⟨⟨vs,e⟩,r⟩|⟨⟨vs,e⟩,r⟩
  .refine .inl ⟨⟨vs,bU.of e⟩,k _ _ hk _ _ _ _ E1 S1 λF' aN δ' σ' H' s pre S' ck=>?_⟩
   let⟨ws,e1,e2⟩:=r F' aN δ' σ' H' s pre S' ck;calc⟨⟨ws,bU.of e1,by rw[↑e2,oM];calc Hz _⟩,λi d ed=>?_⟩;let⟨d',B1,rfl⟩:=oN ed;let⟨w,e3,e4⟩:=qv e2 B1;calc⟨⟨ws,w,bU.of e1,e3⟩,λy lA ⟨T,v,ey,hT,eh,hy⟩=>?_⟩;subst eh ey;let:=hy ws (bU.of e1);rw[e3] at this;cases this;calc⟨cI hT,?_⟩;rw[q0A];exact BZ S'.sub hT Y e4
  .refine .inr ⟨⟨vs,b8.of e⟩,k _ _ hk _ _ _ _ E1 S1 λF' aN δ' σ' H' s pre S' ck=>?_⟩
   let⟨ws,e1,e2⟩:=r F' aN δ' σ' H' s pre S' ck;calc⟨⟨ws,b8.of e1,by rw[↑e2,oM]⟩,λi d ed=>?_⟩;let⟨d',B1,rfl⟩:=oN ed;let⟨w,e3,e4⟩:=qv e2 B1;calc⟨⟨ws,w,b8.of e1,e3⟩,λy lA ⟨T,v,ey,hT,eh,hy⟩=>?_⟩;subst eh ey;let:=hy ws (b8.of e1);rw[e3] at this;cases this;calc⟨cI hT,?_⟩;rw[q0A];exact BZ S'.sub hT Y e4
 |[],h1,_=>exact h1.elim
 |_::_::_,h1,_=>calc h1.elim⟩
theorem IA{F1:Hp}{bt:-O}{lo:Int}{n:Nat}:rV F1 bt ⟨dm lo n,λ_=>True⟩ (uS lo n):=λF' aN δ' σ' H' s pre S' _=>by
 calc⟨by show n<=↑(dm lo n);rw[ny];calc Hz _,λi d ed=>?_⟩;let⟨hi,rfl⟩:=oK ed;calc⟨hi,λx lA ⟨eh,ex⟩=>?_⟩;subst eh ex;calc⟨λ_ _ e=>e,Y⟩
theorem yh{p pos:y}(hg:Gl X "range")(hm:X.mg "range" = Z)(ha:JA X [a] (cE fa))(hs:starEach [a] X.env=[(ι,eval a X.env)]:=by rfl):JI X tg (.Call (.Name "range" p) [a] [] pos) (kh (me fa)) :=
 (Ob hg hm ha hs).weak fun σ H R ⟨F,ad,δ,K,S,q,k⟩↦⟨F,ad,δ,_,S,q,λxs δ1 h1 vs F1 bt H1 E1 S1 V1=>by
  split at h1
  .rename_i j
   let⟨v,r,e,V1,V2⟩:=V1;let V2:r=[]:=V2;let V1:v=.int j:=V1;subst V2 V1 e;exact⟨j,Y,h1.1.1,h1.1.2,k _ _ h1.2 _ _ _ _ E1 S1 IA⟩
  .calc h1.elim⟩
theorem Rg{p pos:y}(hg:Gl X "range")(hm:X.mg "range" = Z)(ha:JA X [a,b] (cE fa))(hs:starEach [a,b] X.env=[(ι,eval a X.env),(ι,eval b X.env)]:=by rfl)(eQ:starEach [b] X.env=[(ι,eval b X.env)]:=by rfl):
  JI X tg (.Call (.Name "range" p) [a,b] [] pos) (kh (BW fa)) :=
 (Oc hg hm ha hs eQ).weak fun σ H R ⟨F,ad,δ,K,S,q,k⟩↦⟨F,ad,δ,_,S,q,λxs δ1 h1 vs F1 bt H1 E1 S1 V1=>by
  split at h1
  .rename_i i j
   let⟨v,r,e,V1,w,r2,e2,V2,V3⟩:=V1;let V3:r2=[]:=V3;let V1:v=.int i:=V1;let V2:w=.int j:=V2;subst V3 V1 V2 e2 e;exact⟨i,j,Y,h1.1,k _ _ h1.2 _ _ _ _ E1 S1 IA⟩
  .calc h1.elim⟩
end
end L2
namespace L2
open PySem PySem.Spec PyProof.Rows
mutual
noncomputable def dEq:D->D->Bool
 |.non,.non=>θ
 |.bl a,.bl b=>a==b
 |.bl a,.int b=>(if a then 1 else 0)==b
 |.int a,.bl b=>a==(if b then 1 else 0)
 |.int a,.int b=>a==b
 |.str a,.str b=>a==b
 |.tup a,.tup b=>dq a b
 |.lst a,.lst b=>dq a b
 |_,_=>ι
noncomputable def dq:-D->-D->Bool
 |[],[]=>θ
 |a::r,b::s=>dEq a b&&dq r s
 |_,_=>ι
end
mutual
theorem gF:∀d:D,dEq d d=θ
 |.non=>by simp[dEq]
 |.bl a=>by simp[dEq]
 |.int a=>by simp[dEq]
 |.str a=>by simp[dEq]
 |.tup a=>by erw[dEq];exact B3 a
 |.lst a=>by erw[dEq];calc B3 a
theorem B3:∀ds:-D,dq ds ds=θ
 |[]=>by simp[dq]
 |d::r=>by erw[dq,gF d,B3 r,q5G]
end
mutual
theorem Is.inj {H:Hp}:∀{d e:D}{v:V},Is H d v->Is H e v->d=e
 |.non,e,v,h,q=>by cases e<;>erw[Is] at h q<;>first|rfl|(subst h;first|(let⟨_,_,z,_⟩:=q;cases z;done)|(cases q;done)|(cases q;rfl))
 |.bl a,e,v,h,q=>by cases e<;>erw[Is] at h q<;>(subst h;first|(let⟨_,_,z,_⟩:=q;cases z;done)|(cases q;done)|(cases q;rfl))
 |.int a,e,v,h,q=>by cases e<;>erw[Is] at h q<;>(subst h;first|(let⟨_,_,z,_⟩:=q;cases z;done)|(cases q;done)|(cases q;rfl))
 |.str a,e,v,h,q=>by cases e<;>erw[Is] at h q<;>(subst h;first|(let⟨_,_,z,_⟩:=q;cases z;done)|(cases q;done)|(cases q;rfl))
 |.tup a,e,v,h,q=>by
  erw[Is] at h;let⟨p,vs,rfl,h1,h2⟩:=h
  cases e with
  |tup b =>
   erw[Is] at q;let⟨p',ws,z,q1,q2⟩:=q;cases z
   rw[h1] at q1;cases q1;rw[af.inj h2 q2]
  |lst b =>
   erw[Is] at q;let⟨p',ws,z,q1,q2⟩:=q;cases z
   rw[h1] at q1;cases q1
  |non=>erw[Is] at q;cases q
  |bl _=>erw[Is] at q;cases q
  |int _=>erw[Is] at q;cases q
  |str _=>erw[Is] at q;cases q
 |.lst a,e,v,h,q=>by
  erw[Is] at h;let⟨p,vs,rfl,h1,h2⟩:=h
  cases e with
  |lst b =>
   erw[Is] at q;let⟨p',ws,z,q1,q2⟩:=q;cases z
   rw[h1] at q1;cases q1;rw[af.inj h2 q2]
  |tup b =>
   erw[Is] at q;let⟨p',ws,z,q1,q2⟩:=q;cases z
   rw[h1] at q1;cases q1
  |non=>erw[Is] at q;cases q
  |bl _=>erw[Is] at q;cases q
  |int _=>erw[Is] at q;cases q
  |str _=>erw[Is] at q;cases q
theorem af.inj {H:Hp}:∀{ds es:-D}{vs:-V},af H ds vs->af H es vs->ds=es
 |[],es,vs,h,q=>by
  erw[af] at h;subst h
  cases es with
  |nil=>rfl
  |cons _ _=>erw[af] at q;let⟨_,_,z,_⟩:=q;cases z
 |d::ds,es,vs,h,q=>by
  erw[af] at h;let⟨v,r,rfl,h1,h2⟩:=h
  cases es with
  |nil=>erw[af] at q;cases q
  |cons e es =>
   erw[af] at q;let⟨v',r',z,q1,q2⟩:=q;cases z
   rw[Is.inj h1 q1,af.inj h2 q2]
end
theorem vN:∀{ds es:-D},↑ds≠↑es->dq ds es=ι
 |[],[],h=>absurd Y h
 |[],_::_,_=>by simp[dq]
 |_::_,[],_=>by simp[dq]
 |d::r,e::s,h=>by erw[dq];rw[vN (λz=>h (by rw[HB,HB,z])),q7i]
noncomputable def rZ(ds es:-D)(j:Nat):Bool:=match ds[j]?,es[j]? with
 |some a,some b=>dEq a b
 |_,_=>θ
theorem vO:∀{ds es:-D},↑ds=↑es->(q0x ↑ds).all (rZ ds es)=dq ds es
 |[],[],_=>by simp[dq]
 |[],_::_,h=>by simp at h
 |_::_,[],h=>by simp at h
 |d::r,e::s,h=>by
  let ih:=vO (ds:=r) (es:=s) h⁻¹;rw[HB,List.range_succ_eq_map,List.all_cons,List.all_map];erw[dq];rw[<-ih];rfl
section
variable{X:Cx}{pins:aL}{σ:St}{H:Hp}{s:B}
theorem vP{vs:-V}{az:-L}(r:Vals vs az){j:Nat}(h:j<az.toArray.size):∃v,vs[j]?=U v/\RelV v az.toArray[j]:=by
 let hj:j<↑az:=by simpa using h
 let hv:j<↑vs:=by rw[↑r];exact hj
 let⟨u,e,ru⟩:=r.get (xF hv)
 let:az.toArray[j]=u:=by
  let:=(Hy.mp e).2;simpa using this
 rw[this];calc⟨_,xF hv,ru⟩
theorem d4(I:Inv X pins σ H s){a:O}{vs:-V}(h:H a=U (.lst vs)):∃az:-L,Vals vs az/\s.heap.IsList a az.toArray:=by
 let⟨az,r,p,_⟩:=I.list (bU.of h);calc⟨az,r,p.isList⟩
theorem d5(I:Inv X pins σ H s){a:O}{vs:-V}(h:H a=U (.tup vs)):∃az:-L,Vals vs az/\s.heap.IsTuple a az.toArray:=by
 let⟨az,r,p,_⟩:=I.tuple (b8.of h);calc⟨az,r,p⟩
theorem in1_units(A:o):A.in1.units=A.units+1:=rfl
theorem B4(I:Inv X pins σ H s):∀(n:Nat){A:o}{d e:D}{v u:V}{x y:L},dep d<=n->A.units+n<cLine->Is H d v->Is H e u->RelV v x->RelV u y->q4L A s x y (dEq d e)/\q7m A s x y (dEq d e):=by
 ext n
 induction n with
 |zero =>
  ext A d e v u x y hd hu hv hw rv ru;let nz:A.units<cLine:=by symm
  cases d with
  |tup ds=>simp[dep] at hd
  |lst ds=>simp[dep] at hd
  |non =>
   cases(show v=.non from hv);cases rv
   cases e with
   |non=>cases(show u=.non from hw);cases ru;erw[dEq];exact⟨q42 _,SeqAt.RcAt.none_none⟩
   |bl b=>cases(show u=.bl b from hw);cases ru;erw[dEq];exact⟨SeqAt.EqAt.none_bool _,SeqAt.RcAt.none_bool _⟩
   |int b=>cases(show u=.int b from hw);let⟨t,rfl⟩:=ru;erw[dEq];exact⟨SeqAt.EqAt.none_int _ _,SeqAt.RcAt.none_int _ _⟩
   |str b=>cases(show u=.str b from hw);let⟨t,rfl⟩:=ru;erw[dEq];exact⟨SeqAt.EqAt.none_str _ _,SeqAt.RcAt.none_str _ _⟩
   |tup es=>erw[Is] at hw;let⟨a,vs,rfl,h1,_⟩:=hw;cases ru;let⟨_,_,p⟩:=d5 I h1;erw[dEq];exact⟨SeqAt.EqAt.none_tuple p nz,SeqAt.RcAt.none_tuple p nz⟩
   |lst es=>erw[Is] at hw;let⟨a,vs,rfl,h1,_⟩:=hw;cases ru;let⟨_,_,p⟩:=d4 I h1;erw[dEq];exact⟨SeqAt.EqAt.none_list p nz,SeqAt.RcAt.none_list p nz⟩
  |bl b0 =>
   cases(show v=.bl b0 from hv);cases rv
   cases e with
   |non=>cases(show u=.non from hw);cases ru;erw[dEq];exact⟨SeqAt.EqAt.bool_none _,SeqAt.RcAt.bool_none _⟩
   |bl b=>cases(show u=.bl b from hw);cases ru;erw[dEq];exact⟨SeqAt.EqAt.bool_bool _ _,SeqAt.RcAt.bool_bool _ _⟩
   |int b=>cases(show u=.int b from hw);let⟨t,rfl⟩:=ru;erw[dEq];exact⟨SeqAt.EqAt.bool_int _ _ _,SeqAt.RcAt.bool_int _ _ _⟩
   |str b=>cases(show u=.str b from hw);let⟨t,rfl⟩:=ru;erw[dEq];exact⟨SeqAt.EqAt.bool_str _ _ _,SeqAt.RcAt.bool_str _ _ _⟩
   |tup es=>erw[Is] at hw;let⟨a,vs,rfl,h1,_⟩:=hw;cases ru;let⟨_,_,p⟩:=d5 I h1;erw[dEq];exact⟨SeqAt.EqAt.bool_tuple _ p nz,SeqAt.RcAt.bool_tuple _ p nz⟩
   |lst es=>erw[Is] at hw;let⟨a,vs,rfl,h1,_⟩:=hw;cases ru;let⟨_,_,p⟩:=d4 I h1;erw[dEq];exact⟨SeqAt.EqAt.bool_list _ p nz,SeqAt.RcAt.bool_list _ p nz⟩
  |int b0 =>
   cases(show v=.int b0 from hv);let⟨t0,rfl⟩:=rv
   cases e with
   |non=>cases(show u=.non from hw);cases ru;erw[dEq];exact⟨SeqAt.EqAt.int_none _ _,SeqAt.RcAt.int_none _ _⟩
   |bl b=>cases(show u=.bl b from hw);cases ru;erw[dEq];exact⟨SeqAt.EqAt.int_bool _ _ _,SeqAt.RcAt.int_bool _ _ _⟩
   |int b=>cases(show u=.int b from hw);let⟨t,rfl⟩:=ru;erw[dEq];exact⟨q5S _ _ _ _,SeqAt.RcAt.int_int _ _ _ _⟩
   |str b=>cases(show u=.str b from hw);let⟨t,rfl⟩:=ru;erw[dEq];exact⟨q5P _ _ _ _,SeqAt.RcAt.int_str _ _ _ _⟩
   |tup es=>erw[Is] at hw;let⟨a,vs,rfl,h1,_⟩:=hw;cases ru;let⟨_,_,p⟩:=d5 I h1;erw[dEq];exact⟨SeqAt.EqAt.int_tuple _ _ p nz,SeqAt.RcAt.int_tuple _ _ p nz⟩
   |lst es=>erw[Is] at hw;let⟨a,vs,rfl,h1,_⟩:=hw;cases ru;let⟨_,_,p⟩:=d4 I h1;erw[dEq];exact⟨SeqAt.EqAt.int_list _ _ p nz,SeqAt.RcAt.int_list _ _ p nz⟩
  |str b0 =>
   cases(show v=.str b0 from hv);let⟨t0,rfl⟩:=rv
   cases e with
   |non=>cases(show u=.non from hw);cases ru;erw[dEq];exact⟨SeqAt.EqAt.str_none _ _,SeqAt.RcAt.str_none _ _⟩
   |bl b=>cases(show u=.bl b from hw);cases ru;erw[dEq];exact⟨SeqAt.EqAt.str_bool _ _ _,SeqAt.RcAt.str_bool _ _ _⟩
   |int b=>cases(show u=.int b from hw);let⟨t,rfl⟩:=ru;erw[dEq];exact⟨q5Q _ _ _ _,SeqAt.RcAt.str_int _ _ _ _⟩
   |str b=>cases(show u=.str b from hw);let⟨t,rfl⟩:=ru;erw[dEq];exact⟨SeqAt.EqAt.str_str _ _ _ _,SeqAt.RcAt.str_str _ _ _ _⟩
   |tup es=>erw[Is] at hw;let⟨a,vs,rfl,h1,_⟩:=hw;cases ru;let⟨_,_,p⟩:=d5 I h1;erw[dEq];exact⟨SeqAt.EqAt.str_tuple _ _ p nz,SeqAt.RcAt.str_tuple _ _ p nz⟩
   |lst es=>erw[Is] at hw;let⟨a,vs,rfl,h1,_⟩:=hw;cases ru;let⟨_,_,p⟩:=d4 I h1;erw[dEq];exact⟨SeqAt.EqAt.str_list _ _ p nz,SeqAt.RcAt.str_list _ _ p nz⟩
 |succ n ih =>
  ext A d e v u x y hd hu hv hw rv ru;let nz:A.units<cLine:=by symm
  let step:∀{ds es:-D}{vs us:-V}{az bO:-L}(r1:Vals vs az)(r2:Vals us bO),bT ds<=n->af H ds vs->af H es us →
    ∀(j:Nat)(h1:j<az.toArray.size)(h2:j<bO.toArray.size),q4L A.in1 s az.toArray[j] bO.toArray[j] (rZ ds es j):=λ{ds es vs us az bO} r1 r2 hl i1 i2 j h1 h2=>by
   let⟨v1,e1,q1⟩:=vP r1 h1;let⟨v2,e2,q2⟩:=vP r2 h2;let⟨d1,f1,g1⟩:=i1.get e1;let⟨d2,f2,g2⟩:=i2.get e2;unfold rZ;rw[f1,f2];exact(ih (q0w (Bo f1) hl) (by rw[in1_units];symm) g1 g2 q1 q2).1
  cases d with
  |tup ds =>
   let hl:bT ds<=n:=by erw[dep] at hd;symm
   let B5:=hv;erw[Is] at hv;let⟨a,vs,rfl,h1,i1⟩:=hv;cases rv
   let⟨az,r1,p1⟩:=d5 I h1
   cases e with
   |tup es =>
    let B6:=hw;erw[Is] at hw;let⟨b,us,rfl,h2,i2⟩:=hw;cases ru
    let⟨bO,r2,p2⟩:=d5 I h2
    let rc:q7m A s (.ref a) (.ref b) (dEq (.tup ds) (.tup es)):=by
     let:=SeqAt.RcAt.tuples p1 p2 nz (step r1 r2 hl i1 i2);let l1:az.toArray.size=↑ds:=by rw[PA,<-↑r1,↑i1]
     let l2:bO.toArray.size=↑es:=by rw[PA,<-↑r2,↑i2]
     rw[l1,l2] at this
     let eb:((q0x (min ↑ds ↑es)).all (rZ ds es)&&↑ds==↑es)=dEq (.tup ds) (.tup es):=by
      erw[dEq]
      by_cases c:↑ds=↑es
      .rw[<-c,q6k,vO c];simp
      .rw[vN c];simp[c]
     rw[eb] at this;exact this
    refine⟨?_,rc⟩
    by_cases c:a=b
    .subst c
     let:=Is.inj B5 B6;rw[this,gF];exact q42 _
    .exact q5U c rc
   |lst es =>
    erw[Is] at hw;let⟨b,us,rfl,h2,i2⟩:=hw;cases ru
    let⟨bO,r2,p2⟩:=d4 I h2;erw[dEq];exact⟨SeqAt.EqAt.tuple_list p1 p2 nz,SeqAt.RcAt.tuple_list p1 p2 nz⟩
   |non=>cases(show u=.non from hw);cases ru;erw[dEq];exact⟨SeqAt.EqAt.tuple_none p1 nz,SeqAt.RcAt.tuple_none p1 nz⟩
   |bl b=>cases(show u=.bl b from hw);cases ru;erw[dEq];exact⟨SeqAt.EqAt.tuple_bool _ p1 nz,SeqAt.RcAt.tuple_bool _ p1 nz⟩
   |int b=>cases(show u=.int b from hw);let⟨t,rfl⟩:=ru;erw[dEq];exact⟨SeqAt.EqAt.tuple_int _ _ p1 nz,SeqAt.RcAt.tuple_int _ _ p1 nz⟩
   |str b=>cases(show u=.str b from hw);let⟨t,rfl⟩:=ru;erw[dEq];exact⟨SeqAt.EqAt.tuple_str _ _ p1 nz,SeqAt.RcAt.tuple_str _ _ p1 nz⟩
  |lst ds =>
   let hl:bT ds<=n:=by erw[dep] at hd;symm
   let B5:=hv;erw[Is] at hv;let⟨a,vs,rfl,h1,i1⟩:=hv;cases rv
   let⟨az,r1,p1⟩:=d4 I h1
   cases e with
   |lst es =>
    let B6:=hw;erw[Is] at hw;let⟨b,us,rfl,h2,i2⟩:=hw;cases ru
    let⟨bO,r2,p2⟩:=d4 I h2;let l1:az.toArray.size=↑ds:=by rw[PA,<-↑r1,↑i1]
    let l2:bO.toArray.size=↑es:=by rw[PA,<-↑r2,↑i2]
    let rc:q7m A s (.ref a) (.ref b) (dEq (.lst ds) (.lst es)):=by
     by_cases c:↑ds=↑es
     .let:=SeqAt.RcAt.lists p1 p2 (by rw[l1,l2];calc c) nz (step r1 r2 hl i1 i2)
      rw[l1,vO c] at this;erw[dEq];exact this
     .erw[dEq];rw[vN c]
      exact SeqAt.RcAt.lists_lengths p1 p2 (by rw[l1,l2];simpa using c) nz
    refine⟨?_,rc⟩
    by_cases c:a=b
    .subst c
     let:=Is.inj B5 B6;rw[this,gF];exact q42 _
    .exact q5U c rc
   |tup es =>
    erw[Is] at hw;let⟨b,us,rfl,h2,i2⟩:=hw;cases ru
    let⟨bO,r2,p2⟩:=d5 I h2;erw[dEq];exact⟨SeqAt.EqAt.list_tuple p1 p2 nz,SeqAt.RcAt.list_tuple p1 p2 nz⟩
   |non=>cases(show u=.non from hw);cases ru;erw[dEq];exact⟨SeqAt.EqAt.list_none p1 nz,SeqAt.RcAt.list_none p1 nz⟩
   |bl b=>cases(show u=.bl b from hw);cases ru;erw[dEq];exact⟨SeqAt.EqAt.list_bool _ p1 nz,SeqAt.RcAt.list_bool _ p1 nz⟩
   |int b=>cases(show u=.int b from hw);let⟨t,rfl⟩:=ru;erw[dEq];exact⟨SeqAt.EqAt.list_int _ _ p1 nz,SeqAt.RcAt.list_int _ _ p1 nz⟩
   |str b=>cases(show u=.str b from hw);let⟨t,rfl⟩:=ru;erw[dEq];exact⟨SeqAt.EqAt.list_str _ _ p1 nz,SeqAt.RcAt.list_str _ _ p1 nz⟩
  |non=>exact ih (by simp[dep]) ⋯ hv hw rv ru
  |bl b0=>exact ih (by simp[dep]) ⋯ hv hw rv ru
  |int b0=>exact ih (by simp[dep]) ⋯ hv hw rv ru
  |str b0=>calc ih (by simp[dep]) ⋯ hv hw rv ru
theorem Rh(I:Inv X pins σ H s){A:o}{d e:D}{v u:V}{x y:L}(hd:dep d<=60)(hu:A.units+61<cLine)(hv:Is H d v)(hw:Is H e u)(rv:RelV v x)(ru:RelV u y):SeqAt.RcNeAt A s x y (!dEq d e):=by
 let nz:A.units<cLine:=by symm
 let step:∀{ds es:-D}{vs us:-V}{az bO:-L}(r1:Vals vs az)(r2:Vals us bO),bT ds<=59->af H ds vs->af H es us →
   ∀(j:Nat)(h1:j<az.toArray.size)(h2:j<bO.toArray.size),q4L A.in1 s az.toArray[j] bO.toArray[j] (rZ ds es j):=λ{ds es vs us az bO} r1 r2 hl i1 i2 j h1 h2=>by
  let⟨v1,e1,q1⟩:=vP r1 h1;let⟨v2,e2,q2⟩:=vP r2 h2;let⟨d1,f1,g1⟩:=i1.get e1;let⟨d2,f2,g2⟩:=i2.get e2;unfold rZ;rw[f1,f2];exact(B4 I 59 (q0w (Bo f1) hl) (by rw[in1_units];symm) g1 g2 q1 q2).1
 cases d with
 |tup ds =>
  let hl:bT ds<=59:=by erw[dep] at hd;symm
  erw[Is] at hv;let⟨a,vs,rfl,h1,i1⟩:=hv;cases rv
  let⟨az,r1,p1⟩:=d5 I h1
  cases e with
  |tup es =>
   erw[Is] at hw;let⟨b,us,rfl,h2,i2⟩:=hw;cases ru
   let⟨bO,r2,p2⟩:=d5 I h2;let:=SeqAt.RcNeAt.tuples p1 p2 nz (step r1 r2 hl i1 i2);let l1:az.toArray.size=↑ds:=by rw[PA,<-↑r1,↑i1]
   let l2:bO.toArray.size=↑es:=by rw[PA,<-↑r2,↑i2]
   rw[l1,l2] at this
   let eb:((q0x (min ↑ds ↑es)).all (rZ ds es)&&↑ds==↑es)=dEq (.tup ds) (.tup es):=by
    erw[dEq]
    by_cases c:↑ds=↑es
    .rw[<-c,q6k,vO c];simp
    .rw[vN c];simp[c]
   rw[eb] at this;exact this
  |lst es=>erw[Is] at hw;let⟨b,us,rfl,h2,i2⟩:=hw;cases ru;let⟨bO,r2,p2⟩:=d4 I h2;erw[dEq];exact SeqAt.RcNeAt.tuple_list p1 p2 nz
  |non=>cases(show u=.non from hw);cases ru;erw[dEq];exact SeqAt.RcNeAt.tuple_none p1 nz
  |bl b=>cases(show u=.bl b from hw);cases ru;erw[dEq];exact SeqAt.RcNeAt.tuple_bool _ p1 nz
  |int b=>cases(show u=.int b from hw);let⟨t,rfl⟩:=ru;erw[dEq];exact SeqAt.RcNeAt.tuple_int _ _ p1 nz
  |str b=>cases(show u=.str b from hw);let⟨t,rfl⟩:=ru;erw[dEq];exact SeqAt.RcNeAt.tuple_str _ _ p1 nz
 |lst ds =>
  let hl:bT ds<=59:=by erw[dep] at hd;symm
  erw[Is] at hv;let⟨a,vs,rfl,h1,i1⟩:=hv;cases rv
  let⟨az,r1,p1⟩:=d4 I h1
  cases e with
  |lst es =>
   erw[Is] at hw;let⟨b,us,rfl,h2,i2⟩:=hw;cases ru
   let⟨bO,r2,p2⟩:=d4 I h2;let l1:az.toArray.size=↑ds:=by rw[PA,<-↑r1,↑i1]
   let l2:bO.toArray.size=↑es:=by rw[PA,<-↑r2,↑i2]
   by_cases c:↑ds=↑es
   .let:=SeqAt.RcNeAt.lists p1 p2 (by rw[l1,l2];calc c) nz (step r1 r2 hl i1 i2)
    rw[l1,vO c] at this;erw[dEq];exact this
   .erw[dEq];rw[vN c]
    exact SeqAt.RcNeAt.lists_lengths p1 p2 (by rw[l1,l2];simpa using c) nz
  |tup es=>erw[Is] at hw;let⟨b,us,rfl,h2,i2⟩:=hw;cases ru;let⟨bO,r2,p2⟩:=d5 I h2;erw[dEq];exact SeqAt.RcNeAt.list_tuple p1 p2 nz
  |non=>cases(show u=.non from hw);cases ru;erw[dEq];exact SeqAt.RcNeAt.list_none p1 nz
  |bl b=>cases(show u=.bl b from hw);cases ru;erw[dEq];exact SeqAt.RcNeAt.list_bool _ p1 nz
  |int b=>cases(show u=.int b from hw);let⟨t,rfl⟩:=ru;erw[dEq];exact SeqAt.RcNeAt.list_int _ _ p1 nz
  |str b=>cases(show u=.str b from hw);let⟨t,rfl⟩:=ru;erw[dEq];exact SeqAt.RcNeAt.list_str _ _ p1 nz
 |non =>
  cases(show v=.non from hv);cases rv
  cases e with
  |non=>cases(show u=.non from hw);cases ru;erw[dEq];exact SeqAt.RcNeAt.none_none
  |bl b=>cases(show u=.bl b from hw);cases ru;erw[dEq];exact SeqAt.RcNeAt.none_bool _
  |int b=>cases(show u=.int b from hw);let⟨t,rfl⟩:=ru;erw[dEq];exact SeqAt.RcNeAt.none_int _ _
  |str b=>cases(show u=.str b from hw);let⟨t,rfl⟩:=ru;erw[dEq];exact SeqAt.RcNeAt.none_str _ _
  |tup es=>erw[Is] at hw;let⟨a,vs,rfl,h1,_⟩:=hw;cases ru;let⟨_,_,p⟩:=d5 I h1;erw[dEq];exact SeqAt.RcNeAt.none_tuple p nz
  |lst es=>erw[Is] at hw;let⟨a,vs,rfl,h1,_⟩:=hw;cases ru;let⟨_,_,p⟩:=d4 I h1;erw[dEq];exact SeqAt.RcNeAt.none_list p nz
 |bl b0 =>
  cases(show v=.bl b0 from hv);cases rv
  cases e with
  |non=>cases(show u=.non from hw);cases ru;erw[dEq];exact SeqAt.RcNeAt.bool_none _
  |bl b=>cases(show u=.bl b from hw);cases ru;erw[dEq];exact SeqAt.RcNeAt.bool_bool _ _
  |int b=>cases(show u=.int b from hw);let⟨t,rfl⟩:=ru;erw[dEq];exact SeqAt.RcNeAt.bool_int _ _ _
  |str b=>cases(show u=.str b from hw);let⟨t,rfl⟩:=ru;erw[dEq];exact SeqAt.RcNeAt.bool_str _ _ _
  |tup es=>erw[Is] at hw;let⟨a,vs,rfl,h1,_⟩:=hw;cases ru;let⟨_,_,p⟩:=d5 I h1;erw[dEq];exact SeqAt.RcNeAt.bool_tuple _ p nz
  |lst es=>erw[Is] at hw;let⟨a,vs,rfl,h1,_⟩:=hw;cases ru;let⟨_,_,p⟩:=d4 I h1;erw[dEq];exact SeqAt.RcNeAt.bool_list _ p nz
 |int b0 =>
  cases(show v=.int b0 from hv);let⟨t0,rfl⟩:=rv
  cases e with
  |non=>cases(show u=.non from hw);cases ru;erw[dEq];exact SeqAt.RcNeAt.int_none _ _
  |bl b=>cases(show u=.bl b from hw);cases ru;erw[dEq];exact SeqAt.RcNeAt.int_bool _ _ _
  |int b=>cases(show u=.int b from hw);let⟨t,rfl⟩:=ru;erw[dEq];exact SeqAt.RcNeAt.int_int _ _ _ _
  |str b=>cases(show u=.str b from hw);let⟨t,rfl⟩:=ru;erw[dEq];exact SeqAt.RcNeAt.int_str _ _ _ _
  |tup es=>erw[Is] at hw;let⟨a,vs,rfl,h1,_⟩:=hw;cases ru;let⟨_,_,p⟩:=d5 I h1;erw[dEq];exact SeqAt.RcNeAt.int_tuple _ _ p nz
  |lst es=>erw[Is] at hw;let⟨a,vs,rfl,h1,_⟩:=hw;cases ru;let⟨_,_,p⟩:=d4 I h1;erw[dEq];exact SeqAt.RcNeAt.int_list _ _ p nz
 |str b0 =>
  cases(show v=.str b0 from hv);let⟨t0,rfl⟩:=rv
  cases e with
  |non=>cases(show u=.non from hw);cases ru;erw[dEq];exact SeqAt.RcNeAt.str_none _ _
  |bl b=>cases(show u=.bl b from hw);cases ru;erw[dEq];exact SeqAt.RcNeAt.str_bool _ _ _
  |int b=>cases(show u=.int b from hw);let⟨t,rfl⟩:=ru;erw[dEq];exact SeqAt.RcNeAt.str_int _ _ _ _
  |str b=>cases(show u=.str b from hw);let⟨t,rfl⟩:=ru;erw[dEq];exact SeqAt.RcNeAt.str_str _ _ _ _
  |tup es=>erw[Is] at hw;let⟨a,vs,rfl,h1,_⟩:=hw;cases ru;let⟨_,_,p⟩:=d5 I h1;erw[dEq];exact SeqAt.RcNeAt.str_tuple _ _ p nz
  |lst es=>erw[Is] at hw;let⟨a,vs,rfl,h1,_⟩:=hw;cases ru;let⟨_,_,p⟩:=d4 I h1;erw[dEq];calc SeqAt.RcNeAt.str_list _ _ p nz
end
variable[aR]
noncomputable def intsOf:-D->Option (-Int)
 |[]=>U []
 |.int i::r=>match intsOf r with
  |some ns=>U (i::ns)
  |none=>Z
 |_=>Z
theorem nA:∀ns:-Int,intsOf (ns.map D.int)=U ns
 |[]=>Y
 |n::r=>by show(match intsOf (r.map D.int) with|some ns=>U (n::ns)|none=>Z)=_;rw[nA r]
theorem r9:∀{ds:-D}{ns:-Int},intsOf ds=U ns->ds=ns.map D.int
 |[],ns,h=>by cases h;rfl
 |.int i::r,ns,h=>by
  unfold intsOf at h;split at h
  .rename_i ms e;cases h;rw[q0m,r9 e]
  .cases h
 |.non::r,ns,h=>by cases h
 |.bl _::r,ns,h=>by cases h
 |.str _::r,ns,h=>by cases h
 |.tup _::r,ns,h=>by cases h
 |.lst _::r,ns,h=>by cases h
theorem oO{F:Hp}:∀{ns:-Int}{vs:-V},af F (ns.map D.int) vs->vs=ns.map V.int
 |[],vs,h=>by erw[q16,af] at h;exact h
 |n::r,vs,h=>by
  erw[q0m,af] at h;let⟨v,t,rfl,h1,h2⟩:=h;let h1:v=.int n:=h1;rw[oO h2,h1];rfl
theorem tY{F:Hp}:∀{ns:-Int},af F (ns.map D.int) (ns.map V.int)
 |[]=>.nil
 |n::r=>.cons (show _=_ from Y) tY
theorem tZ{F:Hp}:∀{as bs:-D}{us vs:-V},af F as us->af F bs vs->af F (as++bs) (us++vs)
 |[],bs,us,vs,h,q=>by erw[af] at h;subst h;exact q
 |a::r,bs,us,vs,h,q=>by
  erw[af] at h;let⟨v,t,rfl,h1,h2⟩:=h;calc .cons h1 (tZ h2 q)
theorem IB{F:Hp}:∀{as:-D}{us:-V}(n:Nat),af F as us->af F (as.take n) (us.take n)
 |as,us,0,_=>by rw[q3Y,q3Y];exact .nil
 |[],us,n+1,h=>by erw[af] at h;subst h;exact .nil
 |a::r,us,n+1,h=>by
  erw[af] at h;let⟨v,t,rfl,h1,h2⟩:=h;calc .cons h1 (IB n h2)
theorem IC{F:Hp}:∀{as:-D}{us:-V}(n:Nat),af F as us->af F (as.drop n) (us.drop n)
 |as,us,0,h=>h
 |[],us,n+1,h=>by erw[af] at h;subst h;exact .nil
 |a::r,us,n+1,h=>by
  erw[af] at h;let⟨v,t,rfl,h1,h2⟩:=h;calc IC n h2
theorem ID{F:Hp}:∀{as:-D}{us:-V}(n:Nat){d:D}{v:V},af F as us->Is F d v->af F (as.set n d) (us.set n v)
 |[],us,n,d,v,h,_=>by erw[af] at h;subst h;exact .nil
 |a::r,us,0,d,v,h,q=>by
  erw[af] at h;let⟨w,t,rfl,h1,h2⟩:=h;exact .cons q h2
 |a::r,us,n+1,d,v,h,q=>by
  erw[af] at h;let⟨w,t,rfl,h1,h2⟩:=h;calc .cons h1 (ID n h2 q)
theorem IE{F:Hp}:∀{as:-D}{us:-V}(n:Nat),af F as us->af F (as.eraseIdx n) (us.eraseIdx n)
 |[],us,n,h=>by erw[af] at h;subst h;exact .nil
 |a::r,us,0,h=>by
  erw[af] at h;let⟨w,t,rfl,h1,h2⟩:=h;exact h2
 |a::r,us,n+1,h=>by
  erw[af] at h;let⟨w,t,rfl,h1,h2⟩:=h;calc .cons h1 (IE n h2)
theorem mi{F H:Hp}{p:O}{ds:-D}{vs:-V}(s:aP F H)(hp:H p=Z)(h:af F ds vs):Is (Nw F H (upd H p (.lst vs))) (.lst ds) (.ref p):=by
 rw[Nw.upd s hp];erw[Is];calc⟨p,vs,Y,cz,h.same (cI (s.free hp))⟩
theorem B7{F H:Hp}{p:O}{ds:-D}{vs:-V}(s:aP F H)(hp:H p=Z)(h:af F ds vs):Is (Nw F H (upd H p (.tup vs))) (.tup ds) (.ref p):=by
 rw[Nw.upd s hp];erw[Is];calc⟨p,vs,Y,cz,h.same (cI (s.free hp))⟩
theorem vQ{F H:Hp}{d:D}{v:V}(s:aP F H)(h:Is F d v):Is (Nw F H H) d v:=by rw[Nw.refl s];calc h
def r_:D->D->(D->Prop)->Prop
 |.int i,.int j,K=>K (.int (i+j))
 |.lst a,.lst b,K=>↑a+↑b<=1000/\K (.lst (a++b))
 |.tup a,.tup b,K=>(a≠[]/\↑a+↑b<=1000)/\K (.tup (a++b))
 |.str a,.str b,K=>↑a+↑b<=1000/\K (.str (a++b))
 |_,_,_=>False
def oI(f:Int->Int->D):D->D->(D->Prop)->Prop
 |.int i,.int j,K=>K (f i j)
 |_,_,_=>False
def e8(C:Int->Int->Prop)(f:Int->Int->D):D->D->(D->Prop)->Prop
 |.int i,.int j,K=>C i j/\K (f i j)
 |_,_,_=>False
def eV:D->D->(D->Prop)->Prop
 |.int i,.int j,K=>kF i j/\K (.int (i*j))
 |.lst a,.int j,K=>(-(2 ^ 63)<=j/\j<2 ^ 63/\↑a*j.toNat<=1000)/\K (.lst (q0f j.toNat a).flatten)
 |_,_,_=>False
section
variable{X:Cx}
theorem yi{f:L->L->Sem L}{g:Int->Int->V}{h:Int->Int->D}(op:eI X f (nZ g))(hg:∀F i j,Is F (h i j) (g i j)):fB X f (oI h):=by
 ext pins s σ H x y v u Q I rx ry ⟨F,d,e,K,sub,rd,re,q,md⟩;unfold oI at q;split at q
 .rename_i i j
  exact op pins s σ H x y v u Q I rx ry ⟨i,j,rd,re,md _ _ _ q (λ_ _ e=>e) (hg _ i j)⟩
 .calc q.elim
theorem B8{f:L->L->Sem L}{C:Int->Int->Prop}{g:Int->Int->V}{h:Int->Int->D}(op:eI X f (rI C g))(hg:∀F i j,Is F (h i j) (g i j)):fB X f (e8 C h):=by
 ext pins s σ H x y v u Q I rx ry ⟨F,d,e,K,sub,rd,re,q,md⟩;unfold e8 at q;split at q
 .rename_i i j
  exact op pins s σ H x y v u Q I rx ry ⟨i,j,rd,re,q.1,md _ _ _ q.2 (λ_ _ e=>e) (hg _ i j)⟩
 .calc q.elim
theorem yj:fB X (binaryOp .Add) r_:=by
 ext pins s σ H x y v u Q I rx ry ⟨F,d,e,K,sub,rd,re,q,md⟩;unfold r_ at q;split at q
 .rename_i i j
  exact GU pins s σ H x y v u Q I rx ry ⟨i,j,rd,re,md _ _ _ q (λ_ _ e=>e) Y⟩
 .rename_i as bs
  let⟨a,us,rfl,h1,h2⟩:=rd;let⟨b,ws,rfl,h3,h4⟩:=re;refine Hw pins s σ H _ _ v u Q I rx ry ⟨a,b,us,ws,Y,Y,h1,h3,lD (by rw[↑h2,↑h4];calc q.1),λp hp=>md _ _ _ q.2 (cI hp) (mi sub hp (tZ h2 h4))⟩
 .rename_i as bs
  let dA:Is F (.tup as) x:=rd;let iZ:Is F (.tup bs) y:=re;erw[Is] at dA iZ;let⟨a,us,rfl,h1,h2⟩:=dA;let⟨b,ws,rfl,h3,h4⟩:=iZ;let ne:us≠[]:=λz=>q.1.1 (q1P.mp (by rw[<-↑h2,z];rfl));calc Ph pins s σ H _ _ v u Q I rx ry ⟨a,b,us,ws,Y,Y,b8.of (sub _ _ h1),b8.of (sub _ _ h3),ne,lD (by rw[↑h2,↑h4];calc q.1.2),λz=>?_,λz p hp=>md _ _ _ q.2 (cI hp) (B7 sub hp (tZ h2 h4))⟩;let:bs=[]:=q1P.mp (by rw[<-↑h4,z];rfl);subst this;calc md _ _ _ q.2 (λ_ _ e=>e) (vQ sub ?_);rw[oo];exact rd
 .rename_i as bs
  let dA:x=.str as:=rd;let iZ:y=.str bs:=re;subst dA iZ;exact Oy pins s σ H _ _ v u Q I rx ry ⟨as,bs,Y,Y,lD q.1,md _ _ _ q.2 (λ_ _ e=>e) Y⟩
 .calc q.elim
theorem vR:fB X (binaryOp .Sub) (oI λi j=>.int (i-j)):=yi Oe λ_ _ _=>Y
theorem B9:fB X (binaryOp .Mult) eV:=by
 ext pins s σ H x y v u Q I rx ry ⟨F,d,e,K,sub,rd,re,q,md⟩;unfold eV at q;split at q
 .rename_i i j
  exact Of pins s σ H x y v u Q I rx ry ⟨i,j,rd,re,q.1,md _ _ _ q.2 (λ_ _ e=>e) Y⟩
 .rename_i as j
  let⟨a,us,rfl,h1,h2⟩:=rd;refine Pw pins s σ H _ _ v u Q I rx ry ⟨a,j,us,Y,re,h1,q.1.1,q.1.2.1,lD (by rw[↑h2];calc q.1.2.2),λp hp=>md _ _ _ q.2 (cI hp) (mi sub hp ?_)⟩
  let:∀k:Nat,af F (q0f k as).flatten (q0f k us).flatten:=λk=>by
   induction k with
   |zero=>exact .nil
   |succ k ih=>rw[q1m,q1m,q2r,q2r];exact tZ h2 ih
  exact this _
 .calc q.elim
theorem Ri:fB X (binaryOp .Mod) (e8 (λ_ j=>0<j) λi j=>.int (i%j)):=B8 Az λ_ _ _=>Y
theorem Rj:fB X (binaryOp .Pow) (e8 g_ λi j=>.int (i ^ j.toNat)):=B8 Og λ_ _ _=>Y
def oEq:D->D->(D->Prop)->Prop:=λd e K=>dep d<=60/\K (.bl (dEq d e))
def oP:D->D->(D->Prop)->Prop:=λd e K=>dep d<=60/\K (.bl (!dEq d e))
theorem nB(hu:X.A.units+64<cLine):fB X (compareOp .Eq) oEq:=by
 ext pins s σ H x y v u Q I rx ry ⟨F,d,e,K,sub,rd,re,q,md⟩;calc(B4 I 60 q.1 ⋯ (rd.is sub) (re.is sub) rx ry).2 _ _ _ _ ⟨.bl _,H,I,Y,md _ _ _ q.2 (λ_ _ e=>e) Y⟩
theorem t6(hu:X.A.units+64<cLine):fB X (compareOp .NotEq) oP:=by
 ext pins s σ H x y v u Q I rx ry ⟨F,d,e,K,sub,rd,re,q,md⟩;calc Rh I q.1 ⋯ (rd.is sub) (re.is sub) rx ry _ _ _ _ ⟨.bl _,H,I,Y,md _ _ _ q.2 (λ_ _ e=>e) Y⟩
def oLt:D->D->(D->Prop)->Prop
 |.int i,.int j,K=>K (.bl (G (i<j)))
 |.tup a,.tup b,K=>match intsOf a,intsOf b with
  |some ns,some ms=>K (.bl (HT.lexLt ns ms))
  |_,_=>False
 |_,_,_=>False
theorem B_(hu:X.A.units+64<cLine):fB X (compareOp .Lt) oLt:=by
 ext pins s σ H x y v u Q I rx ry ⟨F,d,e,K,sub,rd,re,q,md⟩;unfold oLt at q;split at q
 .rename_i i j
  exact Oh pins s σ H x y v u Q I rx ry ⟨i,j,rd,re,md _ _ _ q (λ_ _ e=>e) Y⟩
 .rename_i as bs
  split at q
  .rename_i ns ms e1 e2
   rw[r9 e1] at rd;rw[r9 e2] at re;let dA:Is F (.tup (ns.map D.int)) x:=rd;let iZ:Is F (.tup (ms.map D.int)) y:=re;erw[Is] at dA iZ;let⟨a,us,rfl,h1,h2⟩:=dA;let⟨b,ws,rfl,h3,h4⟩:=iZ;rw[oO h2] at h1;rw[oO h4] at h3;exact Pf ⋯ pins s σ H _ _ v u Q I rx ry ⟨a,b,ns,ms,Y,Y,b8.of (sub _ _ h1),b8.of (sub _ _ h3),md _ _ _ q (λ_ _ e=>e) Y⟩
  .exact q.elim
 .calc q.elim
theorem IF:fB X (compareOp .LtE) (oI λi j=>.bl (G (i<=j))):=yi Oi λ_ _ _=>Y
theorem IG:fB X (compareOp .Gt) (oI λi j=>.bl (G (j<i))):=yi Oj λ_ _ _=>Y
theorem Rk:fB X (compareOp .GtE) (oI λi j=>.bl (G (j<=i))):=yi Ol λ_ _ _=>Y
def h_:D->D->(D->Prop)->Prop
 |.non,.non,K=>K (.bl θ)
 |.bl _,.non,K=>K (.bl ι)
 |.int _,.non,K=>K (.bl ι)
 |.str _,.non,K=>K (.bl ι)
 |.tup _,.non,K=>K (.bl ι)
 |.lst _,.non,K=>K (.bl ι)
 |_,_,_=>False
theorem IH{F H:Hp}{d e:D}{x y:V}{K:D->Prop}(rd:ka F H d x)(re:ka F H e y)(q:h_ d e K):y=.non/\K (.bl (G (x=.non))):=by
 unfold h_ at q;split at q
 .let:x=.non:=rd;let h2:y=.non:=re;subst this;exact⟨h2,q⟩
 .rename_i b;let:x=.bl b:=rd;let h2:y=.non:=re;subst this;exact⟨h2,q⟩
 .rename_i b;let:x=.int b:=rd;let h2:y=.non:=re;subst this;exact⟨h2,q⟩
 .rename_i b;let:x=.str b:=rd;let h2:y=.non:=re;subst this;exact⟨h2,q⟩
 .rename_i b;let rd:Is F (.tup b) x:=rd;erw[Is] at rd;let⟨a,_,rfl,_⟩:=rd;exact⟨re,q⟩
 .rename_i b;let⟨a,_,rfl,_⟩:=rd;exact⟨re,q⟩
 .calc q.elim
def vS:D->D->(D->Prop)->Prop:=λd e K=>h_ d e λz=>match z with
 |.bl b=>K (.bl (!b))
 |_=>False
theorem Rl:fB X (compareOp .Is) h_:=by
 ext pins s σ H x y v u Q I rx ry ⟨F,d,e,K,sub,rd,re,q,md⟩;let⟨h1,h2⟩:=IH rd re q;calc Om pins s σ H x y v u Q I rx ry ⟨h1,md _ _ _ h2 (λ_ _ e=>e) Y⟩
theorem Rm:fB X (compareOp .IsNot) vS:=by
 ext pins s σ H x y v u Q I rx ry ⟨F,d,e,K,sub,rd,re,q,md⟩;let⟨h1,h2⟩:=IH rd re q;calc Oo pins s σ H x y v u Q I rx ry ⟨h1,md _ _ _ h2 (λ_ _ e=>e) Y⟩
def fX(neg:Bool):D->D->(D->Prop)->Prop
 |d,.lst es,K=>bT es<=55/\K (.bl (if neg then !(es.any λe=>dEq e d) else es.any λe=>dEq e d))
 |d,.tup es,K=>bT es<=55/\K (.bl (if neg then !(es.any λe=>dEq e d) else es.any λe=>dEq e d))
 |_,_,_=>False
noncomputable def jA(H:Hp)(d:D)(u:L):Bool:=by
 classical calc if ∃e v,Is H e v/\RelV v u/\dEq e d=θ then θ else ι
theorem II{H:Hp}{d e:D}{v:V}{u:L}(h:Is H e v)(r:RelV v u):jA H d u=dEq e d:=by
 unfold jA;split
 .rename_i z
  let⟨e',v',h',r',q⟩:=z;let:v'=v:=r'.inj r;subst this;rw[Is.inj h h'];exact q.symm
 .rename_i z
  cases q:dEq e d with
  |false=>rfl
  |true=>calc absurd ⟨e,v,h,r,q⟩ z
theorem vT{H:Hp}{d:D}:∀{es:-D}{vs:-V}{us:-L},af H es vs->Vals vs us->us.any (jA H d)=es.any λe=>dEq e d
 |[],vs,us,h,r=>by erw[af] at h;subst h;cases r;rfl
 |e::es,vs,us,h,r=>by
  erw[af] at h;let⟨v,t,rfl,h1,h2⟩:=h
  cases r with
  |cons r1 r2=>rw[q2w,q2w,II h1 r1,vT h2 r2]
theorem vU{pins:aL}{σ:St}{H:Hp}{s:B}(I:Inv X pins σ H s){A:o}(hu:A.units+60<cLine){d:D}{x:V}{w:L}(hd:Is H d x)(rd:RelV x w):∀{es:-D}{vs:-V}{us:-L},bT es<=55->af H es vs->Vals vs us->∀u∈us,q4L A s u w (jA H d u)
 |[],vs,us,_,h,r=>by erw[af] at h;subst h;cases r;ext u hu;cases hu
 |e::es,vs,us,hp,h,r=>by
  erw[af] at h;let⟨v,t,rfl,h1,h2⟩:=h;erw[bT] at hp
  cases r with
  |cons r1 r2 =>
   ext u hu';rcases PC.mp hu' with rfl|hu'
   .rw[II h1 r1];exact(B4 I 55 ⋯ ⋯ h1 hd r1 rd).1
   .calc vU I hu hd rd ⋯ h2 r2 u hu'
theorem sd(hu:X.A.units+64<cLine):fB X (compareOp .In) (fX ι):=by
 ext pins s σ H x y v u Q I rx ry ⟨F,d,e,K,sub,rd,re,q,md⟩;unfold fX at q;split at q
 .rename_i es
  let⟨a,vs,rfl,h1,h2⟩:=re;cases ry
  let⟨az,r,p⟩:=d4 I h1;let f6:=h2.same sub;calc SeqAt.in_listAt (jA H d) p (λw hw=>vU I (by rw[in1_units];symm) (rd.is sub) rx q.1 f6 r w hw⁻¹) ⟨.bl _,H,I,Y,?_⟩;rw[show az.toArray.any (jA H d)=az.any (jA H d) by simp,vT f6 r];exact md _ _ _ q.2 (λ_ _ e=>e) Y
 .rename_i es
  let iZ:Is F (.tup es) y:=re;erw[Is] at iZ;let⟨a,vs,rfl,h1,h2⟩:=iZ;cases ry
  let⟨az,r,p⟩:=d5 I (sub _ _ h1);let f6:=h2.same sub;calc SeqAt.in_tupleAt (jA H d) p (λw hw=>vU I (by rw[in1_units];symm) (rd.is sub) rx q.1 f6 r w hw⁻¹) ⟨.bl _,H,I,Y,?_⟩;rw[show az.toArray.any (jA H d)=az.any (jA H d) by simp,vT f6 r];exact md _ _ _ q.2 (λ_ _ e=>e) Y
 .calc q.elim
theorem yk(hu:X.A.units+64<cLine):fB X (compareOp .NotIn) (fX θ):=by
 ext pins s σ H x y v u Q I rx ry ⟨F,d,e,K,sub,rd,re,q,md⟩;unfold fX at q;split at q
 .rename_i es
  let⟨a,vs,rfl,h1,h2⟩:=re;cases ry
  let⟨az,r,p⟩:=d4 I h1;let f6:=h2.same sub;calc SeqAt.notIn_listAt (jA H d) p (λw hw=>vU I (by rw[in1_units];symm) (rd.is sub) rx q.1 f6 r w hw⁻¹) ⟨.bl _,H,I,Y,?_⟩;rw[show az.toArray.any (jA H d)=az.any (jA H d) by simp,vT f6 r];exact md _ _ _ q.2 (λ_ _ e=>e) Y
 .rename_i es
  let iZ:Is F (.tup es) y:=re;erw[Is] at iZ;let⟨a,vs,rfl,h1,h2⟩:=iZ;cases ry
  let⟨az,r,p⟩:=d5 I (sub _ _ h1);let f6:=h2.same sub;calc SeqAt.notIn_tupleAt (jA H d) p (λw hw=>vU I (by rw[in1_units];symm) (rd.is sub) rx q.1 f6 r w hw⁻¹) ⟨.bl _,H,I,Y,?_⟩;rw[show az.toArray.any (jA H d)=az.any (jA H d) by simp,vT f6 r];exact md _ _ _ q.2 (λ_ _ e=>e) Y
 .calc q.elim
def bz:D->D->(D->Prop)->Prop
 |.lst ds,.int i,K=>match fq ds i with
  |some d=>K d
  |none=>False
 |.tup ds,.int i,K=>match fq ds i with
  |some d=>K d
  |none=>False
 |.str z,.int i,K=>↑z<=1000/\match fq z.cps.toList i with
  |some c=>K (.str ⟨#[c]⟩)
  |none=>False
 |_,_,_=>False
theorem IJ{F:Hp}{ds:-D}{vs:-V}{i:Int}{d:D}(h:af F ds vs)(e:fq ds i=U d):∃v,fq vs i=U v/\Is F d v:=by
 unfold fq at e ⊢;rw[↑h]
 cases q:jI ↑ds i with
 |none=>rw[q] at e;cases e
 |some j =>
  rw[q] at e;calc qv h (show ds[j]?=U d from e)
theorem eN:Ik X bz:=by
 ext value slice pins s σ H x y v u Q I rx ry ⟨F,d,e,K,sub,rd,re,q,md⟩ hs;unfold bz at q;split at q
 .rename_i ds i
  split at q
  .rename_i d' e1
   let⟨a,vs,rfl,h1,h2⟩:=rd;let⟨w,e2,h3⟩:=IJ h2 e1;exact Hk value slice pins s σ H _ _ v u Q I rx ry ⟨a,vs,i,w,Y,re,bU.of h1,e2,md _ _ _ q (λ_ _ e=>e) (vQ sub h3)⟩ hs
  .exact q.elim
 .rename_i ds i
  split at q
  .rename_i d' e1
   let dA:Is F (.tup ds) x:=rd;erw[Is] at dA;let⟨a,vs,rfl,h1,h2⟩:=dA;let⟨w,e2,h3⟩:=IJ h2 e1;exact Pj value slice pins s σ H _ _ v u Q I rx ry ⟨a,vs,i,w,Y,re,b8.of (sub _ _ h1),e2,md _ _ _ q (λ_ _ e=>e) (vQ sub h3)⟩ hs
  .exact q.elim
 .rename_i z i
  let⟨hz,q⟩:=q;split at q
  .rename_i c e1
   let dA:x=.str z:=rd;subst dA;exact Pk value slice pins s σ H _ _ v u Q I rx ry ⟨z,i,c,Y,re,lD hz,e1,md _ _ _ q (λ_ _ e=>e) Y⟩ hs
  .exact q.elim
 .calc q.elim
noncomputable def cutD(ds:-D)(lo hi:Option Int):-D:=(ds.drop (HT.bP ↑ds 0 lo)).take (HT.bP ↑ds ↑ds hi-HT.bP ↑ds 0 lo)
theorem IK{F:Hp}{ds:-D}{vs:-V}(h:af F ds vs)(lo hi:Option Int):af F (cutD ds lo hi) (dH vs lo hi):=by
 unfold cutD dH;rw[↑h];calc IB _ (IC _ h)
abbrev WO:=aM->(Option Int->aM->Prop)->Prop
def ym(f:WO):TO:=fun σ H Q=>∃F ad δ K,SR F ad δ σ H/\f δ K/\∀o δ',K o δ'->∀F' aN H',Ext F ad δ.mu H F' aN δ'.mu H'->SR F' aN δ' σ H'->Q o H'
def i0:WO:=fun δ K=>K Z δ
def qw(f:WE):WO:=fun δ K=>f δ λx δ1=>match x with
 |.p (.int i)=>K (U i) δ1
 |_=>False
theorem Ca:PO X Z (ym i0):=λpins s σ H Q I ⟨F,ad,δ,K,S,q,k⟩↦He pins s σ H Q I (k _ _ q _ _ _ .refl S)
theorem Cb{e:l}{f:WE}(h:JE X e (tD f)):PO X (U e) (ym (qw f)):=λpins s σ H Q I ⟨F,ad,δ,K,S,q,k⟩↦xD h pins s σ H Q I ⟨F,ad,δ,_,S,q,λx δ1 h1 v F1 bt H1 E1 S1 V1=>by
 split at h1
 .rename_i i
  exact⟨i,V1,k _ _ h1 _ _ _ E1 S1⟩
 .calc h1.elim⟩
def Cc(f g h:WE)(o o':D->D->(D->Prop)->Prop):WE:=fun δ K=>f δ λx δ1=>g δ1 λy δ2=>jN x δ2 λd=>jN y δ2 λe=>o d e λz=>match z with
 |.bl true=>h δ2 λw δ3=>jN y δ3 λe'=>jN w δ3 λc=>o' e' c λz'=>K (.p z') δ3
 |.bl false=>K (.p (.bl ι)) δ2
 |_=>False
theorem Rn{a b c:l}{f g h:WE}{op rh:CmpOp}{o o':D->D->(D->Prop)->Prop}{pos:Ε}(ho:fB X (compareOp op) o)(lW:fB X (compareOp rh) o')(ha:JE X a (tD f))(hb:JE X b (tD g))(hc:JE X c (tD h))
  (hm:lastMarks [op,rh] [b,c]=ι:=by with_unfolding_all rfl):JE X (.Compare a [op,rh] [b,c] pos) (tD (Cc f g h o o')) :=
 (Ox ho lW ha hb hc hm).weak fun σ H Q ⟨F,ad,δ,K,S,q,k⟩=>by
  calc⟨F,ad,δ,_,S,q,λx δ1 h1 v1 F1 bt H1 E1 S1 V1=>⟨F1,bt,δ1,_,S1,h1,λy δ2 h2 v2 F2 cG H2 E2 S2 V2=>?_⟩⟩;let⟨d,h3,rd⟩:=lB S2 (V1.ext E2) h2;let⟨e,h4,re⟩:=lB S2 V2 h3;calc⟨F2,d,e,_,S2.sub,rd,re,h4,λz v H' hz sm is=>?_⟩;let S3:=S2.al sm;let E3:=Ext.al S2 sm;split at hz
  .refine⟨θ,is,?_⟩
   rw[q0e Y];calc⟨_,cG,δ2,_,S3,hz,λw δ4 h5 v4 F4 x_ H4 E4 S4 V4=>?_⟩;let⟨d',h6,x8⟩:=lB S4 ((V2.ext E3).ext E4) h5;let⟨e',h7,Ro⟩:=lB S4 V4 h6;exact⟨F4,d',e',_,S4.sub,x8,Ro,h7,λz v H' hz sm is=>k _ _ hz _ _ _ _ ((((E1.trans E2).trans E3).trans E4).trans (Ext.al S4 sm)) (S4.al sm) is⟩
  .refine⟨ι,is,?_⟩
   rw[q0c q0z];exact k _ _ hz _ _ _ _ ((E1.trans E2).trans E3) S3 Y
  .calc hz.elim
end
noncomputable def sortI(ns:-Int):-Int:=ns.mergeSort λa b=>G (a<=b)
theorem sortI_perm(ns:-Int):(sortI ns).Perm ns:=List.mergeSort_perm ns _
theorem IL(ns:-Int):(sortI ns).Pairwise (· <= ·):=by
 let:=List.pairwise_mergeSort (le:=λa b:Int=>G (a<=b)) (λa b c h1 h2=>by simp at *;symm) (λa b=>by simp;symm) ns;calc this.imp λh=>by simpa using h
theorem IM:∀{as bs:-Int},as.Perm bs->as.Pairwise (· <= ·)->bs.Pairwise (· <= ·)->as=bs
 |[],bs,p,_,_=>p.nil_eq
 |a::as,[],p,_,_=>absurd p.length_eq (by simp)
 |a::as,b::bs,p,s,t=>by
  let e:a=b:=by
   let h1:a<=b:=by
    let hb:b∈a::as:=p.mem_iff.mpr (q0h ..);rcases PC.mp hb with h|h
    .omega
    .exact (q1q.mp s).1 b h
   let h2:b<=a:=by
    let ha:a∈b::bs:=p.mem_iff.mp (q0h ..);rcases PC.mp ha with h|h
    .omega
    .exact (q1q.mp t).1 a h
   symm
  subst e;rw[IM (List.perm_cons a |>.mp p) (q1q.mp s).2 (q1q.mp t).2]
theorem yn{as bs:-Int}(p:as.Perm bs)(s:as.Pairwise (· <= ·)):as=sortI bs:=IM (p.trans (sortI_perm bs).symm) s (IL bs)
theorem IP(ns:-Int):↑(sortI ns)=↑ns:=(sortI_perm ns).length_eq
def cB:-D->(D->Prop)->Prop
 |[.lst ds],K=>K (.int ↑ds)
 |[.tup ds],K=>K (.int ↑ds)
 |[.str z],K=>↑z<=1000/\K (.int ↑z)
 |_,_=>False
def t7:-D->(D->Prop)->Prop
 |[.lst ds],K=>K (.lst ds)
 |[.tup ds],K=>K (.lst ds)
 |_,_=>False
def vV:-D->(D->Prop)->Prop
 |[.lst ds],K=>K (.tup ds)
 |[.tup ds],K=>K (.tup ds)
 |_,_=>False
def ml:-D->(D->Prop)->Prop
 |[.lst ds],K=>match intsOf ds with
  |some ns=>↑ns<64/\K (.lst ((sortI ns).map D.int))
  |none=>False
 |_,_=>False
noncomputable def t8:-D->Option (-Bool)
 |[]=>U []
 |.bl b::r=>match t8 r with
  |some bs=>U (b::bs)
  |none=>Z
 |_=>Z
theorem IQ:∀bs:-Bool,t8 (bs.map D.bl)=U bs
 |[]=>Y
 |n::r=>by show(match t8 (r.map D.bl) with|some ns=>U (n::ns)|none=>Z)=_;rw[IQ r]
theorem IS:∀{ds:-D}{bs:-Bool},t8 ds=U bs->ds=bs.map D.bl
 |[],ns,h=>by cases h;rfl
 |.bl i::r,ns,h=>by
  unfold t8 at h;split at h
  .rename_i ms e;cases h;rw[q0m,IS e]
  .cases h
 |.non::r,ns,h=>by cases h
 |.int _::r,ns,h=>by cases h
 |.str _::r,ns,h=>by cases h
 |.tup _::r,ns,h=>by cases h
 |.lst _::r,ns,h=>by cases h
theorem IT{F:Hp}:∀{bs:-Bool}{vs:-V},af F (bs.map D.bl) vs->vs=bs.map V.bl
 |[],vs,h=>by erw[q16,af] at h;exact h
 |n::r,vs,h=>by
  erw[q0m,af] at h;let⟨v,t,rfl,h1,h2⟩:=h;let h1:v=.bl n:=h1;rw[IT h2,h1];rfl
def oQ:-D->(D->Prop)->Prop
 |[.lst ds],K=>match t8 ds with
  |some bs=>K (.bl (bs.all id))
  |none=>False
 |_,_=>False
def vW:-D->(D->Prop)->Prop
 |[.int i,.int j],K=>K (.int (min i j))
 |_,_=>False
def yo:-D->(D->Prop)->Prop
 |[.int i,.int j],K=>K (.int (max i j))
 |_,_=>False
section
variable{X:Cx}
theorem dA{F H:Hp}{d:D}{xs:-V}(h:l8 F H [d] xs):∃v,xs=[v]/\ka F H d v:=by
 let⟨v,r,rfl,h1,h2⟩:=h;let h2:r=[]:=h2;subst h2;calc⟨v,Y,h1⟩
theorem IU{F H:Hp}{d e:D}{xs:-V}(h:l8 F H [d,e] xs):∃v w,xs=[v,w]/\ka F H d v/\ka F H e w:=by
 let⟨v,r,rfl,h1,h2⟩:=h;let⟨w,rfl,h3⟩:=dA h2;calc⟨v,w,Y,h1,h3⟩
theorem oR:dJ X (.builtin "len") cB:=by
 ext pins s σ H xs us Q I r ⟨F,ds,K,sub,rd,q,md⟩;unfold cB at q;split at q
 .let⟨v,rfl,a,vs,rfl,h1,h2⟩:=dA rd
  exact Hm pins s σ H _ us Q I r ⟨a,vs,Y,.inl (bU.of h1),by rw[↑h2];calc md _ _ _ q (λ_ _ e=>e) Y⟩
 .rename_i es
  let⟨v,rfl,h⟩:=dA rd;let h:Is F (.tup es) v:=h;erw[Is] at h;let⟨a,vs,rfl,h1,h2⟩:=h;exact Hm pins s σ H _ us Q I r ⟨a,vs,Y,.inr (b8.of (sub _ _ h1)),by rw[↑h2];calc md _ _ _ q (λ_ _ e=>e) Y⟩
 .rename_i z
  let⟨v,rfl,h⟩:=dA rd;let h:v=.str z:=h;subst h;exact Pq pins s σ H _ us Q I r ⟨z,Y,lD q.1,md _ _ _ q.2 (λ_ _ e=>e) Y⟩
 .calc q.elim
theorem IV:dJ X (.type "list") t7:=by
 ext pins s σ H xs us Q I r ⟨F,ds,K,sub,rd,q,md⟩;unfold t7 at q;split at q
 .let⟨v,rfl,a,vs,rfl,h1,h2⟩:=dA rd
  exact A1 pins s σ H _ us Q I r ⟨a,vs,Y,.inl (bU.of h1),λl hl=>md _ _ _ q (cI hl) (mi sub hl h2)⟩
 .rename_i es
  let⟨v,rfl,h⟩:=dA rd;let h:Is F (.tup es) v:=h;erw[Is] at h;let⟨a,vs,rfl,h1,h2⟩:=h;exact A1 pins s σ H _ us Q I r ⟨a,vs,Y,.inr (b8.of (sub _ _ h1)),λl hl=>md _ _ _ q (cI hl) (mi sub hl h2)⟩
 .calc q.elim
theorem Rp:dJ X (.type "tuple") vV:=by
 ext pins s σ H xs us Q I r ⟨F,ds,K,sub,rd,q,md⟩;unfold vV at q;split at q
 .let⟨v,rfl,a,vs,rfl,h1,h2⟩:=dA rd
  exact Hn pins s σ H _ us Q I r ⟨a,vs,Y,.inl ⟨bU.of h1,λl hl=>md _ _ _ q (cI hl) (B7 sub hl h2)⟩⟩
 .rename_i es
  let⟨v,rfl,h⟩:=dA rd;let h0:Is F (.tup es) v:=h;let h:Is F (.tup es) v:=h;erw[Is] at h;let⟨a,vs,rfl,h1,h2⟩:=h;exact Hn pins s σ H _ us Q I r ⟨a,vs,Y,.inr ⟨b8.of (sub _ _ h1),md _ _ _ q (λ_ _ e=>e) (vQ sub h0)⟩⟩
 .calc q.elim
theorem yp:dJ X (.builtin "sorted") ml:=by
 ext pins s σ H xs us Q I r ⟨F,ds,K,sub,rd,q,md⟩;unfold ml at q;split at q
 .rename_i es
  split at q
  .rename_i ns e
   let⟨v,rfl,a,vs,rfl,h1,h2⟩:=dA rd;rw[r9 e] at h2;rw[oO h2] at h1;calc QL pins s σ H _ us Q I r ⟨a,ns,Y,bU.of h1,q.1,λl dz pm pw hl=>?_⟩;rw[yn pm pw];exact md _ _ _ q.2 (cI hl) (mi sub hl tY)
  .exact q.elim
 .calc q.elim
theorem Rq(hc:X.calm=θ):dJ X (.builtin "all") oQ:=by
 ext pins s σ H xs us Q I r ⟨F,ds,K,sub,rd,q,md⟩;unfold oQ at q;split at q
 .rename_i es
  split at q
  .rename_i bs e
   let⟨v,rfl,a,vs,rfl,h1,h2⟩:=dA rd;rw[IS e] at h2;rw[IT h2] at h1;exact QG hc pins s σ H _ us Q I r ⟨a,bs,Y,bU.of h1,md _ _ _ q (λ_ _ e=>e) Y⟩
  .exact q.elim
 .calc q.elim
theorem Rr(hc:X.calm=θ):dJ X (.builtin "min") vW:=by
 ext pins s σ H xs us Q I r ⟨F,ds,K,sub,rd,q,md⟩;unfold vW at q;split at q
 .rename_i i j
  let⟨v,w,rfl,h1,h2⟩:=IU rd;let h1:v=.int i:=h1;let h2:w=.int j:=h2;subst h1 h2;calc OA hc pins s σ H _ us Q I r ⟨i,j,Y,?_⟩;let:(if j<i then j else i)=min i j:=by split<;>symm
  rw[this];exact md _ _ _ q (λ_ _ e=>e) Y
 .calc q.elim
theorem Rt(hc:X.calm=θ):dJ X (.builtin "max") yo:=by
 ext pins s σ H xs us Q I r ⟨F,ds,K,sub,rd,q,md⟩;unfold yo at q;split at q
 .rename_i i j
  let⟨v,w,rfl,h1,h2⟩:=IU rd;let h1:v=.int i:=h1;let h2:w=.int j:=h2;subst h1 h2;calc Oz hc pins s σ H _ us Q I r ⟨i,j,Y,?_⟩;let:(if j>i then j else i)=max i j:=by split<;>symm
  rw[this];exact md _ _ _ q (λ_ _ e=>e) Y
 .calc q.elim
def yq(fa:WA):WE:=fun δ K=>fa δ λxs δ1=>match xs with
 |[.p (.int j)]=>(0<=j/\j<=1000)/\K (.p (.lst (dm 0 j.toNat))) δ1
 |_=>False
theorem vX(n:Nat):dm 0 n=(b_ n).map D.int:=by
 unfold dm b_;rw[q0C];calc q2y λi _=>?_;show D.int (0+(i:Int))=D.int (i:Int);rw[q6j]
theorem Ru{a:υ}{fa:WA}{p1 p2 q1 q2:y}(hc:X.calm=θ)(vY:Gl X "list")(hl:X.mg "list" = Z)(vZ:bootBuiltins "list" = U (.type "list"))(v3:Gl X "range")(hr:X.mg "range" = Z)(v5:bootBuiltins "range" = U (.type "range"))(ha:JA X [a] (cE fa))
  (he:starEach [a] X.env=[(ι,eval a X.env)]:=by rfl) (v7:starEach [.Call (.Name "range" p2) [a] [] q2] X.env=[(ι,eval (.Call (.Name "range" p2) [a] [] q2) X.env)]:=by rfl):JE X (.Call (.Name "list" p1) [.Call (.Name "range" p2) [a] [] q2] [] q1) (tD (yq fa)) :=
 (tj (QK hc) vY hl vZ (ot (tj QJ v3 hr v5 ha (he:=he)) cZ) (he:=v7)).weak fun σ H Q ⟨F,ad,δ,K,S,q,k⟩=>⟨F,ad,δ,_,S,q,λxs δ1 h1 vs F1 bt H1 E1 S1 V1=>by
  split at h1
  .rename_i j
   let⟨v,r,e,W1,W2⟩:=V1;let W2:r=[]:=W2;let W1:v=.int j:=W1;subst W2 W1 e;calc⟨j,Y,λrr Rv=>⟨rr,j.toNat,Y,by rw[cz,Int.toNat_of_nonneg h1.1.1],⋯,λl hl=>?_⟩⟩;let s1:aP H1 (upd H1 rr (.rng 0 j)):=cI Rv;let S2:=S1.al s1;let E2:=Ext.al S1 s1;calc k _ _ h1.2 _ _ _ _ ((E1.trans E2).trans (Ext.al S2 (cI hl))) (S2.al (cI hl)) ?_;let:Is (Nw (Nw F1 H1 (upd H1 rr (.rng 0 j))) (upd H1 rr (.rng 0 j)) (upd (upd H1 rr (.rng 0 j)) l (.lst ((b_ j.toNat).map V.int)))) (.lst ((b_ j.toNat).map D.int)) (.ref l):=mi S2.sub hl tY;rw[vX];exact this
  .calc h1.elim⟩
def dr(T:String):D->(D->Prop)->Prop:=λd K=>K (.bl (bK (cW d) T))
theorem jR{T:String}{t:J}{a:l}{f:WE}{p p2 pos:y}(hk:∀d:D,q1g X.K (.type (cW d)) (.type T)=U (bK (cW d) T))(hg:Gl X "isinstance")(hm:X.mg "isinstance" = Z)(Rw:Gl X t)(Rx:X.mg t=Z)(Ry:bootBuiltins t=U (.type T))(ha:JE X a (tD f))
  (vi:t≠"__name__" := by decide) (lQ:b9 t:=by decide) (he:starEach [a,.Name t p2] X.env=(ι,eval a X.env)::starEach [.Name t p2] X.env:=by rfl):JE X (.Call (.Name "isinstance" p) [a,.Name t p2] [] pos) (tD (d1 f (dr T))) :=
 (xC P_ hg hm PyProof.Rows.boot_isinstance (kG ha (rM (NK Rw Rx Ry (v:=.ty T) Y vi lQ) cZ) he) (he:=he)).weak fun σ H Q ⟨F,ad,δ,K,S,q,k⟩↦⟨F,ad,δ,_,S,q,λx δ1 h1 v F1 bt H1 E1 S1 V1=>by
  let⟨d,h2,rd⟩:=lB S1 V1 h1
  calc⟨v,.ty T,.type T,.type (cW d),_,Y,Y,Is.ty (rd.is S1.sub),hk d,k _ _ h2 _ _ _ _ E1 S1 Y⟩⟩
theorem Cd{K:My}:∀d:D,q1g K (.type (cW d)) (.type "int")=U (bK (cW d) "int"):=λd=>Qc _ (vk d)
theorem v8{K:My}:∀d:D,q1g K (.type (cW d)) (.type "bool")=U (bK (cW d) "bool"):=λd=>Qb _ (vk d)
theorem IW{K:My}:∀d:D,q1g K (.type (cW d)) (.type "str")=U (bK (cW d) "str"):=λd=>Qd _ (vk d)
theorem Ce{K:My}:∀d:D,q1g K (.type (cW d)) (.type "tuple")=U (bK (cW d) "tuple"):=λd=>kit_tuple _ (vk d)
theorem IX{K:My}:∀d:D,q1g K (.type (cW d)) (.type "list")=U (bK (cW d) "list"):=λd=>Qe _ (vk d)
def gf(x:DV)(δ:aM)(K:Nat->(-D->OV)->-D->Prop):Prop:=match x with
 |.o k=>match δ.mu[k]? with
  |some (some (.lst ds))=>K k OV.lst ds
  |some (some (.al a ds))=>K k (OV.al a) ds
  |_=>False
 |_=>False
theorem sf{F H:Hp}{ad:-O}{δ:aM}{σ:St}{x:DV}{v:V}{K:Nat->(-D->OV)->-D->Prop}(S:SR F ad δ σ H)(V1:dI F ad x v)(h:gf x δ K):∃k B ds a vs,x=.o k/\K k B ds/\v=.ref a/\ad[k]?=U a/\H a=U (.lst vs)/\af F ds vs/\δ.mu[k]?=U (U (B ds))/\∀{F' es us},af F' es us->eU F' a (B es) (.lst us):=by
 unfold gf at h;split at h
 .rename_i k
  split at h
  .rename_i ds e
   let⟨a,e1,rfl⟩:=V1;let⟨a',o,e2,e3,vs,rfl,h4⟩:=S.mu k _ e;rw[e1] at e2;cases e2;exact⟨k,_,ds,a,vs,Y,h,Y,e1,e3,h4,e,λi=>⟨_,Y,i⟩⟩
  .rename_i b ds e
   let⟨a,e1,rfl⟩:=V1;let⟨a',o,e2,e3,z,vs,rfl,h4⟩:=S.mu k _ e;rw[e1] at e2;cases e2;exact⟨k,_,ds,a,vs,Y,h,Y,e1,e3,h4,e,λi=>⟨z,_,Y,i⟩⟩
  .exact h.elim
 .calc h.elim
def ib(f:WE)(fa:WA):WE:=fun δ K=>f δ λx δ1=>gf x δ1 λ_ _ _=>fa δ1 λys δ2=>match ys with
 |[y]=>lC y δ2 λd δ3=>gf x δ3 λk B ds=>↑ds<1000/\K (.p .non) ⟨δ3.sl,δ3.mu.set k (U (B (ds++[d])))⟩
 |_=>False
theorem sg{f:WE}{fa:WA}{K0:My}:∀σ H Q,tD (ib f fa) σ H Q->xE K0 "list" Hs (tD f) (cE fa) σ H Q:=fun σ H Q ⟨F,ad,δ,K,S,q,k⟩=>⟨F,ad,δ,_,S,q,λx δ1 h1 v F1 bt H1 E1 S1 V1=>by
 let⟨k0,B0,IY,a,vs,rfl,h2,rfl,e1,e2,i1,m1,qx⟩:=sf S1 V1 h1;refine⟨.inl ⟨Y,vs,bU.of e2⟩,F1,bt,δ1,_,S1,h2,λys δ2 h3 us F2 cG H2 E2 S2 V2=>?_⟩
 match ys,h3,V2 with
 |[y],g3,⟨u,r,e,W1,W2⟩ =>
  let W3:r=[]:=W2;subst W3 e;let⟨d,δ3,F3,h4,E3,S3,i3⟩:=rS S2 W1 g3;let⟨k1,B,ds,b,ws,ek,h5,eb,e3,e4,i4,m4,v9⟩:=sf (x:=.o k0) S3 ((V1.ext E2).ext E3) h4;cases ek
  let v_:a=b:=by injection eb
  subst v_;let oi:=v9 (F':=F3) (i4.snoc i3);calc⟨a,ws,u,Y,Y,e4,qg (by rw[↑i4];symm),?_⟩;exact k _ _ h5.2 _ _ _ _ (((E1.trans E2).trans E3).trans (Ext.put S3 m4 e3)) (S3.put m4 e3 oi) Y
 |[],g3,_=>exact g3.elim
 |_::_::_,g3,_=>calc g3.elim⟩
def oS(f:WE)(fa:WA):WE:=fun δ K=>f δ λx δ1=>gf x δ1 λ_ _ _=>fa δ1 λys δ2=>match ys with
 |[.p (.lst es)]=>gf x δ2 λk B ds=>↑ds+↑es<=1000/\K (.p .non) ⟨δ2.sl,δ2.mu.set k (U (B (ds++es)))⟩
 |_=>False
theorem IZ{f:WE}{fa:WA}{K0:My}:∀σ H Q,tD (oS f fa) σ H Q->xE K0 "list" Ht (tD f) (cE fa) σ H Q:=fun σ H Q ⟨F,ad,δ,K,S,q,k⟩=>⟨F,ad,δ,_,S,q,λx δ1 h1 v F1 bt H1 E1 S1 V1=>by
 let⟨k0,B0,IY,a,vs,rfl,h2,rfl,e1,e2,i1,m1,qx⟩:=sf S1 V1 h1;calc⟨.inl ⟨Y,vs,bU.of e2⟩,F1,bt,δ1,_,S1,h2,λys δ2 h3 us F2 cG H2 E2 S2 V2=>?_⟩;split at h3
 .rename_i es
  let⟨u,r,e,W1,W2⟩:=V2;let W3:r=[]:=W2;let W4:Is F2 (.lst es) u:=W1;erw[Is] at W4;let⟨b,zs,rfl,z1,z2⟩:=W4;subst W3 e;let⟨k1,B,ds,b',ws,ek,h5,eb,e3,e4,i4,m4,v9⟩:=sf (x:=.o k0) S2 (V1.ext E2) h3;cases ek
  let v_:a=b':=by injection eb
  subst v_;let oi:=v9 (F':=F2) (tZ i4 z2);calc⟨a,b,ws,zs,Y,Y,e4,S2.sub _ _ z1,lD (by rw[↑i4,↑z2];calc h5.1),?_⟩;exact k _ _ h5.2 _ _ _ _ ((E1.trans E2).trans (Ext.put S2 m4 e3)) (S2.put m4 e3 oi) Y
 .calc h3.elim⟩
def Cf(f:WE)(fa:WA):WE:=fun δ K=>f δ λx δ1=>gf x δ1 λ_ _ _=>fa δ1 λys δ2=>match ys with
 |[.p (.int i)]=>gf x δ2 λk B ds=>(-(2 ^ 63)<=i/\i<2 ^ 63)/\match seqIndex? i ↑ds with
  |some j=>match ds[j]? with
   |some d=>K (.p d) ⟨δ2.sl,δ2.mu.set k (U (B (ds.eraseIdx j)))⟩
   |none=>False
  |none=>False
 |_=>False
theorem Rz{f:WE}{fa:WA}{K0:My}:∀σ H Q,tD (Cf f fa) σ H Q->xE K0 "list" Hv (tD f) (cE fa) σ H Q:=fun σ H Q ⟨F,ad,δ,K,S,q,k⟩=>⟨F,ad,δ,_,S,q,λx δ1 h1 v F1 bt H1 E1 S1 V1=>by
 let⟨k0,B0,IY,a,vs,rfl,h2,rfl,e1,e2,i1,m1,qx⟩:=sf S1 V1 h1;calc⟨.inl ⟨Y,vs,bU.of e2⟩,F1,bt,δ1,_,S1,h2,λys δ2 h3 us F2 cG H2 E2 S2 V2=>?_⟩;split at h3
 .rename_i i
  let⟨u,r,e,W1,W2⟩:=V2;let W3:r=[]:=W2;let W4:u=.int i:=W1;subst W3 W4 e;let⟨k1,B,ds,b',ws,ek,⟨h5,h6⟩,eb,e3,e4,i4,m4,v9⟩:=sf (x:=.o k0) S2 (V1.ext E2) h3;cases ek
  let v_:a=b':=by injection eb
  subst v_;split at h6
  .rename_i j hj
   split at h6
   .rename_i d hd
    let⟨w,g1,g2⟩:=qv i4 hd;let oi:=v9 (F':=F2) (IE j i4);calc⟨a,ws,i,j,w,Y,Y,e4,h5.1,h5.2,by rw[↑i4];calc hj,g1,?_⟩;exact k _ _ h6 _ _ _ _ ((E1.trans E2).trans (Ext.put S2 m4 e3)) (S2.put m4 e3 oi) g2
   .exact h6.elim
  .exact h6.elim
 .calc h3.elim⟩
def qy(f fo fi:WE):WS:=λK δ=>f δ λx δ1=>fo δ1 λo δ2=>fi δ2 λi δ3=>lC x δ3 λd δ4=>gf o δ4 λk B ds=>match i with
 |.p (.int j)=>match jI ↑ds j with
  |some m=>K.nx ⟨δ4.sl,δ4.mu.set k (U (B (ds.set m d)))⟩
  |none=>False
 |_=>False
theorem I0[kO]{f fo fi:WE}:∀D σ H,dW (qy f fo fi) D σ H->lY (tD f) (uR (tD fo) (tD fi) Hl) D σ H:=λD σ H ⟨F,ad,δ,K,S,q,k⟩=>⟨F,ad,δ,_,S,q,λx δ1 h1 v F1 bt H1 E1 S1 V1=>⟨F1,bt,δ1,_,S1,h1,λo δ2 h2 ov F2 cG H2 E2 S2 V2=>⟨F2,cG,δ2,_,S2,h2,λi δ3 h3 iv F3 rW H3 E3 S3 V3=>by
 let⟨d,δ4,F4,h4,E4,S4,i4⟩:=rS S3 ((V1.ext E2).ext E3) h3;let⟨k0,B,ds,a,vs,rfl,h5,rfl,e1,e2,i1,m1,qx⟩:=sf S4 ((V2.ext E3).ext E4) h4;split at h5
 .rename_i j
  split at h5
  .rename_i m hm
   let V3:iv=.int j:=V3;subst V3;let oi:=qx (F':=F4) (ID m i1 i4);calc⟨a,vs,j,m,Y,Y,e2,by rw[↑i1];calc hm,?_⟩;exact k.nx _ h5 _ _ _ _ ((((E1.trans E2).trans E3).trans E4).trans (Ext.put S4 m1 e1)) (S4.put m1 e1 oi)
  .exact h5.elim
 .calc h5.elim⟩⟩⟩
end
end L2
namespace L2
open PySem PySem.Spec PyProof.Rows PySem.W
abbrev LK:=-Int
def kle(a b:LK):Prop:=HT.lexLt b a=ι
theorem yr:∀a:LK,HT.lexLt a a=ι
 |[]=>Y
 |x::r=>by rw[HT.oa,q0e Y];calc yr r
theorem yt:∀{a b:LK},HT.lexLt a b=ι->HT.lexLt b a=ι->a=b
 |[],[],_,_=>Y
 |[],_::_,h,_=>by cases h
 |_::_,[],_,h=>by cases h
 |x::r,y::s,h,q=>by
  rw[HT.oa] at h q
  by_cases c:x=y
  .subst c
   rw[q0e Y] at h q;rw[yt h q]
  .rw[q0c c] at h
   rw[q0c (λz=>c z.symm)] at q;simp at h q;symm
theorem Cg:∀{a b c:LK},HT.lexLt a b=θ->HT.lexLt b c=θ->HT.lexLt a c=θ
 |[],[],_,h,_=>by cases h
 |[],_::_,[],_,q=>by cases q
 |[],_::_,_::_,_,_=>Y
 |_::_,[],_,h,_=>by cases h
 |_::_,_::_,[],_,q=>by cases q
 |x::r,y::s,z::t,h,q=>by
  rw[HT.oa] at h q ⊢
  by_cases c1:x=y
  .subst c1
   rw[q0e Y] at h
   by_cases c2:x=z
   .subst c2
    rw[q0e Y] at q ⊢;exact Cg h q
   .rw[q0c c2] at q ⊢;exact q
  .rw[q0c c1] at h
   by_cases c2:y=z
   .subst c2
    rw[q0c c1];exact h
   .rw[q0c c2] at q
    let h1:x<y:=by simpa using h
    let h2:y<z:=by simpa using q
    rw[q0c ⋯];simp;symm
theorem kle_refl(a:LK):kle a a:=yr a
theorem si{a b:LK}(h:HT.lexLt a b=θ):kle a b:=by
 unfold kle
 cases q:HT.lexLt b a with
 |false=>rfl
 |true=>let:=Cg h q;rw[yr] at this;cases this
theorem kle_trans{a b c:LK}(h1:kle a b)(h2:kle b c):kle a c:=by
 unfold kle at *
 cases q:HT.lexLt c a with
 |false=>rfl
 |true =>
  cases q2:HT.lexLt a b with
  |true=>let:=Cg q q2;rw[h2] at this;cases this
  |false =>
   let e:=yt q2 h1;subst e;rw[h2] at q;cases q
theorem I_{a b:LK}(h1:kle a b)(h2:kle b a):a=b:=yt h2 h1
section
variable{n:Nat}{k:Nat->LK}{I:B->Prop}{cmp:Nat->Nat->(Bool->B->Prop)->B->Prop}
def qz(n:Nat)(k:Nat->LK)(I:B->Prop)(cmp:Nat->Nat->(Bool->B->Prop)->B->Prop):Prop :=
 ∀(i j:Nat)(C:Bool->B->Prop)(s:B),i<n->j<n->I s->(∀s',I s'->C (HT.lexLt (k i) (k j)) s')->cmp i j C s
noncomputable def KA(k:Nat->LK)(p:Array Nat)(i:Nat):LK:=k (p.getD i 0)
structure d8(n:Nat)(p:Array Nat):Prop where
 perm:p.Perm (q0x n).toArray
theorem d8.size{p:Array Nat}(h:d8 n p):p.size=n:=by let:=h.perm.size_eq;simpa using this
theorem d8.lt{p:Array Nat}(h:d8 n p){i:Nat}(hi:i<n):p.getD i 0<n:=by
 let hs:=h.size;let e:p.getD i 0=p[i]:=by simp[q5O,hs,hi]
 rw[e];let:p[i]∈(q0x n).toArray:=(h.perm.mem_iff).mp (Array.getElem_mem _);simpa using this
theorem wa{p q:Array Nat}{i j:Nat}(h:p[i]?=q[j]?):p.getD i 0=q.getD j 0:=by
 rw[q0R,q0R,h]
theorem yu{p:Array Nat}{i j:Nat}(hj:j<=p.size)(t:Nat):KA k (kas_rev p i j) t=if i<=t/\t<j then KA k p (i+j-1-t) else KA k p t:=by
 let e:=getElem?_mirror_all (xs:=p) (i:=i) hj t;unfold KA kas_rev
 by_cases c:i<=t/\t<j
 .rw[q0e c] at e ⊢;rw[wa e]
 .rw[q0c c] at e ⊢;rw[wa e]
theorem RA{p:Array Nat}{src d:Nat}(hs:src<p.size)(hd:d<=src)(t:Nat):
  KA k (bubble p src d) t=if t=src-d then KA k p src else if src-d<t/\t<=src then KA k p (t-1) else KA k p t:=by
 let e:=getElem?_bubble hs d hd t;unfold KA
 by_cases c:t=src-d
 .rw[q0e c] at e ⊢;rw[wa e]
 .rw[q0c c] at e ⊢
  by_cases c2:src-d<t/\t<=src
  .rw[q0e c2] at e ⊢;rw[wa e]
  .rw[q0c c2] at e ⊢;rw[wa e]
def Up(k:Nat->LK)(p:Array Nat)(m:Nat):Prop:=∀i j,i<=j->j<m->kle (KA k p i) (KA k p j)
def Dn(k:Nat->LK)(p:Array Nat)(m:Nat):Prop:=∀i j,i<=j->j<m->kle (KA k p j) (KA k p i)
theorem Up.snoc{p:Array Nat}{m:Nat}(h:Up k p m)(hm:1<=m)(q:kle (KA k p (m-1)) (KA k p m)):Up k p (m+1):=λi j kR hj=>by
 by_cases c:j<m
 .exact h i j kR c
 .let e:j=m:=by symm
  subst e
  by_cases c2:i=j
  .subst c2;exact kle_refl _
  .calc kle_trans (h i (j-1) ⋯ ⋯) q
theorem Dn.snoc{p:Array Nat}{m:Nat}(h:Dn k p m)(hm:1<=m)(q:kle (KA k p m) (KA k p (m-1))):Dn k p (m+1):=λi j kR hj=>by
 by_cases c:j<m
 .exact h i j kR c
 .let e:j=m:=by symm
  subst e
  by_cases c2:i=j
  .subst c2;exact kle_refl _
  .calc kle_trans q (h i (j-1) ⋯ ⋯)
theorem Up.one{p:Array Nat}:Up k p 1:=λi j kR hj=>by
 let:i=j:=by symm
 subst this;calc kle_refl _
theorem Dn.one{p:Array Nat}:Dn k p 1:=λi j kR hj=>by
 let:i=j:=by symm
 subst this;calc kle_refl _
theorem d8.rev{p:Array Nat}(h:d8 n p)(i j:Nat):d8 n (kas_rev p i j):=⟨(mirror_perm _ _ _ _).trans h.perm⟩
theorem d8.RB{p:Array Nat}(h:d8 n p)(i j:Nat):d8 n (bubble p i j):=⟨(bubble_perm _ _ _).trans h.perm⟩
theorem Ja(hc:qz n k I cmp){p:Array Nat}(hp:d8 n p):∀(f m:Nat)(s:B)(Q:Nat->B->Prop),1<=m->m+f=n->Up k p m->I s →
  (∀m' s',m<=m'->m'<=n->Up k p m'->I s'->Q m' s')->(kas_asc p f m).kasWp cmp Q s
 |0,m,s,Q,h1,h2,up,hi,fin=>fin m s (Hz _) ⋯ up hi
 |f+1,m,s,Q,h1,h2,up,hi,fin=>by
  refine hc _ _ _ s (hp.lt ⋯) (hp.lt ⋯) hi λs' dy=>?_
  cases q:HT.lexLt (k (p.getD m 0)) (k (p.getD (m-1) 0)) with
  |true=>dsimp only;rw[q0e Y];exact fin m s' (Hz _) ⋯ up dy
  |false =>
   calc Ja hc hp f (m+1) s' Q ⋯ ⋯ (up.snoc h1 q) dy λm' jG a b c d=>fin m' jG ⋯ b c d
def Ci(k:Nat->LK)(p:Array Nat)(m q:Nat):Prop:=∀t,m-(q+1)<=t->t<m->KA k p t=KA k p (m-1)
theorem Jb{p:Array Nat}{m q:Nat}(hs:m<=p.size)(hq:q+1<=m)(e:Ci k p m q)(t:Nat):KA k (kas_rev p (m-(q+1)) m) t=KA k p t:=by
 rw[yu hs];split
 .rename_i c
  rw[e _ ⋯ ⋯,e t c.1 c.2]
 .rfl
theorem Dn.congr{p p':Array Nat}{m:Nat}(h:Dn k p m)(e:∀t,KA k p' t=KA k p t):Dn k p' m:=λi j a b=>by rw[e,e];calc h i j a b
theorem yw(hc:qz n k I cmp):∀(f:Nat)(p:Array Nat)(m q:Nat)(s:B)(Q:Array Nat×Nat×Nat->B->Prop),d8 n p->1<=m->m+f=n->q+1<=m->Dn k p m->Ci k p m q->I s →
  (∀p' m' q' s',d8 n p'->m<=m'->m'<=n->q'+1<=m'->Dn k p' m'->Ci k p' m' q'->I s'->Q (p',m',q') s')->(kas_desc f p m q).kasWp cmp Q s
 |0,p,m,q,s,Q,hp,h1,h2,hq,dn,es,hi,fin=>fin p m q s hp (Hz _) ⋯ hq dn es hi
 |f+1,p,m,q,s,Q,hp,h1,h2,hq,dn,es,hi,fin=>by
  calc hc _ _ _ s (hp.lt ⋯) (hp.lt ⋯) hi λs' dy=>?_;let sz:=hp.size
  cases c1:HT.lexLt (k (p.getD m 0)) (k (p.getD (m-1) 0)) with
  |true =>
   let st:kle (KA k p m) (KA k p (m-1)):=si c1
   by_cases Jc:q>0
   .rw[q0e Jc]
    let e:=Jb (k:=k) (p:=p) (m:=m) (q:=q) ⋯ hq es;calc yw hc f _ (m+1) 0 s' Q (hp.rev _ _) ⋯ ⋯ ⋯ ((dn.snoc h1 st).congr e) (λt a b=>?_) dy λp' m' q' jG a b c d e g i=>fin p' m' q' jG a ⋯ c d e g i;let:t=m+1-1:=by symm
    rw[this]
   .rw[q0c Jc]
    calc yw hc f p (m+1) 0 s' Q hp ⋯ ⋯ ⋯ (dn.snoc h1 st) (λt a b=>?_) dy λp' m' q' jG a b c d e g i=>fin p' m' q' jG a ⋯ c d e g i;let:t=m+1-1:=by symm
    rw[this]
  |false =>
   refine hc _ _ _ s' (hp.lt ⋯) (hp.lt ⋯) dy λs2 oT=>?_
   cases c2:HT.lexLt (k (p.getD (m-1) 0)) (k (p.getD m 0)) with
   |true=>dsimp only;rw[q0e Y];exact fin p m q s2 hp (Hz _) ⋯ hq dn es oT
   |false =>
    let eq:KA k p m=KA k p (m-1):=yt c1 c2;calc yw hc f p (m+1) (q+1) s2 Q hp ⋯ ⋯ ⋯ (dn.snoc h1 (by rw[eq];calc kle_refl _)) (λt a b=>?_) oT λp' m' q' jG a b c d e g i=>fin p' m' q' jG a ⋯ c d e g i;show KA k p t=KA k p m
    by_cases z:t=m
    .rw[z]
    .rw[es t ⋯ ⋯,eq]
theorem Dn.rev{p:Array Nat}{m:Nat}(h:Dn k p m)(hs:m<=p.size):Up k (kas_rev p 0 m) m:=λi j kR hj=>by
 rw[yu hs,yu hs,q0e ⟨q0Z _,⋯⟩,q0e ⟨q0Z _,hj⟩];calc h _ _ ⋯ ⋯
theorem Jd(hc:qz n k I cmp){p:Array Nat}(hp:d8 n p){m:Nat}{s:B}{Q:Nat×Array Nat->B->Prop}(h1:1<=m)(hm:m<=n)(dn:Dn k p m)(hi:I s)
  (fin:∀p' m' s',d8 n p'->1<=m'->m'<=n->Up k p' m'->I s'->Q (m',p') s'):(kas_tail3 m n p).kasWp cmp Q s:=by
 unfold kas_tail3;rw[KasT.kasWp_bind];let sz:=hp.size;calc Ja hc (hp.rev 0 m) (n-m) m s _ h1 ⋯ (dn.rev ⋯) hi λm' s' a b c d=>?_;calc fin _ m' s' (hp.rev 0 m) ⋯ b c d
theorem Je(hc:qz n k I cmp){p:Array Nat}(hp:d8 n p){m:Nat}{s:B}{Q:Nat×Array Nat->B->Prop}(h1:1<=m)(hm:m+1<=n)(dn:Dn k p (m+1))(hi:I s)
  (fin:∀p' m' s',d8 n p'->1<=m'->m'<=n->Up k p' m'->I s'->Q (m',p') s'):(kas_descPart m n p).kasWp cmp Q s:=by
 unfold kas_descPart;rw[KasT.kasWp_bind];refine yw hc (n-(m+1)) p (m+1) 0 s _ hp ⋯ ⋯ ⋯ dn (λt a b=>?_) hi λp' m' q' s' a b c d e g i=>?_
 .let:t=m+1-1:=by symm
  rw[this]
 .let sz:=a.size
  dsimp only
  by_cases hq:q'>0
  .rw[q0e hq]
   exact Jd hc (a.rev _ _) ⋯ c (e.congr (Jb ⋯ d g)) i fin
  .rw[q0c hq]
   calc Jd hc a ⋯ c e i fin
theorem RC(hc:qz n k I cmp){p:Array Nat}(hp:d8 n p){s:B}{Q:Nat×Array Nat->B->Prop}(h1:1<=n)(hi:I s)
  (fin:∀p' m' s',d8 n p'->1<=m'->m'<=n->Up k p' m'->I s'->Q (m',p') s'):(kas_count n p).kasWp cmp Q s:=by
 unfold kas_count;rw[KasT.kasWp_bind];let sz:=hp.size
 let key:∀(f m:Nat)(s:B)(Q':Nat->B->Prop),1<=m->m+f=n->Up k p m->I s →
   (∀m' s',m<=m'->m'<=n->Up k p m'->(m'<n->HT.lexLt (KA k p m') (KA k p (m'-1))=θ)->I s'->Q' m' s')->(kas_asc p f m).kasWp cmp Q' s:=by
  ext f
  induction f with
  |zero=>ext m s Q' a b up hi fin;exact fin m s (Hz _) ⋯ up (λz=>absurd z ⋯) hi
  |succ f ih =>
   ext m s Q' a b up hi fin;refine hc _ _ _ s (hp.lt ⋯) (hp.lt ⋯) hi λs' dy=>?_
   cases q:HT.lexLt (k (p.getD m 0)) (k (p.getD (m-1) 0)) with
   |true=>dsimp only;rw[q0e Y];exact fin m s' (Hz _) ⋯ up (λ_=>q) dy
   |false =>
    exact ih (m+1) s' Q' ⋯ ⋯ (up.snoc a q) dy λm' jG a b c d e=>fin m' jG ⋯ b c d e
 refine key (n-1) 1 s _ (Hz _) ⋯ Up.one hi λm s' a b up nx dy=>?_
 by_cases c1:m=n
 .subst c1
  rw[q0e (by simp)];exact fin p m s' hp a (Hz _) up dy
 .rw[q0c c1⁻¹]
  let d_:m<n:=by symm
  let nx:=nx d_
  by_cases c2:m>1
  .rw[q0e c2]
   refine hc _ _ _ s' (hp.lt ⋯) (hp.lt ⋯) dy λs2 oT=>?_
   cases q:HT.lexLt (k (p.getD 0 0)) (k (p.getD (m-1) 0)) with
   |true=>dsimp only;exact fin p m s2 hp a b up oT
   |false =>
    let al:∀t,t<m->KA k p t=KA k p (m-1):=λt ht=>by
     refine I_ (up t (m-1) ⋯ ⋯) (kle_trans q (up 0 t (q0Z _) ht))
    let e:∀t,KA k (kas_rev p 0 m) t=KA k p t:=λt=>by
     rw[yu ⋯];split
     .rename_i c;rw[al _ ⋯,al t c.2]
     .rfl
    calc Je hc (hp.rev 0 m) ⋯ ⋯ (Dn.congr (p:=p) ?_ e) oT fin;calc Dn.snoc (λi j kR hj=>?_) ⋯ (si nx);rw[al i ⋯,al j hj];exact kle_refl _
  .rw[q0c c2]
   let:m=1:=by symm
   subst this;calc Je hc hp ⋯ ⋯ (Dn.one.snoc (Hz _) (si nx)) dy fin
theorem Cj(hc:qz n k I cmp){p:Array Nat}(hp:d8 n p){t:Nat}(ht:t<n)(up:Up k p t):∀(f l r:Nat)(s:B)(Q:Nat->B->Prop),l<=r->r<=t->r-l<=f →
  (∀i,i<l->kle (KA k p i) (KA k p t))->(∀i,r<=i->i<t->kle (KA k p t) (KA k p i))->I s →
  (∀l' s',l'<=t->(∀i,i<l'->kle (KA k p i) (KA k p t))->(∀i,l'<=i->i<t->kle (KA k p t) (KA k p i))->I s'->Q l' s')->(kas_place p t f l r).kasWp cmp Q s
 |0,l,r,s,Q,h1,h2,h3,lo,t9,hi,fin=>by
  let:l=r:=by symm
  subst this;exact fin l s h2 lo t9 hi
 |f+1,l,r,s,Q,h1,h2,h3,lo,t9,hi,fin=>by
  unfold kas_place
  by_cases c:l ≥ r
  .rw[q0e c]
   let:l=r:=by symm
   subst this;exact fin l s h2 lo t9 hi
  .rw[q0c c]
   refine hc _ _ _ s (hp.lt ht) (hp.lt ⋯) hi λs' dy=>?_
   cases q:HT.lexLt (k (p.getD t 0)) (k (p.getD ((l+r) / 2) 0)) with
   |true =>
    calc Cj hc hp ht up f l ((l+r) / 2) s' Q ⋯ ⋯ ⋯ lo (λi a b=>?_) dy fin;exact kle_trans (si q) (up _ _ a b)
   |false =>
    calc Cj hc hp ht up f ((l+r) / 2+1) r s' Q ⋯ h2 ⋯ (λi a=>?_) t9 dy fin;calc kle_trans (up i ((l+r) / 2) ⋯ ⋯) q
theorem Jf(hc:qz n k I cmp):∀(f:Nat)(p:Array Nat)(t:Nat)(s:B)(Q:Array Nat->B->Prop),d8 n p->t+f=n->Up k p t->I s →
  (∀p' s',d8 n p'->Up k p' n->I s'->Q p' s')->(kas_bin f p t).kasWp cmp Q s
 |0,p,t,s,Q,hp,h2,up,hi,fin=>by
  let:t=n:=by symm
  subst this;exact fin p s hp up hi
 |f+1,p,t,s,Q,hp,h2,up,hi,fin=>by
  unfold kas_bin;rw[KasT.kasWp_bind];let sz:=hp.size;calc Cj hc hp ⋯ up t 0 t s _ (q0Z _) (Hz _) ⋯ (λi a=>absurd a ⋯) (λi a b=>absurd b ⋯) hi λl s' hl lo t9 dy=>?_;calc Jf hc f _ (t+1) s' Q (hp.RB _ _) ⋯ (λi j kR hj=>?_) dy fin;let kb:=λx=>RA (k:=k) (p:=p) (src:=t) (d:=t-l) ⋯ ⋯ x;let el:t-(t-l)=l:=by symm
  rw[kb i,kb j,el]
  by_cases c1:i=l
  .subst c1
   rw[q0e Y]
   by_cases c2:j=i
   .rw[q0e c2];exact kle_refl _
   .rw[q0c c2,q0e ⟨⋯,⋯⟩]
    exact t9 (j-1) ⋯ ⋯
  .rw[q0c c1]
   by_cases c2:j=l
   .subst c2
    rw[q0e Y,q0c ⋯];exact lo i ⋯
   .rw[q0c c2]
    by_cases c3:l<i/\i<=t
    .rw[q0e c3,q0e ⟨⋯,⋯⟩]
     exact up _ _ ⋯ ⋯
    .rw[q0c c3]
     by_cases c4:l<j/\j<=t
     .rw[q0e c4];exact up _ _ ⋯ ⋯
     .rw[q0c c4];calc up _ _ kR ⋯
theorem RD(hc:qz n k I cmp){s:B}{Q:Array Nat->B->Prop}(h1:1<=n)(hi:I s)(fin:∀p s',d8 n p->Up k p n->I s'->Q p s'):(kas_sort n).kasWp cmp Q s:=by
 unfold kas_sort;rw[KasT.kasWp_bind];refine RC hc ⟨q60 _⟩ h1 hi λp m s' a b c d e=>?_
 by_cases q:m<n
 .rw[q0e q]
  let:max m 1=m:=by symm
  rw[this];exact Jf hc (n-m) p m s' Q a ⋯ d e fin
 .rw[q0c q]
  let:m=n:=by symm
  subst this;calc fin p s' a d e
end
end L2
namespace L2
open PySem PySem.Spec PyProof.Rows
theorem Jg{δ0:aM}{bZ:aM->Prop}{g:WG}{b:WS}{K:KS}(I:Nat->aM->Prop):∀(items:-D)(i:Nat)(δ:aM),I i δ →
  (∀j d δ (L:aM->Prop),items[j]?=U d->I (i+j) δ->(∀δ',I (i+j+1) δ'->L δ')->bZ δ/\g (.p d) δ fun δ1=>b {nx:=fun δ2=>L (δ0.trim δ2),ct:=fun δ2=>L (δ0.trim δ2),bk:=K.nx,rt:=K.rt} δ1) →
  (∀δ,I (i+↑items) δ->bZ δ/\K.nx δ)->l_ δ0 bZ g b K items δ
 |[],i,δ,h,_,fin=>fin δ h
 |d::r,i,δ,h,st,fin=>by
  unfold l_;calc st 0 d δ (fun δ'=>l_ δ0 bZ g b K r δ') Y h fun δ' hi=>?_;refine Jg I r (i+1) _ hi (λj e δ L hj hI hL=>?_) fun δ hI=>?_
  .let e:i+1+j=i+(j+1):=by symm
   rw[e] at hI hL;exact st (j+1) _ δ L hj⁻¹ hI hL
  .exact fin δ (by rw[HB];let e:i+1+↑r=i+(↑r+1):=by symm
                   rw[e] at hI;calc hI)
theorem oU{δ0:aM}{bZ:aM->Prop}{g:WG}{b:WS}{K:KS}{items:-D}{δ:aM}(I:Nat->aM->Prop)(h0:I 0 δ)
  (st:∀j d δ (L:aM->Prop),items[j]?=U d->I j δ->(∀δ',I (j+1) δ'->L δ')->bZ δ/\g (.p d) δ fun δ1=>b {nx:=fun δ2=>L (δ0.trim δ2),ct:=fun δ2=>L (δ0.trim δ2),bk:=K.nx,rt:=K.rt} δ1)
  (fin:∀δ,I ↑items δ->bZ δ/\K.nx δ):l_ δ0 bZ g b K items δ :=
 Jg I items 0 δ h0 (λj d δ L hj hI hL=>by rw[q0A] at hI hL;calc st j d δ L hj hI hL) fun δ hI=>by rw[q0A] at hI;calc fin δ hI
def wb(δ0:aM)(bZ:aM->Prop)(g:WG)(t:WT)(f:WE)(d:D)(acc:-D)(δ:aM)(L:-D->aM->Prop):Prop :=
 bZ δ/\g (.p d) δ fun δ1=>t δ1 λb δ2=>if b=θ then f δ2 λx δ3=>lC x δ3 λe δ4=>↑acc<1000/\L (acc++[e]) (δ0.trim δ4) else L acc (δ0.trim δ2)
theorem Jh{δ0:aM}{bZ:aM->Prop}{g:WG}{t:WT}{f:WE}{K:-D->aM->Prop}(I:Nat->-D->aM->Prop):∀(items:-D)(i:Nat)(acc:-D)(δ:aM),I i acc δ →
  (∀j d acc δ (L:-D->aM->Prop),items[j]?=U d->I (i+j) acc δ->(∀fE δ',I (i+j+1) fE δ'->L fE δ')->wb δ0 bZ g t f d acc δ L) →
  (∀acc δ,I (i+↑items) acc δ->bZ δ/\K acc δ)->ki δ0 bZ g t f K items acc δ
 |[],i,acc,δ,h,_,fin=>fin acc δ h
 |d::r,i,acc,δ,h,st,fin=>by
  unfold ki;calc st 0 d acc δ (λfE δ'=>ki δ0 bZ g t f K r fE δ') Y h λfE δ' hi=>?_;refine Jh I r (i+1) fE _ hi (λj e acc δ L hj hI hL=>?_) λacc δ hI=>?_
  .let e:i+1+j=i+(j+1):=by symm
   rw[e] at hI hL;exact st (j+1) _ acc δ L hj⁻¹ hI hL
  .exact fin acc δ (by rw[HB];let e:i+1+↑r=i+(↑r+1):=by symm
                       rw[e] at hI;calc hI)
theorem Cm{δ0:aM}{bZ:aM->Prop}{g:WG}{t:WT}{f:WE}{K:-D->aM->Prop}{items:-D}{δ:aM}(I:Nat->-D->aM->Prop)(h0:I 0 [] δ)
  (st:∀j d acc δ (L:-D->aM->Prop),items[j]?=U d->I j acc δ->(∀fE δ',I (j+1) fE δ'->L fE δ')->wb δ0 bZ g t f d acc δ L)
  (fin:∀acc δ,I ↑items acc δ->bZ δ/\K acc δ):ki δ0 bZ g t f K items [] δ :=
 Jh I items 0 [] δ h0 (λj d acc δ L hj hI hL=>by rw[q0A] at hI hL;calc st j d acc δ L hj hI hL) λacc δ hI=>by rw[q0A] at hI;calc fin acc δ hI
theorem kS{δ0:aM}{bZ:aM->Prop}{g:WG}{t:WT}{f:WE}{K:-D->aM->Prop}{items:-D}(p:D->Bool)(fn:D->D)(hl:↑items<=1000)(hc:bZ δ0)
  (st:∀d∈items,∀acc (L:-D->aM->Prop),↑acc<1000->(p d=θ->L (acc++[fn d]) δ0)->(p d=ι->L acc δ0)->wb δ0 bZ g t f d acc δ0 L)
  (fin:K ((items.filter p).map fn) δ0):ki δ0 bZ g t f K items [] δ0:=by
 refine Cm (λi acc δ=>δ=δ0/\acc=((items.take i).filter p).map fn) ⟨Y,Y⟩ ?_ ?_
 .ext j d acc δ L hj ⟨rfl,rfl⟩ hL
  let d_:=(Hy.mp hj).1;let hm:d∈items:=q0S hj
  let hn:↑(((items.take j).filter p).map fn)<1000:=by
   rw[Ba];let:=q0K p (items.take j);rw[q0E] at this;symm
  let e:items.take (j+1)=items.take j++[d]:=by rw[q3h,hj];rfl
  refine st d hm _ L hn (λq=>hL _ _ ⟨Y,?_⟩) (λq=>hL _ _ ⟨Y,?_⟩)
  .rw[e,q3Z,q0r];simp[q9O,q]
  .rw[e,q3Z,q0r];simp[q9O,q]
 .ext acc δ ⟨rfl,rfl⟩
  rw[q1y (Hz _)];calc⟨hc,fin⟩
theorem km{δ0:aM}{bZ:aM->Prop}{g:WG}{t:WT}{f:WE}{K:-D->aM->Prop}{items:-D}(fn:D->D)(hl:↑items<=1000)(hc:bZ δ0)
  (st:∀d∈items,∀acc (L:-D->aM->Prop),↑acc<1000->L (acc++[fn d]) δ0->wb δ0 bZ g t f d acc δ0 L)
  (fin:K (items.map fn) δ0):ki δ0 bZ g t f K items [] δ0 :=
 kS (λ_=>θ) fn hl hc (λd hd acc L ha h _=>st d hd acc L ha (h Y)) (by rw[q5x.mpr λ_ _=>Y];calc fin)
end L2
namespace LJ
open PySem L2
theorem RE:bootBuiltins "range" = U (.type "range"):=by decide +kernel
theorem RF:bootBuiltins "max" = U (.builtin "max"):=by decide +kernel
theorem yx:bootBuiltins "min" = U (.builtin "min"):=by decide +kernel
theorem qA:bootBuiltins "sorted" = U (.builtin "sorted"):=by decide +kernel
structure BT(mg:J->Option L):Prop where
 len:mg "len" = Z
 range:mg "range" = Z
 list:mg "list" = Z
 tuple:mg "tuple" = Z
 set:mg "set" = Z
 sorted:mg "sorted" = Z
 min:mg "min" = Z
 max:mg "max" = Z
 sum:mg "sum" = Z
 all:mg "all" = Z
 any:mg "any" = Z
 enumerate:mg "enumerate" = Z
 zip:mg "zip" = Z
 isinstance:mg "isinstance" = Z
 int:mg "int" = Z
 bool:mg "bool" = Z
 str:mg "str" = Z
 repr:mg "repr" = Z
end LJ
namespace L2
open PySem PySem.Spec PyProof.Rows
variable[aR]
section
variable{X:Cx}{fa:WA}{pos:y}
theorem RG{F H:Hp}{ad:-O}{δ:aM}{σ:St}{p:O}(S:SR F ad δ σ H):dI F (ad++[p]) (.o ↑δ.mu) (.ref p) :=
 ⟨p,by rw[<-S.cF,Zf (Hz _),q0W];rfl,Y⟩
def Co(f g:WE):WE:=fun δ K=>f δ λx δ1=>g δ1 λy δ2=>jN x δ2 λd=>jN y δ2 λe=>match d,e with
 |.lst a,.lst b=>↑a+↑b<=1000/\K (.o ↑δ2.mu) ⟨δ2.sl,δ2.mu++[U (.lst (a++b))]⟩
 |_,_=>False
theorem RH{a b:l}{f g:WE}(ha:JE X a (tD f))(hb:JE X b (tD g)):JE X (.BinOp a .Add b pos) (tD (Co f g)) :=
 (uW Hw ha hb).weak fun σ H Q ⟨F,ad,δ,K,S,q,k⟩↦⟨F,ad,δ,_,S,q,λx δ1 h1 v1 F1 bt H1 E1 S1 V1=>⟨F1,bt,δ1,_,S1,h1,λy δ2 h2 v2 F2 cG H2 E2 S2 V2=>by
  let⟨d,h3,rd⟩:=lB S2 (V1.ext E2) h2;let⟨e,h4,re⟩:=lB S2 V2 h3;split at h4
  .rename_i as bs
   let⟨a,us,rfl,g1,g2⟩:=rd;let⟨b,ws,rfl,g3,g4⟩:=re;let oi:∀{qo},eU F2 qo (.lst (as++bs)) (.lst (us++ws)):=λ{qo}=>⟨_,Y,tZ g2 g4⟩;exact⟨a,b,us,ws,Y,Y,g1,g3,lD (by rw[↑g2,↑g4];calc h4.1),λp hp=>k _ _ h4.2 _ _ _ _ ((E1.trans E2).trans (Ext.own S2 hp)) (S2.own hp oi) (RG S2)⟩
  .calc h4.elim⟩⟩
theorem yy[kO]{st:R}:JS X st (dW tR):=⟨λpins s D σ H I q=>by let⟨F,ad,δ,K,S,q,k⟩:=q;calc q.elim⟩
end
end L2
namespace LJS
open PySem PySem.SetTable PyProof.Rows
section
variable{prog:t}{w:ω}{A:o}{S:O}{ks:-Int}
theorem ints_of:∀{l:-(Int×L)},(∀e∈l,∃k tk,e=(hashInt k,q0X k tk))->IntsAre (l.map (·.2)) (l.map keyOf)
 |[],_=>.nil
 |e::r,h=>by
  let⟨k,tk,rfl⟩:=h e q0h;calc .cons k tk (ints_of λe he=>h e (q0g _ he))
theorem RI{E:bA}{s:B}{Q:bA}(hh:A.handled=Z)(hS:fg s.heap S (iF w) ks)(hn:↑ks<64)
  (h:∀(h':I)(tk:Nat)(r:O)(out:Array L)(dz:-Int)(e:Nat),(∀b ob,s.heap.get? b=U ob->h'.get? b=U ob)->⇑s<=r->h'.get? r=U (seqObj "list" out e)->IntsAre out.toList dz->dz.Perm ks->dz.Pairwise (· <= ·)->Q (.ref r) {s with heap:=h',toks:=tk}) :
  M (g prog w) A (call (.builtin "sorted") [.ref S]) Q E s:=by
 let⟨o,es,ep,t,ho,hex,hd,T⟩:=hS;let hsz:=T.num;let lS:S<⇑s:=Ze ho;calc q35 kind_sorted plain_sorted entry_sorted (args_sorted1 _) ?_;unfold Builtin.«sorted»;calc rH (m:=checkCount "sorted" 1 1 _) (HA ?_);calc rH (Nn (by simp[hh]) ho hex hd T ⋯ λh1 mX tK le=>?_);let allI:∀e∈(iG w S ep es).toList,∃k tk,e=(hashInt k,q0X k tk):=λe he=>T.qN e ((zW w S ep es).mem_iff.mp he);let hI:IntsAre ((iG w S ep es).toList.map (·.2)) ((iG w S ep es).toList.map keyOf):=ints_of allI;let hP:((iG w S ep es).toList.map keyOf).Perm ks:=((zW w S ep es).map keyOf).trans T.keys
 let hL:↑((iG w S ep es).toList.map (·.2))=↑ks:=by rw[Ba,Zh,xg,hsz]
 generalize(iG w S ep es).toList.map (·.2)=vs at hI hL ⊢;generalize(iG w S ep es).toList.map keyOf=ns at hI hP;calc rH (q4j ?_);let pZ:(h1.push (seqObj "list" vs.toArray 0)).get? h1.objs.size=U (seqObj "list" vs.toArray 0):=Zg _ Y;calc rH (q0H (q08 (s:={s with heap:=h1.push (seqObj "list" vs.toArray 0),toks:=mX}) slot_list_sort ⟨_,pZ,Y⟩ entry_list_sort (list_sort_tree pZ hI ⋯ λout dz a1 a2 a3=>⟨_,Y,?_⟩) (args_list_sort _)));let⟨e,he⟩:=sortedHeap_at (out:=out) pZ;calc HA ⟨_,Y,h _ _ _ out dz e (λb ob eb=>?_) le he a1 (a2.trans hP) a3⟩;let hb:b<h1.objs.size:=Ze (tK b ob eb)
 show(sortedHeap (h1.push (seqObj "list" vs.toArray 0)) h1.objs.size vs out).get? b=U ob;rw[sortedHeap_old (q0b hb) (by rw[size_push'];calc q0J hb)];calc u7 _ (tK b ob eb)
end
end LJS
namespace L2
open PySem PySem.Spec PyProof.Rows
noncomputable def t_(led:Bool)(S:O)(ks:-Int):HO:=.ext λh=>LJS.fg h S led ks
theorem RJ{P:t}{w:ω}{H:Hp}{h:I}{S:O}{led:Bool}{ks:-Int}(e:LJS.fg h S led ks):bw P w H h S (t_ led S ks) :=
 ⟨e,let⟨o,_,_,_,ho,_⟩:=e;⟨o,ho⟩,λh1 h2 e1 k=>LJS.zT e1 λo eo=>k o eo⟩
noncomputable def gq(ns:-Int):-Int:=LJS.jC ns ↑ns
section
variable{X:Cx}
theorem RL(hc:X.calm=θ):g9 X (.builtin "sorted") (λxs H Q=>∃(p:O)(ks:-Int),xs=[.ref p]/\H p=U (t_ (LJS.iF X.w) p ks)/\↑ks<64/\∀(r:O)(dz:-Int),dz.Perm ks->dz.Pairwise (· <= ·)->H r=Z->Q (.ref r) (upd H r (.lst (dz.map V.int)))):=by
 ext pins s σ H xs us Q I r h;let⟨p,ks,rfl,hp,hn,q⟩:=h;let⟨u,rfl,rx⟩:=vals1 r;cases rx
 let⟨se,_⟩:=I.bu p _ hp;calc LJS.RI (I.ok.hd hc) se hn λh' tk r out dz e kp le he hI pm pw=>?_;calc⟨.ref r,_,I.laid (t':=tk) (o:=.lst (dz.map V.int)) kp le ?_,Y,q _ dz pm pw (I.bu.fresh le)⟩;calc⟨q1d (qg (by rw[Ba,pm.length_eq];symm)),out.toList,e,Bw hI,?_⟩;simpa[seqObj] using he
end
end L2
namespace LJS
open PySem PySem.SetTable PyProof.Rows
section
variable{t:SetTable}{f:Nat->Int}{h:Int}
end
section
variable{hk:Nat->Int}{ad:Nat->O}{t:SetTable}{es:Array (Int×L)}{js:-Nat}
end
section
variable{prog:t}{w:ω}{A:o}{E:bA}{s:B}{ad:Nat->O}{ks:Nat->-Int}{js:-Nat}{S:O}
end
section
variable{prog:t}{w:ω}{A:o}{R:Result->B->Prop}{I S:O}{fp wr:-O}{G:Array GenState->Array GenState->Prop}{n:Nat}{P:Nat->L->Prop}{St:Nat->B->Prop}
end
section
variable{prog:t}{w:S}{A:o}{E:bA}{s:B}
end
end LJS
namespace L2
open PySem PySem.Spec PyProof.Rows
variable[aR]
section
variable{X:Cx}{fa:WA}
theorem Ji{F:Hp}:∀{ps:-(Int×Int)}{vs:-V},af F (ps.map λp=>D.tup [.int p.1,.int p.2]) vs->∃as:-O,vs=as.map V.ref/\↑as=↑ps/\∀(i:Nat)(a:O)(k:Int×Int),as[i]?=U a->ps[i]?=U k->F a=U (.tup [.int k.1,.int k.2])
 |[],vs,h=>by
  let h:vs=[]:=by simpa only [q16,af] using h
  subst h;exact⟨[],Y,Y,λi a k e=>by simp at e⟩
 |p::r,vs,h=>by
  rw[q0m] at h;erw[af] at h;let⟨v,r',rfl,h1,h2⟩:=h;let⟨as,rfl,hl,g⟩:=Ji h2;erw[Is] at h1;let⟨a,us,rfl,e1,e2⟩:=h1;erw[af,Is] at e2;let⟨_,_,rfl,rfl,_,_,rfl,rfl,rfl⟩:=e2;refine⟨a::as,Y,by rw[HB,HB,hl],λi b k eb ek=>?_⟩
  cases i with
  |zero =>
   cases(show U a=U b by simpa using eb)
   cases(show U p=U k by simpa using ek)
   exact e1
  |succ i=>calc g i b k eb⁻¹ ek⁻¹
end
end L2
namespace HT
open PySem PySem.Spec PyProof.Rows
section
variable{prog:t}{w:S}{A:o}{E:bA}{s:B}
theorem RM{t b:O}{ws:-L}{Q:bA}(ht:IsTup s.heap t #[])(hb:IsTup s.heap b ws.toArray)(h:Q (.ref b) s):M (g prog w) A (binaryOp .Add (.ref t) (.ref b)) Q E s:=by
 let⟨⟨cls,dd,data,sl⟩,ho,hc,n,hd⟩:=id ht;let⟨⟨rB,lr,data2,lz⟩,fR,jH,n2,hd2⟩:=id hb;simp only at hc hd jH hd2;subst hc hd jH hd2
 exact q6b ⟨_,ho,Y⟩ ⟨_,fR,Y⟩ q4x q5F q3f q26 (q2Z _ _)
  (tuple_addW0 t b #[] ws.toArray n n2 dd lr sl lz Y) ⟨ho,fR,h⟩
theorem RN{t sl:O}{items:Array L}{vl vu:L}{lo hi:Option Int}{Q:bA}(ht:IsTup s.heap t items)(hs:s.heap.IsSliceOf sl vl vu .none)(pl:IsPart vl lo)(pu:IsPart vu hi)
  (hw:bP items.size 0 lo=0/\bP items.size items.size hi=items.size) (h:Q (.ref t) s):M (g prog w) A (getItem (.ref t) (.ref sl)) Q E s:=by
 let⟨os,rC,tu,u3⟩:=id hs;let AR:s.TypeIs (.ref sl) "slice" := ⟨os,rC,tu⟩;unfold getItem
 try with_reducible refine q0H ?_
 first|refine rH (HA ?_)|skip
 refine rH (q6c ht.typeIs (by decide) ?_)
 refine rH (q07 (name:=q0V "__getitem__") ht.typeIs q05
  (q08 q05 ht.typeIs q5u ?_ (q5T _ _)))
 show M _ _ (q3U (.ref t) >>= _) _ _ s;calc rH (tupleItemsOf_ ht ?_);calc rH (q3I AR ?_);rw[q0e (by decide)];calc rH (Hd hs pl pu ?_);show M _ _ (if(((bP items.size 0 lo:Nat):Int)==0&&(1:Int)==1&&(bP items.size items.size hi-bP items.size 0 lo)==items.size)=θ then _ else _) _ _ s;rw[q0e (by rw[hw.1,hw.2];simp)];unfold Builtin.Tuple.tupleIsExact;calc rH (rH (q3I ht.typeIs (HA ?_)));rw[q0e (by decide)];calc rH (q3p ?_);calc HA ⟨_,Y,HA h⟩
end
end HT
namespace L2
open PySem PySem.Spec PyProof.Rows
variable[aR]
section
variable{X:Cx}{e:l}{te:TE}{pos p2 p3 p4:y}
def RO(K:My):V->Option Int->Option Int->Hp->VK->Prop:=λx lo hi H Q=>∃a xs,x=.ref a/\b8 K H a xs ∧
 (HT.bP ↑xs 0 lo=0/\HT.bP ↑xs ↑xs hi=↑xs->Q (.ref a) H)/\(¬ (HT.bP ↑xs 0 lo=0/\HT.bP ↑xs ↑xs hi=↑xs)->∀p,H p=Z->Q (.ref p) (upd H p (.tup (dH xs lo hi))))
theorem RP:qe X (RO X.K):=by
 ext pins s σ H x v vl vu lo hi sl Q I rx hs pl pu h;let⟨a,xs,rfl,hx,q1,q2⟩:=h
 by_cases hw:HT.bP ↑xs 0 lo=0/\HT.bP ↑xs ↑xs hi=↑xs
 .cases rx
  let⟨az,r,ht,hz⟩:=I.tuple hx;let hlen:az.toArray.size=↑xs:=by rw[PA];exact r.length.symm
  calc⟨"tuple",_,q05.lookup,ht.typeIs,?_⟩;exact HT.RN ht hs pl pu (by rw[hlen];calc hw) ⟨.ref a,H,I,Y,q1 hw⟩
 .calc Pe pins s σ H _ v vl vu lo hi sl Q I rx hs pl pu ⟨a,xs,Y,hx,hw,q2 hw⟩
theorem RQ:eI X (binaryOp .Add) (λx y H Q=>∃a b ys,x=.ref a/\y=.ref b/\b8 X.K H a []/\b8 X.K H b ys/\Q (.ref b) H):=by
 ext pins s σ H x y v u Q I rx ry h;let⟨a,b,ys,rfl,rfl,ha,hb,q⟩:=h;cases rx
 cases ry
 let⟨az,r1,p1,_⟩:=I.tuple ha;let⟨bO,r2,p2,_⟩:=I.tuple hb;let:az=[]:=r1.fV.mpr Y;subst this;calc HT.RM p1 p2 ⟨.ref b,H,I,Y,q⟩
theorem RR:eI X (compareOp .Is) (λx y H Q=>∃a b,x=.bl a/\y=.bl b/\Q (.bl (a==b)) H):=by
 ext pins s σ H x y v u Q I rx ry h;let⟨a,b,rfl,rfl,q⟩:=h;cases rx
 cases ry
 calc HA ⟨.bl (a==b),H,I,by cases a<;>cases b<;>rfl,q⟩
theorem RS:eI X (compareOp .IsNot) (λx y H Q=>∃a b,x=.bl a/\y=.bl b/\Q (.bl (!(a==b))) H):=by
 ext pins s σ H x y v u Q I rx ry h;let⟨a,b,rfl,rfl,q⟩:=h;cases rx
 cases ry
 calc HA ⟨.bl (!(a==b)),H,I,by cases a<;>cases b<;>rfl,q⟩
def c8:D->D->(D->Prop)->Prop
 |.int i,.int j,K=>K (.int (i+j))
 |.lst a,.lst b,K=>↑a+↑b<=1000/\K (.lst (a++b))
 |.tup a,.tup b,K=>↑a+↑b<=1000/\K (.tup (a++b))
 |.str a,.str b,K=>↑a+↑b<=1000/\K (.str (a++b))
 |_,_,_=>False
theorem oV:fB X (binaryOp .Add) c8:=by
 ext pins s σ H x y v u Q I rx ry ⟨F,d,e,K,sub,rd,re,q,md⟩;unfold c8 at q;split at q
 .exact yj pins s σ H x y v u Q I rx ry ⟨F,_,_,K,sub,rd,re,q,md⟩
 .exact yj pins s σ H x y v u Q I rx ry ⟨F,_,_,K,sub,rd,re,q,md⟩
 .rename_i as bs
  by_cases c:as=[]
  .subst c
   let dA:Is F (.tup []) x:=rd;let iZ:Is F (.tup bs) y:=re;let RT:=iZ;erw[Is] at dA iZ;let⟨a,us,rfl,h1,h2⟩:=dA;let⟨b,ws,rfl,h3,h4⟩:=iZ;let:us=[]:=by simpa only [af] using h2
   subst this;exact RQ pins s σ H _ _ v u Q I rx ry ⟨a,b,ws,Y,Y,b8.of (sub _ _ h1),b8.of (sub _ _ h3),md _ _ _ q.2 (λ_ _ e=>e) (vQ sub RT)⟩
  .exact yj pins s σ H x y v u Q I rx ry ⟨F,_,_,K,sub,rd,re,⟨⟨c,q.1⟩,q.2⟩,md⟩
 .exact yj pins s σ H x y v u Q I rx ry ⟨F,_,_,K,sub,rd,re,q,md⟩
 .calc q.elim
def sj:D->Option Int->Option Int->(D->Prop)->Prop
 |.lst ds,lo,hi,K=>K (.lst (cutD ds lo hi))
 |.tup ds,lo,hi,K=>K (.tup (cutD ds lo hi))
 |_,_,_,_=>False
def i5(f:WE)(l h:WO):WE:=fun δ K=>f δ λx δ1=>l δ1 λlo δ2=>h δ2 λhi δ3=>jN x δ3 λd=>sj d lo hi λz=>K (.p z) δ3
theorem RU{ds:-D}{lo hi:Option Int}(h:HT.bP ↑ds 0 lo=0/\HT.bP ↑ds ↑ds hi=↑ds):cutD ds lo hi=ds:=by
 unfold cutD;rw[h.1,h.2,q5g,q77,q1y (Hz _)]
theorem Cp{e:υ}{f:WE}{lo hi:Option υ}{l h:WO}{pos p2:y}(he:JE X e (tD f))(hl:PO X lo (ym l))(hh:PO X hi (ym h)):JE X (.Subscript e (.Slice lo hi Z p2) pos) (tD (i5 f l h)) :=
 (AS (hJ.or RP) he hl hh).weak fun σ H Q ⟨F,ad,δ,K,S,q,k⟩=>⟨F,ad,δ,_,S,q,λx δ1 h1 v F1 bt H1 E1 S1 V1=>⟨F1,bt,δ1,_,S1,h1,λlo δ2 h2 F2 cG H2 E2 S2=>⟨F2,cG,δ2,_,S2,h2,λhi δ3 h3 F3 rW H3 E3 S3=>by
  let⟨d,h4,rd⟩:=lB S3 ((V1.ext E2).ext E3) h3;let Cq:=(E1.trans E2).trans E3;unfold sj at h4;split at h4
  .rename_i ds
   let⟨a,vs,rfl,g1,g2⟩:=rd;calc .inl ⟨a,vs,Y,bU.of g1,λp hp=>?_⟩;exact k _ _ h4 _ _ _ _ (Cq.trans (Ext.al S3 (cI hp))) (S3.al (cI hp)) (mi S3.sub hp (IK g2 _ _))
  .rename_i ds
   let dA:Is F3 (.tup ds) v:=rd;let RW:=dA;erw[Is] at dA;let⟨a,vs,rfl,g1,g2⟩:=dA;refine .inr ⟨a,vs,Y,b8.of (S3.sub _ _ g1),λhw=>?_,λ_ p hp=>?_⟩
   .rw[↑g2] at hw
    rw[RU hw] at h4;exact k _ _ h4 _ _ _ _ Cq S3 RW
   .exact k _ _ h4 _ _ _ _ (Cq.trans (Ext.al S3 (cI hp))) (S3.al (cI hp)) (B7 S3.sub hp (IK g2 _ _))
  .calc h4.elim⟩⟩⟩
def i7:D->D->(D->Prop)->Prop
 |.bl a,.bl b,K=>K (.bl (a==b))
 |d,e,K=>h_ d e K
def wc:D->D->(D->Prop)->Prop
 |.bl a,.bl b,K=>K (.bl (!(a==b)))
 |d,e,K=>vS d e K
theorem wd:fB X (compareOp .Is) i7:=by
 ext pins s σ H x y v u Q I rx ry ⟨F,d,e,K,sub,rd,re,q,md⟩;unfold i7 at q;split at q
 .rename_i a b
  exact RR pins s σ H x y v u Q I rx ry ⟨a,b,rd,re,md _ _ _ q (λ_ _ e=>e) Y⟩
 .calc Rl pins s σ H x y v u Q I rx ry ⟨F,_,_,K,sub,rd,re,q,md⟩
theorem Jj:fB X (compareOp .IsNot) wc:=by
 ext pins s σ H x y v u Q I rx ry ⟨F,d,e,K,sub,rd,re,q,md⟩;unfold wc at q;split at q
 .rename_i a b
  exact RS pins s σ H x y v u Q I rx ry ⟨a,b,rd,re,md _ _ _ q (λ_ _ e=>e) Y⟩
 .calc Rm pins s σ H x y v u Q I rx ry ⟨F,_,_,K,sub,rd,re,q,md⟩
end
end L2
namespace L2
open PySem PySem.Spec PyProof.Rows
variable[aR]{X:Cx}
def yz(_ j:Int):Prop:=j≠0/\j.natAbs<10 ^ 40
theorem RX:fB X (binaryOp .FloorDiv) (e8 yz λi j=>.int (i.fdiv j)):=B8 (xv λi j _ _ _ _ _ hc q=>floordiv_int hc.1 q (.inl (PyProof.noPylong_of_log2 ((Nat.log2_lt (Int.natAbs_ne_zero.mpr hc.1)).mpr (q0j hc.2 (q0w (by decide:10 ^ 40<=2 ^ 200) (Nat.pow_le_pow_right (by decide) (by decide)))))))) λ_ _ _=>Y
end L2
open L2
open Lean in
local macro_rules
 |`(tactic|simp![$ls,*] $[$loc:location]?)=>do
  let t:=("q2Q dep:2 bT:2 q0Z Nat.max_self Nat.max_zero Nat.zero_max Nat.reduceLeDiff aD bo dN ak ag d1 d2 dC aa oy:2 jN:3 lC:3 kN:2 aM.fix Im:2 bV dU oz dT tO:1 fJ nr gD tP lE BB dM lF aQ bS bR iJ:1 dX:1 iX hZ fK dZ qq dj cm qt:3 me BW iY BX:2 dY aE vJ passes:4 kQ:2 cP:1 oH:4 vI:1 bz:3 r_:4 c8:4 sj:2 i5 i7:1 wc:1 tR oQ:1 eV:2 oI:1 e8:1 oEq oP oLt:2 h_ vS fX:2 cB:3 t7:2 vV:2 vW:1 yo:1 dr yq Co i0 qw qy gf:1 ib oS Cf Cc jQ wb aM.trim gE:2 x9:3 Option.join_some Option.join_none q0m q16 q4A q40 q1m q5y List.getElem?_cons_zero q4B List.getElem?_nil q1b q1c HB q1i q5w q3Y List.take_nil List.any_nil q2w Bool.not_false q4e q5G Bool.and_self q5D q03 Bool.true_eq_false q2G q2a true_and and_true and_self reduceCtorEq beq_self_eq_true q0A q7K Nat.reduceLT Nat.reduceEqDiff Nat.reduceSub Ba Pz".splitOn " ").map (·.splitOn ":")
  let m:List String->MacroM (Syntax.TSepArray [`Lean.Parser.Tactic.simpStar,`Lean.Parser.Tactic.simpErase,`Lean.Parser.Tactic.simpLemma] ","):=λl=>do
   let a←l.toArray.mapM λs=>`(Parser.Tactic.simpLemma|$(mkIdent s.toName):ident)
   pure ⟨(Syntax.SepArray.ofElems (sep:=",") ((a.push (←`(Parser.Tactic.simpLemma|↓reduceIte))).map (·.raw)++ls.getElems.map (·.raw))).elemsAndSeps⟩
  let a←m (t.map (·.head!))
  let d←m (t.flatMap fun|[x,n]=>(List.range n.toNat!).map λk=>s!"{x}.eq_{k+1}"|x=>x)
  if loc.isSome then `(tactic|simp only[$a,*] $[$loc]?) else `(tactic|first|((set_option backward.dsimp.useDefEqAttr false in dsimp only[$(⟨d.elemsAndSeps⟩),*]);try simp only[$a,*])|simp only[$a,*])
local macro_rules | `(tactic| simp! $[$l:location]?) => `(tactic| simp! [] $[$l]?)
set_option maxHeartbeats 8000000
namespace LJ
open PySem L2
variable[aR]
theorem Jk{ns:-Int}{k:Int}(h0:0<=k)(h1:k<(↑ns:Int)):∃n,fq (ns.map D.int) k=U (.int n):=by
 let⟨i,rfl⟩:∃i:Nat,k=i:=⟨k.toNat,⋯⟩;let hi:i<↑ns:=by symm
 calc⟨ns[i],j9 ?_⟩;rw[PB,xF hi];rfl
theorem dB{α:Type}{x:α}{r:-α}:fq (x::r) 0=U x:=j9 (j:=0) Y
theorem eB{α:Type}{x y:α}{r:-α}:fq (x::y::r) 1=U y:=j9 (j:=1) Y
theorem at2{α:Type}{x y z:α}{r:-α}:fq (x::y::z::r) 2=U z:=j9 (j:=2) Y
theorem we{a b A B:Int}(h0:0<=a)(h1:a<=A)(h2:0<=b)(h3:b<=B):0<=a*b/\a*b<=A*B :=
 ⟨Int.mul_nonneg h0 h2,Int.mul_le_mul h1 h3 h2 (Int.le_trans h0 h1)⟩
noncomputable def i8:-Int:=[2147483629,2147483587,2147483579,2147483563,2147483549,2147483543,2147483497,2147483489,2147483477,2147483423,2147483399,2147483353,2147483323]
theorem Cr(n:Int):∃q:Int,fq (i8.map D.int) (n%13)=U (.int q)/\0<q/\q<2147483648:=by
 let h0:0<=n%13:=q1H _ (by decide);let h1:n%13<13:=q1a _ (by decide);generalize n%13=j at h0 h1;let⟨i,rfl⟩:∃i:Nat,j=i:=⟨j.toNat,⋯⟩;let hi:i<13:=by symm
 let hl:(i8.map D.int)[i]?=U (.int (i8[i]'(by show i<13;calc hi))):=by
  rw[PB,xF (by show i<13;calc hi)];rfl
 calc⟨_,j9 hl,?_⟩;let all:∀q∈i8,0<q/\q<2147483648:=by decide
 calc all _ (q1Q _)
theorem RY:jI 3 1=U 1:=rfl
theorem Jl:jI 3 2=U 2:=rfl
abbrev Sem(n m:Nat)(g:GD)(b:WS):Prop:=∀ys aB K',↑ys=n->g ys aB K'->b (jQ ↑aB K') ⟨ys.map U++q0f m Z,aB.map U⟩
theorem br{A B:WS}{K:KS}{δ:aM}(h:∀N:aM->Prop,N=B K->A {K with nx:=N} δ):aD A B K δ:=h _ Y
theorem i9{t:WT}{G G':WS}{K:KS}{δ:aM}(h:∀A B:aM->Prop,A=G K->B=G' K->t δ λb δ1=>if b=θ then A δ1 else B δ1):bS t G G' K δ:=h _ _ Y Y
theorem sk{w:WI}{g:WG}{b:WS}{K:KS}{δ:aM}(h:∀g' b' K',g'=g->b'=b->K'=K->w δ λit δ1=>l_ δ1 it.bZ g' b' K' it.items δ1):fK w g b K δ:=h _ _ _ Y Y Y
theorem ua{f:WE}{g:WA}{δ:aM}{K:-DV->aM->Prop}(h:∀K',K'=(λx δ1=>g δ1 λxs δ2=>K (x::xs) δ2)->f δ K'):ak f g δ K:=h _ Y
inductive Cu (ys:-DV) (aB:-OV) (K:RV->-OV->Prop):Prop
 |mk (cell at_:Int) (_:ys=[.p (.int cell),.p (.int at_)]) (_:aB=[]) (_:0<=at_) (_:at_<2 ^ 30) (_:∀z:Int,K (.p (.int z)) [])
def Cv:WS:=(aD (bS (dT (d2 (aa 0) (d2 (dC (.int 10)) (dC (.int 18)) (e8 g_ λi j=>.int (i ^ j.toNat))) (oI λi j=>.bl (G (j<=i))))) (aQ (aa 0)) dM) (aD (bo 2 (dU (ak (dC (.int 2147483629)) (ak (dC (.int 2147483587)) (ak (dC (.int 2147483579)) (ak (dC (.int 2147483563)) (ak (dC (.int 2147483549)) (ak (dC (.int 2147483543)) (ak (dC (.int 2147483497)) (ak (dC (.int 2147483489)) ag)))))))))) (aD (bo 2 (d2 (aa 2) (dU (ak (dC (.int 2147483477)) (ak (dC (.int 2147483423)) (ak (dC (.int 2147483399)) (ak (dC (.int 2147483353)) (ak (dC (.int 2147483323)) ag)))))) c8)) (aD (bo 3 (d2 (d2 (d2 (d2 (d2 (d2 (aa 0) (dC (.int 1000000007)) (e8 (λ_ j=>0<j) λi j=>.int (i%j))) (d2 (d2 (dC (.int 2)) (aa 1) eV) (dC (.int 69069)) c8) eV) (d2 (aa 1) (dC (.int 40503)) eV) c8) (dC (.int 977)) c8) (dC (.int 3)) (e8 g_ λi j=>.int (i ^ j.toNat))) (d2 (aa 2) (d2 (aa 1) (dC (.int 13)) (e8 (λ_ j=>0<j) λi j=>.int (i%j))) bz) (e8 (λ_ j=>0<j) λi j=>.int (i%j)))) (aD (bo 4 (d2 (d2 (d2 (d2 (d2 (aa 3) (d2 (aa 1) (dC (.int 3)) c8) eV) (d2 (aa 0) (dC (.int 65537)) (e8 (λ_ j=>0<j) λi j=>.int (i%j))) c8) (dC (.int 5)) c8) (dC (.int 5)) (e8 g_ λi j=>.int (i ^ j.toNat))) (d2 (aa 2) (d2 (d2 (aa 1) (dC (.int 5)) c8) (dC (.int 13)) (e8 (λ_ j=>0<j) λi j=>.int (i%j))) bz) (e8 (λ_ j=>0<j) λi j=>.int (i%j)))) (aD (bo 5 (d2 (d2 (d2 (d2 (aa 4) (d2 (aa 3) (dC (.int 1009)) (e8 (λ_ j=>0<j) λi j=>.int (i%j))) c8) (aa 1) c8) (dC (.int 3)) (e8 g_ λi j=>.int (i ^ j.toNat))) (d2 (aa 2) (d2 (d2 (aa 1) (dC (.int 7)) c8) (dC (.int 13)) (e8 (λ_ j=>0<j) λi j=>.int (i%j))) bz) (e8 (λ_ j=>0<j) λi j=>.int (i%j)))) (aQ (d2 (d2 (d2 (d2 (aa 3) (dC (.int 2147483647)) eV) (aa 4) c8) (dC (.int 2147483647)) eV) (aa 5) c8))))))))
theorem RZ:Sem 2 4 Cu Cv:=by
 ext ys aB K'-⟨cell,k,rfl,rfl,h0,h1,fin⟩;unfold Cv;let mq:∀(z:Int)(sl:-(Option DV)),h8 0 K' (.p (.int z)) ⟨sl,[]⟩:=λz sl=>⟨[],Y,Y,fin z⟩;simp! at ⊢;calc⟨⟨by decide,by decide,by decide⟩,?_⟩;split
 .exact mq _ _
 let⟨q1,e1,p1,b1⟩:=Cr k;let⟨q2,e2,p2,b2⟩:=Cr (k+5);let⟨q3,e3,p3,b3⟩:=Cr (k+7);erw[i8,q0m,q16] at e1 e2 e3;erw[e1,e2,e3];let c0:0<=cell%1000000007:=q1H _ (by decide);let c1:cell%1000000007<1000000007:=q1a _ (by decide);let m1:=we c0 (Int.le_of_lt c1) (show(0:Int)<=2*k+69069 by symm) (show 2*k+69069<=2147552717 by symm);refine⟨by decide,.inl ⟨by decide,by decide⟩,.inl ⟨⋯,⋯⟩,.inr ⟨by decide,by decide⟩,⟨by decide,by decide,?cp1⟩,by decide,p1,?_⟩
 case cp1 =>
  generalize cell%1000000007*(2*k+69069)=m at m1 ⊢;symm
 generalize(cell%1000000007*(2*k+69069)+k*40503+977) ^ (3:Int).toNat=x1;let o0:0<=x1%q1:=q1H _ ⋯;let o1:x1%q1<q1:=q1a _ p1;let d0:0<=cell%65537:=q1H _ (by decide);let d1:cell%65537<65537:=q1a _ (by decide);let m2:=we o0 (show x1%q1<=2147483648 by symm) (show(0:Int)<=k+3 by symm) (show k+3<=1073741827 by symm);refine⟨.inl ⟨⋯,⋯⟩,by decide,⟨by decide,by decide,?cp2⟩,by decide,p2,?_⟩
 case cp2 =>
  generalize x1%q1*(k+3)=m at m2 ⊢;symm
 let t0:0<=(x1%q1*(k+3)+cell%65537+5) ^ (5:Int).toNat%q2:=q1H _ ⋯;let t1:(x1%q1*(k+3)+cell%65537+5) ^ (5:Int).toNat%q2<q2:=q1a _ p2;let u0:0<=x1%q1%1009:=q1H _ (by decide);let u1:x1%q1%1009<1009:=q1a _ (by decide);generalize(x1%q1*(k+3)+cell%65537+5) ^ (5:Int).toNat%q2=m at t0 t1 ⊢;calc⟨by decide,⟨by decide,by decide,⋯⟩,by decide,p3,.inr ⟨by decide,by decide⟩,.inr ⟨by decide,by decide⟩,mq _ _⟩
noncomputable def jS(ns:-Int)(k z:Int):OV:=.lst [.lst (ns.map D.int),.int k,.int z]
structure bM(n:Int)(o:OV):Prop where
 out:∃ns k z,o=jS ns k z/\↑ns<=63/\0<=k/\k<=n
theorem bM.mono{n m:Int}{o:OV}(h:bM n o)(l:n<=m):bM m o:=by
 let⟨ns,k,z,e,h1,h2,h3⟩:=h.out;calc⟨ns,k,z,e,h1,h2,⋯⟩
inductive Cw (ys:-DV) (aB:-OV) (K:RV->-OV->Prop):Prop
 |mk (n) (o) (_:ys=[.o 0]) (_:aB=[o]) (_:bM n o) (_:∀o',bM n o'->K (.a 0) [o'])
def Cy:WS:=(aD (qy (dC (.int 0)) (aa 0) (dC (.int 2))) (aQ (aa 0)))
theorem R0:Sem 1 0 Cw Cy:=by
 ext ys aB K'-⟨n,o,rfl,rfl,P,fin⟩;let⟨ns,k,z,rfl,h1,h2,h3⟩:=P.out;unfold Cy jS;simp!;calc⟨[jS ns k 0],Y,Y,fin _ ⟨ns,k,0,Y,h1,h2,h3⟩⟩
inductive gG (ys:-DV) (aB:-OV) (K:RV->-OV->Prop):Prop
 |mk (n m:Int) (o:OV) (_:ys=[.o 0,.p (.int m)]) (_:aB=[o]) (_:bM n o) (_:n<2 ^ 30) (_:0<m) (_:m<10 ^ 40) (_:∀r o',0<=r->r<m->bM (n+1) o'->K (.p (.int r)) [o'])
def Cz:WS:=(aD (bS (dT (d2 (d2 (aa 0) (dC (.int 2)) bz) (aa 1) oLt)) (aD (bo 2 (d2 (aa 0) (dC (.int 1)) bz)) (aD (bo 3 (dC (.int 0))) (aD (bS (dT (d2 (aa 2) (dN (ak (d2 (aa 0) (dC (.int 0)) bz) ag) cB) oLt)) (bo 3 (d2 (d2 (aa 0) (dC (.int 0)) bz) (aa 2) bz)) (bS (dT (d2 (dN (ak (d2 (aa 0) (dC (.int 0)) bz) ag) cB) (dC (.int 0)) (oI λi j=>.bl (G (j<i))))) (bo 3 (d2 (d2 (d2 (aa 0) (dC (.int 0)) bz) (d2 (d2 (d2 (aa 2) (dC (.int 5)) eV) (dC (.int 3)) c8) (dN (ak (d2 (aa 0) (dC (.int 0)) bz) ag) cB) (e8 (λ_ j=>0<j) λi j=>.int (i%j))) bz) (d2 (d2 (dC (.int 10)) (dC (.int 17)) (e8 g_ λi j=>.int (i ^ j.toNat))) (aa 2) c8) (e8 (λ_ j=>0<j) λi j=>.int (i%j)))) dM)) (aD (qy (d2 (aa 2) (dC (.int 1)) c8) (aa 0) (dC (.int 1))) (qy (aE 2 Cu (ak (aa 3) (ak (aa 2) ag))) (aa 0) (dC (.int 2))))))) dM) (aD (bo 4 (d2 (d2 (aa 0) (dC (.int 2)) bz) (aa 1) (e8 (λ_ j=>0<j) λi j=>.int (i%j)))) (aD (qy (d2 (d2 (aa 0) (dC (.int 2)) bz) (aa 1) (e8 yz λi j=>.int (i.fdiv j))) (aa 0) (dC (.int 2))) (aQ (aa 4)))))
theorem R1:Sem 2 3 gG Cz:=by
 ext ys aB K'-⟨n,m,o,rfl,rfl,P,hn,Jo,Zo,fin⟩;let⟨ns,k,z,rfl,h1,h2,h3⟩:=P.out;unfold Cz jS
 let last:∀(k' z':Int)(sl:-(Option DV)),0<=k'->k'<=n+1->h8 1 K' (.p (.int (z'%m))) ⟨sl,[U (.lst [.lst (ns.map D.int),.int k',.int (z'.fdiv m)])]⟩:=λk' z' sl a b =>
  ⟨[jS ns k' (z'.fdiv m)],Y,Y,fin _ _ (q1H _ ⋯) (q1a _ Jo) ⟨ns,k',_,Y,h1,a,b⟩⟩
 let R3:∀z,yz z m:=λz=>⟨⋯,⋯⟩
 let rest:∀(k' z':Int)(s2 s3 s4:Option DV),0<=k'->k'<=n+1->(aD (bo 4 (d2 (d2 (aa 0) (dC (.int 2)) bz) (aa 1) (e8 (λ_ j=>0<j) λi j=>.int (i%j)))) (aD (qy (d2 (d2 (aa 0) (dC (.int 2)) bz) (aa 1) (e8 yz λi j=>.int (i.fdiv j))) (aa 0) (dC (.int 2))) (aQ (aa 4)))) (jQ 1 K') ⟨[U (.o 0),U (.p (.int m)),s2,s3,s4],[U (.lst [.lst (ns.map D.int),.int k',.int z'])]⟩:=λk' z' s2 s3 s4 a b=>by
  simp![at2,Jl];exact⟨Jo,R3 _,last _ _ _ a b⟩
 calc br λN hN=>?_;calc i9 λA B hA hB=>?_;simp![at2] at ⊢;split
 .subst hA
  calc br λN2 my=>?_;simp![eB];subst my;calc br λN2 my=>?_;simp!;subst my;refine br λN2 my=>?_
  let go:∀(c:Int)(s4:Option DV),N2 ⟨[U (.o 0),U (.p (.int m)),U (.p (.int k)),U (.p (.int c)),s4],[U (.lst [.lst (ns.map D.int),.int k,.int z])]⟩:=λc s4=>by
   subst my;simp![RY];calc⟨c,k,Y,Y,h2,⋯,λz'=>?_⟩;simp![Jl];subst hN;exact rest _ _ _ _ _ ⋯ ⋯
  calc i9 λA B hA hB=>?_;simp![dB] at ⊢;split
  .rename_i d_
   let⟨c,ec⟩:=Jk h2 (q0O d_);subst hA;simp![dB];rw[ec];exact go _ _
  .subst hB
   calc i9 λA B hA hB=>?_;simp![dB] at ⊢;split
   .rename_i oW
    let oW:=q0O oW;let⟨c,ec⟩:=Jk (ns:=ns) (k:=(k*5+3)%(↑ns:Int)) (q1H _ ⋯) (q1a _ oW);subst hA;simp![dB];calc⟨.inr ⟨by decide,by decide⟩,oW,?_⟩;rw[ec];exact⟨⟨by decide,by decide,by decide⟩,by show(0:Int)<10 ^ 17+k;symm,go _ _⟩
   .subst hB
    exact go _ _
 .subst hB hN
  calc rest _ _ _ _ _ ⋯ ⋯
noncomputable def df(p:Int×Int):D:=.tup [.int p.1,.int p.2]
structure d9(many:Int)(ps:-(Int×Int)):Prop where
 ends:∀p∈ps,0<=p.1/\p.1<p.2/\p.2<many
 lR:ps.Nodup
 iM:↑ps<=66
theorem d9.sub{many:Int}{ps qs:-(Int×Int)}(h:d9 many ps)(s:qs.Sublist ps):d9 many qs :=
 ⟨λp hp=>h.ends p (s.subset hp),h.lR.sublist s,q0w s.length_le h.iM⟩
inductive CA (ys:-DV) (aB:-OV) (K:RV->-OV->Prop):Prop
 |mk (n kind many:Int) (o:OV) (_:ys=[.o 0,.p (.int kind),.p (.int many)]) (_:aB=[o]) (_:bM n o) (_:n+100<2 ^ 30) (_:1<=many) (_:many<=12) (_:∀ps o',d9 many ps->bM (n+67) o'->K (.n (ps.map df)) [o'])
def CB:WS:=(aD (bo 3 (oz ag)) (aD (fK (me (ak (aa 2) ag)) (bR 4) (lF (oS (aa 3) (ak (dZ (me (ak (aa 4) ag)) [Z,U 4] (bR 0) dj (bV (ak (aa 0) (ak (aa 1) ag)))) ag)))) (aD (bS (dT (d2 (aa 1) (dC (.int 1)) oEq)) (aQ (qq (BW (ak (dC (.int 1)) (ak (aa 2) ag))) [Z,U 0] (bR 0) dj (bV (ak (aE 2 gG (ak (aa 1) (ak (aa 0) ag))) (ak (aa 0) ag))))) dM) (aD (bS (dT (d2 (aa 1) (dC (.int 2)) oEq)) (aD (bo 5 (dZ (me (ak (d2 (aa 2) (dC (.int 1)) (oI λi j=>.int (i-j))) ag)) [Z] (bR 0) dj (bV (ak (aa 0) (ak (d2 (aa 0) (dC (.int 1)) c8) ag))))) (aQ (Co (aa 5) (dZ (cm (aa 3)) [Z,U 2] (bR 0) (fJ (dT (d2 (aa 0) (bV (ak (dC (.int 0)) (ak (d2 (aa 1) (dC (.int 1)) (oI λi j=>.int (i-j))) ag))) oEq)) (dT (d2 (aa 1) (dC (.int 2)) (oI λi j=>.bl (G (j<i)))))) (aa 0))))) dM) (aD (bS (dT (d2 (aa 1) (dC (.int 3)) oEq)) (aQ (aa 3)) dM) (aD (bS (dT (d2 (aa 1) (dC (.int 4)) oEq)) (aQ (qq (cm (aa 3)) [Z,U 0] (bR 0) (dT (d2 (aE 2 gG (ak (aa 1) (ak (dC (.int 4)) ag))) (dC (.int 0)) oEq)) (aa 0))) dM) (aD (bS (dT (d2 (aa 1) (dC (.int 5)) oEq)) (aD (bo 6 (aE 2 gG (ak (aa 0) (ak (d2 (aa 2) (dC (.int 1)) c8) ag)))) (aQ (qq (cm (aa 3)) [Z,U 6,U 0] (bR 0) (fJ (dT (d2 (d2 (d2 (aa 0) (dC (.int 0)) bz) (aa 1) oLt) (d2 (d2 (aa 0) (dC (.int 1)) bz) (aa 1) oLt) oEq)) (dT (d2 (aE 2 gG (ak (aa 2) (ak (dC (.int 3)) ag))) (dC (.int 0)) (oI λi j=>.bl (G (j<i)))))) (aa 0)))) dM) (aQ (qq (cm (aa 3)) [Z,U 0] (bR 0) (dT (d2 (aE 2 gG (ak (aa 1) (ak (dC (.int 2)) ag))) (dC (.int 0)) oEq)) (aa 0))))))))))
theorem sub_snoc{α:Type}{zs ps:-α}{i:Nat}{x:α}(h:zs.Sublist (ps.take i))(e:ps[i]?=U x):(zs++[x]).Sublist (ps.take (i+1))/\zs.Sublist (ps.take (i+1)):=by
 let:ps.take (i+1)=ps.take i++[x]:=by rw[q3h,e];rfl
 rw[this];calc⟨h.append (q6l _),h.trans (List.sublist_append_left _ _)⟩
theorem R4{α:Type}{l:-α}{c:α}(h:l.Nodup)(hc:∀x∈l,x=c):↑l<=1:=by
 match l,h,hc with
 |[],_,_=>exact q0Z _
 |[_],_,_=>exact Hz _
 |x::y::r,h,hc =>
  let:=(q1q.mp h).1 y (q0h);calc absurd ((hc x q0h).trans (hc y (q0g _ q0h)).symm) this
theorem CD{n:Int}{o:OV}{ps:-(Int×Int)}{t:WT}{K:-D->aM->Prop}{rest:-(Option DV)}{ev:Option OV}{bZ:aM->Prop}(hc:∀sl o',bZ ⟨sl,[U o',ev]⟩)(hw:↑ps<=66)(P:bM n o)(hn:n+70<2 ^ 30)
  (ht:∀(p:Int×Int)(i:Nat)(o':OV)(Q:Bool->aM->Prop),p∈ps->i<=66->bM (n+i) o'->(∀b mz,bM (n+i+1) mz->Q b ⟨U (.p (df p))::rest,[U mz,ev]⟩)->t ⟨U (.p (df p))::rest,[U o',ev]⟩ Q)
  (hr:gE 2 rest rest=rest)
  (fin:∀(zs:-(Int×Int)) o',zs.Sublist ps->bM (n+↑ps) o'->K (zs.map df) ⟨Z::rest,[U o',ev]⟩) :
  ki ⟨Z::rest,[U o,ev]⟩ bZ (bR 0) t (aa 0) K (ps.map df) [] ⟨Z::rest,[U o,ev]⟩:=by
 refine Cm (λi acc δ=>∃(zs:-(Int×Int))(o':OV),zs.Sublist (ps.take i)/\acc=zs.map df/\bM (n+i) o'/\δ=⟨Z::rest,[U o',ev]⟩) ⟨[],o,q6l _,Y,P.mono ⋯,Y⟩ ?_ ?_
 .ext j d acc δ L hj ⟨zs,o',hz,rfl,P',rfl⟩ hL
  rw[PB] at hj;let⟨p,hp,rfl⟩:=q0a.mp hj;let Zp:j<↑ps:=(Hy.mp hp).1;calc⟨hc _ _,?_⟩;show t ⟨U (.p (df p))::rest,[U o',ev]⟩ _;refine ht p j o' _ (q0S hp) ⋯ P' λb mz oX=>?_
  let hlen:↑(zs.map df)<1000:=by
   rw[Ba];let:=hz.length_le;rw[q0E] at this;symm
  let P3:bM (n+((j+1:Nat):Int)) mz:=oX.mono ⋯
  cases b with
  |true =>
   rw[q0e Y];calc⟨hlen,hL _ _ ⟨zs++[p],mz,(sub_snoc hz hp).1,by rw[q0r];rfl,P3,?_⟩⟩;show(⟨Z::gE 2 rest rest,_⟩:aM)=_;rw[hr];rfl
  |false =>
   rw[q0c (by decide)];calc hL _ _ ⟨zs,mz,(sub_snoc hz hp).2,Y,P3,?_⟩;show(⟨Z::gE 2 rest rest,_⟩:aM)=_;rw[hr];rfl
 .ext acc δ ⟨zs,o',hz,rfl,P',rfl⟩
  rw[Ba] at P' hz;rw[q1y (Hz _)] at hz;calc⟨hc _ _,fin zs o' hz P'⟩
theorem R5:Sem 3 4 CA CB:=by
 ext ys aB K'-⟨n,kind,many,o,rfl,rfl,P,hn,m1,iI,fin⟩;let⟨mm,rfl⟩:∃mm:Nat,many=mm:=⟨many.toNat,⋯⟩;let CF:mm<=12:=by symm
 unfold CB;let cL:d9 mm (j_ mm):=⟨λp hp=>Bv hp,Ic mm,Ie mm CF⟩;calc br λN hN=>?_;simp!;subst hN;calc br λN hN=>?_;simp!;calc⟨⋯,?_⟩;refine oU (λi δ=>δ=⟨[U (.o 0),U (.p (.int kind)),U (.p (.int mm)),U (.o 1),Z,Z,Z],[U o,U (.lst ((j_ i).map df))]⟩) Y ?_ ?_
 .ext j d δ L hj rfl hL
  let⟨hj,rfl⟩:=oK hj;simp!;let e:(0+(j:Int))=j:=by symm
  rw[e];refine⟨⋯,?_⟩
  refine km (λd=>match d with
   |.int a=>df (a,j)
   |_=>.non) (by rw[ny];symm) trivial ?_ ?_
  .ext d hd acc L' ha h
   let⟨i,hi⟩:=q0d.mp hd;let⟨hi,rfl⟩:=oK hi;simp!;exact⟨ha,h⟩
  .let e2:(j_ j).map df++(dm 0 (j:Int).toNat).map (λd=>match d with
    |.int a=>df (a,j)
    |_=>.non)=(j_ (j+1)).map df:=by
    show _=(j_ j++_).map df;unfold dm;rw[q0r,q0C,q0C];congr 1;calc q2y λa _=>?_;simp[q7L]
   simp!;let Zq:=Ie j ⋯;calc⟨by rw[ny];symm,?_⟩;rw[e2];exact hL _ Y
 .ext δ rfl
  calc⟨trivial,?_⟩;subst hN;let eL:((mm:Int)).toNat=mm:=by symm
  rw[ny,eL];dsimp only
  let back:∀(ps:-(Int×Int))(o':OV)(sl:-(Option DV))(m:-(Option OV)),d9 mm ps->bM (n+67) o'->h8 1 K' (.o (↑m+1)) ⟨sl,U o'::(m++[U (.lst (ps.map df))])⟩:=λps o' sl m h1 h2=>by
   calc⟨[o'],Y,Y,?_⟩;show if ↑m+1<1 then _ else _;rw[q0c ⋯]
   let:(U o'::(m++[U (OV.lst (ps.map df))]))[↑m+1]?=U (U (.lst (ps.map df))):=by
    rw[q4B,Zf (Hz _),q0W];rfl
   dsimp only;rw[this];exact .inl (fin ps o' h1 h2)
  calc br λN hN=>?_;simp![dEq] at ⊢;split
  .refine⟨⋯,?_⟩
   refine Cm (λi acc δ=>∃(zs:-(Int×Int))(o':OV),↑zs=i/\(∀(q:Nat)(p:Int×Int),zs[q]?=U p->p.2=q+1/\0<=p.1/\p.1<p.2)/\acc=zs.map df/\bM (n+i) o'/\δ=⟨[Z,U (.o 0)],[U o',U (.lst ((j_ mm).map df))]⟩) ⟨[],o,Y,λq p e=>by simp at e,Y,P.mono ⋯,Y⟩ ?_ ?_
   .ext j d acc δ L hj ⟨zs,o',hz,hq,rfl,P',rfl⟩ hL
    let⟨hj,rfl⟩:=oK hj;simp!;calc⟨n+j,1+j,o',Y,Y,P',⋯,⋯,⋯,λr mz r0 r1 oX=>?_⟩;simp!;refine⟨⋯,hL _ _ ⟨zs++[(r,1+(j:Int))],mz,by rw[Pz,hz];rfl,λq p e=>?_,by rw[q0r];rfl,oX.mono ⋯,Y⟩⟩
    by_cases c:q<↑zs
    .rw[Zd c] at e
     exact hq q p e
    .let hl:=(Hy.mp e).1
     rw[Pz,q0Q] at hl;let:q=↑zs:=by symm
     subst this;rw[Zf (Hz _),q0W] at e;cases(show U (r,1+(j:Int))=U p by simpa using e)
     exact⟨by show 1+(j:Int)=_;symm,r0,r1⟩
   .ext acc δ ⟨zs,o',hz,hq,rfl,P',rfl⟩
    rw[ny] at hz P';calc⟨trivial,?_⟩;refine back zs o' _ [_] ⟨λp hp=>?_,?_,⋯⟩ (P'.mono ⋯)
    .let⟨q,qc⟩:=q0d.mp hp
     let:=hq q p qc;let hl:=(Hy.mp qc).1;symm
    .refine q2S.mpr λi j hi hj kR e=>?_
     let q1:=hq i _ (xF hi);let q2:=hq j _ (xF hj);rw[e] at q1;symm
  subst hN;calc br λN hN=>?_;simp![dEq] at ⊢;split
  .clear hN
   refine⟨⋯,?_⟩
   refine km (λd=>match d with
    |.int a=>df (a,a+1)
    |_=>.non) (by rw[ny];symm) trivial ?_ ?_
   .ext d hd acc L' ha h
    let⟨i,hi⟩:=q0d.mp hd;let⟨hi,rfl⟩:=oK hi;simp!;exact⟨ha,h⟩
   .simp!
    refine kS (λd=>dEq d (df (0,mm-1))&&G ((2:Int)<mm)) id (by rw[Ba];let:=cL.iM;symm) Y ?_ ?_
    .ext d hd acc L' ha h h'
     let⟨p,hp,rfl⟩:=q0l.mp hd;erw[df] at h h';simp![df] at ⊢;split
     .rename_i q1
      split
      .rename_i q2
       exact⟨ha,h (by rw[q1,q2];rfl)⟩
      .rename_i q2
       exact h' (by rw[q1,q6C _ |>.mp q2];rfl)
     .rename_i q1
      exact h' (by rw[q6C _ |>.mp q1];rfl)
    .simp!
     let er:(dm 0 ((mm:Int)-1).toNat).map (λd=>match d with
       |D.int a=>df (a,a+1)
       |x=>D.non)=((q0x (mm-1)).map λi:Nat=>((i:Int),(i:Int)+1)).map df:=by
      unfold dm;rw[q0C,q0C];let:((mm:Int)-1).toNat=mm-1:=by symm
      rw[this];calc q2y λa _=>?_;simp[q7L]
     let ef:(((j_ mm).map df).filter λd=>dEq d (df (0,mm-1))&&G ((2:Int)<mm))=((j_ mm).filter λp=>dEq (df p) (df (0,mm-1))&&G ((2:Int)<mm)).map df:=by
      rw[q10];rfl
     rw[er,q5s,ef,<-q0r]
     let hf:∀p∈(j_ mm).filter (λp=>dEq (df p) (df (0,mm-1))&&G ((2:Int)<mm)),p=(0,(mm:Int)-1)/\(2:Int)<mm:=λp hp=>by
      let:=(q0M.mp hp).2;simp[df,dEq,dq] at this;let⟨a,b⟩:=p;simp at this ⊢;symm
     let h1:↑((j_ mm).filter (λp=>dEq (df p) (df (0,mm-1))&&G ((2:Int)<mm)))<=1:=R4 (cL.lR.sublist q5z) λp hp=>(hf p hp).1;refine⟨by rw[ny,Ba];symm,back _ o _ [_] ⟨λp hp=>?_,?_,?_⟩ (P.mono ⋯)⟩
     .rcases q0u.mp hp with hp|hp
      .let⟨i,hi,rfl⟩:=q0l.mp hp
       let:=q0Y.mp hi;exact⟨⋯,⋯,by show(i:Int)+1<mm;symm⟩
      .exact cL.ends p (q0M.mp hp).1
     .refine q1W.mpr ⟨?_,cL.lR.sublist q5z,λa ha b hb e=>?_⟩
      .refine q2L.mpr (q4o.imp λ{a b} ne e=>ne ?_)
       let:=congrArg q9m e;exact q7H this
      .subst e
       let⟨i,hi,rfl⟩:=q0l.mp ha;let:=hf _ hb;let h2:=congrArg q9m this.1;let h3:=congrArg Prod.snd this.1;simp at h2 h3;symm
     .rw[Pz,Ba,q00];symm
  subst hN;calc br λN hN=>?_;simp![dEq] at ⊢;split
  .exact⟨[o],Y,Y,.inl (fin _ _ cL (P.mono ⋯))⟩
  subst hN;calc br λN hN=>?_;simp![dEq] at ⊢;split
  .refine CD (λ_ _=>Y) cL.iM P ⋯ (λp i o' Q hp hi P' hQ=>?_) Y λzs o' hz P'=>?_
   .simp![dEq]
    calc⟨n+i,4,o',Y,Y,P',⋯,⋯,⋯,λr mz r0 r1 oX=>?_⟩;simp!;exact hQ _ _ oX
   .exact back zs o' _ [_] (cL.sub hz) (P'.mono (by let:=cL.iM;symm))
  subst hN;calc br λN hN=>?_;simp![dEq] at ⊢;split
  .refine⟨n,mm+1,o,Y,Y,P,⋯,⋯,⋯,λhalf o1 r0 r1 P1=>?_⟩
   simp!;refine CD (n:=n+1) (λ_ _=>Y) cL.iM P1 ⋯ (λp i o' Q hp hi P' hQ=>?_) Y λzs o' hz P'=>?_
   .simp![dEq,df,dB,eB] at ⊢
    split
    .refine⟨n+1+i,3,o',Y,Y,P',⋯,⋯,⋯,λr mz r0 r1 oX=>?_⟩
     simp!;exact hQ _ _ oX
    .exact hQ _ _ (P'.mono ⋯)
   .exact back zs o' _ [_] (cL.sub hz) (P'.mono (by let:=cL.iM;symm))
  subst hN;simp![dEq];refine CD (λ_ _=>Y) cL.iM P ⋯ (λp i o' Q hp hi P' hQ=>?_) Y λzs o' hz P'=>?_
  .simp![dEq]
   calc⟨n+i,2,o',Y,Y,P',⋯,⋯,⋯,λr mz r0 r1 oX=>?_⟩;simp!;exact hQ _ _ oX
  .calc back zs o' _ [_] (cL.sub hz) (P'.mono (by let:=cL.iM;symm))
theorem Jp{α:Type}:∀{l:-α}{j:Nat}(h:j<↑l),q7Q (l[j]::l.eraseIdx j) l
 |x::r,0,h=>q2A _
 |x::r,j+1,h=>by
  let hj:j<↑r:=by simpa using h
  show q7Q (r[j]::x::r.eraseIdx j) (x::r);calc(q3N x r[j] _).trans ((Jp hj).cons x)
theorem Jq{α β:Type}(f:α->β):∀(l:-α)(j:Nat),(l.map f).eraseIdx j=(l.eraseIdx j).map f
 |[],_=>Y
 |_::_,0=>Y
 |x::r,j+1=>by
  show f x::(r.map f).eraseIdx j=f x::(r.eraseIdx j).map f;rw[Jq f r j]
noncomputable def bQ(y:Int×Int×Int):D:=.tup [.int y.1,.int y.2.1,.int y.2.2]
noncomputable def bq(m:Int)(ys:-(Int×Int×Int)):D:=.tup [.int m,.tup (ys.map bQ)]
noncomputable def oY(y:Int×Int×Int):Int×Int:=(y.1,y.2.1)
theorem d9.perm{many:Int}{ps qs:-(Int×Int)}(h:d9 many ps)(p:qs.Perm ps):d9 many qs :=
 ⟨λx hx=>h.ends x (p.mem_iff.mp hx),p.nodup_iff.mpr h.lR,by rw[p.length_eq];calc h.iM⟩
inductive CG (ys:-DV) (aB:-OV) (K:RV->-OV->Prop):Prop
 |mk (n eC most:Int) (o:OV) (_:ys=[.o 0,.p (.int eC),.p (.int most)]) (_:aB=[o]) (_:bM n o) (_:n+400<2 ^ 30) (_:1<=eC) (_:eC<=12) (_:0<=most) (_:most<=30) (_:∀m ws o',aO m ws->m<=eC->(↑ws:Int)<=most->bM (n+300) o'->K (.p (bq m ws)) [o'])
def CH:WS:=(aD (bo 3 (aE 2 gG (ak (aa 0) (ak (dC (.int 8)) ag)))) (aD (bo 4 (aE 2 gG (ak (aa 0) (ak (dC (.int 4)) ag)))) (aD (bo 5 (d2 (dC (.int 1)) (aE 2 gG (ak (aa 0) (ak (aa 1) ag))) c8)) (aD (bo 6 (vJ 3 CA (ak (aa 0) (ak (aa 3) (ak (aa 5) ag))))) (aD (bo 7 (oz ag)) (aD (fK (me (ak (dN (ak (aa 2) (ak (dN (ak (aa 6) ag) cB) ag)) vW) ag)) (bR 8) (aD (hZ (Cf (aa 6) (ak (aE 2 gG (ak (aa 0) (ak (dN (ak (aa 6) ag) cB) ag))) ag)) (iX 2 (dX (bR 9) (dX (bR 10) iJ)))) (aD (bo 11 (d2 (dU (ak (dC (.int 7)) (ak (aE 2 gG (ak (aa 0) (ak (dC (.int 3)) ag))) (ak (d2 (d2 (dC (.int 10)) (dC (.int 9)) (e8 g_ λi j=>.int (i ^ j.toNat))) (aE 2 gG (ak (aa 0) (ak (dC (.int 2)) ag))) (oI λi j=>.int (i-j))) (ak (aE 2 gG (ak (aa 0) (ak (d2 (d2 (dC (.int 10)) (dC (.int 9)) (e8 g_ λi j=>.int (i ^ j.toNat))) (dC (.int 1)) c8) ag))) ag))))) (aa 4) bz)) (lF (ib (aa 7) (ak (bV (ak (aa 9) (ak (aa 10) (ak (aa 11) ag)))) ag)))))) (aQ (bV (ak (aa 5) (ak (dN (ak (aa 7) ag) vV) ag))))))))))
theorem R6:Sem 3 9 CG CH:=by
 ext ys aB K'-⟨n,eC,most,o,rfl,rfl,P,hn,h1,R7,s0,Zr,fin⟩;unfold CH;calc br λN hN=>?_;simp!;calc⟨n,8,o,Y,Y,P,⋯,⋯,⋯,λkind o1 _ _ P1=>?_⟩;simp!;subst hN;calc br λN hN=>?_;simp!;calc⟨n+1,4,o1,Y,Y,P1,⋯,⋯,⋯,λfw o2 p0 p4 P2=>?_⟩;simp!;subst hN;calc br λN hN=>?_;simp!;calc⟨n+1+1,eC,o2,Y,Y,P2,⋯,⋯,⋯,λmm o3 m0 mh P3=>?_⟩;simp!;subst hN;calc br λN hN=>?_;simp!;refine⟨n+1+1+1,kind,1+mm,o3,Y,Y,P3,⋯,⋯,⋯,λps o4 Jr P4=>?_⟩
 simp!;subst hN;calc br λN hN=>?_;simp!;subst hN;calc br λN hN=>?_;let Zs:=Jr.iM;simp!;calc⟨⋯,?_⟩;let ek:(min most (↑ps:Int)).toNat=min most.toNat ↑ps:=by symm
 rw[ek];generalize hk:min most.toNat ↑ps=k
 refine oU (λi δ=>∃(qs:-(Int×Int))(ws:-(Int×Int×Int))(o':OV),↑qs+i=↑ps/\↑ws=i/\d9 (1+mm) (ws.map oY++qs)/\(∀y∈ws,0<=y.2.2/\y.2.2<=1000000000)/\bM (n+70+4*i) o' ∧
  δ=⟨[U (.o 0),U (.p (.int eC)),U (.p (.int most)),U (.p (.int kind)),U (.p (.int fw)),U (.p (.int (1+mm))),U (.o 1),U (.o 2),Z,Z,Z,Z],[U o',U (.lst (qs.map df)),U (.lst (ws.map bQ))]⟩)
  ⟨ps,[],o4,⋯,Y,Jr,λy hy=>absurd hy q0o,P4.mono ⋯,Y⟩ ?_ ?_
 .ext j d δ L hj ⟨qs,ws,o',hq,hw,hp,hy,P',rfl⟩ hL
  let⟨hj,rfl⟩:=oK hj;let q0:0<↑qs:=by symm
  let R8:=hp.iM;rw[Pz,Ba] at R8;calc⟨trivial,?_⟩;erw[bR,q1b,q1c];calc br λN2 my=>?_;simp!;calc⟨n+70+4*j,↑qs,o',Y,Y,P',⋯,⋯,⋯,λr o1 r0 r1 P1=>?_⟩;let⟨rn,rfl⟩:∃rn:Nat,r=rn:=⟨r.toNat,⋯⟩;let hr:rn<↑qs:=by symm
  let ix:seqIndex? (rn:Int) ↑qs=U rn:=QI hr;let eq:(qs.map df)[rn]?=U (.tup [.int qs[rn].1,.int qs[rn].2]):=by rw[PB,xF hr];rfl
  simp![ix,eq];calc⟨⟨⋯,⋯⟩,?_⟩;subst my;calc br λN2 my=>?_;erw[bo,d2,dU];calc ua λK3 so=>?_;simp!;subst so;calc ua λK3 so=>?_;simp!;calc⟨n+70+4*j+1,3,o1,Y,Y,P1,⋯,⋯,⋯,λa1 o2 Zt Zu P2=>?_⟩;simp!;subst so;calc ua λK3 so=>?_;simp!;calc⟨⟨by decide,by decide,by decide⟩,n+70+4*j+1+1,2,o2,Y,Y,P2,⋯,⋯,⋯,λa2 o3 Zv Zw P3=>?_⟩;simp!;subst so;calc ua λK3 so=>?_;simp!;refine⟨⟨by decide,by decide,by decide⟩,n+70+4*j+1+1+1,10 ^ x1f 9+1,o3,Y,Y,P3,⋯,by decide,by decide,λa3 o4 Zx R9 P4=>?_⟩
  simp!;subst so;simp!;let e9:(10:Int) ^ x1f 9=1000000000:=by decide
  rw[e9] at R9 ⊢
  let⟨pr,R_,Sa,Sb⟩:∃pr:Int,fq [D.int 7,D.int a1,D.int (1000000000-a2),D.int a3] fw=U (.int pr)/\0<=pr/\pr<=1000000000:=by
   let:fw=0\/fw=1\/fw=2\/fw=3:=by symm
   rcases this with rfl|rfl|rfl|rfl
   .exact⟨7,Y,⋯,⋯⟩
   .exact⟨a1,Y,⋯,⋯⟩
   .exact⟨1000000000-a2,Y,⋯,⋯⟩
   .exact⟨a3,Y,⋯,⋯⟩
  rw[R_];show N2 _;subst my;simp!;refine⟨⋯,hL _ ⟨qs.eraseIdx rn,ws++[(qs[rn].1,qs[rn].2,pr)],o4,?_,?_,?_,?_,P4.mono ⋯,?_⟩⟩
  .rw[q3M hr];symm
  .rw[Pz,hw];rfl
  .refine hp.perm ?_
   rw[q0r,q2p];calc q47 _ ?_;exact Jp hr
  .ext y ub
   rcases q0u.mp ub with h|h
   .exact hy y h
   .rw[q0D.mp h];exact⟨Sa,Sb⟩
  .rw[q0r,Jq];rfl
 .ext δ ⟨qs,ws,o',hq,hw,hp,hy,P',rfl⟩
  calc⟨trivial,?_⟩;subst hN;simp!;rw[ny] at hw P';calc⟨[o'],Y,Y,?_⟩;refine fin (1+mm) ws o' ⟨⋯,⋯,⋯,λy ub=>?_,?_⟩ ⋯ ⋯ (P'.mono ⋯)
  .let:=hp.ends (oY y) (q1p _ (q0l.mpr ⟨y,ub,Y⟩))
   let h2:=hy y ub;erw[oY] at this;symm
  .calc (q1W.mp hp.lR).1
end LJ
namespace L2
open PySem PySem.Spec PyProof.Rows
variable[aR]
section
variable{X:Cx}{fa:WA}
end
end L2
namespace LJ
open PySem L2
variable[aR]
noncomputable def CI:D->Bool
 |.int _=>θ
 |_=>ι
noncomputable def CJ:D->Int->Int->Bool
 |.int i,lo,hi=>G (lo<=i)&&G (i<=hi)
 |_,_,_=>ι
noncomputable def sv:D->Int->Bool
 |.tup ds,n=>(↑ds:Int)==n
 |_,_=>ι
theorem ic{K:RV->-OV->Prop}{d:D}{sl:-(Option DV)}(h:K (.p d) []):h8 0 K (.p d) ⟨sl,[]⟩:=⟨[],Y,Y,h⟩
inductive yA (ys:-DV) (aB:-OV) (K:RV->-OV->Prop):Prop
 |mk (d) (_:ys=[.p d]) (_:aB=[]) (_:K (.p (.bl (CI d))) [])
def CK:WS:=(aQ (lE (d1 (aa 0) (dr "int")) (BB (d1 (aa 0) (dr "bool")))))
theorem Sd:Sem 1 0 yA CK:=by
 ext ys aB K'-⟨d,rfl,rfl,k⟩;unfold CK;simp!;cases d<;>erw[cW,bK]<;>calc ic k
inductive sx (ys:-DV) (aB:-OV) (K:RV->-OV->Prop):Prop
 |mk (d) (lo) (hi) (_:ys=[.p d,.p (.int lo),.p (.int hi)]) (_:aB=[]) (_:K (.p (.bl (CJ d lo hi))) [])
def CL:WS:=(aQ (lE (aE 1 yA (ak (aa 0) ag)) (Cc (aa 1) (aa 0) (aa 2) (oI λi j=>.bl (G (i<=j))) (oI λi j=>.bl (G (i<=j))))))
theorem Se:Sem 3 0 sx CL:=by
 ext ys aB K'-⟨d,lo,hi,rfl,rfl,k⟩;unfold CL;simp!;calc⟨d,Y,Y,?_⟩;cases d<;>simp![CI,CJ] at k ⊢ <;> first|exact ic k|skip
 rename_i i
 by_cases c:lo<=i
 .rw[q0i c] at k ⊢
  erw[q5H] at k;exact ic k
 .rw[Zi c] at k ⊢
  erw[q5n] at k;calc ic k
inductive uc (ys:-DV) (aB:-OV) (K:RV->-OV->Prop):Prop
 |mk (d) (n) (_:ys=[.p d,.p (.int n)]) (_:aB=[]) (_:K (.p (.bl (sv d n))) [])
def CM:WS:=(aQ (lE (d1 (aa 0) (dr "tuple")) (d2 (dN (ak (aa 0) ag) cB) (aa 1) oEq)))
theorem Sf:Sem 2 0 uc CM:=by
 ext ys aB K'-⟨d,n,rfl,rfl,k⟩;unfold CM;simp!;cases d<;>simp![cW,bK,sv,dEq] at k ⊢ <;> calc ic k
theorem kU{K:RV->-OV->Prop}{d:D}{sl:-(Option DV)}{mu:-(Option OV)}(h:K (.p d) []):h8 0 K (.p d) ⟨sl,mu⟩:=⟨[],Y,Y,h⟩
theorem CN:∀{ds:-D}{d:D},d∈ds->dep d<=bT ds
 |a::r,d,h=>by
  erw[bT];rcases PC.mp h with rfl|h
  .omega
  .let:=CN h;symm
theorem oZ:bK "NoneType" "bool" = ι:=rfl
theorem o6:bK "NoneType" "int" = ι:=rfl
theorem o7:bK "NoneType" "str" = ι:=rfl
theorem o8:bK "NoneType" "tuple" = ι:=rfl
theorem o9:bK "NoneType" "list" = ι:=rfl
theorem nD:bK "bool" "bool" = θ:=rfl
theorem nE:bK "bool" "int" = θ:=rfl
theorem nG:bK "bool" "str" = ι:=rfl
theorem nH:bK "bool" "tuple" = ι:=rfl
theorem nJ:bK "bool" "list" = ι:=rfl
theorem mB:bK "int" "bool" = ι:=rfl
theorem mC:bK "int" "int" = θ:=rfl
theorem mD:bK "int" "str" = ι:=rfl
theorem mE:bK "int" "tuple" = ι:=rfl
theorem mF:bK "int" "list" = ι:=rfl
theorem lG:bK "str" "bool" = ι:=rfl
theorem lH:bK "str" "int" = ι:=rfl
theorem lI:bK "str" "str" = θ:=rfl
theorem lJ:bK "str" "tuple" = ι:=rfl
theorem lK:bK "str" "list" = ι:=rfl
theorem o_:bK "tuple" "bool" = ι:=rfl
theorem pb:bK "tuple" "int" = ι:=rfl
theorem pd:bK "tuple" "str" = ι:=rfl
theorem pe:bK "tuple" "tuple" = θ:=rfl
theorem pf:bK "tuple" "list" = ι:=rfl
theorem ph:bK "list" "bool" = ι:=rfl
theorem pz:bK "list" "int" = ι:=rfl
theorem pA:bK "list" "str" = ι:=rfl
theorem pB:bK "list" "tuple" = ι:=rfl
theorem pC:bK "list" "list" = θ:=rfl
theorem CO:∀{as:-D}{d:D},d∈c7 as as->∃a,d=.tup [a,a]/\a∈as
 |[],d,h=>nomatch h
 |x::r,d,h=>by
  erw[c7] at h;rcases PC.mp h with rfl|h
  .exact⟨x,Y,q0h⟩
  .let⟨a,e,m⟩:=CO h
   calc⟨a,e,q0g _ m⟩
theorem CP:∀l:-D,bT (l.map λ_=>D.bl θ)<=55
 |[]=>q0Z _
 |_::r=>by
  rw[q0m];let:=CP r;erw[bT,dep];symm
end LJ
namespace L2
open PySem PySem.Spec PyProof.Rows
variable[aR]
def Js:-D->(D->Prop)->Prop:=λds K=>∃ps:-(Int×Int),ds=[.lst (ps.map λp=>.tup [.int p.1,.int p.2])]/\↑ps<=30/\(∀p∈ps,0<=p.1/\p.1<p.2/\p.2<12)/\ps.Nodup/\K (.int ↑ps)
section
variable{X:Cx}{fa:WA}
theorem Sg{a:l}{p1 p2 q1 q2:y}(hc:X.calm=θ)(hu:X.A.units+64<cLine)(vY:Gl X "len")(hl:X.mg "len" = Z)(vZ:bootBuiltins "len" = U (.builtin "len"))(v3:Gl X "set")(hr:X.mg "set" = Z)(v5:bootBuiltins "set" = U (.type "set"))(ha:JA X [a] (cE fa))
  (he:starEach [a] X.env=[(ι,eval a X.env)]:=by rfl) (v7:starEach [.Call (.Name "set" p2) [a] [] q2] X.env=[(ι,eval (.Call (.Name "set" p2) [a] [] q2) X.env)]:=by rfl):JE X (.Call (.Name "len" p1) [.Call (.Name "set" p2) [a] [] q2] [] q1) (tD (dN fa Js)) :=
 (xC (QF) vY hl vZ (ot (tj (QC hc hu) v3 hr v5 ha (he:=he)) cZ) (he:=v7)).weak fun σ H Q ⟨F,ad,δ,K,S,q,k⟩=>⟨F,ad,δ,_,S,q,λxs δ1 h1 vs F1 bt H1 E1 S1 V1=>by
  let⟨ds,⟨ps,rfl,iP,bd,lR,h2⟩,qm⟩:=xX S1 V1 h1;let⟨v,rfl,a,vs,rfl,g1,g2⟩:=dA qm;let⟨as,rfl,hl,g⟩:=Ji g2;calc⟨a,as,ps,Y,bU.of g1,hl,λi b k' e1 e2=>S1.sub _ _ (g i b k' e1 e2),bd,lR,iP,λp hp=>⟨p,↑ps,Y,cz,⋯,?_⟩⟩;let s1:aP H1 (upd H1 p (l7 p ↑ps)):=cI hp
  calc k _ _ h2 _ _ _ _ (E1.trans (Ext.al S1 s1)) (S1.al s1) Y⟩
end
end L2
namespace LJ
open PySem L2
variable[aR]
theorem wg{i lo hi:Int}(h:lo<=i)(h':i<=hi):CJ (.int i) lo hi=θ:=by
 show(G (lo<=i)&&G (i<=hi))=θ;rw[q0i h,q0i h'];rfl
inductive CQ (ys:-DV) (aB:-OV) (K:RV->-OV->Prop):Prop
 |mk (m i j:Int) (_:ys=[.p (.int m),.p (.int i),.p (.int j)]) (_:aB=[]) (_:0<=i) (_:i<j) (_:j<m) (_:K (.p (.bl θ)) [])
def CS:WS:=(aQ (lE (aE 3 sx (ak (aa 1) (ak (dC (.int 0)) (ak (d2 (aa 0) (dC (.int 1)) (oI λi j=>.int (i-j))) ag)))) (aE 3 sx (ak (aa 2) (ak (d2 (aa 1) (dC (.int 1)) c8) (ak (d2 (aa 0) (dC (.int 1)) (oI λi j=>.int (i-j))) ag))))))
theorem Sh:Sem 3 0 CQ CS:=by
 ext ys aB K'-⟨m,i,j,rfl,rfl,h1,h2,h3,k⟩;unfold CS;simp!;calc⟨.int i,0,m-1,Y,Y,?_⟩;rw[wg h1 ⋯];simp!;calc⟨.int j,i+1,m-1,Y,Y,?_⟩;rw[wg ⋯ ⋯];simp!;calc ic k
structure Jt(m:Int)(y:Int×Int×Int):Prop where
 low:0<=y.1
 up:y.1<y.2.1
 most:y.2.1<m
 pr:0<=y.2.2/\y.2.2<=1000000000
inductive CT (ys:-DV) (aB:-OV) (K:RV->-OV->Prop):Prop
 |mk (m) (y) (_:Jt m y) (_:ys=[.p (.int m),.p (bQ y)]) (_:aB=[]) (_:K (.p (.bl θ)) [])
def CU:WS:=(aD (bS (gD (dT (aE 2 uc (ak (aa 1) (ak (dC (.int 3)) ag))))) (aQ (dC (.bl ι))) dM) (aQ (lE (aE 3 CQ (ak (aa 0) (ak (d2 (aa 1) (dC (.int 0)) bz) (ak (d2 (aa 1) (dC (.int 1)) bz) ag)))) (aE 3 sx (ak (d2 (aa 1) (dC (.int 2)) bz) (ak (dC (.int 0)) (ak (dC (.int 1000000000)) ag)))))))
theorem Si:Sem 2 0 CT CU:=by
 ext ys aB K'-⟨m,y,W,rfl,rfl,k⟩;unfold CU;calc br λN hN=>?_;simp!;calc⟨bQ y,3,Y,Y,?_⟩;rw[show sv (bQ y) 3=θ from Y];simp!;subst hN;simp![bQ,dB,eB,at2];calc⟨m,_,_,Y,Y,W.low,W.up,W.most,?_⟩;simp!;calc⟨_,0,1000000000,Y,Y,?_⟩;rw[wg W.pr.1 W.pr.2];simp!;calc ic k
theorem aO.way{m:Int}{ws:-(Int×Int×Int)}(W:aO m ws){y:Int×Int×Int}(h:y∈ws):Jt m y :=
 let⟨a,b,c,d,e⟩:=W.ends y h
 ⟨a,⋯,⋯,d,e⟩
inductive CV (ys:-DV) (aB:-OV) (K:RV->-OV->Prop):Prop
 |mk (m) (ws) (_:aO m ws) (_:ys=[.p (.int m),.p (.tup (ws.map bQ))]) (_:aB=[]) (_:K (.p (.bl θ)) [])
def CW:WS:=(aD (bS (nr (gD (dT (d1 (aa 1) (dr "tuple")))) (dT (d2 (dN (ak (aa 1) ag) cB) (dC (.int 30)) (oI λi j=>.bl (G (j<i)))))) (aQ (dC (.bl ι))) dM) (aD (bS (gD (dT (dN (ak (dZ (cm (aa 1)) [Z,U 0] (bR 0) dj (aE 2 CT (ak (aa 1) (ak (aa 0) ag)))) ag) oQ))) (aQ (dC (.bl ι))) dM) (aQ (d2 (dN (ak (dZ (cm (aa 1)) [Z] (bR 0) dj (i5 (aa 0) i0 (qw (dC (.int 2))))) ag) Js) (dN (ak (aa 1) ag) cB) oEq))))
theorem Sj:Sem 2 0 CV CW:=by
 ext ys aB K'-⟨m,ws,W,rfl,rfl,k⟩;let kW:=W.iP;let iI:=W.iI;unfold CW;calc br λN hN=>?_;simp![cW,show bK "tuple" "tuple" = θ from rfl];rw[q0c (by rw[Zi ⋯];decide)];subst hN;calc br λN hN=>?_;simp!;refine km (λ_=>.bl θ) (by rw[Ba];symm) trivial ?_ ?_
 .ext d hd acc L ha h
  let⟨y,hy,rfl⟩:=q0l.mp hd;simp!;calc⟨m,y,W.way hy,rfl,rfl,?_⟩;simp!;exact⟨ha,h⟩
 rw[show(ws.map bQ).map (λ_=>D.bl θ)=(ws.map λ_=>θ).map D.bl by rw[q0C,q0C];rfl];simp![IQ];rw[show(ws.map λ_=>θ).all id=θ from q1N.mpr λb hb=>by let⟨_,_,rfl⟩:=q0l.mp hb;rfl];simp!;subst hN;simp!
 refine km (λd=>match d with
  |.tup [a,b,_]=>.tup [a,b]
  |_=>.non) (by rw[Ba];symm) trivial ?_ ?_
 .ext d hd acc L ha h
  let⟨y,hy,rfl⟩:=q0l.mp hd;let ec:cutD [D.int y.1,D.int y.2.1,D.int y.2.2] Z (U 2)=[D.int y.1,D.int y.2.1]:=by unfold cutD;rfl
  simp![bQ,ec] at h ⊢;exact⟨ha,h⟩
 simp!;refine⟨ws.map oY,by rw[q0C,q0C];rfl,by rw[Ba];calc kW,λp hp=>?_,W.unlike,?_⟩
 .let⟨y,hy,rfl⟩:=q0l.mp hp
  let Y:=W.way hy;let:=Y.most;exact⟨Y.low,Y.up,by show y.2.1<12;symm⟩
 rw[Ba];simp![dEq];calc ic k
inductive CY (ys:-DV) (aB:-OV) (K:RV->-OV->Prop):Prop
 |mk (m) (ws) (_:aO m ws) (_:ys=[.p (bq m ws)]) (_:aB=[]) (_:K (.p (.bl θ)) [])
def CZ:WS:=(aD (bS (gD (dT (aE 2 uc (ak (aa 0) (ak (dC (.int 2)) ag))))) (aQ (dC (.bl ι))) dM) (aQ (lE (aE 3 sx (ak (d2 (aa 0) (dC (.int 0)) bz) (ak (dC (.int 1)) (ak (dC (.int 12)) ag)))) (aE 2 CV (ak (d2 (aa 0) (dC (.int 0)) bz) (ak (d2 (aa 0) (dC (.int 1)) bz) ag))))))
theorem Sk:Sem 1 0 CY CZ:=by
 ext ys aB K'-⟨m,ws,W,rfl,rfl,k⟩;unfold CZ;calc br λN hN=>?_;simp!;calc⟨bq m ws,2,Y,Y,?_⟩;rw[show sv (bq m ws) 2=θ from Y];simp!;subst hN;simp![bq,dB,eB];calc⟨.int m,1,12,Y,Y,?_⟩;rw[wg W.m1 W.iI];simp!;calc⟨m,ws,W,Y,Y,?_⟩;simp!;calc ic k
noncomputable def bJ(ns:-Int):D:=.lst (ns.map D.int)
noncomputable def jT(fs:-Int)(i j:Nat):-Int:=fs.map λx=>if x=max (fs.getD i 0) (fs.getD j 0) then min (fs.getD i 0) (fs.getD j 0) else x
theorem Sl(fs:-Int)(i j:Nat):↑(jT fs i j)=fs.length:=by unfold jT;rw[Ba]
theorem sy{ns:-Int}{i:Nat}(h:i<↑ns):fq (ns.map D.int) (i:Int)=U (.int (ns.getD i 0)):=by
 calc j9 ?_;rw[PB,xF h,PD,xF h];rfl
theorem cq{K:RV->-OV->Prop}{d:D}{sl:-(Option DV)}{mu:-(Option OV)}(h:K (.p d) []):h8 0 K (.p d) ⟨sl,mu⟩:=⟨[],Y,Y,h⟩
inductive C0 (ys:-DV) (aB:-OV) (K:RV->-OV->Prop):Prop
 |mk (fs:-Int) (i j:Nat) (_:ys=[.p (bJ fs),.p (.int i),.p (.int j)]) (_:aB=[]) (_:i<fs.length) (_:j<fs.length) (_:fs.length<=12) (_:K (.p (bJ (jT fs i j))) [])
def C1:WS:=(aD (bo 3 (dN (ak (d2 (aa 0) (aa 1) bz) (ak (d2 (aa 0) (aa 2) bz) ag)) yo)) (aD (bo 4 (dN (ak (d2 (aa 0) (aa 1) bz) (ak (d2 (aa 0) (aa 2) bz) ag)) vW)) (aQ (dZ (cm (aa 0)) [Z,U 4,U 3] (bR 0) dj (tP (dT (d2 (aa 0) (aa 2) oEq)) (aa 1) (aa 0))))))
theorem Sm:Sem 3 2 C0 C1:=by
 ext ys aB K'-⟨fs,i,j,rfl,rfl,hi,hj,R7,k⟩;let a1:=sy hi;let a2:=sy hj;unfold C1 bJ;calc br λN hN=>?_;simp![a1,a2];subst hN;calc br λN hN=>?_;simp![a1,a2];subst hN;simp!
 refine km (λd=>match d with
  |.int x=>.int (if x=max (fs.getD i 0) (fs.getD j 0) then min (fs.getD i 0) (fs.getD j 0) else x)
  |_=>.non) (by rw[Ba];symm) trivial ?_ ?_
 .ext d hd acc L ha h
  let⟨x,_,rfl⟩:=q0l.mp hd;simp!;cases q:dEq (.int x) (.int (max (fs.getD i 0) (fs.getD j 0)))
  .let:¬ x=max (fs.getD i 0) (fs.getD j 0):=λz=>by rw[z,gF] at q;cases q
   erw[this,q2a] at h;exact⟨ha,h⟩
  .let:x=max (fs.getD i 0) (fs.getD j 0):=by erw[dEq] at q;exact q1w q
   erw[this,q2G] at h;exact⟨ha,h⟩
 .refine cq ?_
  let e:(fs.map D.int).map (λd=>match d with
   |.int x=>D.int (if x=max (fs.getD i 0) (fs.getD j 0) then min (fs.getD i 0) (fs.getD j 0) else x)
   |_=>.non)=(jT fs i j).map D.int:=by
   unfold jT;rw[q0C,q0C];rfl
  rw[e];calc k
noncomputable def eW(ws:-(Int×Int×Int))(n:Int):Nat×Nat:=((ws.getD n.toNat (0,0,0)).1.toNat,(ws.getD n.toNat (0,0,0)).2.1.toNat)
noncomputable def ie(ws:-(Int×Int×Int))(fs:-Int)(ns:-Int):-Int:=ns.foldl (λfs n=>jT fs (eW ws n).1 (eW ws n).2) fs
theorem C2(ws:-(Int×Int×Int)):∀(ns:-Int)(fs:-Int),↑(ie ws fs ns)=fs.length
 |[],fs=>Y
 |n::r,fs=>by
  show↑(ie ws (jT fs _ _) r)=_;rw[C2 ws r,Sl]
noncomputable def qB(m:Int)(ws:-(Int×Int×Int))(ns:-Int):-Int:=ie ws (b_ m.toNat) ns
def Nums(ws:-(Int×Int×Int))(ns:-Int):Prop:=∀n∈ns,0<=n/\n<(↑ws:Int)
theorem qC{m:Int}{ws:-(Int×Int×Int)}(W:aO m ws){n:Int}(h0:0<=n)(h1:n<(↑ws:Int)):∃y,ws.getD n.toNat (0,0,0)=y/\y∈ws/\fq (ws.map bQ) n=U (bQ y)/\∃i j:Nat,y.1=i/\y.2.1=j/\i<m.toNat/\j<m.toNat/\i<j:=by
 let⟨k,rfl⟩:∃k:Nat,n=k:=⟨n.toNat,⋯⟩;let hk:k<↑ws:=by symm
 refine⟨ws[k],?_,q1Q hk,j9 ?_,?_⟩
 .rw[q0s,PD,xF hk];rfl
 .rw[PB,xF hk];rfl
 .let⟨a,b,c,_,_⟩:=W.ends _ (q1Q hk)
  calc⟨ws[k].1.toNat,ws[k].2.1.toNat,⋯,⋯,⋯,⋯,⋯⟩
inductive Sn (ys:-DV) (aB:-OV) (K:RV->-OV->Prop):Prop
 |mk (m:Int) (ws:-(Int×Int×Int)) (ns:-Int) (_:aO m ws) (_:Nums ws ns) (_:((ys=[.p (bq m ws),.p (bJ ns)]/\aB=[]/\K (.p (bJ (qB m ws ns))) [])\/(ys=[.p (bq m ws),.o 0]/\aB=[.lst (ns.map D.int)]/\K (.p (bJ (qB m ws ns))) [.lst (ns.map D.int)])))
theorem So(a b:Int):sortI [a,b]=[min a b,max a b]:=by
 refine(yn (as:=[min a b,max a b]) ?_ ?_).symm
 .by_cases c:a<=b
  .rw[Int.min_eq_left c,Int.max_eq_right c]
  .rw[Int.min_eq_right ⋯,Int.max_eq_left ⋯]
   exact q3N ..
 .refine List.Pairwise.cons (λx hx=>?_) (List.pairwise_singleton _ _)
  rw[q0D.mp hx];symm
def C3:GD:=Sn
def yB:WS:=(aD (bo 2 (yq (ak (d2 (aa 0) (dC (.int 0)) bz) ag))) (aD (fK (cm (aa 1)) (bR 3) (aD (hZ (dN (ak (dZ (cm (i5 (d2 (d2 (aa 0) (dC (.int 1)) bz) (aa 3) bz) i0 (qw (dC (.int 2))))) [Z,U 2] (bR 0) dj (d2 (aa 1) (aa 0) bz)) ag) ml) (iX 2 (dX (bR 4) (dX (bR 5) iJ)))) (bo 2 (dZ (cm (aa 2)) [Z,U 4,U 5] (bR 0) dj (tP (dT (d2 (aa 0) (aa 2) oEq)) (aa 1) (aa 0)))))) (aQ (aa 2))))
theorem Sq:Sem 2 4 C3 yB:=by
 ext ys aB K'-⟨m,ws,ns,W,hn,h⟩;let m1:=W.m1;let iI:=W.iI;let il:↑(b_ m.toNat)=m.toNat:=by unfold b_;simp
 let core:∀(x:DV)(mu:-(Option OV))(bZ:aM->Prop)(K:KS),(∀sl,bZ ⟨sl,mu⟩)->(∀fs,fs=qB m ws ns->K.nx ⟨[U (.p (bq m ws)),U x,U (.p (bJ fs)),Z,Z,Z],mu⟩)->((∃d,x=.p d)\/∃k,x=.o k/\k<↑mu) →
   l_ ⟨[U (.p (bq m ws)),U x,U (.p (bJ (b_ m.toNat))),Z,Z,Z],mu⟩ bZ (bR 3) (aD (hZ (dN (ak (dZ (cm (i5 (d2 (d2 (aa 0) (dC (.int 1)) bz) (aa 3) bz) i0 (qw (dC (.int 2))))) [Z,U 2] (bR 0) dj (d2 (aa 1) (aa 0) bz)) ag) ml) (iX 2 (dX (bR 4) (dX (bR 5) iJ)))) (bo 2 (dZ (cm (aa 2)) [Z,U 4,U 5] (bR 0) dj (tP (dT (d2 (aa 0) (aa 2) oEq)) (aa 1) (aa 0))))) K (ns.map D.int) ⟨[U (.p (bq m ws)),U x,U (.p (bJ (b_ m.toNat))),Z,Z,Z],mu⟩:=by
  ext x mu bZ K hc hK hx;refine oU (λi δ=>δ=⟨[U (.p (bq m ws)),U x,U (.p (bJ (ie ws (b_ m.toNat) (ns.take i)))),Z,Z,Z],mu⟩) Y ?_ ?_
  .ext j d δ L hj rfl hL
   rw[PB] at hj;let⟨n,wj,rfl⟩:=q0a.mp hj;let⟨n0,n1⟩:=hn n (q0S wj);let⟨y,ey,hy,ea,i,k,e1,e2,h1,h2,_⟩:=qC W n0 n1;calc⟨hc _,?_⟩;let hlen:↑(ie ws (b_ m.toNat) (ns.take j))=m.toNat:=by rw[C2,il]
   let ej:jT (ie ws (b_ m.toNat) (ns.take j)) i k=ie ws (b_ m.toNat) (ns.take (j+1)):=by
    let:ns.take (j+1)=ns.take j++[n]:=by rw[q3h,wj];rfl
    rw[this];unfold ie;rw[q6m];show _=jT _ (eW ws n).1 (eW ws n).2
    let:eW ws n=(i,k):=by
     unfold eW;rw[ey,e1,e2,q0s,q0s]
    rw[this]
   generalize Zy:ie ws (b_ m.toNat) (ns.take j)=fs at hlen ej;let a1:=sy (ns:=fs) (i:=i) ⋯;let a2:=sy (ns:=fs) (i:=k) ⋯;erw[bR,q1b,q1c];calc br λN hN=>?_;let ec:cutD [D.int y.1,D.int y.2.1,D.int y.2.2] Z (U 2)=[D.int i,D.int k]:=by rw[<-e1,<-e2];rfl
   simp![eB,bq,ea,bQ,ec]
   refine L2.km (λd=>match d with
    |.int z=>.int (fs.getD z.toNat 0)
    |_=>.non) (by show 2<=1000;decide) trivial ?_ ?_
   .ext d hd acc L' ha h'
    erw[PC,q0o,q1r] at hd;rcases hd with rfl|rfl
    .simp![bJ,a1]
     erw[q0s] at h';exact⟨ha,h'⟩
    .simp![bJ,a2]
     erw[q0s] at h';exact⟨ha,h'⟩
   .let es:intsOf [D.int (fs.getD i 0),D.int (fs.getD k 0)]=U [fs.getD i 0,fs.getD k 0]:=Y
    simp![q0s,ml,es,So];subst hN;simp![bJ]
    refine L2.km (λd=>match d with
     |.int x=>.int (if x=max (fs.getD i 0) (fs.getD k 0) then min (fs.getD i 0) (fs.getD k 0) else x)
     |_=>.non) (by rw[Ba];symm) trivial ?_ ?_
    .ext d hd acc L' ha h'
     let⟨z,_,rfl⟩:=q0l.mp hd;simp!;cases q:dEq (.int z) (.int (max (fs.getD i 0) (fs.getD k 0)))
     .let:¬ z=max (fs.getD i 0) (fs.getD k 0):=λw=>by rw[w,gF] at q;cases q
      erw[this,q2a] at h';exact⟨ha,h'⟩
     .let:z=max (fs.getD i 0) (fs.getD k 0):=by erw[dEq] at q;exact q1w q
      erw[this,q2G] at h';exact⟨ha,h'⟩
    .let e:(fs.map D.int).map (λd=>match d with
      |.int x=>D.int (if x=max (fs.getD i 0) (fs.getD k 0) then min (fs.getD i 0) (fs.getD k 0) else x)
      |_=>.non)=(jT fs i k).map D.int:=by
      unfold jT;rw[q0C,q0C];rfl
     rw[e,ej]
     let eq:(aM.trim ⟨[U (.p (bq m ws)),U x,U (.p (bJ (b_ m.toNat))),Z,Z,Z],mu⟩ ⟨[U (.p (bq m ws)),U x,U (.p (bJ (ie ws (b_ m.toNat) (ns.take (j+1))))),U (.p (.int n)),U (.p (.int (min (fs.getD i 0) (fs.getD k 0)))),U (.p (.int (max (fs.getD i 0) (fs.getD k 0))))],mu⟩)=⟨[U (.p (bq m ws)),U x,U (.p (bJ (ie ws (b_ m.toNat) (ns.take (j+1))))),Z,Z,Z],mu⟩:=by
      unfold aM.trim;rw[q2Q];rcases hx with⟨d,rfl⟩|⟨q,rfl,this⟩
      .rfl
      .erw[gE,x9,this,q2G]
     let:=hL _ Y;rw[<-eq] at this;exact this
  .ext δ rfl
   rw[Ba,q1y (Hz _)];exact⟨hc _,hK _ Y⟩
 let rg:dm 0 m.toNat=(b_ m.toNat).map D.int:=vX m.toNat;rcases h with⟨rfl,rfl,k⟩|⟨rfl,rfl,k⟩
 .unfold yB
  calc br λN hN=>?_;simp![dB,bq];calc⟨⟨⋯,⋯⟩,?_⟩;subst hN;rw[rg];calc br λN hN=>sk λg' b' K2 hg hb' hK=>?_;simp![bJ];subst hg hb' hK;calc core (.p (bJ ns)) [] _ _ (λ_=>trivial) (λfs e=>?_) (.inl ⟨_,Y⟩);subst e;show N _;subst hN;simp!;exact cq k
 .unfold yB
  calc br λN hN=>?_;simp![dB,bq];calc⟨⟨⋯,⋯⟩,?_⟩;subst hN;rw[rg];calc br λN hN=>sk λg' b' K2 hg hb' hK=>?_;simp!;subst hg hb' hK;calc core (.o 0) [U (.lst (ns.map D.int))] _ _ (λ_=>Y) (λfs e=>?_) (.inr ⟨0,Y,Nat.zero_lt_one⟩);subst e;show N _;subst hN;simp!;calc⟨[.lst (ns.map D.int)],Y,Y,k⟩
theorem C4{n:Nat}{z:Int}(h:z∈b_ n):0<=z/\z<(n:Int):=by
 unfold b_ at h;let⟨i,hi,rfl⟩:=q0l.mp h;let:=q0Y.mp hi;simp;symm
theorem ud{H:Hp}{a:O}{o:HO}(h:H a=Z):aP H (upd H a o):=λb u e=>by rw[bF (dQ e h)];calc e
structure yC(H:Hp)(p c:O)(at_ z:Int):Prop where
 lst:H p=U (.lst [.ref c,.int at_,.int z])
 cells:∃ns:-Int,H c=U (.lst (ns.map V.int))/\↑ns<=63
 pos:0<=at_
theorem yC.ne{H:Hp}{p c:O}{k z:Int}(P:yC H p c k z):c≠p:=by
 let⟨ns,h,_⟩:=P.cells;ext e;subst e;rw[P.lst] at h;let h':=q0v h;injection h' with tL
 cases ns with
 |nil=>cases tL
 |cons n r=>injection tL with h1 _;cases h1
theorem Sr{ns:-Int}{k:Int}(h0:0<=k)(h1:k<(↑ns:Int)):∃n,fq (ns.map V.int) k=U (.int n):=by
 let⟨i,rfl⟩:∃i:Nat,k=i:=⟨k.toNat,⋯⟩;let hi:i<↑ns:=by symm
 calc⟨ns[i],j9 ?_⟩;rw[PB,xF hi];rfl
def Ju(K:My):Sp:=λvs H Q _=>∃(a:O)(ns:-Int),vs=[.ref a]/\bU K H a (ns.map V.int)/\↑ns<=63/\∀(p c:O)(H':Hp),aP H H'->H p=Z->yC H' p c 0 0->Q (.ref p) H'
def yD(K:My):Sp:=λvs H Q _=>∃(a:O)(ns:-Int),vs=[.ref a]/\bU K H a (ns.map V.int)/\↑ns<=63/\aR.ok H/\∀H',Q (.bl θ) H'
theorem C5(ns:-Int)(lo hi:Option Int):dH (ns.map V.int) lo hi=((ns.drop (HT.bP ↑ns 0 lo)).take (HT.bP ↑ns ↑ns hi-HT.bP ↑ns 0 lo)).map V.int:=by
 unfold dH;rw[Ba,List.map_take,List.map_drop]
theorem Ss{H:Hp}{p c a:O}{n:Nat}(hT:aR.ok H)(N:yC H p c 0 0):∃(F:Hp)(ns:-Int),↑ns<=63/\SR F [p] ⟨Z::U (.o 0)::q0f n Z,[U (.lst [.lst (ns.map D.int),.int 0,.int 0])]⟩ (U (.ref a)::U (.ref p)::q0f n Z) H:=by
 let⟨ns,hc,hn⟩:=N.cells;let ne:=N.ne
 let cn:∀{b:O},((∃ps,H b=U (.tbl ps))\/∃vs,H b=U (.lst vs))->aR.cs b=Z:=λ{b} h=>by
  cases q:aR.cs b with
  |none=>rfl
  |some o =>
   let⟨vs,rfl⟩:=aR.ct q;let:=aR.co hT _ _ q;rcases h with⟨_,h⟩|⟨_,h⟩<;>rw[this] at h<;>cases h
 refine⟨upd aR.cs c (.lst (ns.map V.int)),ns,hn,⟨λb o e=>?_,λb ⟨k,ov,e1,e2⟩=>?_,Y,λk l a ov ow e1 e2 _ _=>?_,λk ov e=>?_,λi x e=>?_,by simp,hT,⟨λb hb=>by
  let⟨ps,q⟩:=aR.tb hT hb;rw[bF λz=>by subst z;rw[hc] at q;cases q]
  calc cn (q5c ⟨ps,q⟩),λb o e=>by rw[bF λz=>by subst z;rw[cn (q5d ⟨_,hc⟩)] at e;cases e];calc e⟩⟩⟩
 .by_cases z:b=c
  .subst z;rw[cz] at e;cases e;exact hc
  .rw[bF z] at e;exact aR.co hT _ _ e
 .cases k with
  |zero=>cases(show U p=U b by simpa using e1);rw[bF (q2b ne)];exact cn (q5d ⟨_,N.lst⟩)
  |succ k=>simp at e1
 .cases k with
  |zero =>
   cases l with
   |zero=>rfl
   |succ l=>simp at e2
  |succ k=>simp at e1
 .cases k with
  |zero =>
   cases(show OV.lst [.lst (ns.map D.int),.int 0,.int 0]=ov by simpa using e)
   calc⟨p,_,Y,N.lst,_,Y,?_⟩;calc .cons ?_ (.cons Y (.cons Y .nil));erw[Is];exact⟨c,_,Y,cz,tY⟩
  |succ k=>simp at e
 .cases i with
  |zero=>simp at e
  |succ i =>
   cases i with
   |zero =>
    cases(show DV.o 0=x by simpa using e)
    exact⟨_,Y,p,Y,Y⟩
   |succ i =>
    exfalso;let e:(q0f n (Z:Option DV))[i]?=U (U x):=by simpa using e
    rw[q25] at e;split at e<;>cases e
theorem Su{B:WS}{F:Hp}{ad:-O}{δ:aM}{σ:St}{H:Hp}{Q:VK}(S:SR F ad δ σ H)(h:B ⟨λ_=>False,λx _=>x=.p (.bl θ),λ_=>False,λ_=>False⟩ δ)(q:∀H',Q (.bl θ) H'):dW B {nx:=λ_ H'=>Q .non H',rt:=Q} σ H :=
 ⟨F,ad,δ,_,S,h,⟨fun δ' h=>h.elim,fun δ' h=>h.elim,fun δ' h=>h.elim,λx δ' h v F' aN σ' H' E' S' V=>by
  let h:x=.p (.bl θ):=h;subst h;let V:v=.bl θ:=V;subst V
  calc q H',trivial⟩⟩
end LJ
namespace L2
open PySem PySem.Spec PyProof.Rows
def C6(Ts:-(O×Array L))(H:Hp):Prop:=∀b,(∃ps,Ts.lookup b=U ps/\H b=U (.tbl ps))\/(Ts.lookup b=Z/\(H b=Z\/(∃o xs,H b=U (.frz o (.lst xs)))\/∃xs,H b=U (.tup xs)))
noncomputable def d6(cs H:Hp):Hp:=λb=>match cs b with
 |none=>H b
 |some _=>Z
theorem C7{cs H:Hp}{b:O}{u:HO}(h:d6 cs H b=U u):cs b=Z/\H b=U u:=by
 unfold d6 at h
 cases q:cs b with
 |none=>rw[q] at h;exact⟨Y,h⟩
 |some o=>rw[q] at h;cases h
noncomputable def lL(cs H:Hp):Hp:=λb=>match cs b with
 |none=>H b
 |some o=>U o
theorem qD{cs H:Hp}{b:O}(h:cs b=Z):lL cs H b=H b:=by unfold lL;rw[h]
theorem yE{cs H:Hp}{b:O}{o:HO}(h:cs b=U o):lL cs H b=U o:=by unfold lL;rw[h]
structure Cs(P:t)(w:S)(cs:Hp)(h:I):Prop where
 ct:∀{b:O}{o:HO},cs b=U o->∃xs,o=.tup xs
 ok:∀{b:O}{xs:-V},cs b=U (.tup xs)->↑xs<=sizeLine/\∃az:-L,Vals xs az/\IsTup h b az.toArray
theorem Cs.no{P:t}{w:S}{cs:Hp}{h:I}(C:Cs P w cs h){b:O}{u:Q}(e:h.get? b=U u)(n:u.cls≠.type "tuple"):cs b=Z:=by
 cases q:cs b with
 |none=>rfl
 |some o =>
  let⟨xs,rfl⟩:=C.ct q;let⟨_,az,_,hI⟩:=C.ok q;let⟨o,e1,r⟩:=hI;rw[e] at e1;cases e1;calc absurd r.1 n
theorem Sv{P:ψ}{w:S}{K:My}{mg mb:J->Option L}{CX:lq}{k:Nat}{fa a:O}{fd:FuncData}{x:J}{sp:Sp}{s₁:B}{vs:-L}{ns:-Int}(Ts:-(O×Array L)){cs:Hp}(hC:Cs P w cs s₁.heap)
  (hT:∀b ps,Ts.lookup b=U ps->s₁.heap.get? b=U {cls:=.none,data:=.fields ps}/\isCodeTable s₁.heap b/\K.lookup b=Z)
  (KX:K.In s₁.heap) (wk:s₁.heap.Ns mainGlobals mg) (hb:s₁.heap.Ns builtinsNs mb) (Sw:∀x:J,x≠"__name__" -> mb x=bootBuiltins x) (C8:s₁.heap.NoLimit) (hg:s₁.gens = #[])
  (ha:s₁.heap.get? a=U {cls:=.type "list",data:=.seq vs.toArray}) (hi:IntsAre vs ns) (hl:↑ns<=sizeLine) (hr:bD k callerA)
  (hB:∃bm ob,mg "__builtins__" = U (.ref bm)/\bm≠builtinsNs/\s₁.heap.get? bm=U ob/\ob.cls=.type "module" /\ ob.dict=U builtinsNs/\ob.data=.plain)
  (F:∀base:I,K.In base->base.Ns mainGlobals mg->(∀b ps,Ts.lookup b=U ps->base.BuiltinsAt mg b)->cj P w K mg base CX k fa fd [x] sp) (wm:∀(s:B)(u:L),BindsTo s fd ⟨[u],[]⟩ [(x,u)])
  (qd:∀H:Hp,C6 Ts H->aP cs H->bU K H a (ns.map V.int)->sp [.ref a] H (λv _=>v=.bl θ) λ_ _ _=>False)
  (C9:∀H e s',CX [] H s₁ (λ_ _ _=>False) e s'->False) :
  codeAny (ς P w) callerA (.call (.ref fa) ⟨[.ref a],[]⟩) (λr s'=>r=.ok (.ret (.bool θ))/\OldK s₁.heap s'.heap/\s'.os=s₁.os/\AllBare s'.gens) s₁:=by
 let rv:=Hx hi;let C_:=↑hi
 let aT:Ts.lookup a=Z:=by
  cases q:Ts.lookup a with
  |none=>rfl
  |some ps =>
   let:=(hT a ps q).1;rw[ha] at this;let z:=congrArg Obj.cls (q0v this);cases(show q1L "list" = q0y from z)
 let aC:cs a=Z:=hC.no ha (show q1L "list" ≠ q1L "tuple" by decide)
 let tC:∀{b ps},Ts.lookup b=U ps->cs b=Z:=λ{b ps} t=>hC.no (hT b ps t).1 nofun
 let core:∀H:Hp,C6 Ts H->aP cs H->bU K H a (ns.map V.int)->eG P w H s₁.heap->(∀b,Ts.lookup b=Z->cs b=Z->H b≠Z->b=a)->(H a≠Z->K.lookup a=Z) →
   codeAny (ς P w) callerA (.call (.ref fa) ⟨[.ref a],[]⟩) (λr s'=>r=.ok (.ret (.bool θ))/\OldK s₁.heap s'.heap/\s'.os=s₁.os/\AllBare s'.gens) s₁:=by
  ext H hO ue hS bu Sx hK
  let hA:∀b,Ts.lookup b=Z->d6 cs H b≠Z->b=a:=λb t n=>by
   cases q:d6 cs H b with
   |none=>exact absurd q n
   |some u=>exact Sx b t (C7 q).1 (by rw[(C7 q).2];simp)
  let ij:∀{b:O}{o:Q},s₁.heap.get? b=U o->d6 cs H b=Z->(gy s₁.heap (d6 cs H)).get? b=U o:=λe n=>NH e n
  let n9:∀{b:O}{o:Q}{es:Array DictEntry}{ep:Nat},s₁.heap.get? b=U o->o.data=.dict es ep->d6 cs H b=Z:=λ{b o es ep} e d=>by
   cases q:d6 cs H b with
   |none=>rfl
   |some u =>
    cases t:Ts.lookup b with
    |some ps =>
     let:=(hT b ps t).1;rw[e] at this;cases this;cases d
    |none =>
     let e':b=a:=hA b t (by rw[q];simp);subst e';rw[ha] at e;cases e;let d':Data.seq vs.toArray _=Data.dict es ep:=d;cases d'
  let yF:∀{b:O}{m:J->Option L},s₁.heap.Ns b m->(gy s₁.heap (d6 cs H)).Ns b m:=λ{b m} ⟨o,es,ep,e,d,r⟩=>⟨o,es,ep,ij e (n9 e d),d,r⟩
  let Jv:K.In (gy s₁.heap (d6 cs H)):=λb o e=>ij (KX b o e) (by
   cases q:d6 cs H b with
   |none=>rfl
   |some u =>
    cases t:Ts.lookup b with
    |some ps=>rw[(hT b ps t).2.2] at e;cases e
    |none =>
     let e':b=a:=hA b t (by rw[q];simp);subst e'
     rw[hK (by rw[(C7 q).2];simp)] at e;cases e)
  let Sy:∀b ps,Ts.lookup b=U ps->(gy s₁.heap (d6 cs H)).BuiltinsAt mg b:=λb ps t=>by
   let⟨bm,ob,b1,b2,b3,b4,b5,b6⟩:=hB;refine⟨bm,ob,b1,b2,λz=>?_,λz=>?_,ij b3 ?_,b4,b5,b6⟩
   .let⟨o,es,ep,e1,e2,_⟩:=wk
    rw[z,e1] at b3;cases b3;rw[e2] at b6;cases b6
   .let:=(hT b ps t).1
    rw[z,this] at b3;cases b3;cases b6
   .cases q:d6 cs H bm with
    |none=>rfl
    |some u =>
     cases t':Ts.lookup bm with
     |some Sz =>
      let:=(hT bm Sz t').1;rw[b3] at this;cases this;cases b6
     |none =>
      let e':bm=a:=hA bm t' (by rw[q];simp);rw[e',ha] at b3;cases b3;cases b6
  let hM:Mod K mg (gy s₁.heap (d6 cs H)):=⟨Jv,yF wk,⟨mb,yF hb,Sw⟩,let⟨mc,h1,h2⟩:=C8;⟨mc,yF h1,h2⟩⟩
  let e0:jF P w K mg (gy s₁.heap (d6 cs H)) callerA [] s₁ H:=⟨Y,hM,λb o e=>⟨(Gy e).1,by
   let z:=(Gy e).2;unfold d6 at z
   cases q:cs b with
   |none=>rw[q] at z;exact .inl z
   |some u =>
    let⟨xs,rfl⟩:=hC.ct q
    calc .inr ⟨xs,ue b _ q⟩⟩,q56 (NG _ _),trivial,λb hb=>absurd (show b∈([]:-O) from hb) (by simp),bu,.of_eq hg⟩
  refine q2H ((F _ Jv (yF wk) Sy).run callerA [] s₁ H ⟨[.ref a],[]⟩ [.ref a] [.ref a] _ _ hr e0 (wm s₁ (.ref a)) (.cons Y .nil) (qd H hO ue hS)) λr s' h=>?_
  cases r with
  |error e=>exact(C9 H e s' h).elim
  |ok fl =>
   cases fl with
   |next=>exact q1n h
   |brk=>exact q1n h
   |cont=>exact q1n h
   |ret u =>
    let⟨v,H',os,bare,un,wo,r',q⟩:=h;let q':v=.bl θ:=q;subst q';obtain rfl:u=q2I θ:=r'
    let all:∀b o,s₁.heap.get? b=U o->asItWas s₁.heap s'.heap b o/\∃o',s'.heap.get? b=U o':=λb o e=>by
     rcases hO b with⟨ps,t,z⟩|⟨t,z|⟨ob,xs,z⟩|⟨xs,z⟩⟩
     .let⟨more,z2⟩:=un.gx b ps z
      let e2:s'.heap.get? b=U {cls:=.none,data:=.fields (ps++more)}:=wo b _ z2;let e1:=(hT b ps t).1;rw[e] at e1;cases e1;exact⟨.inr (.inl ⟨(hT b ps t).2.1,Y,ps,more,Y,e2⟩),_,e2⟩
     .let e2:=un.keep b o e z (by ext z;calc absurd (show b∈([]:-O) from z) (by simp)) (by simp)
      exact⟨.inl e2,_,e2⟩
     .let z2:=un.gw b ob _ z
      let⟨e1,_⟩:=bu b _ z;let⟨e2,_⟩:=wo b _ z2;rw[e] at e1;cases e1;exact⟨.inl e2,_,e2⟩
     .let e2:=un.f7 b xs o z e (by simp)
      exact⟨.inl e2,_,e2⟩
    exact⟨Y,⟨λb o e=>(all b o e).1,λb o e=>(all b o e).2⟩,os,bare⟩
 let qE:∀(H:Hp) b ps,Ts.lookup b=U ps->bw P w H s₁.heap b (.tbl ps):=λH b ps t=>(hT b ps t).1
 let one:∀{b:O}{R:Prop},(∀o,cs b=U o->R)->(cs b=Z->R)->R:=λ{b R} f g=>by
  cases q:cs b with
  |none=>exact g q
  |some o=>exact f o q
 let Jw:∀{H:Hp}{b:O}{o u:HO},cs b=U o->lL cs H b=U u->bw P w (lL cs H) s₁.heap b u:=λ{H b o u} q z=>by
  rw[yE q] at z;cases z;let⟨xs,rfl⟩:=hC.ct q;exact hC.ok q
 let cO:∀{H:Hp}{b:O}{o:HO},cs b=U o->(∃ps,Ts.lookup b=U ps/\lL cs H b=U (.tbl ps))\/(Ts.lookup b=Z/\(lL cs H b=Z\/(∃o xs,lL cs H b=U (.frz o (.lst xs)))\/∃xs,lL cs H b=U (.tup xs))):=λ{H b o} q=>by
  let⟨xs,rfl⟩:=hC.ct q;refine .inr ⟨?_,.inr (.inr ⟨xs,yE q⟩)⟩
  cases t:Ts.lookup b with
  |none=>rfl
  |some ps=>rw[tC t] at q;cases q
 cases hk:K.lookup a with
 |some o =>
  let e:=KX a o hk;rw[ha] at e;cases e
  refine core (lL cs λb=>(Ts.lookup b).map HO.tbl) (λb=>one (λo q=>cO q) λq=>?_) (λb o q=>yE q) (.inr ⟨_,vs.toArray,_,hk,Y,Y,Y,by rw[PA,C_];calc hl,by simpa using rv⟩) (λb u z=>one (λo q=>Jw q z) λq=>?_) (λb t q z=>?_) λz=>?_
  .rw[qD q]
   cases t:Ts.lookup b with
   |some ps=>exact .inl ⟨ps,Y,Y⟩
   |none=>exact .inr ⟨Y,.inl Y⟩
  .rw[qD q] at z
   let⟨ps,t,rfl⟩:=q0a.mp (show(Ts.lookup b).map HO.tbl=U u from z);exact qE _ b ps t
  .rw[qD q] at z
   exact absurd (show(Ts.lookup b).map HO.tbl=Z by rw[t];rfl) z
  .rw[qD aC] at z
   exact absurd (show(Ts.lookup a).map HO.tbl=Z by rw[aT];rfl) z
 |none =>
  refine core (lL cs λb=>if b=a then U (.frz {cls:=.type "list",data:=.seq vs.toArray} (.lst (ns.map V.int))) else(Ts.lookup b).map HO.tbl) (λb=>one (λo q=>cO q) λq=>?_) (λb o q=>yE q) (.inl (.inr ⟨{cls:=.type "list",data:=.seq vs.toArray},(qD aC).trans (q0e Y)⟩)) (λb u z=>one (λo q=>Jw q z) λq=>?_) (λb t q z=>?_) λ_=>hk
  .rw[qD q]
   by_cases hb:b=a
   .subst hb
    exact .inr ⟨aT,.inr (.inl ⟨_,_,q0e Y⟩)⟩
   .cases t:Ts.lookup b with
    |some ps=>exact .inl ⟨ps,Y,q0c hb⟩
    |none=>exact .inr ⟨Y,.inl (q0c hb)⟩
  .rw[qD q] at z
   by_cases hb:b=a
   .let z':=(q0e hb).symm.trans z
    cases z'
    subst hb;exact⟨ha,by rw[Ba];calc hl,vs,_,rv,ha⟩
   .let z':=(q0c hb).symm.trans z
    let⟨ps,t,rfl⟩:=q0a.mp z';exact qE _ b ps t
  .rw[qD q] at z
   by_cases hb:b=a
   .exact hb
   .calc absurd ((q0c hb).trans (by rw[t];rfl)) z
theorem SA{l:q62}{n k:Nat}{q:t}{loose:-J}{XP:(J->Option L)->I->Prop}{YP:S->I->Prop}{d:DefRec}{K:S->My}{CX:S->lq}{sp:S->Sp}{x:J}{Ts:S->-(O×Array L)}{cs:S->Hp}
  (hn:l.most=U n) (xx:n<=sizeLine) (u9:d.params.defaults=[]) (hr:bD k callerA)
  (hY:∀(w:S)(h:I),YP w h->(K w).In h)
  (hT:∀(w:S)(h:I),YP w h->∀b ps,(Ts w).lookup b=U ps->h.get? b=U {cls:=.none,data:=.fields ps}/\isCodeTable h b/\(K w).lookup b=Z)
  (hC:∀(w:S)(h:I),YP w h->Cs l.prog w (cs w) h)
  (F:∀(w:S)(mg:J->Option L)(fa:O)(h:I),(K w).In h->h.Ns mainGlobals mg->mg d.name=U (.ref fa) →
   ∃fd:FuncData,(∀(s:B)(u:L),BindsTo s fd ⟨[u],[]⟩ [(x,u)]) ∧
    ∀base:I,(K w).In base->base.Ns mainGlobals mg->(∀b ps,(Ts w).lookup b=U ps->base.BuiltinsAt mg b)->cj l.prog w (K w) mg base (CX w) k fa fd [x] (sp w))
  (qd:∀(w:S)(H:Hp)(a:O)(ns:-Int),↑ns<=n->C6 (Ts w) H->aP (cs w) H->bU (K w) H a (ns.map V.int)->sp w [.ref a] H (λv _=>v=.bl θ) λ_ _ _=>False)
  (C9:∀(w:S)(H:Hp)(s:B)(e:L)(s':B),CX w [] H s (λ_ _ _=>False) e s'->False) :
  PySem.W.WalkO q loose XP YP l.row.toRowW d [] (λf vs=>q7l f vs):=by
 calc Att.iT hn u9 λw s₀ s₁ mg mb fa o pm cd doc a vs ns G Y ho hd g6 om rF hints hlen hg=>?_;let KX:=hY w _ Y;let⟨fd,hb,hF⟩:=F w mg fa _ KX G.T.g om;calc Sv (Ts w) (hC w _ Y) (hT w _ Y) KX G.T.g G.T.b G.T.builtins G.T.nolimit hg rF hints (q0w hlen xx) hr G.T.bmain hF hb (λH hO ue hS=>qd w H a ns hlen hO ue hS) λH e s'=>C9 w H s₁ e s'
section
variable{X:Cx}{pins:aL}{σ:St}{H:Hp}{s:B}{h':I}
theorem Inv.grow{T c f:O}{ps more:Array L}{oc of:HO}{t':Nat}(I:Inv X pins σ H s)(hT:H T=U (.tbl ps))(k:∀b u,b≠T->s.heap.get? b=U u->h'.get? b=U u)(Jx:h'.get? T=U {cls:=.none,data:=.fields (ps++more)})
  (hc:⇑s<=c) (hf:⇑s<=f) (Dd:c≠f) (SD:∀H2,bw X.prog X.w H2 h' c oc) (SE:∀H2,bw X.prog X.w H2 h' f of) :
  Inv X pins σ (upd (upd (upd H T (.tbl (ps++more))) c oc) f of) {s with heap:=h',toks:=t'}:=by
 let tl:T<⇑s:=(I.bu T _ hT).lt;let cT:c≠T:=q1I (q0j tl hc);let fT:f≠T:=q1I (q0j tl hf);let Zz:H c=Z:=I.bu.fresh hc;let SF:H f=Z:=I.bu.fresh hf
 let old:∀b,b<⇑s->b≠T->upd (upd (upd H T (.tbl (ps++more))) c oc) f of b=H b:=λb hb nT=>by
  rw[bF (q0b (q0j hb hf)),bF (q0b (q0j hb hc)),bF nT]
 let atT:upd (upd (upd H T (.tbl (ps++more))) c oc) f of T=U (.tbl (ps++more)):=by
  rw[bF (q2b fT),bF (q2b cT),cz]
 let lt:∀b u,H b=U u->b<⇑s:=λb u e=>(I.bu b u e).lt
 let eX:∀b u,H b=U u->(∀qs,u≠.tbl qs)->upd (upd (upd H T (.tbl (ps++more))) c oc) f of b=U u:=λb u e n=>by
  rw[old b (lt b u e) (λz=>by subst z;rw[hT] at e;cases e;calc n _ Y)];exact e
 refine I.un (t':=t') ⟨λb o e n _ _=>k b o (λz=>by subst z;rw[hT] at n;cases n) e,λb o e n _ _=>⟨o.slots,k b o (λz=>by subst z;rw[hT] at n;cases n) e⟩,λb o e n _=>?_,λb o e _=>?_,λb xs e=>eX b _ e (λ_ z=>by cases z),λb o u e=>eX b _ e (λ_ z=>by cases z),λb qs e=>?_,λb xs o q e _=>k b o (λz=>by subst z;rw[hT] at q;cases q) e⟩ λb u e=>?_
 .rw[old b (Ze e) (λz=>by subst z;rw[hT] at n;cases n)];exact n
 .by_cases z:b=T
  .subst z;exact⟨_,Jx⟩
  .exact⟨o,k b o z e⟩
 .by_cases z:b=T
  .subst z;rw[hT] at e;cases e;exact⟨more,atT⟩
  .exact⟨#[],by rw[old b (lt b _ e) z,e];simp⟩
 .by_cases z1:b=f
  .subst z1;rw[cz] at e;cases e;exact SE _
  .rw[bF z1] at e
   by_cases z2:b=c
   .subst z2;rw[cz] at e;cases e;exact SD _
   .rw[bF z2] at e
    by_cases z3:b=T
    .subst z3;rw[cz] at e;cases e;exact Jx
    .rw[bF z3] at e
     refine bw.gY (I.bu b u e) (λd v hd q=>?_) (λd q=>eX d _ q (λ_ z=>by cases z)) (λd xs q=>eX d _ q (λ_ z=>by cases z))
     .refine k d v (λy=>?_) q
      subst y;rcases hd with y|y
      .exact z3 y.symm
      .rw[hT] at y;cases y
noncomputable def nK(c:O)(q:J):HO:=.ext λh=>∃o vs tq,h.get? c=U o/\o.data=.fields vs/\vs[1]?=U (.str q tq)
theorem SG{P:t}{w:S}{H:Hp}{h:I}{c:O}{q:J}(e:h.CodeRec (.ref c) q):bw P w H h c (nK c q):=by
 let⟨c',o,vs,tq,z,ho,hd,hq⟩:=e;cases z
 calc⟨⟨o,vs,tq,ho,hd,hq⟩,⟨o,ho⟩,λh1 h2 ⟨o,vs,tq,e1,e2,e3⟩ k↦⟨o,vs,tq,k o e1,e2,e3⟩⟩
theorem SH{P:t}{w:S}{H:Hp}{h:I}{c:O}{q:J}(x:bw P w H h c (nK c q)):h.CodeRec (.ref c) q:=by
 let⟨⟨o,vs,tq,ho,hd,hq⟩,_⟩:=x;calc⟨c,o,vs,tq,Y,ho,hd,hq⟩
end
end L2
namespace L2
open PySem PySem.Spec PyProof.Rows PySem.W
section
variable{X:Cx}{pins:aL}{σ:St}{H:Hp}{s:B}{params:Arguments}{body:l}{scope:a}{pos:y}{i_:-(J×O)}{cc T:O}{ps:Array L}{E:bA}{Q:bA}
noncomputable def jU(f:O)(name qual:J)(params:Arguments)(body:l)(scope:a)(i_:-(J×O))(pm cd:L):HO:=.ext λh=>∃wq,h.get? f=U {cls:=.type "function",data:=.func (kla_fn name qual params body scope i_ pm cd wq)}
def eY(H:Hp)(T:O)(pos:y)(qual:J):Prop:=∃ps,H T=U (.tbl ps)/\TriplesOk ps.toList/\(codeAmong pos ps.toList=Z\/∃c,codeAmong pos ps.toList=U (.ref c)/\H c=U (nK c qual))
theorem SI(I:Inv X pins σ H s)(hT:eY H T pos (X.env.qual++"<lambda>"))(De:defaultsOf params X.env=([],[]))(qj:closureFor scope X.env=pure i_)(kq:X.env.code=.ref cc)(C:CodeHd s.heap cc T)(SJ:mainGlobals≠T)(hg:s.heap.Ns mainGlobals X.mg)(hb:s.heap.BuiltinsAt X.mg T)
  (h:∀f H' s' c,Inv X pins σ H' s'->eY H' T pos (X.env.qual++"<lambda>")->(∀b o,H b=U o->b≠T->H' b=U o)->H f=Z->H' f=U (jU f "<lambda>" (X.env.qual++"<lambda>") params body scope i_ ((X.mg "__name__").getD .none) (.ref c))->H' c=U (nK c (X.env.qual++"<lambda>"))->Q (.ref f) s') :
  M (g X.prog X.w) X.A (eval (.Lambda params body scope pos) X.env) Q E s:=by
 let⟨ps,hP,ht,hf⟩:=hT;let Df:s.heap.get? T=U {cls:=.none,data:=.fields ps}:=I.bu T _ hP;calc kla_eval De ?_;rcases hf with Jy|⟨c,hf,yG⟩
 .refine kla_makeFunction qj I.ok.glob hg kq C Df ht Jy SJ hb λc' wq h' tk hx yH d_ Dg SK=>?_
  let hsz:⇑s<=h'.objs.size:=q1d (q24 yH d_);let tl:T<⇑s:=Ze Df;let SM:T≠h'.objs.size:=q0b (q0j tl hsz);let SN:T≠c':=q0b (q0j tl yH);let Dd:c'≠h'.objs.size:=q0b d_;let Jz:(ps ++ #[rawInt pos.line,rawInt pos.col,q0F c']).toList=ps.toList++[rawInt pos.line,rawInt pos.col,q0F c']:=by simp
  let atT:upd (upd (upd H T (.tbl (ps ++ #[rawInt pos.line,rawInt pos.col,.ref c']))) c' (nK c' (X.env.qual++"<lambda>"))) h'.objs.size (jU h'.objs.size "<lambda>" (X.env.qual++"<lambda>") params body scope i_ ((X.mg "__name__").getD .none) (.ref c')) T=U (.tbl (ps ++ #[rawInt pos.line,rawInt pos.col,.ref c'])):=by
   rw[bF SM,bF SN,cz]
  let atC:upd (upd (upd H T (.tbl (ps ++ #[rawInt pos.line,rawInt pos.col,.ref c']))) c' (nK c' (X.env.qual++"<lambda>"))) h'.objs.size (jU h'.objs.size "<lambda>" (X.env.qual++"<lambda>") params body scope i_ ((X.mg "__name__").getD .none) (.ref c')) c'=U (nK c' (X.env.qual++"<lambda>")):=by
   rw[bF Dd,cz]
  refine h h'.objs.size _ _ c' (I.grow (t':=tk) (oc:=nK c' (X.env.qual++"<lambda>")) (of:=jU h'.objs.size "<lambda>" (X.env.qual++"<lambda>") params body scope i_ ((X.mg "__name__").getD .none) (.ref c')) hP (λb u nb e=>u7 _ (hx b u nb e)) (u7 _ SK) yH hsz Dd (λ_=>SG (Dg.push _)) λ_=>?_) ⟨_,atT,?_,.inr ⟨c',?_,atC⟩⟩ (λb o e nb=>?_) (I.bu.fresh hsz) cz atC
  .exact⟨⟨wq,Zg _ Y⟩,⟨_,Zg _ Y⟩,λh1 h2 ⟨v,e⟩ k↦⟨v,k _ e⟩⟩
  .rw[Jz];exact TriplesOk_snoc _ _ _ _ ht
  .rw[Jz];exact codeAmong_snoc _ ht Jy
  .let bl:b<⇑s:=(I.bu b o e).lt
   rw[bF (q0b (q0j bl hsz)),bF (q0b (q0j bl yH)),bF nb];exact e
 .refine kla_makeFunctionHit qj I.ok.glob hg kq C Df ht hf hb λwq h' tk hk hsz=>?_
  let hn:H h'.objs.size=Z:=I.bu.fresh hsz;refine h h'.objs.size _ _ c (I.laid (a:=h'.objs.size) (o:=jU h'.objs.size "<lambda>" (X.env.qual++"<lambda>") params body scope i_ ((X.mg "__name__").getD .none) (.ref c)) (t':=tk) (λb u e=>u7 _ (hk b u e)) hsz ?_) ⟨ps,?_,ht,.inr ⟨c,hf,?_⟩⟩ (λb o e _=>?_) hn cz ?_
  .exact⟨⟨wq,Zg _ Y⟩,⟨_,Zg _ Y⟩,λh1 h2 ⟨v,e⟩ k↦⟨v,k _ e⟩⟩
  .rw[bF (dQ hP hn)];exact hP
  .rw[bF (dQ yG hn)];exact yG
  .rw[bF (dQ e hn)];exact e
  .rw[bF (dQ yG hn)];calc yG
end
structure LD where
 A:o
 cl:-(J×O)
 f:O
 cd:L
 s:B
 H:Hp
@[reducible] noncomputable def pD (X:Cx) (qual:J) (scope:a) (Nb:-J) (d:LD):Cx where
 prog:=X.prog
 w:=X.w
 K:=X.K
 mg:=X.mg
 base:=X.base
 A:=d.A.deeper (envX qual scope ⇑d.s d.f d.cd d.cl)
 N:=Nb
 s₀:=d.s
 H₀:=d.H
 env:=envX qual scope ⇑d.s d.f d.cd d.cl
 outer:=X.stack
 stack:=envX qual scope ⇑d.s d.f d.cd d.cl::X.stack
 ex:=[]
 fn:=λ_=>ι
 calm:=true
 pn:=[]
 xe:=λ_ _=>False
noncomputable def yI(N:-J)(xI scope:a)(x:J)(Nb:-J)(cp:-(Option Nat)):Bool :=
 l5 N xI scope (x::Nb) (Z::cp)&&(scope.names.all λy=>G (y.2≠.cell))&&G (scope.names.lookup x=U .local)&&cp.all (·.isSome)
section
variable{X:Cx}{pins:aL}{σ:St}{H:Hp}{s:B}{params:Arguments}{body:l}{scope:a}{cl:-(J×O)}{E:bA}{Q:VK}{name qual x:J}{f c:O}{pm:L}{A:o}{v:V}{u:L}{Nb:-J}{cp:-(Option Nat)}{t:TE}
theorem SO(I:Inv X pins σ H s)(hf:H f=U (jU f name qual params body scope cl pm (.ref c)))(hc:H c=U (nK c qual))(hA:A.frames=U X.stack)(hh:A.handled=Z)(hd:A.depth<recursionLimit)
  (hk:scope.kind=.function) (ho:yI X.N X.env.scope scope x Nb cp=θ) (SQ:scope.isCoroutine=ι) (Dh:scope.isGenerator=ι)
  (sA:∀y c,cl.lookup y=U c->X.env.cells.lookup y=U c) (yJ:∀y∈scope.names,y.2=.free->∃c,cl.lookup y.1=U c)
  (hb:∀(ct:L),bindArgs (kla_fn name qual params body scope cl pm (.ref c) ct) ⟨[u],[]⟩=pure [(x,u)]) (r:RelV v u)
  (J:JE (pD X qual scope (x::Nb) ⟨A,cl,f,.ref c,s,H⟩) body t) (h:t (U v::jr cp σ) H Q):M (g X.prog X.w) A (call (.ref f) [u]) (EP X pins σ Q) E s:=by
 unfold yI at ho;erw[q0G,q1N,q0t] at ho;let⟨⟨⟨ho,JB⟩,hx⟩,cps⟩:=ho;let S:=x3N hk ho;let⟨⟨ct,SS⟩,_⟩:=I.bu f _ hf;let g6:=SH (I.bu c _ hc);calc q4J (kla_callFunE hd SS Y SQ Dh Y g6 ?_);rw[hb ct];calc HA (wpAny_newFunctionEnv (λy hy=>JB y hy) (λy hy=>by rw[q0D.mp hy];calc hx) (λh₁ wk vf=>?_) hk);let wt:∀b o,s.heap.get? b=U o->h₁.get? b=U o:=λb o e=>vf.extBut b o (q0b (Ze e)) (u7 _ e);calc⟨I.nolimit.keeps wt,?_⟩;let e0:=I.rj;show codeAny _ _ (.expr body (envX qual scope ⇑s f (.ref c) cl)) _ _;let n9:∀b:O,b∉(pD X qual scope (x::Nb) ⟨A,cl,f,.ref c,s,H⟩).ex:=λb z=>absurd (show b∈([]:-O) from z) (by simp)
 let mem:∀{y:π}{k:NameKind},scope.names.lookup y=U k->(y,k)∈scope.names:=λe=>q1l e
 let I1:Inv (pD X qual scope (x::Nb) ⟨A,cl,f,.ref c,s,H⟩) [] (U v::jr cp σ) H {s with heap:=h₁,toks:=s.toks+↑[(x,u)]}:=by
  refine⟨⟨e0.mod,hk,Y,Y,Hz _,λy z d h1 h2=>I.ok.inj y z d (sA y d h1) (sA z d h2),λy hy=>?_,λy d z _=>(by cases z),λ_=>hh,q5o hA,.inr ⟨Y,Y⟩,λb z=>absurd z (n9 b),e0.bs,e0.lV,λb _ _=>n9 b,λb z=>absurd z (n9 b),e0.eg,e0.mZ⟩,
   Y,e0.bare,Un.kept wt,⟨_,wk,λi y w h1 h2 h3=>?_⟩,λy d hy=>?_,e0.bu.fresh (Hz _),λy d hy=>I.cJ y d (sA y d hy),λp hp=>absurd (show p∈([]:aL) from hp) (by simp),e0.bu.kept wt,?_⟩
  .let hy:scope.names.lookup y=U .cell\/scope.names.lookup y=U .free:=hy
   rcases hy with hy|hy
   .exact absurd Y (JB _ (mem hy))
   .exact yJ _ (mem hy) Y
  .cases i with
   |zero =>
    cases(show U x=U y by simpa using h1)
    cases(show v=w by simpa using h2)
    exact⟨u,r,.inl ⟨hx,by simp⟩⟩
   |succ j =>
    let h1:Nb[j]?=U y:=by simpa using h1
    let h2:(jr cp σ)[j]?=U (U w):=by simpa using h2
    unfold jr at h2;rw[PB] at h2;let⟨o,q1,q2⟩:=q0a.mp h2
    match o,q2 with
    |none,q2=>cases q2
    |some i',q2 =>
     let q2:(σ[i']?).join=U w:=q2;let⟨n1,n2⟩:=S.u_ (j+1) i' y q1⁻¹ h1⁻¹
     let hs:σ[i']?=U (U w):=by
      cases q:σ[i']? with
      |none=>rw[q] at q2;cases q2
      |some z=>rw[q] at q2;cases(show z=U w from q2);rfl
     let kd:=S.free _ (mem n2) Y;let⟨m,hn,hl⟩:=I.loc;let⟨u',rv,lk⟩:=hl i' y w n1 hs (by rcases kd with z|z;calc .inr (.inl z);calc .inr (.inr z));calc⟨u',rv,?_⟩;rcases lk with⟨z,_⟩|⟨_,d,e1,o,e2,e3⟩
     .rcases kd with k|k<;>(rw[show X.env.kindOf y=U .local from z] at k;cases k)
     .let⟨d',e4⟩:=yJ _ (mem n2) Y
      let:=sA _ _ e4;rw[e1] at this;cases this;exact .inr ⟨.inr n2,d,e4,o,wt _ _ e2,e3⟩
  .let⟨z,o,e2,e3⟩:=I.cell y d (sA y d hy)
   exact⟨z,o,wt _ _ e2,e3⟩
  .let:=S.len
   show↑(U v::jr cp σ)=↑(x::Nb);unfold jr;rw[HB,Ba];simpa using this
 calc kla_codeExpr (q1M (J [] _ _ H Q I1 h) (λu' s' hs=>?_) λe s' hs=>hs.elim);let⟨w,H',J',rv,q⟩:=hs;calc I.after ⟨w,H',J'.os,J'.bare,J'.base,J'.bu,rv,q⟩
end
def kX(h:I)(k:LK)(v:L):Prop:=∃a o xs n,v=.ref a/\h.get? a=U o/\o.cls=.type "tuple" /\ o.data=.seq xs n/\IntsAre xs.toList k
section
variable{prog:t}{w:S}{A:o}{E:bA}{s:B}{Q:Bool->B->Prop}
theorem JD{fin:Bool}:∀{us ws:-L}{ks ls:LK}(i:Nat),IntsAre us ks->IntsAre ws ls->fin=G (↑us<↑ws)->Q (HT.lexLt ks ls) s->KatLex prog w A θ fin Q (us.zip ws) i s
 |_,_,_,_,i,.nil,.nil,hf,h=>by
  rw[q2M];subst hf;exact h
 |_,_,_,_,i,.nil,.cons m u r,hf,h=>by
  rw[q2M];let:fin=θ:=by rw[hf];simp
  subst this;exact h
 |_,_,_,_,i,.cons n t r,.nil,hf,h=>by
  rw[q3S];let:fin=ι:=by rw[hf];simp
  subst this;exact h
 |_,_,_,_,i,.cons n t r,.cons m u r',hf,h=>by
  rw[q15];refine kat_cons (q4u (kat_go (λe=>?_) λe=>?_))
  .let e:n=m:=q1w e
   subst e;rw[HT.oa,q0e Y] at h;exact kat_yes (JD (i+1) r r' (by rw[hf];simp) h)
  .let e:¬ n=m:=λz=>by subst z;simp at e
   rw[HT.oa,q0c e] at h;refine kat_no ?_
   cases q:(θ&&i==0) with
   |true=>exact oneLt_int h
   |false=>calc kat_one _ _ (q3H h)
theorem SU{k l:LK}{x y:L}(hx:kX s.heap k x)(hy:kX s.heap l y)(h:Q (HT.lexLt k l) s):M (g prog w) A (keyLt' (tuples' θ) x y) Q E s:=by
 let⟨a,o,xs,n,rfl,h1,_,h2,h3⟩:=hx;let⟨b,o',ys,n',rfl,g1,_,g2,g3⟩:=hy;calc kat_lt h1 h2 g1 g2 (JD 0 h3 g3 (by rw[Zh,Zh]) h)
theorem JH{h:I}:∀{keys:-L}{ks:-LK},(∀k∈ks,k≠[])->↑keys=↑ks->(∀(i:Nat)(k:LK)(v:L),ks[i]?=U k->keys[i]?=U v->kX h k v)->∃fs,KatTups h keys fs/\fs.length=↑keys/\∀v∈fs,∃n t,v=q0X n t
 |[],[],_,_,_=>⟨[],.nil,Y,λv hv=>nomatch hv⟩
 |[],_::_,_,hl,_=>by simp at hl
 |_::_,[],_,hl,_=>by simp at hl
 |v::keys,k::ks,gv,hl,ht=>by
  let⟨fs,t,hf,hi⟩:=JH (h:=h) (keys:=keys) (ks:=ks) (λk hk=>gv k (q0g _ hk)) hl⁻¹ λi k v e1 e2=>ht (i+1) k v e1⁻¹ e2⁻¹;let⟨a,o,xs,n,rfl,h1,hc,h2,h3⟩:=ht 0 k v Y Y;let hk:=gv k q0h;generalize hx:xs.toList=xl at h3
  cases h3 with
  |nil=>exact absurd Y hk
  |cons m t' r =>
   let h0:xs[0]?=U (.int m t'):=by rw[<-q0B,hx];rfl
   calc⟨.int m t'::fs,.cons h1 hc h2 h0 t,by rw[HB,HB,hf],λv hv=>?_⟩;rcases PC.mp hv with rfl|hv
   .exact⟨m,t',Y⟩
   .calc hi v hv
theorem SV{M:Model}{keys:-L}{ks:-LK}{Q:SortKind->B->Prop}(h0:0<↑keys)(gv:∀k∈ks,k≠[])(hl:↑keys=↑ks)(ht:∀(i:Nat) (k:LK) (v:L),ks[i]?=U k->keys[i]?=U v->kX s.heap k v)(h:Q (tuples' θ) s):
  ρ M A (keyKind' keys.toArray) Q E s:=by
 let⟨fs,t,hf,hi⟩:=JH gv hl ht;refine kat_kind (T:=.type "int") t ⋯ (λv hv=>?_) (by decide) ?_
 .let⟨n,t',rfl⟩:=hi v hv
  exact .now
 .calc h
theorem getD_some{α:Type}{l:-α}{i:Nat}{d:α}(h:i<↑l):l[i]?=U (l.getD i d):=by
 rw[xF h,PD,xF h];rfl
end
section
variable{X:Cx}{pins:aL}{σ:St}{H:Hp}{s:B}{A:o}{E:bA}{a:O}{vs:-L}{f:L}
theorem Inv.gT{h':Α}{t':Nat}{b:O}(I:Inv X pins σ H s)(fb:b7 X pins H b)(k:∀c o,c≠b->s.heap.get? c=U o->h'.get? c=U o):Inv X pins σ H {s with heap:=h',toks:=t'} :=
 I.turned k fb.1 fb.2.1 fb.2.2.2.1 fb.2.2.2.2.1 fb.2.2.2.2.2
theorem Inv.kY{b:O}{o:Q}(I:Inv X pins σ H s)(fb:b7 X pins H b)(e:s.heap.get? b=U o)(hc:∀v,o.data≠.cell v):Inv X ((b,o)::pins) σ H s :=
 I.fU λp hp=>by
  rcases PC.mp hp with rfl|hp
  .exact⟨e,fb.1,fb.2.1,fb.2.2.1,hc⟩
  .calc I.pin p (q0k _ hp)
theorem Inv.fx{p:O×Q}(I:Inv X (p::pins) σ H s):Inv X pins σ H s:=I.fU λq hq=>I.pin q (q0k _ (q0g _ hq))
theorem b7.cons{b:O}{p:O×Q}(f:b7 X pins H b)(n:p.1≠b):b7 X (p::pins) H b :=
 ⟨f.1,f.2.1,f.2.2.1,f.2.2.2.1,f.2.2.2.2.1,λq hq=>by
  rcases q0u.mp hq with z|z
  .exact f.2.2.2.2.2 q (q1p _ z)
  .rcases PC.mp z with rfl|z
   .exact n
   .calc f.2.2.2.2.2 q (q0k _ z)⟩
theorem Di{c:String}{xs:Array L}{n:Nat}:∀v,(seqObj c xs n).data≠.cell v:=λv z=>by cases z
end
section
variable{prog:t}{w:S}{A:o}{E:bA}{s:B}
end
section
variable{X:Cx}{pins:aL}{σ:St}{H:Hp}{s:B}{E:bA}
theorem Inv.wu{a:O}{o:HO}(I:Inv X pins σ H s)(fa:b7 X pins H a)(ha:⇑X.s₀<=a)(new:bw X.prog X.w (upd H a o) s.heap a o):Inv X pins σ (upd H a o) s:=by
 let⟨f0,f1,f2,_,f4,f5⟩:=fa;let ne:∀{b u},H b=U u->b≠a:=λe z=>by rw[z,f0] at e;cases e
 refine⟨I.ok,I.os,I.bare,⟨I.base.keep,I.base.slot,λb u e n hx=>?_,I.base.there,λb xs e=>?_,λb u v e=>?_,λb ps e=>?_,I.base.f7⟩,I.loc,I.cell,?_,λx c e=>?_,λp hp=>?_,λb u e=>?_,I.len⟩
 .rw[bF (q0b (q0j (Ze e) ha))];exact I.base.free b u e n hx
 .let:=I.base.fh b xs e
  rw[bF (ne this)];exact this
 .let:=I.base.gw b u v e
  rw[bF (ne this)];exact this
 .let⟨more,this⟩:=I.base.gx b ps e
  exact⟨more,by rw[bF (ne this)];calc this⟩
 .rw[bF (q2b f1)];exact I.free
 .rw[bF (f4 x c e)];exact I.cJ x c e
 .let⟨e1,e2,e3⟩:=I.pin p hp
  exact⟨e1,by rw[bF (f5 p hp)];calc e2,e3⟩
 .by_cases z:b=a
  .subst z;rw[cz] at e;cases e;exact new
  .rw[bF z] at e
   refine(I.bu b u e).gY (λc v _ q=>q) (λc q=>?_) λc xs q=>?_
   .rw[bF (ne q)];exact q
   .rw[bF (ne q)];calc q
theorem SW{xs:-V}{vs:-L}(r:Vals xs vs){p:-Nat}(hp:∀i∈p,i<↑vs):Vals (p.map λi=>xs.getD i .non) (p.map λi=>vs.getD i q0y):=by
 induction p with
 |nil=>exact .nil
 |cons i q ih =>
  calc .cons ?_ (ih λj hj=>hp j (q0g _ hj));let hi:=hp i q0h;let⟨u,e1,e2⟩:=r.get (getD_some (l:=xs) (d:=V.non) (by rw[↑r];calc hi));let:=getD_some (l:=vs) (d:=q0y) hi;rw[this] at e1;cases e1;calc e2
theorem d8.mem{n:Nat}{p:Array Nat}(h:d8 n p){i:Nat}(hi:i∈p.toList):i<n:=by
 let:=(q30.mp h.perm).mem_iff.mp hi;simpa using this
end
theorem af.at{H:Hp}{ds:-D}{vs:-V}{i:Nat}{d:D}{v:V}(h:af H ds vs)(e1:ds[i]?=U d)(e2:vs[i]?=U v):Is H d v:=by
 let⟨d',e3,h'⟩:=h.get e2;rw[e1] at e3;cases e3;calc h'
theorem af.wx{H:Hp}:∀{ds:-D}{vs:-V},↑vs=↑ds->(∀(i:Nat)(d:D),ds[i]?=U d->∃v,vs[i]?=U v/\Is H d v)->af H ds vs
 |[],[],_,_=>.nil
 |[],_::_,h,_=>by simp at h
 |_::_,[],h,_=>by simp at h
 |d::ds,v::vs,h,g=>by
  let⟨v',e,h1⟩:=g 0 d Y;cases(show U v=U v' from e)
  calc .cons h1 (af.wx h⁻¹ λi d e=>by simpa using g (i+1) d e⁻¹)
structure mG where
 T:O
 pos:y
 qual:J
theorem eY.same{H H':Hp}{T:O}{pos:y}{q:J}(h:eY H T pos q)(s:aP H H'):eY H' T pos q:=by
 let⟨ps,e,t,c⟩:=h;calc⟨ps,s _ _ e,t,c.imp id λ⟨c,e1,e2⟩↦⟨c,e1,s _ _ e2⟩⟩
theorem eY.keep{H H':Hp}{T T':O}{pos:y}{q:J}(h:eY H T pos q)(ne:T≠T')(hT:∃ps,H T'=U (.tbl ps))(s:∀b o,H b=U o->b≠T'->H' b=U o):eY H' T pos q:=by
 let⟨ps,e,t,c⟩:=h;calc⟨ps,s _ _ e ne,t,c.imp id λ⟨c,e1,e2⟩=>⟨c,e1,s _ _ e2 λz=>?_⟩⟩;let⟨qs,hT⟩:=hT;rw[z,hT] at e2;cases e2
theorem eY.put{H:Hp}{T a:O}{pos:y}{q:J}{o o':HO}(h:eY H T pos q)(ha:H a=U o)(hk:(∃vs,o=.lst vs)\/(∃ws,o=.dK ws)\/(∃ws,o=.dT ws)\/∃C dx ws,o=.ins C dx ws):eY (upd H a o') T pos q:=by
 let⟨ps,e,t,c⟩:=h
 let ne:∀{b u},H b=U u->(∀vs,u≠.lst vs)->(∀ws,u≠.dK ws)->(∀ws,u≠.dT ws)->(∀C dx ws,u≠.ins C dx ws)->b≠a:=λ{b u} e n1 n2 n3 n4 z=>by
  subst z;rw[ha] at e;cases e;rcases hk with⟨_,z⟩|⟨_,z⟩|⟨_,z⟩|⟨_,_,_,z⟩
  .exact n1 _ z
  .exact n2 _ z
  .exact n3 _ z
  .exact n4 _ _ _ z
 calc⟨ps,by rw[bF (ne e (λ_ z=>by cases z) (λ_ z=>by cases z) (λ_ z=>by cases z) λ_ _ _ z=>by cases z)];calc e,t,c.imp id λ⟨c,e1,e2⟩=>⟨c,e1,?_⟩⟩;rw[bF (ne e2 (λ_ z=>by cases z) (λ_ z=>by cases z) (λ_ z=>by cases z) λ_ _ _ z=>by cases z)];calc e2
structure CC where
 cs:Hp
 ct:∀{a:O}{o:HO},cs a=U o->∃vs,o=.tup vs
@[reducible] noncomputable def gg (ls:-mG) (C:CC):aR where
 ad:=ls.map (·.T)
 ok:=λH=>(∀l∈ls,eY H l.T l.pos l.qual)/\aP C.cs H
 same:=λh s=>⟨λl hl=>(h.1 l hl).same s,h.2.trans s⟩
 put:=λh ha hk=>⟨λl hl=>(h.1 l hl).put ha hk,λb o e=>by
  let:=h.2 b o e
  rw[bF λz=>by
   subst z;let⟨vs,rfl⟩:=C.ct e;rw[ha] at this;cases this
   rcases hk with⟨_,z⟩|⟨_,z⟩|⟨_,z⟩|⟨_,_,_,z⟩<;>cases z]
  calc this⟩
 tb:=λh ha=>by
  let⟨l,hl,rfl⟩:=q0l.mp ha;let⟨ps,e,_⟩:=h.1 l hl;exact⟨ps,e⟩
 cs:=C.cs
 ct:=C.ct
 co:=λh=>h.2
variable[aR]
structure Dj(T:O)(pos:y)(q:J):Prop where
 mem:T∈aR.ad
 get:∀H:Hp,aR.ok H->eY H T pos q
 put:∀H H':Hp,aR.ok H->eY H' T pos q->(∀b o,H b=U o->b≠T->H' b=U o)->aR.ok H'
omit [aR] in
theorem SX {ls:-mG} {l:mG} (hl:l∈ls) (nd:∀a∈ls,∀b∈ls,a.T=b.T->a=b) {C:CC}:@Dj (gg ls C) l.T l.pos l.qual:=by
 letI:aR:=gg ls C;refine⟨q2V hl,λH h=>h.1 l hl,λH H' h t k=>⟨λl' jP=>?_,λb o e=>?_⟩⟩
 .by_cases z:l'.T=l.T
  .rw[nd _ jP _ hl z];exact t
  .let⟨ps,e,_⟩:=h.1 l hl
   exact(h.1 l' jP).keep z ⟨ps,e⟩ k
 .refine k b o (h.2 b o e) λz=>?_
  let⟨ps,e2,_⟩:=h.1 l hl;let⟨vs,rfl⟩:=C.ct e;rw[<-z,h.2 b _ e] at e2;cases e2
structure SY(X:Cx)(T:O):Prop where
 code:∃cc,X.env.code=.ref cc/\CodeHd X.base cc T
 ng:mainGlobals≠T
 blt:X.base.BuiltinsAt X.mg T
section
variable{F H H':Hp}{ad:-O}{δ:aM}{σ:St}
theorem SR.Dl(S:SR F ad δ σ H)(k:∀b o,H b=U o->b∉aR.ad->H' b=U o)(tk:aR.ok H'):SR (Nw F H H') ad δ σ H':=by
 let sm:=Nw.same (H':=H') S.sub;let nF:∀{a o},F a=U o->a∉aR.ad:=λ{a o} e t=>by rw[S.nt a t] at e;cases e
 let nO:∀{i a ov},ad[i]?=U a->δ.mu[i]?=U (U ov)->a∉aR.ad:=λ{i a ov} e1 e2 t=>by
  let⟨a',o,e3,e4,h⟩:=S.mu i ov e2;rw[e1] at e3;cases e3;let⟨ps,q⟩:=aR.tb S.tab t;rw[e4] at q;cases q;exact h.kind _ Y
 refine⟨λa o e=>?_,λa l=>?_,S.cF,S.inj,λi ov e=>?_,λi x e=>?_,S.len,tk,S.nt.up sm λa ha=>?_⟩
 .unfold Nw at e
  cases q:H a with
  |none=>rw[q] at e;exact e
  |some u=>rw[q] at e;exact k a o (S.sub a o e) (nF e)
 .let⟨i,ov,e1,e2⟩:=l
  let⟨a',o,e3,e4,_⟩:=S.mu i ov e2;rw[e1] at e3;cases e3;unfold Nw;rw[e4];exact S.off a ⟨i,ov,e1,e2⟩
 .let⟨a,o,e1,e2,h⟩:=S.mu i ov e
  exact⟨a,o,e1,k a o e2 (nO e1 e),h.same sm⟩
 .let⟨v,e1,h⟩:=S.sl i x e
  exact⟨v,e1,h.same sm⟩
 .let⟨ps,q⟩:=aR.tb S.tab ha
  unfold Nw;rw[q];calc S.nt a ha
theorem Ext.Dl(S:SR F ad δ σ H)(k:∀b o,H b=U o->b∉aR.ad->H' b=U o)(tk:aR.ok H'):Ext F ad δ.mu H (Nw F H H') ad δ.mu H' where
 same:=Nw.same S.sub
 new:=λa o e=>by
  unfold Nw at e
  cases q:H a with
  |none=>exact .inr (.inl Y)
  |some u=>rw[q] at e;exact .inl e
 keep:=λa o e _ t=>k a o e t
 pre:=λ_ _ e=>e
 cA:=λ_ l=>.inl l
 iW:=λa o e=>by
  by_cases t:a∈aR.ad
  .let⟨ps,q⟩:=aR.tb tk t
   exact⟨_,q⟩
  .calc⟨o,k a o e t⟩
theorem SR.wy{sl:-(Option DV)}{mu:-(Option OV)}{τ:St}{d:D}{v:V}(S:SR F ad ⟨sl,mu⟩ τ H)(h:Is F d v):SR F ad ⟨U (.p d)::sl,mu⟩ (U v::τ) H:=by
 refine⟨S.sub,S.off,S.cF,S.inj,S.mu,λi x e=>?_,by let:=S.len;erw[HB];calc congrArg (· + 1) this,S.tab,S.nt⟩
 cases i with
 |zero=>cases(show U (U (DV.p d))=U (U x) from e);exact⟨v,Y,h⟩
 |succ i=>calc S.sl i x e
theorem Ext.qF{F' H':Hp}{aN:-O}{c5:-(Option OV)}{a:O}{o:HO}(S:SR F ad δ σ H)(e:Ext F ad δ.mu H F' aN c5 H')(h:H a=U o)(n1:∀vs,o≠.lst vs)(n2:∀ws,o≠.dK ws)(n3:∀ps,o≠.tbl ps)(n4:∀ws,o≠.dT ws)(n5:∀C dx ws,o≠.ins C dx ws:=by ext _ _ _ z;cases z):H' a=U o:=by
 refine e.keep a o h (λ⟨i,ov,e1,e2⟩=>?_) λt=>?_
 .let⟨a',u,e3,e4,q⟩:=S.mu i ov e2
  rw[e1] at e3;cases e3;rw[h] at e4;cases e4;rcases q.kd with⟨_,z⟩|⟨_,z⟩|⟨_,z⟩|⟨_,_,_,z⟩
  .exact n1 _ z
  .exact n2 _ z
  .exact n4 _ z
  .exact n5 _ _ _ z
 .let⟨ps,q⟩:=aR.tb S.tab t
  rw[h] at q;calc n3 _ (q0v q)
end
def S7(cp:-(Option Nat))(fb:WE)(δ:aM)(ds:-D)(key:D->LK):Prop :=
 ∀d∈ds,key d≠[]/\fb ⟨U (.p d)::dY cp δ.sl,δ.mu⟩ λy δ'=>y=.p (.tup ((key d).map D.int))/\δ'.mu=δ.mu
section
variable{X:Cx}{params:Arguments}{body:l}{scope:a}{gH:y}{x:J}{Nb:-J}{cp:-(Option Nat)}{fb:WE}{T:O}
structure mH(X:Cx)(params:Arguments)(body:l)(scope:a)(gH:y)(T:O)(x:J)(Nb:-J)(cp:-(Option Nat))(fb:WE):Prop where
 env:SY X T
 tbl:Dj T gH (X.env.qual++"<lambda>")
 S8:defaultsOf params X.env=([],[])
 kind:scope.kind=.function
 names:yI X.N X.env.scope scope x Nb cp=θ
 co:scope.isCoroutine=ι
 gen:scope.isGenerator=ι
 bind:∀(cl:-(J×O))(pm cd ct u:L),bindArgs (kla_fn "<lambda>" (X.env.qual++"<lambda>") params body scope cl pm cd ct) ⟨[u],[]⟩=pure [(x,u)]
 room:∃k,bD (k+3) X.A/\∀d:LD,bD k (d.A.deeper (envX (X.env.qual++"<lambda>") scope ⇑d.s d.f d.cd d.cl))->JE (pD X (X.env.qual++"<lambda>") scope (x::Nb) d) body (tD fb)
end
structure ik(mg:J->Option L)(base:I)(fd:FuncData)(T:O)(pos:y)(q:J):Prop where
 code:∃cc,fd.code=.ref cc/\CodeHd base cc T
 ng:mainGlobals≠T
 blt:base.BuiltinsAt mg T
 tbl:Dj T pos q
theorem gj.Dp{P:t}{w:ω}{K:My}{mg:J->Option L}{base:I}{x qual:J}{st:R}{f:O}{fd:FuncData}{N ps:-J}{k:Nat}{G:GD}(F:gj K x qual st f fd)(S:n8 N ps (cK st))
  (eT:∀(bH:L)(A:o)(outer:-X)(s:ο)(H:Hp)(E:XK),fd.code=bH->bD k (A.deeper (envOfC qual (cK st) ⇑s f bH)) →
   ∃B:WS,dO (fm ft P w K mg base N qual (cK st) f bH A outer s H E).lj (f_ st) (dW B)/\∀ys aB K',↑ys=↑ps->G ys aB K'->B (jQ ↑aB K') ⟨ys.map U++q0f (↑N-↑ps) Z,aB.map U⟩) :
  cj P w K mg base ft (k+1) f fd ps (oG G ↑ps):=by
 let⟨oc,od,kV,doc,pm,an,bH,ct,n_,rfl,lk,g6⟩:=F.ex;calc G7 lk g6 S (λvs H Q E h=>h.1) λA outer s H vs Q E hr h=>?_;let⟨hl,Fz,ad,ys,aB,K',S0,g,kk⟩:=h;let⟨B,jb,hb⟩:=eT bH A outer s H E Y hr
 let hy:↑ys=↑ps:=by
  let:=S0.len;rw[Ba] at this;rw[<-hl,this];show _=↑(ys.map U);rw[Ba]
 refine⟨_,jb.lj,Fz,ad,⟨ys.map U++q0f (↑N-↑ps) Z,aB.map U⟩,jQ ↑aB K',by rw[<-hl];calc S0.start,hb ys aB K' hy g,⟨fun δ' h F' aN σ' H' E' S'=>?_,fun δ' h=>h.elim,fun δ' h=>h.elim,λy δ' h v F' aN σ' H' E' S' V=>?_,trivial⟩⟩
 .exact yc (σ':=σ') S0 E' S' (x:=.p .non) (v:=.non) Y h kk
 .calc yc (σ':=σ') S0 E' S' V h kk
section
variable{X:Cx}{params:Arguments}{body a e:l}{scope:Δ}{gH p1 p2 q1 q2 kH:y}{x:J}{Nb:-J}{cp:-(Option Nat)}{fb f:WE}{fa:WA}{T:O}
end
end L2
namespace L2
open PySem PySem.Spec PyProof.Rows PySem.W
theorem Dq:∀{k l:LK}(n m:Int),k.length=↑l->HT.lexLt (k++[n]) (l++[m])=if k=l then G (n<m) else HT.lexLt k l
 |[],[],n,m,_=>by
  show(if n=m then HT.lexLt [] [] else G (n<m))=_;rw[q0e Y]
  by_cases h:n=m
  .rw[q0e h];subst h;simp[HT.lexLt]
  .rw[q0c h]
 |[],_::_,_,_,h=>by simp at h
 |_::_,[],_,_,h=>by simp at h
 |a::k,b::l,n,m,h=>by
  rw[q4A,q4A,HT.oa,HT.oa,Dq n m h⁻¹]
  by_cases e:a=b
  .subst e
   rw[q0e Y,q0e Y]
   by_cases e2:k=l
   .subst e2;rw[q0e Y,q0e Y]
   .rw[q0c e2,q0c λz=>e2 (q7M z).2]
  .rw[q0c e,q0c e,q0c λz=>e (q7M z).1]
def mI(h:I)(L:Nat)(k:LK)(v:ν):Prop:=∃a o xs n b kb m t,v=.ref a/\h.get? a=U o/\o.cls=.type "tuple" /\ o.data=.seq xs n/\xs.toList=[.ref b,.int m t]/\kX h kb (.ref b)/\↑kb=L/\k=kb++[m]
section
variable{prog:t}{w:S}{A:o}{E:bA}{s:B}{Q:Bool->B->Prop}
theorem Dr:∀{us:-L}{ns:-Int},IntsAre us ns->ItemsAre (intKind prog w) ns us
 |_,_,.nil=>.nil
 |_,_,.cons n t r=>.cons (q3o ..) (Dr r)
theorem S9{L:Nat}{k l:LK}{x y:ν}(hu:A.units<cLine)(hx:mI s.heap L k x)(hy:mI s.heap L l y)(h:Q (HT.lexLt k l) s):M (g prog w) A (keyLt' (tuples' ι) x y) Q E s:=by
 let⟨a,o,xs,n,b,kb,m,t,rfl,h1,_,h2,h3,⟨b',ob,bs,nb,eb,g1,gc,g2,g3⟩,hL,rfl⟩:=hx;let⟨a',o',S_,n',c,kc,m',t',rfl,oq,_,f6,zZ,⟨c',oc,cs,nc,ec,f1,fc,f2,f3⟩,Ta,rfl⟩:=hy;cases eb
 cases ec
 let hz:xs.size=2:=by rw[<-Zh,h3];rfl
 let Tb:S_.size=2:=by rw[<-Zh,zZ];rfl
 rw[Dq m m' (by rw[hL,Ta])] at h;let k1:IsTupleKey (intKind prog w) s.heap kb b:=⟨ob,bs,nb,g1,gc,g2,Dr g3⟩;let k2:IsTupleKey (intKind prog w) s.heap kc c:=⟨oc,cs,nc,f1,fc,f2,Dr f3⟩;calc kat_lt h1 h2 oq f6 ?_;rw[h3,zZ,hz,Tb,q15,q15,q2M];refine kat_cons (wpAny_eqBool_tuple hu k1 k2 (kat_go (λe=>?_) λe=>?_))
 .let e:kb=kc:=by simpa using e
  rw[q0e e] at h;refine kat_yes (kat_cons (q4u (kat_go (λe2=>?_) λe2=>?_)))
  .let e2:m=m':=q1w e2
   subst e2;calc kat_yes (kat_nil ?_);simpa using h
  .exact kat_no (kat_one _ _ (q3H h))
 .let e:¬ kb=kc:=by simpa using e
  rw[q0c e] at h;calc kat_no (kat_one _ _ (HT.AO ⟨ob,g1,gc,nb,g2⟩ ⟨oc,f1,fc,nc,f2⟩ g3 f3 hu h))
theorem Tc{M:Model}{L:Nat}{vs:-ν}{ks:-LK}{Q:SortKind->B->Prop}(h0:0<↑vs)(hl:↑vs=↑ks)(ht:∀(i:Nat) (k:LK) (v:ν),ks[i]?=U k->vs[i]?=U v->mI s.heap L k v)(h:Q (tuples' ι) s):
  ρ M A (keyKind' vs.toArray) Q E s:=by
 let key:∀(vs:-ν)(ks:-LK),↑vs=↑ks->(∀(i:Nat)(k:LK)(v:ν),ks[i]?=U k->vs[i]?=U v->mI s.heap L k v)->∃fs,KatTups s.heap vs fs/\fs.length=↑vs/\∀v∈fs,Looks M s.heap (typeOf v) (.type "tuple"):=by
  ext vs
  induction vs with
  |nil=>exactλks _ _=>⟨[],.nil,Y,λv hv=>nomatch hv⟩
  |cons v vs ih =>
   ext ks hl ht
   match ks,hl,ht with
   |k::ks,hl,ht =>
    let⟨fs,t,hf,hi⟩:=ih ks hl⁻¹ λi k v e1 e2=>ht (i+1) k v e1⁻¹ e2⁻¹;let⟨a,o,xs,n,b,kb,m,t',rfl,h1,hc,h2,h3,⟨b',ob,bs,nb,eb,g1,gc,g2,g3⟩,_⟩:=ht 0 k v Y Y;cases eb
    let h0:xs[0]?=U (.ref b):=by rw[<-q0B,h3];rfl
    calc⟨.ref b::fs,.cons h1 hc h2 h0 t,by rw[HB,HB,hf],λv hv=>?_⟩;rcases PC.mp hv with rfl|hv
    .rw[<-gc];exact(Looks.ld g1).andThen .now
    .exact hi v hv
 let⟨fs,t,hf,hi⟩:=key vs ks hl ht;calc kat_kind (T:=.type "tuple") t ⋯ hi (by decide) h
end
section
variable{X:Cx}{pins:aL}{σ:St}{H:Hp}{s:B}{A:o}{E:bA}{a:O}{vs:-L}{ks:-LK}{κ:SortKind}
theorem Td{n0:Nat}{R:PySem.Fin->B->Prop}(I:Inv X pins σ H s)(fa:b7 X pins H a)(ha:s.heap.get? a=U (seqObj "list" vs.toArray n0))(qk:↑vs<64)
  (kind:∀s':B,Inv X pins σ H s'->2<=↑vs->∀Q:SortKind->B->Prop,Q κ s'->M (g X.prog X.w) A (keyKind' vs.toArray) Q E s')
  (ask:∀s':B,Inv X pins σ H s'->∀(i j:Nat)(C:Bool->B->Prop),i<↑vs->j<↑vs->C (HT.lexLt (ks.getD i []) (ks.getD j [])) s'->M (g X.prog X.w) A (keyLt' κ (vs.getD i q0y) (vs.getD j q0y)) C (λ_ _=>False) s')
  (fin:∀(p:Array Nat)(s':B)(c:Nat),d8 ↑vs p->Up (λi=>ks.getD i []) p ↑vs->Inv X pins σ H s'->s'.heap.get? a=U (seqObj "list" (q2s (p.toList.map λi=>vs.getD i q0y)) c)->R (.done (.ret .none)) s') :
  M (g X.prog X.w) A (Builtin.«list.sort» ⟨[.ref a],[]⟩) R E s:=by
 let sb:=q0L s.heap a (q04 λ_=>(#[]:Array L));let⟨e1,gX⟩:∃e1,(s.heap.update a (q04 λ_=>(#[]:Array L))).get? a=U (seqObj "list" #[] e1):=⟨_,q43 ha λ_ => #[]⟩;let I1:Inv X pins σ H {s with heap:=s.heap.update a (q04 λ_=>(#[]:Array L))}:=I.gT (t':=s.toks) fa λc o n e=>(sb.2 c n).trans e;rw[list_sort_plain];calc rH (listItems_at ha Y ?_);calc rH (listUpdate_at ha Y ?_ (by rw[PA,q1O];symm) (q0Z _));calc rH (seqEpoch_at gX Y ?_);calc rH (q7r ?_ (by show ↑vs<=_;rw[q1O];symm));calc rH (q4j ?_ (q0Z _));calc q0H ?_;generalize ZA:s.heap.update a (q04 λ_=>(#[]:Array L))=g0 at gX I1 sb
 show M (g X.prog X.w) A _ R E {s with heap:=(g0.push (seqObj "tuple" vs.toArray 0)).push (seqObj "list" #[] 0)};let I2:Inv X pins σ H {s with heap:=(g0.push (seqObj "tuple" vs.toArray 0)).push (seqObj "list" #[] 0)}:=I1.kept (h':=(g0.push (seqObj "tuple" vs.toArray 0)).push (seqObj "list" #[] 0)) (t':=s.toks) λb u e=>u7 _ (u7 _ e);let fR:((g0.push (seqObj "tuple" vs.toArray 0)).push (seqObj "list" #[] 0)).get? a=U (seqObj "list" #[] e1):=u7 _ (u7 _ gX);let kp:∀b o,b≠a->s.heap.get? b=U o->((g0.push (seqObj "tuple" vs.toArray 0)).push (seqObj "list" #[] 0)).get? b=U o:=λb o n e=>u7 _ (u7 _ ((sb.2 b n).trans e))
 generalize(g0.push (seqObj "tuple" vs.toArray 0)).push (seqObj "list" #[] 0)=g1 at I2 fR kp;dsimp only
 let tail:∀(st:SortSt)(p:Array Nat),(arrOf st).map (·.2)=q2s (p.toList.map λi=>vs.getD i q0y)->failedOf st=Z->d8 ↑vs p->Up (λi=>ks.getD i []) p ↑vs->M (g X.prog X.w) A (do
   let touched:=(<- seqEpoch a) != e1
   Builtin.List.listUpdate (.ref a) λ_=>(arrOf st).map (·.2)
   if let U e:=failedOf st then rule "list.sort.comparison-raised";throw e
   if touched then rule "list.sort.modified";raiseError "ValueError" "list modified during sort"
   ret .none) R E {s with heap:=g1}:=by
  ext st p Ds hf hp up;let hz:↑(p.toList.map λi=>vs.getD i q0y)=↑vs:=by rw[Ba,Zh,hp.size]
  rw[Ds];let s2:=q0L g1 a (q04 λ_=>q2s (p.toList.map λi=>vs.getD i q0y));let⟨c2,jH⟩:∃c2,(g1.update a (q04 λ_=>q2s (p.toList.map λi=>vs.getD i q0y))).get? a=U (seqObj "list" (q2s (p.toList.map λi=>vs.getD i q0y)) c2):=⟨_,q43 fR λ_=>q2s (p.toList.map λi=>vs.getD i q0y)⟩;let J:Inv X pins σ H {s with heap:=g1.update a (q04 λ_=>q2s (p.toList.map λi=>vs.getD i q0y))}:=I2.gT (h':=g1.update a (q04 λ_=>q2s (p.toList.map λi=>vs.getD i q0y))) (t':=s.toks) fa λc o n e=>(s2.2 c n).trans e;calc rH (seqEpoch_at fR Y ?_);refine rH (listUpdate_at fR Y ?_ (q0Z _) (q0w (q56 (by rw[PA,hz])) (by rw[q1O];symm)))
  rw[hf];erw[q36,q03,q2a];exact HA (fin p _ c2 hp up J jH)
 by_cases h2:vs.toArray.size<2
 .rw[q0e h2,q0e h2]
  calc rH (HA ?_);rw[StateT.run_pure];calc rH (HA ?_);rw[PA] at h2;refine tail (SortSt.mk' general' (vs.toArray.zip vs.toArray) #[] 7 Z) (q0x ↑vs).toArray ?_ Y ⟨q60 _⟩ λi j kR hj=>?_
  .let Te:arrOf (SortSt.mk' general' (vs.toArray.zip vs.toArray) #[] 7 Z)=(q2s (q0x ↑vs)).map (kas_item (vs.toArray.zip vs.toArray)):=by
    let e:=kas_range (vs.toArray.zip vs.toArray);rw[show(vs.toArray.zip vs.toArray).size=↑vs by simp] at e;rw[e]
   exact kat_snds Y Te
  .let:i=j:=by symm
   subst this;exact kle_refl _
 .rw[q0c h2,q0c h2]
  rw[PA] at h2;refine rH (kind _ I2 ⋯ _ ?_)
  refine rH (q1M (kat_run (κ:=κ) (E:=E) (Q:=λgi s'=>s'={s with heap:=g1}/\∃p:Array Nat,arrOf gi=p.map (kas_item (vs.toArray.zip vs.toArray))/\failedOf gi=Z/\d8 ↑vs p/\Up (λi=>ks.getD i []) p ↑vs)
   (G:=λp s'=>s'={s with heap:=g1}/\d8 ↑vs p/\Up (λi=>ks.getD i []) p ↑vs) Y ⋯ qk (λp gi s' a1 a2 a3 a4=>⟨a4.1,p,a2,a3,a4.2.1,a4.2.2⟩) ?_) ?_ λ_ _ x=>x)
  .refine RD (k:=λi=>ks.getD i []) (I:=λs'=>s'={s with heap:=g1}) (λi j C s' hi hj e hC=>?_) ⋯ Y λp s' a1 a2 a3=>⟨a3,a1,a2⟩
   subst e;exact ask _ I2 i j C hi hj (hC _ Y)
  .ext ⟨⟨⟩,gi⟩ s' ⟨rfl,p,a1,a2,a3,a4⟩
   calc tail gi p (kat_snds Y a1) a2 a3 a4
theorem JJ{l:O}{xs:-V}{Q:bA}(I:Inv X pins σ H s)
  (col:∀Q':-L->B->Prop,(∀h' tk vs,(∀b o,s.heap.get? b=U o->h'.get? b=U o)->Vals xs vs->Q' vs {s with heap:=h',toks:=tk})->M (g X.prog X.w) X.A.in1 (collect (.ref l)) Q' E s) (qk:↑xs<64)
  (kind:∀(s':B)(vs:-L),Vals xs vs->Inv X pins σ H s'->2<=↑vs->∀Q:SortKind->B->Prop,Q κ s'->M (g X.prog X.w) X.A.in1.in1 (keyKind' vs.toArray) Q E s')
  (ask:∀(s':B)(vs:-L),Vals xs vs->Inv X pins σ H s'->∀(i j:Nat)(C:Bool->B->Prop),i<↑vs->j<↑vs->C (HT.lexLt (ks.getD i []) (ks.getD j [])) s'->M (g X.prog X.w) X.A.in1.in1 (keyLt' κ (vs.getD i q0y) (vs.getD j q0y)) C (λ_ _=>False) s')
  (fin:∀(p:Array Nat)(s':B)(a:O),d8 ↑xs p->Up (λi=>ks.getD i []) p ↑xs->H a=Z->Inv X pins σ (upd H a (.lst (p.toList.map λi=>xs.getD i .non))) s'->Q (.ref a) s') :
  M (g X.prog X.w) X.A (call (.builtin "sorted") [.ref l]) Q E s:=by
 calc q35 kind_sorted plain_sorted entry_sorted (args_sorted1 _) ?_;unfold Builtin.«sorted»;calc rH (m:=checkCount "sorted" 1 1 _) (HA ?_);calc rH (col _ λh' tk az kp rv=>?_);let lv:↑az=↑xs:=rv.length.symm;calc rH (q4j ?_ (by rw[q1O];symm));let I1:Inv X pins σ H {s with heap:=h',toks:=tk}:=I.kept kp;let fa:b7 X pins H h'.objs.size:=I1.g8 (Hz _) (I1.bu.fresh (Hz _));let Tf:⇑X.s₀<=h'.objs.size:=I1.sz;let I2:Inv X pins σ H {s with heap:=h'.push (seqObj "list" az.toArray 0),toks:=tk}:=I1.kept (h':=h'.push (seqObj "list" az.toArray 0)) (t':=tk) λb u e=>u7 _ e
 let pZ:(h'.push (seqObj "list" az.toArray 0)).get? h'.objs.size=U (seqObj "list" az.toArray 0):=Zg _ Y;refine rH (q0H (q08 slot_list_sort ⟨_,pZ,Y⟩ entry_list_sort ?body (args_list_sort _)))
 case body =>
  calc Td (κ:=κ) (ks:=ks) I2 fa pZ ⋯ (λs' J h2 Q' hq=>kind s' az rv J h2 Q' hq) (λs' J i j C hi hj hC=>ask s' az rv J i j C hi hj hC) λp s' c hp up J e=>⟨_,Y,?_⟩;rw[lv] at hp up;calc HA ⟨_,Y,fin p s' h'.objs.size hp up fa.1 (J.wu fa Tf ?_)⟩;let hz:↑(p.toList.map λi=>xs.getD i V.non)=↑xs:=by rw[Ba,Zh,hp.size]
  calc⟨by rw[hz,q1O];symm,_,c,SW rv λi hi=>by rw[lv];calc hp.mem hi,e⟩
end
def Dt(ds:-D)(key:D->LK):Prop :=
 (∀d∈ds,key d≠[]/\d=.tup ((key d).map D.int))\/∃L:Nat,∀d∈ds,∃(k:LK)(n:Int),k.length=L/\d=.tup [.tup (k.map D.int),.int n]/\key d=k++[n]
def yK:-D->(D->Prop)->Prop
 |[.lst ds],K=>↑ds<64/\∃key:D->LK,Dt ds key/\∀out:-D,out.Perm ds->(out.map key).Pairwise kle->K (.lst out)
 |[.tup ds],K=>↑ds<64/\∃key:D->LK,Dt ds key/\∀out:-D,out.Perm ds->(out.map key).Pairwise kle->K (.lst out)
 |_,_=>False
theorem Tg{ds:-D}{key:D->LK}{p:Array Nat}{n:Nat}(hn:↑ds=n)(hp:d8 n p)(up:Up (λi=>(ds.map key).getD i []) p n):(p.toList.map λi=>ds.getD i .non).Perm ds/\((p.toList.map λi=>ds.getD i .non).map key).Pairwise kle:=by
 subst hn
 constructor
 .let h1:=(q30.mp hp.perm).map λi=>ds.getD i D.non
  let h2:(q0x ↑ds).map (λi=>ds.getD i D.non)=ds:=by
   calc q2K λi=>?_;rw[PB]
   by_cases hi:i<↑ds
   .rw[q1_ hi,q4V,xF hi,PD,xF hi];rfl
   .rw[q11 (by rw[q00];symm),q11 ⋯];rfl
  rw[show(q0x ↑ds).toArray.toList=q0x ↑ds from Y,h2] at h1;exact h1
 .rw[q0C,q2S]
  ext i j hi hj kR;rw[Ba,Zh,hp.size] at hi hj;let:=up i j (q1d kR) hj;unfold KA at this;rw[q3s,q3s]
  let gp:∀{i:Nat}(h:i<↑p.toList),p.getD i 0=p.toList[i]:=λ{i} h=>by
   let h':i<p.size:=by rw[<-Zh];exact h
   simp[q5O,h']
  let gk:∀{i:Nat},i<↑ds->(ds.map key).getD i []=key (ds.getD i .non):=λ{i} h=>by
   rw[PD,PB,xF h,PD,xF h];rfl
  let pi:=hp.lt hi;let pj:=hp.lt hj;dsimp only at this;rw[gk pi,gk pj,gp (by rw[Zh,hp.size];calc hi),gp (by rw[Zh,hp.size];calc hj)] at this;calc this
theorem Th{F:Hp}{ds:-D}{xs:-V}{p:-Nat}(h:af F ds xs)(hp:∀i∈p,i<↑ds):af F (p.map λi=>ds.getD i .non) (p.map λi=>xs.getD i .non):=by
 calc af.wx (by rw[Ba,Ba]) λi d e=>?_;rw[PB] at e ⊢;let⟨z,e1,rfl⟩:=q0a.mp e;rw[e1];let hz:=hp z (q0S e1);calc⟨_,Y,af.at h (getD_some hz) (getD_some (by rw[↑h];calc hz))⟩
section
variable[aR]{X:Cx}
theorem yL{pins:aL}{σ:St}{H F:Hp}{s:B}{k:LK}{v:V}{u:L}(I:Inv X pins σ H s)(sub:aP F H)(h:Is F (.tup (k.map D.int)) v)(r:RelV v u):kX s.heap k u:=by
 erw[Is] at h;let⟨a,us,rfl,e,i⟩:=h;cases r
 rw[oO i] at e;let⟨az,rv,⟨o,o1,o2,n,o3⟩,_⟩:=I.tuple (b8.of (sub _ _ e));calc⟨a,o,_,n,Y,o1,o2,o3,by simpa using intsAre_of rv⟩
theorem Du{pins:aL}{σ:St}{H F:Hp}{s:B}{k:LK}{m:Int}{v:V}{u:L}(I:Inv X pins σ H s)(sub:aP F H)(h:Is F (.tup [.tup (k.map D.int),.int m]) v)(r:RelV v u):mI s.heap k.length (k++[m]) u:=by
 erw[Is,af] at h;let⟨a,us,rfl,e,v1,r1,rfl,h1,v2,r2,rfl,h2,rfl⟩:=h;cases r
 let⟨az,rv,⟨o,o1,o2,n,o3⟩,_⟩:=I.tuple (b8.of (sub _ _ e));let h2:v2=.int m:=h2;subst h2;let oq:Is F (.tup (k.map D.int)) v1:=by erw[Is];exact h1
 cases rv with
 |cons q1 rv =>
  cases rv with
  |cons q2 rv =>
   cases rv
   let t1:=yL I sub oq q1;let⟨b,_,_,_,rfl,_⟩:=id t1;let⟨t,rfl⟩:=q2;calc⟨a,o,_,n,b,k,m,t,Y,o1,o2,o3,Y,t1,Y,Y⟩
theorem JK{pins:aL}{σ:St}{H F:Hp}{s:B}{E:bA}{l:O}{ds:-D}{us:-V}{key:D->LK}{Q:bA}(hu:X.A.units+64<cLine)(I:Inv X pins σ H s)(sub:aP F H)(hl:H l=U (.lst us)\/H l=U (.tup us))(hi:af F ds us)(qk:↑ds<64)(sh:Dt ds key)
  (fin:∀(out:-D)(ws:-V)(a:O)(s':B),out.Perm ds->(out.map key).Pairwise kle->af F out ws->H a=Z->Inv X pins σ (upd H a (.lst ws)) s'->Q (.ref a) s'):M (g X.prog X.w) X.A (call (.builtin "sorted") [.ref l]) Q E s:=by
 let col:∀Q':-ν->B->Prop,(∀h' tk vs,(∀b o,s.heap.get? b=U o->h'.get? b=U o)->Vals us vs->Q' vs {s with heap:=h',toks:=tk})->M (g X.prog X.w) X.A.in1 (collect (.ref l)) Q' E s:=λQ' hQ=>by
  rcases hl with hl|hl
  .let⟨az,rv,pl,hz⟩:=I.list (bU.of hl)
   let⟨o,o1,o2,n,o3⟩:=pl.isList;exact q6n l (.inl Y) o1 o2 o3 (λh' kp=>hQ h' s.toks _ kp rv⁻¹) (by rw[PA,<-↑rv];calc hz)
  .let⟨az,rv,⟨o,o1,o2,n,o3⟩,hz⟩:=I.tuple (b8.of hl)
   exact q6n l (.inr Y) o1 o2 o3 (λh' kp=>hQ h' s.toks _ kp rv⁻¹) (by rw[PA,<-↑rv];calc hz)
 let lu:=↑hi;let Ti:X.A.in1.in1.units<cLine:=by show X.A.units+1+1<cLine;symm
 let gk:∀{i:Nat},i<↑ds->(ds.map key).getD i []=key (ds.getD i .non):=λ{i} h=>by
  rw[PD,PB,xF h,PD,xF h];rfl
 let isAt:∀{i:Nat},i<↑ds->∀{vs:-ν},Vals us vs->∃v,Is F (ds.getD i .non) v/\RelV v (vs.getD i q0y):=λ{i} h {vs} rv=>by
  let⟨u,e1,e2⟩:=rv.get (getD_some (l:=us) (d:=V.non) (i:=i) ⋯);let:=getD_some (l:=vs) (d:=q0y) (i:=i) (by rw[<-↑rv];symm);rw[this] at e1;cases e1;exact⟨_,af.at hi (getD_some h) (getD_some ⋯),e2⟩
 let mem:∀{i:Nat},i<↑ds->ds.getD i .non∈ds:=λ{i} h=>q0S (getD_some h)
 let ke:∀{i:Nat}{k:LK},(ds.map key)[i]?=U k->i<↑ds/\k=key (ds.getD i .non):=λ{i k} e=>by
  let h:i<↑ds:=by let:=(Hy.mp e).1;rwa [Ba] at this
  calc⟨h,?_⟩;let:=getD_some (l:=ds.map key) (d:=[]) (i:=i) (by rw[Ba];calc h);rw[e,gk h] at this;exact q0v this
 let ve:∀{i:Nat}{v:ν}{vs:-ν},vs[i]?=U v->v=vs.getD i q0y:=λ{i v vs} e=>by
  rw[PD,e];rfl
 let mq:∀(p:Array Nat)(s':B)(a:O),d8 ↑us p->Up (λi=>(ds.map key).getD i []) p ↑us->H a=Z->Inv X pins σ (upd H a (.lst (p.toList.map λi=>us.getD i .non))) s'->Q (.ref a) s':=λp s' a hp up ha J=>by
  let⟨o1,o2⟩:=Tg lu.symm hp up;exact fin _ _ a s' o1 o2 (Th hi λi dy=>by rw[<-lu];calc hp.mem dy) ha J
 rcases sh with sh|⟨L,sh⟩
 .refine JJ (κ:=tuples' θ) (ks:=ds.map key) I col ⋯ (λs' vs rv J h2 Q' hq=>?_) (λs' vs rv J i j C dy vp hC=>?_) mq
  .refine SV (ks:=ds.map key) ⋯ (λk hk=>?_) (by rw[Ba,<-↑rv];symm) (λi k v e1 e2=>?_) hq
   .let⟨d,hd,rfl⟩:=q0l.mp hk
    exact(sh d hd).1
   .let⟨h,rfl⟩:=ke e1
    let⟨w,i1,r1⟩:=isAt h rv;rw[(sh _ (mem h)).2] at i1;rw[<-ve e2] at r1;exact yL J sub i1 r1
  .rw[<-↑rv] at dy vp
   rw[gk ⋯,gk ⋯] at hC;let⟨w,i1,r1⟩:=isAt (i:=i) ⋯ rv;let⟨w',i2,r2⟩:=isAt (i:=j) ⋯ rv;rw[(sh _ (mem ⋯)).2] at i1 i2;exact SU (yL J sub i1 r1) (yL J sub i2 r2) hC
 .refine JJ (κ:=tuples' ι) (ks:=ds.map key) I col ⋯ (λs' vs rv J h2 Q' hq=>?_) (λs' vs rv J i j C dy vp hC=>?_) mq
  .refine Tc (L:=L) (ks:=ds.map key) ⋯ (by rw[Ba,<-↑rv];symm) (λi k v e1 e2=>?_) hq
   let⟨h,rfl⟩:=ke e1;let⟨w,i1,r1⟩:=isAt h rv;let⟨k,n,hk,e3,e4⟩:=sh _ (mem h);rw[e3] at i1;rw[<-ve e2] at r1;rw[e4,<-hk];exact Du J sub i1 r1
  .rw[<-↑rv] at dy vp
   rw[gk ⋯,gk ⋯] at hC;let⟨w,i1,r1⟩:=isAt (i:=i) ⋯ rv;let⟨w',i2,r2⟩:=isAt (i:=j) ⋯ rv;let⟨k,n,hk,e3,e4⟩:=sh _ (mem (i:=i) ⋯);let⟨k',n',jy,Tj,Tn⟩:=sh _ (mem (i:=j) ⋯);rw[e3] at i1;rw[Tj] at i2;rw[e4,Tn] at hC;let t1:=Du J sub i1 r1;let t2:=Du J sub i2 r2;rw[hk] at t1;rw[jy] at t2;calc S9 Ti t1 t2 hC
theorem To(hu:X.A.units+64<cLine):dJ X (.builtin "sorted") yK:=by
 ext pins s σ H xs us Q I r ⟨F,ds,K,sub,rd,q,md⟩;unfold yK at q;split at q
 .rename_i es
  let⟨qk,key,sh,hK⟩:=q;let⟨v,rfl,a,vs,rfl,h1,h2⟩:=dA rd;let⟨u,rfl,rx⟩:=vals1 r;cases rx
  exact JK hu I sub (.inl h1) h2 qk sh λout ws b s' o1 o2 o3 hb J=>⟨.ref b,_,J,Y,md _ _ _ (hK out o1 o2) (cI hb) (mi sub hb o3)⟩
 .rename_i es
  let⟨qk,key,sh,hK⟩:=q;let⟨v,rfl,h⟩:=dA rd;let h:Is F (.tup es) v:=h;erw[Is] at h;let⟨a,vs,rfl,h1,h2⟩:=h;let⟨u,rfl,rx⟩:=vals1 r;cases rx
  exact JK hu I sub (.inr (sub _ _ h1)) h2 qk sh λout ws b s' o1 o2 o3 hb J=>⟨.ref b,_,J,Y,md _ _ _ (hK out o1 o2) (cI hb) (mi sub hb o3)⟩
 .calc q.elim
end
end L2
namespace LJ
open PySem L2 PySem.W
theorem Tp{ls:-mG}{b:O}{ps:Array L}:(ls.map λl=>(l.T,(#[]:Array L))).lookup b=U ps->(∃l∈ls,l.T=b)/\ps = #[]:=by
 induction ls with
 |nil=>ext h;cases h
 |cons l ls ih =>
  ext h;rw[q0m,q0q] at h
  cases q:b==l.T with
  |true =>
   rw[q] at h;exact⟨⟨l,q0h,(q1w q).symm⟩,(q0v h).symm⟩
  |false =>
   rw[q] at h;let⟨⟨l',h1,h2⟩,h3⟩:=ih h;calc⟨⟨l',q0g _ h1,h2⟩,h3⟩
theorem Dv{ls:-mG}{l:mG}(h:l∈ls):(ls.map λl=>(l.T,(#[]:Array L))).lookup l.T=U #[]:=by
 induction ls with
 |nil=>cases h
 |cons l' ls ih =>
  rw[q0m,q0q]
  cases q:l.T==l'.T with
  |true=>rfl
  |false =>
   rcases PC.mp h with rfl|h
   .simp at q
   .calc ih h
theorem Tq{l:OpenLaw}{q:ψ}{loose:-J}{XP:(J->Option L)->I->Prop}{d:DefRec}{K:Params->Frag}{as:-O}{e:∀P,as=(K P).map (·.1)}{ts:-O}{kk:Nat}(ls:-mG)(C:CC)(Tr:ls.map (·.T)=ts)(hn:l.most=U 63)(u9:d.params.defaults=[])(hr:bD kk callerA)
  (ue:∀(w:S)(h:I),(K w.params).In h->Cs l.prog w C.cs h) (g6:∀(w:S)(h:I),(K w.params).In h->∀t∈ls,∃cc,CodeHd h cc t.T) (Tt:∀P,noTabs (K P)=θ)
  (F:∀(w:S)(mg:J->Option L)(fa:O)(h:I),(K w.params).In h->h.Ns mainGlobals mg->mg d.name=U (.ref fa) →
   ∃fd:FuncData,(∀(s:B)(u:L),BindsTo s fd ⟨[u],[]⟩ [("script",u)])/\∀base:I,(K w.params).In base->base.Ns mainGlobals mg->(∀t∈ls,base.BuiltinsAt mg t.T)->cj l.prog w (K w.params) mg base ft kk fa fd ["script"] (@yD (gg ls C) (K w.params))) :
  WalkO q loose XP (kmHook K as e ts).says l.row.toRowW d [] (λf vs=>q7l f vs) :=
 L2.SA (n:=63) (k:=kk) (x:="script") (K:=λw=>K w.params) (CX:=λ_=>ft) (sp:=λw=>@yD (gg ls C) (K w.params)) (cs:=λ_=>C.cs) (Ts:=λ_=>ls.map λl=>(l.T,#[])) hn (by decide) u9 hr (λw h Y=>km_in_of Y)
  (λw h Y b ps hl=>by
   let⟨⟨t,ht,rfl⟩,rfl⟩:=Tp hl;let e1:h.get? t.T=U (tabObj #[]):=km_tabs_of Y t.T (by rw[<-Tr];calc q2V ht);refine⟨e1,?_,?_⟩
   .let⟨cc,o,vs,_,_,_,_,_,_,_,c1,c2,c3,c4,_⟩:=g6 w h (km_in_of Y) t ht
    exact⟨cc,o,vs,c1,c2,c3,c4⟩
   .cases z:(K w.params).lookup t.T with
    |none=>rfl
    |some o =>
     let e2:=km_in_of Y t.T o z;rw[e1] at e2;cases e2;let h2:=q1N.mp (Tt w.params) (t.T,tabObj #[]) (mem_of_lookupK z)
     calc absurd (show ι=θ from h2) q0z)
  (λw h Y=>ue w h (km_in_of Y))
  (λw mg fa h KX G om=>by
   let⟨fd,hb,hF⟩:=F w mg fa h KX G om
   calc⟨fd,hb,λbase k1 k2 k3=>hF base k1 k2 λt ht=>k3 t.T #[] (Dv ht)⟩)
  (λw H a ns hl hO hQ hS=>by
   letI:aR:=gg ls C;calc⟨a,ns,rfl,hS,hl,⟨λt ht=>?_,hQ⟩,λ_=>rfl⟩;rcases hO t.T with⟨ps,z1,z2⟩|⟨z1,_⟩
   .rw[Dv ht] at z1;cases z1
    exact⟨#[],z2,trivial,.inl rfl⟩
   .rw[Dv ht] at z1;cases z1)
  λ_ _ _ _ _ z=>z
end LJ
namespace LJ
open PySem L2
variable[aR]
inductive Dw (ys:-DV) (aB:-OV) (K:RV->-OV->Prop):Prop
 |mk (m:Int) (ws:-(Int×Int×Int)) (_:aO m ws) (_:ys=[.p (bq m ws)]) (_:aB=[]) (_:K (.p .non) [])
def Dy:WS:=(bS (gD (dT (aE 1 CY (ak (aa 0) ag)))) tR dM)
theorem Tu:Sem 1 0 Dw Dy:=by
 ext ys aB K'-⟨m,ws,W,rfl,rfl,k⟩;unfold Dy;simp!;calc⟨m,ws,W,Y,Y,?_⟩;simp!;calc cq k
inductive Dz (ys:-DV) (aB:-OV) (K:RV->-OV->Prop):Prop
 |mk (y:Int×Int×Int) (_:ys=[.p (bQ y)]) (_:aB=[]) (_:K (.p (.tup [.int y.2.2,.int y.1,.int y.2.1])) [])
def DA:WS:=(aQ (bV (ak (d2 (aa 0) (dC (.int 2)) bz) (ak (d2 (aa 0) (dC (.int 0)) bz) (ak (d2 (aa 0) (dC (.int 1)) bz) ag)))))
theorem Tv:Sem 1 0 Dz DA:=by
 ext ys aB K'-⟨y,rfl,rfl,k⟩;unfold DA;simp![bQ,dB,eB,at2];calc cq k
noncomputable def eZ(ws:-(Int×Int×Int))(n:Int):LK:=[(ws.getD n.toNat (0,0,0)).2.2,(ws.getD n.toNat (0,0,0)).1,(ws.getD n.toNat (0,0,0)).2.1]
theorem Tw{m:Int}{ws:-(Int×Int×Int)}(W:aO m ws){a b:Int}(ha:0<=a/\a<(↑ws:Int))(hb:0<=b/\b<(↑ws:Int))(e:eZ ws a=eZ ws b):a=b:=by
 let⟨i,rfl⟩:∃i:Nat,a=i:=⟨a.toNat,⋯⟩;let⟨j,rfl⟩:∃j:Nat,b=j:=⟨b.toNat,⋯⟩;let hi:i<↑ws:=by symm
 let hj:j<↑ws:=by symm
 unfold eZ at e;rw[q0s,q0s,PD,xF hi,PD,xF hj] at e;erw[Option.getD_some,List.cons.injEq,and_true] at e
 let q:(ws.map λy=>(y.1,y.2.1))[i]'(by rw[Ba];calc hi)=(ws.map λy=>(y.1,y.2.1))[j]'(by rw[Ba];calc hj):=by
  rw[q3s,q3s,e.2.1,e.2.2]
 let:=(q4v W.unlike).mp q;rw[this]
inductive DB (ys:-DV) (aB:-OV) (K:RV->-OV->Prop):Prop
 |mk (m:Int) (ws:-(Int×Int×Int)) (n:Int) (_:aO m ws) (_:(0<=n/\n<(↑ws:Int))) (_:ys=[.p (bq m ws),.p (.int n)]) (_:aB=[]) (_:K (.p (.tup ((eZ ws n).map D.int))) [])
def DC:WS:=(aD (hZ (d2 (d2 (aa 0) (dC (.int 1)) bz) (aa 1) bz) (iX 3 (dX (bR 2) (dX (bR 3) (dX (bR 4) iJ))))) (aQ (bV (ak (aa 4) (ak (aa 2) (ak (aa 3) ag))))))
theorem Tx:Sem 2 3 DB DC:=by
 ext ys aB K'-⟨m,ws,n,W,⟨n0,n1⟩,rfl,rfl,k⟩;let⟨y,ey,hy,ea,_⟩:=qC W n0 n1;unfold DC;simp![eB,bq,ea,bQ];unfold eZ at k;rw[ey] at k;calc cq k
noncomputable def kZ(ws:-(Int×Int×Int))(n:Int):D:=.tup [.tup ((eZ ws n).map D.int),.int n]
theorem Tz{a b:LK}{n m:Int}(hl:↑a=↑b)(h:kle (a++[n]) (b++[m])):kle a b:=by
 unfold kle at h ⊢;rw[Dq _ _ hl.symm] at h
 by_cases e:b=a
 .rw[e];exact yr a
 .rw[q0c e] at h;calc h
end LJ
namespace L2
open PySem PySem.Spec PyProof.Rows
variable[aR]
noncomputable def du{α:Type}(kvs:-(Key×α))(k:Key):Option α:=(kvs.find? λkv=>G (kv.1=k)).map (·.2)
noncomputable def putD{α:Type}(kvs:-(Key×α))(k:Key)(d:α):-(Key×α) :=
 if(kvs.any λkv=>G (kv.1=k))=θ then kvs.map (λkv=>if kv.1=k then(kv.1,d) else kv) else kvs++[(k,d)]
section
omit [aR]
variable{α:Type}{R:α->V->Prop}
theorem di.val(k:Key):∀{gJ:-(Key×α)}{ws:-(Key×V)},di R gJ ws->(du gJ k=Z/\dS ws k=Z)\/∃d v,du gJ k=U d/\dS ws k=U v/\R d v
 |[],_,h=>by let h:_=[]:=h;subst h;exact .inl ⟨Y,Y⟩
 |kd::r,_,⟨v,t,e,h1,h2⟩=>by
  subst e
  by_cases c:kd.1=k
  .refine .inr ⟨kd.2,v,?_,xM c,h1⟩
   unfold du;rw[q4T c⁻¹];rfl
  .rw[xN c]
   let e:du (kd::r) k=du r k:=by unfold du;rw[q4U c⁻¹]
   rw[e];calc di.val k h2
theorem di.length{κ:Type}:∀{gJ:-(κ×α)}{ws:-(κ×V)},di R gJ ws->↑ws=↑gJ
 |[],_,h=>by let h:_=[]:=h;subst h;rfl
 |kd::r,_,⟨v,t,e,h1,h2⟩=>by subst e;rw[HB,HB,↑h2]
theorem di.any(k:Key):∀{gJ:-(Key×α)}{ws:-(Key×V)},di R gJ ws->(ws.any λkv=>G (kv.1=k))=gJ.any λkv=>G (kv.1=k)
 |[],_,h=>by let h:_=[]:=h;subst h;rfl
 |kd::r,_,⟨v,t,e,h1,h2⟩=>by subst e;rw[q2w,q2w,h2.any k]
theorem di.jM(k:Key){d:α}{v:V}(hd:R d v):∀{gJ:-(Key×α)}{ws:-(Key×V)},di R gJ ws->di R (gJ.map λkv=>if kv.1=k then(kv.1,d) else kv) (ws.map λkv=>if kv.1=k then(kv.1,v) else kv)
 |[],_,h=>by let h:_=[]:=h;subst h;rfl
 |kd::r,_,⟨u,t,e,h1,h2⟩=>by
  subst e
  by_cases c:kd.1=k
  .rw[q0m,q0m,q0e c,q0e c]
   exact⟨v,_,Y,hd,h2.jM k hd⟩
  .rw[q0m,q0m,q0c c,q0c c]
   calc⟨u,_,Y,h1,h2.jM k hd⟩
theorem di.snoc{k:Key}{d:α}{v:V}(hd:R d v):∀{gJ:-(Key×α)}{ws:-(Key×V)},di R gJ ws->di R (gJ++[(k,d)]) (ws++[(k,v)])
 |[],_,h=>by let h:_=[]:=h;subst h;exact⟨v,[],Y,hd,Y⟩
 |kd::r,_,⟨u,t,e,h1,h2⟩=>by subst e;calc⟨u,_,Y,h1,h2.snoc hd⟩
theorem di.put{gJ:-(Key×α)}{ws:-(Key×V)}{k:Key}{d:α}{v:V}(h:di R gJ ws)(hd:R d v):di R (putD gJ k d) (putK ws k v):=by
 unfold putD putK;rw[h.any k];split
 .exact h.jM k hd
 .calc h.snoc hd
end
def ar(x:DV)(δ:aM)(K:Nat->(-(Key×D)->OV)->-(Key×D)->Prop):Prop:=match x with
 |.o k=>match δ.mu[k]? with
  |some (some (.dct kvs))=>K k OV.dct kvs
  |some (some (.ac a kvs))=>K k (OV.ac a) kvs
  |_=>False
 |_=>False
theorem yM{F H:Hp}{ad:-O}{δ:aM}{σ:St}{x:DV}{v:V}{K:Nat->(-(Key×D)->OV)->-(Key×D)->Prop}(S:SR F ad δ σ H)(V1:dI F ad x v)(h:ar x δ K):∃k B kvs a ws,x=.o k/\K k B kvs/\v=.ref a/\ad[k]?=U a/\H a=U (.dK ws)/\xW F kvs ws/\δ.mu[k]?=U (U (B kvs))/\∀{F' es us},xW F' es us->eU F' a (B es) (.dK us):=by
 unfold ar at h;split at h
 .rename_i k
  split at h
  .rename_i kvs e
   let⟨a,e1,rfl⟩:=V1;let⟨a',o,e2,e3,ws,rfl,h4⟩:=S.mu k _ e;rw[e1] at e2;cases e2;exact⟨k,_,kvs,a,ws,Y,h,Y,e1,e3,h4,e,λi=>⟨_,Y,i⟩⟩
  .rename_i b kvs e
   let⟨a,e1,rfl⟩:=V1;let⟨a',o,e2,e3,z,ws,rfl,h4⟩:=S.mu k _ e;rw[e1] at e2;cases e2;exact⟨k,_,kvs,a,ws,Y,h,Y,e1,e3,h4,e,λi=>⟨z,_,Y,i⟩⟩
  .exact h.elim
 .calc h.elim
def au(x:DV)(P:Int->Prop):Prop:=match x with
 |.p (.int i)=>P i
 |_=>False
theorem DD{F:Hp}{ad:-O}{x:DV}{v:V}{P:Int->Prop}(hv:dI F ad x v)(h:au x P):∃i,v=kV (.inl i)/\P i:=by
 unfold au at h;split at h
 .rename_i i;exact⟨i,hv,h⟩
 .calc h.elim
def a_:WE:=fun δ K=>K (.o ↑δ.mu) ⟨δ.sl,δ.mu++[U (.dct [])]⟩
def ay(neg:Bool)(fi fo:WE):WE:=fun δ K=>fi δ λx δ1=>fo δ1 λy δ2=>au x λi=>ar y δ2 λ_ _ kvs=>K (.p (.bl (neg != (du kvs (.inl i)).isSome))) δ2
def ba(fv fo fi:WE):WS:=λK δ=>fv δ λz δ1=>fo δ1 λx δ2=>fi δ2 λy δ3=>lC z δ3 λd δ4=>au y λi=>ar x δ4 λk B kvs=>↑kvs<1000/\K.nx ⟨δ4.sl,δ4.mu.set k (U (B (putD kvs (.inl i) d)))⟩
section
variable{X:Cx}{o i e v:l}{fo fi fv fk fe:WE}{pos:y}
theorem TB:JE X (.Dict [] [] pos) (tD a_):=l6.weak fun σ H Q ⟨F,ad,δ,K,S,q,k⟩ p hp=>by
 let oi:∀{qo},eU F qo (.dct []) (.dK []):=λ{qo}=>⟨[],Y,Y⟩;calc k _ _ q _ _ _ _ (Ext.own S hp) (S.own hp oi) ⟨p,?_,Y⟩;rw[<-S.cF,Zf (Hz _),q0W];rfl
theorem TC{neg:Bool}(td:TE)(hn:∀σ H (Q:VK),(tD fi σ H λy H1=>tD fo σ H1 λx H2=>∃a o,x=.ref a/\gC H2 a y o/\Q (.bl (neg != o.isSome)) H2)->td σ H Q):∀σ H Q,tD (ay neg fi fo) σ H Q->td σ H Q:=fun σ H Q ⟨F,ad,δ,K,S,q,k⟩=>hn σ H Q ⟨F,ad,δ,_,S,q,λx δ1 h1 v F1 bt H1 E1 S1 V1=>⟨F1,bt,δ1,_,S1,h1,λy δ2 h2 u F2 cG H2 E2 S2 V2=>by
  let⟨i,rfl,h3⟩:=DD (V1.ext E2) h2;let⟨k0,B,kvs,a,ws,rfl,h4,rfl,e1,e2,i1,m1,qx⟩:=yM S2 V2 h3;refine⟨a,_,Y,gC.k e2,?_⟩
  let es:(dS ws (q38 i:Key)).isSome=(du kvs (.inl i)).isSome:=by
   rcases i1.val (.inl i) with⟨z1,z2⟩|⟨d,v,z1,z2,_⟩
   .rw[z1,z2];rfl
   .rw[z1,z2];rfl
  rw[es]
  calc k _ _ h4 _ _ _ _ (E1.trans E2) S2 Y⟩⟩
theorem TF{t:TE}{f:WE}(h:∀σ H Q,tD f σ H Q->t σ H Q):∀σ H Q,c_ (dT f) σ H Q->tB t σ H Q:=fun σ H Q ⟨F,ad,δ,K,S,q,k⟩↦h σ H _ ⟨F,ad,δ,_,S,q,λx δ1 h1 v F1 bt H1 E1 S1 V1=>by
  let⟨b,rfl,h2⟩:=vA V1 h1
  calc⟨b,Y,k _ _ h2 _ _ _ E1 S1⟩⟩
theorem TH(hu:X.A.units+64<cLine)(hi:JE X i (tD fi))(ho:JE X o (tD fo))(hm:behindInMarks .NotIn o=ι:=by rfl):JT X (.Compare i [.NotIn] [o] pos) (c_ (dT (ay θ fi fo))) :=
 (NL (Qr ⋯ hi ho) hm).weak (TF (TC (HR (tD fi) (tD fo)) fun σ H Q h=>by erw[Bool.true_bne] at h;calc h))
theorem TJ[kO]{pos':Ε}(hu:X.A.units+64<cLine)(ho:JE X o (tD fo))(hi:JE X i (tD fi))(hv:JE X v (tD fv))(hs:swapsWith v (U (.Subscript o i pos')) pos.line X.env=pure ι:=by rfl):JS X (.Assign [.Subscript o i pos'] v pos) (dW (ba fv fo fi)) :=
 (HS ⋯ ho hi hv hs).weak λD σ H ⟨F,ad,δ,K,S,q,k⟩=>⟨F,ad,δ,_,S,q,λz δ1 h1 w F1 bt H1 E1 S1 V1=>⟨F1,bt,δ1,_,S1,h1,λx δ2 h2 u F2 cG H2 E2 S2 V2=>⟨F2,cG,δ2,_,S2,h2,λy δ3 h3 t F3 rW H3 E3 S3 V3=>by
  let⟨d,δ4,F4,h4,E4,S4,i4⟩:=rS S3 ((V1.ext E2).ext E3) h3;let⟨i,rfl,h5⟩:=DD V3 h4;let⟨k0,B,kvs,a,ws,rfl,h6,rfl,e1,e2,i1,m1,qx⟩:=yM S4 ((V2.ext E3).ext E4) h5;let oi:=qx (F':=F4) (us:=putK ws (.inl i) w) (i1.put i4);refine⟨a,_,Y,kM.k e2 (qg (by rw[↑i1];calc q1d h6.1)),?_⟩
  calc k.nx _ h6.2 _ _ _ _ ((((E1.trans E2).trans E3).trans E4).trans (Ext.put S4 m1 e1)) (S4.put m1 e1 oi)⟩⟩⟩
end
end L2
namespace LJ
open PySem L2
variable[aR]
end LJ
namespace L2
open PySem PySem.Spec PyProof.Rows PySem.W
section
open PySem.SeqAt
open PySem.AutoSeq1 (wpAny_loadPart')
open PySem.MeetsSeq PySem.MeetsSeq2 PySem.MeetsSeq3
end
section
variable{prog:t}{w:S}{A:o}{E:bA}{s:B}{Q:Bool->B->Prop}
end
section
variable[aR]{X:Cx}
end
end L2
namespace LJ
open PySem L2
variable[aR]
end LJ
namespace L2
open PySem
variable[aR]
section
variable{F F' H H':Hp}{ad aN:-O}{δ δ':aM}{σ σ':St}
end
section
variable{X:Cx}{ZC lg j5 qa:R}{i n:Nat}{G:GD}{fa:WA}{t:WT}{B:TS}{E:XK}
end
end L2
namespace LJ
open PySem L2
variable[aR]
noncomputable def DE(p q:Int)(fs:-Int):-Int:=fs.map λx=>if x=p then q else x
theorem TK{p q x y:Int}:(if x=p then q else x)=(if y=p then q else y)↔x=y\/((x=p\/x=q)/\(y=p\/y=q)):=by
 by_cases h1:x=p<;>by_cases h2:y=p
 .rw[q0e h1,q0e h2];constructor<;>ext h<;>symm
 .rw[q0e h1,q0c h2];constructor<;>ext h<;>symm
 .rw[q0c h1,q0e h2];constructor<;>ext h<;>symm
 .rw[q0c h1,q0c h2];constructor<;>ext h<;>symm
theorem JL{f:Int->Int}{fs:-Int}{i:Nat}(h:i<fs.length):(fs.map f).getD i 0=f (fs.getD i 0):=by
 rw[PD,PB,xF h,PD,xF h];rfl
theorem uf{a b:Int}:dEq (.int a) (.int b)=G (a=b):=by
 cases q:dEq (.int a) (.int b)
 .exact (Zi λz=>by rw[z,gF] at q;cases q).symm
 .erw[dEq] at q
  calc(q0i (q1w q)).symm
end LJ
namespace LJ
open PySem L2
abbrev Wy:=Int×Int×Int
def yN(S:Wy->Prop)(a b:Int):Prop:=∃w,S w/\((w.1=a/\w.2.1=b)\/(w.1=b/\w.2.1=a))
inductive bE (S:Wy->Prop) (a:Int):Int->Prop
 |rf:bE S a a
 |st {b c:Int}:bE S a b->yN S b c->bE S a c
section
variable{S S':Wy->Prop}{a b c:Int}
theorem yN.symm(h:yN S a b):yN S b a:=let⟨w,h1,h2⟩:=h;⟨w,h1,h2.symm⟩
theorem bE.trans(h:bE S a b)(h':bE S b c):bE S a c:=by
 induction h' with
 |rf=>exact h
 |st _ e ih=>calc .st ih e
theorem bE.symm(h:bE S a b):bE S b a:=by
 induction h with
 |rf=>exact .rf
 |st _ e ih=>calc(bE.st .rf e.symm).trans ih
theorem bE.bind(h:bE S a b)(k:∀w,S w->bE S' w.1 w.2.1):bE S' a b:=by
 induction h with
 |rf=>exact .rf
 |st _ e ih =>
  let⟨w,h1,h2⟩:=e;rcases h2 with⟨rfl,rfl⟩|⟨rfl,rfl⟩
  .exact ih.trans (k w h1)
  .calc ih.trans (k w h1).symm
theorem bE.one{w:Wy}(h:S w):bE S w.1 w.2.1:=.st .rf ⟨w,h,.inl ⟨Y,Y⟩⟩
theorem bE.mono(h:bE S a b)(k:∀w,S w->S' w):bE S' a b:=h.bind λw hw=>.one (k w hw)
theorem bE.none(h:bE S a b)(k:∀w,¬ S w):a=b:=by
 cases h with
 |rf=>rfl
 |st _ e=>let⟨w,h1,_⟩:=e;calc absurd h1 (k w)
theorem bE.add{w:Wy}(k:∀v,S' v↔S v\/v=w):bE S' a b↔bE S a b\/(bE S a w.1/\bE S w.2.1 b)\/(bE S a w.2.1/\bE S w.1 b):=by
 constructor
 .ext h
  induction h with
  |rf=>exact .inl .rf
  |st _ e ih =>
   rename_i b c _;let⟨v,h1,h2⟩:=e;rcases(k v).mp h1 with h1|rfl
   .let e':bE S b c:=.st .rf ⟨v,h1,h2⟩
    rcases ih with i|⟨i,j⟩|⟨i,j⟩
    .exact .inl (i.trans e')
    .exact .inr (.inl ⟨i,j.trans e'⟩)
    .exact .inr (.inr ⟨i,j.trans e'⟩)
   .rcases h2 with⟨rfl,rfl⟩|⟨rfl,rfl⟩
    .rcases ih with i|⟨i,j⟩|⟨i,j⟩
     .exact .inr (.inl ⟨i,.rf⟩)
     .exact .inr (.inl ⟨i,.rf⟩)
     .exact .inl i
    .rcases ih with i|⟨i,j⟩|⟨i,j⟩
     .exact .inr (.inr ⟨i,.rf⟩)
     .exact .inl i
     .exact .inr (.inr ⟨i,.rf⟩)
 .let up:∀{x y},bE S x y->bE S' x y:=λh=>h.mono λv hv=>(k v).mpr (.inl hv)
  let o:bE S' w.1 w.2.1:=.one ((k w).mpr (.inr Y));ext(h|⟨h,h'⟩|⟨h,h'⟩)
  .exact up h
  .exact ((up h).trans o).trans (up h')
  .calc ((up h).trans o.symm).trans (up h')
end
variable[aR]
def cw(n:Nat)(fs:-Int)(S:Wy->Prop):Prop:=fs.length=n/\∀i j:Nat,i<n->j<n->(fs.getD i 0=fs.getD j 0↔bE S i j)
theorem JM{n i:Nat}(h:i<n):(b_ n).getD i 0=i:=by
 unfold b_;rw[PD,PB,q1_ h];rfl
theorem cw.start(n:Nat):cw n (b_ n) (λ_=>False):=by
 calc⟨by unfold b_;simp,λi j hi hj=>?_⟩;rw[JM hi,JM hj];calc⟨λe=>by rw[e];calc .rf,λh=>h.none λ_ z=>z⟩
theorem cw.join{n i j:Nat}{fs:-Int}{S S':Wy->Prop}{w:Wy}{p q:Int}(h:cw n fs S)(hi:i<n)(hj:j<n)(e1:w.1=i)(e2:w.2.1=j)(k:∀v,S' v↔S v\/v=w)(pq:(p=fs.getD i 0/\q=fs.getD j 0)\/(p=fs.getD j 0/\q=fs.getD i 0)):cw n (DE p q fs) S':=by
 calc⟨by unfold DE;rw[Ba,h.1],λx y hx hy=>?_⟩;unfold DE;rw[JL (by rw[h.1];calc hx),JL (by rw[h.1];calc hy),TK,bE.add k,e1,e2,<-h.2 x y hx hy,<-h.2 x i hx hi,<-h.2 x j hx hj,<-h.2 j y hj hy,<-h.2 i y hi hy];rcases pq with⟨rfl,rfl⟩|⟨rfl,rfl⟩
 .constructor
  .ext (h|⟨h1|h1,h2|h2⟩)
   .exact .inl h
   .exact .inl (h1.trans h2.symm)
   .exact .inr (.inl ⟨h1,h2.symm⟩)
   .exact .inr (.inr ⟨h1,h2.symm⟩)
   .exact .inl (h1.trans h2.symm)
  .ext (h|⟨h1,h2⟩|⟨h1,h2⟩)
   .exact .inl h
   .exact .inr ⟨.inl h1,.inr h2.symm⟩
   .exact .inr ⟨.inr h1,.inl h2.symm⟩
 .constructor
  .ext (h|⟨h1|h1,h2|h2⟩)
   .exact .inl h
   .exact .inl (h1.trans h2.symm)
   .exact .inr (.inr ⟨h1,h2.symm⟩)
   .exact .inr (.inl ⟨h1,h2.symm⟩)
   .exact .inl (h1.trans h2.symm)
  .ext (h|⟨h1,h2⟩|⟨h1,h2⟩)
   .exact .inl h
   .exact .inr ⟨.inr h1,.inl h2.symm⟩
   .calc .inr ⟨.inl h1,.inr h2.symm⟩
noncomputable def aG(ws:-Wy)(n:Int):Wy:=ws.getD n.toNat (0,0,0)
theorem sC(n:Nat):↑(b_ n)=n:=by unfold b_;simp
theorem JN{m:Int}{ws:-Wy}(W:aO m ws){n:Int}(h0:0<=n)(h1:n<(↑ws:Int)):∃i k:Nat,eW ws n=(i,k)/\(aG ws n).1=i/\(aG ws n).2.1=k/\i<m.toNat/\k<m.toNat:=by
 let⟨y,ey,hy,_,i,k,e1,e2,h1,h2,_⟩:=qC W h0 h1;calc⟨i,k,?_,by unfold aG;rw[ey];calc e1,by unfold aG;rw[ey];calc e2,h1,h2⟩;unfold eW;rw[ey,e1,e2,q0s,q0s]
theorem JO{m:Int}{ws:-Wy}(W:aO m ws):∀(ns fs:-Int)(S:Wy->Prop),Nums ws ns->cw m.toNat fs S->cw m.toNat (ie ws fs ns) (λv=>S v\/∃k∈ns,v=aG ws k)
 |[],fs,S,_,h=>by
  let:(λv=>S v\/∃k∈([]:-Int),v=aG ws k)=S:=funext λv=>propext (by simp);rw[this];exact h
 |n::ns,fs,S,hn,h=>by
  let b:=hn n (q0h ..);let⟨i,k,e,e1,e2,h1,h2⟩:=JN W b.1 b.2
  let step:cw m.toNat (jT fs i k) (λv=>S v\/v=aG ws n):=by
   calc cw.join (w:=aG ws n) (p:=max (fs.getD i 0) (fs.getD k 0)) (q:=min (fs.getD i 0) (fs.getD k 0)) h h1 h2 e1 e2 (λv=>Iff.rfl) ?_;symm
  let:=JO W ns _ _ (λx hx=>hn x (q0g _ hx)) step
  let eq:(λv=>(S v\/v=aG ws n)\/∃k∈ns,v=aG ws k)=(λv=>S v\/∃k∈n::ns,v=aG ws k):=funext λv=>propext (by
   constructor
   .ext ((h|h)|⟨k,hk,h⟩)
    .exact .inl h
    .exact .inr ⟨n,q0h,h⟩
    .exact .inr ⟨k,q0g _ hk,h⟩
   .ext (h|⟨k,hk,h⟩)
    .exact .inl (.inl h)
    .rcases PC.mp hk with rfl|hk
     .exact .inl (.inr h)
     .calc .inr ⟨k,hk,h⟩)
  rw[eq] at this;show cw _ (ie ws (jT fs (eW ws n).1 (eW ws n).2) ns) _;rw[e];calc this
def gU(ws:-Wy)(ns:-Int):Wy->Prop:=λv=>∃k∈ns,v=aG ws k
theorem JP{m:Int}{ws:-Wy}(W:aO m ws){ns:-Int}(hn:Nums ws ns):cw m.toNat (qB m ws ns) (gU ws ns):=by
 let:=JO W ns _ _ hn (cw.start m.toNat);let eq:(λv=>False\/∃k∈ns,v=aG ws k)=gU ws ns:=funext λv=>propext (by unfold gU;simp);rw[eq] at this;calc this
theorem ug:∀{a b:-Int},a.Pairwise (· < ·)->b.Pairwise (· < ·)->(∀x,x∈a↔x∈b)->a=b
 |[],[],_,_,_=>Y
 |[],y::_,_,_,h=>absurd ((h y).mpr (q0h ..)) (by simp)
 |x::_,[],_,_,h=>absurd ((h x).mp (q0h ..)) (by simp)
 |x::a,y::b,ha,hb,h=>by
  let⟨h1,h2⟩:=q1q.mp ha;let⟨h3,h4⟩:=q1q.mp hb
  let TL:x=y:=by
   rcases PC.mp ((h x).mp (q0h ..)) with e|e
   .exact e
   .rcases PC.mp ((h y).mpr (q0h ..)) with e'|e'
    .exact e'.symm
    .let:=h3 x e
     let:=h1 y e';symm
  subst TL;rw[ug h2 h4 λz=>?_]
  constructor
  .ext hz
   rcases PC.mp ((h z).mp (q0g _ hz)) with e|e
   .let:=h1 z hz;symm
   .exact e
  .ext hz
   rcases PC.mp ((h z).mpr (q0g _ hz)) with e|e
   .let:=h3 z hz;symm
   .exact e
open Classical in
noncomputable def cls (n:Nat) (S:Wy->Prop) (h:Int):List Int:=(b_ n).filter λx=>decide (bE S h x)
theorem sD{n:Nat}{x:Int}:x∈b_ n↔0<=x/\x<n:=by
 unfold b_
 constructor
 .ext h
  let⟨k,hk,rfl⟩:=q0l.mp h;let:=q0Y.mp hk;symm
 .ext h
  calc q0l.mpr ⟨x.toNat,q0Y.mpr ⋯,⋯⟩
theorem DF(n:Nat):(b_ n).Pairwise (· < ·):=by
 unfold b_;exact q2L.mpr ((q4I (n:=n)).imp λh=>by symm)
open Classical in
theorem TM {n:Nat} {S:Wy->Prop} {h x:Int}:x∈cls n S h↔(0<=x/\x<n)/\bE S h x:=by
 unfold cls;rw[q0M,sD,q0t]
open Classical in
theorem TN (n:Nat) (S:Wy->Prop) (h:Int):(cls n S h).Pairwise (· < ·):=(DF n).filter _
theorem ja:∀us:-Int,bT (us.map D.int)=0
 |[]=>by simp[bT]
 |u::r=>by rw[q0m];erw[bT,dep];rw[ja r];rfl
theorem jc(l:-Int)(x:Int):((l.map D.int).any λe=>dEq e (.int x))=G (x∈l):=by
 rw[q8v]
 cases q:G (x∈l) with
 |true=>exact q6D.mpr ⟨x,q0O q,gF _⟩
 |false =>
  calc q17.mpr λy hy=>?_;show ¬ dEq (.int y) (.int x)=θ;rw[uf];ext z;let:=q0O z;subst this;calc q3L q hy
end LJ
namespace HT
open PySem PySem.Spec PyProof.Rows
theorem TQ(A:o)(s:B)(a:Int)(t:Tok)(c:Int)(u:Tok)(prog:ψ)(w:S)(E:bA)(Q:bA)(h:Q (.bool (G (c<a))) s):
  M (g prog w) A (richCompare .Gt (.int a t) (.int c u)) Q E s :=
 (PyProof.Rows.gt_int h:M (g prog w) A (compareOp .Gt (.int a t) (.int c u)) Q E s)
section
open PySem.SeqAt
open PySem.AutoSeq1 (wpAny_loadPart')
open PySem.MeetsSeq PySem.MeetsSeq2 PySem.MeetsSeq3
theorem TR(l b:O)(items bG:Array L)(n n2:Nat)(dd lr:Option O)(sl lz:Array (Option L))(ns ms:-Int)(hi:IntsAre items.toList ns)(hj:IntsAre bG.toList ms):
  Meets (Builtin.«tuple.__gt__» ⟨[.ref l,.ref b],[]⟩)
   (λ_ R s=>s.heap.get? l=U {cls:=.type "tuple",dict:=dd,data:=.seq items n,slots:=sl}/\s.heap.get? b=U {cls:=.type "tuple",dict:=lr,data:=.seq bG n2,slots:=lz} ∧
    R (.ok (.ret (.bool (lexLt ms ns)))) s) :=
 .of_wp λprog w A R s h=>by
  let⟨hp,g,d,tk,os⟩:=s;let⟨hl,hb,h⟩:=h;let f2:=q4i;let z1:items.size=↑ns:=by rw[<-↑hi];simp
  let z2:bG.size=↑ms:=by rw[<-↑hj];simp
  wp_walk using q1h hl,q1h hb,q4r _ (λrest b s'=>b.1=Z/\s'=⟨hp,g,d,tk,os⟩/\∃(vs ws:-L)(dz kI:-Int),rest=vs.zip ws ∧
   IntsAre vs dz/\IntsAre ws kI/\↑dz+bG.size=↑kI+items.size/\R (.ok (.ret (.bool (lexLt kI dz)))) ⟨hp,g,d,tk,os⟩) _
  case turn =>
   ext⟨y,x⟩ rest b s' ⟨hb',rfl,vs,ws,dz,kI,hz,rq,og,hlen,hR⟩
   cases rq with
   |nil=>rw[q2M] at hz;cases hz
   |cons a t rz =>
    cases og with
    |nil=>rw[q3S] at hz;cases hz
    |cons c u rA =>
     rw[q15] at hz;injection hz with AM lZ;injection AM with hy hx;subst hy hx;rw[oa] at hR;erw[HB] at hlen;let⟨e,he,l3⟩:=Ha A.in1 ⟨hp,g,d,tk,os⟩ a t c u;refine rH (he prog w _ _ ?_)
     cases e with
     |true =>
      rw[q0e (l3.mp Y).symm] at hR
      wp_walk
      exact⟨Y,Y,_,_,_,_,lZ,rz,rA,⋯,hR⟩
     |false =>
      rw[q0c (λq=>absurd (l3.mpr q.symm) q0z)] at hR;let AN:=TQ A.in1 ⟨hp,g,d,tk,os⟩ a t c u prog w
      wp_walk using AN
      exact⟨_,Y,by simpa using hR⟩
  case fin =>
   ext⟨b1,b2⟩ s' ⟨hb',rfl,vs,ws,dz,kI,hz,rq,og,hlen,hR⟩;simp only at hb';subst hb'
   let hv:lexLt kI dz=G (bG.size<items.size):=by
    cases rq with
    |nil =>
     cases og with
     |nil =>
      erw[q1i] at hlen;rw[G8];exact(Zi ⋯).symm
     |cons c u hw =>
      erw[q1i,HB] at hlen;rw[G_];exact(Zi ⋯).symm
    |cons a t hv =>
     cases og with
     |nil =>
      erw[q1i,HB] at hlen;rw[G9];exact(q0i ⋯).symm
     |cons c u hw =>
      rw[q15] at hz;cases hz
   rw[hv] at hR
   wp_walk
   exact⟨_,Y,by simpa[q3j] using hR⟩
  case h =>
   calc⟨Y,Y,items.toList,bG.toList,ns,ms,Y,hi,hj,⋯,h⟩
end
section
variable{prog:t}{w:S}{A:o}{E:bA}{s:B}
theorem TU{l b:O}{items bG:Array L}{ns ms:-Int}{Q:bA}(hl:IsTup s.heap l items)(hb:IsTup s.heap b bG)(hi:IntsAre items.toList ns)(hj:IntsAre bG.toList ms)
  (hu:A.units<cLine) (h:Q (.bool (lexLt ms ns)) s):M (g prog w) A (compareOp .Gt (.ref l) (.ref b)) Q E s:=by
 let⟨⟨cls,dd,data,sl⟩,ho,hc,n,hd⟩:=id hl;let⟨⟨rB,lr,data2,lz⟩,fR,jH,n2,hd2⟩:=id hb;simp only at hc hd jH hd2;subst hc hd jH hd2
 exact q4O (op:=.Gt) ⟨_,ho,Y⟩ ⟨_,fR,Y⟩ PySem.F.slot_tuple_gt PySem.F.entry_tuple_gt (PySem.F.args_tuple_gt_2 _ _) (TR l b items bG n n2 dd lr sl lz ns ms hi hj)
  ⟨ho,fR,show q2I (lexLt ms ns)≠q5p/\Q (.bool (lexLt ms ns)) s from⟨(λx=>nomatch x),h⟩⟩ hu
end
end HT
namespace L2
open PySem PySem.Spec PyProof.Rows PySem.W
noncomputable def ky:Bool->String
 |false=>"min"
 |true=>"max"
noncomputable def uh:Bool->String
 |false=>"min.loop"
 |true=>"max.loop"
noncomputable def JQ:Bool->CmpOp
 |false=>.Lt
 |true=>.Gt
noncomputable def TV:String->CmpOp->Builtin:=(λ(f:String->CmpOp->Builtin) (_:f "min" .Lt=Builtin.«min.loop»)=>f) _ Y
noncomputable def TX:String->Builtin:=(λ(f:String->Builtin) (_:f "min" = Builtin.«min»)=>f) _ Y
theorem JR(mx:Bool):entryFor table (uh mx)=U (TV (ky mx) (JQ mx)):=by cases mx;calc PySem.F.entry_min_loop;calc PySem.F.entry_max_loop
theorem TY(mx:Bool):entryFor table (ky mx)=U (TX (ky mx)):=by cases mx;calc PySem.F.entry_min;calc PySem.F.entry_max
theorem TZ(mx:Bool):builtinKind (ky mx)=Z:=by cases mx;calc PySem.F.kind_min;calc PySem.F.kind_max
theorem T1(mx:Bool):plainId (ky mx)=θ:=by cases mx;calc PySem.F.plain_min;calc PySem.F.plain_max
theorem ui(mx:Bool):plainId (uh mx)=θ:=by cases mx;calc PySem.F.plain_min_loop;calc PySem.F.plain_max_loop
def pE:Bool->LK->LK->Prop
 |false,a,b=>kle a b
 |true,a,b=>kle b a
noncomputable def DG:Bool->LK->LK->Bool
 |false,a,b=>HT.lexLt a b
 |true,a,b=>HT.lexLt b a
theorem JU(mx:Bool)(a:LK):pE mx a a:=by cases mx<;>calc kle_refl _
theorem T2{mx:Bool}{a b c:LK}(h:DG mx a b=θ)(k:pE mx b c):pE mx a c:=by
 cases mx
 .exact kle_trans (si h) k
 .calc kle_trans k (si h)
theorem T3{mx:Bool}{a b:LK}(h:¬ DG mx a b=θ):pE mx b a:=by cases mx<;>calc Bool.eq_false_iff.mpr h
theorem T4{prog:t}{w:S}{A:o}{E:bA}{s:B}{mx:Bool}{l b:O}{items bG:Array L}{ns ms:-Int}{Q:bA}(hl:IsTup s.heap l items)(hb:IsTup s.heap b bG)(hi:IntsAre items.toList ns)(hj:IntsAre bG.toList ms)
  (hu:A.units<cLine) (h:Q (.bool (DG mx ns ms)) s):M (g prog w) A (richCompare (JQ mx) (.ref l) (.ref b)) Q E s:=by
 cases mx
 .exact HT.AO hl hb hi hj hu h
 .calc HT.TU hl hb hi hj hu h
theorem T5(mx:Bool)(a v d:L):argsOk (ky mx) ⟨[a],[(q0V "key",v),(q0V "default",d)]⟩:=by cases mx<;>(unfold argsOk;kernel_rfl)
section
variable{X:Cx}{pins:aL}{σ:St}{H:Hp}{s:B}{E:bA}{l q I S:O}{P:-V->Hp->Prop}{xs:-V}{d:L}{R:Result->B->Prop}
def T6(mx:Bool)(kf:Nat->LK)(xs kvs:-V)(nL:Array L):Prop :=
 (kvs=[]/\nL = #[])\/∃(b:Nat)(x:V)(vb:L)(t:O),b<↑kvs/\xs[b]?=U x/\RelV x vb/\kvs[b]?=U (.ref t)/\nL = #[vb,.ref t]/\∀j,j<↑kvs->pE mx (kf b) (kf j)
theorem T7(mx:Bool)(kf:Nat->LK)(hh:X.A.handled=Z)(hu:X.A.units+1<cLine)(wz:l≠I)(wA:S≠I)(fI:∀H',H' I=Z->b7 X pins H' I)(fS:∀H',H' S=Z->b7 X pins H' S)
  (hl:∀kvs H',P kvs H'->H' l=U (.lst xs)) (hP:∀kvs H',P kvs H'->∀i,i<↑kvs->∃t,kvs[i]?=U (.ref t)/\H' t=U (.tup ((kf i).map V.int)))
  (sE:∀(dF:aL)(x:V)(u:L)(kvs:-V)(H':Hp)(s':B),xs[↑kvs]?=U x->RelV x u->Inv X dF σ H' s'->P kvs H'->M (g X.prog X.w) X.A.in1 (call (.ref q) [u]) (EP X dF σ λk lA=>P (kvs++[k]) lA) (λ_ _=>False) s')
  (fin:∀kvs H' s',↑kvs=↑xs->P kvs H'->Inv X pins σ H' s'->(xs=[]->R (.ok (.ret d)) s')/\∀(b:Nat)(x:V)(u:L),xs[b]?=U x->RelV x u->(∀j,j<↑xs->pE mx (kf b) (kf j))->R (.ok (.ret u)) s') :
  ∀(r:Nat)(kvs:-V)(H':Hp)(s':B)(nL:Array L)(c:Nat)(oI:Q),↑kvs+r=↑xs->Inv X ((S,seqObj "list" nL c)::(I,oI)::pins) σ H' s'->P kvs H'->oI.cls=.type "list_iterator" -> oI.data=.fields #[.ref l,.int ↑kvs 0]->T6 mx kf xs kvs nL →
   codeAny (g X.prog X.w) X.A (.builtin (uh mx) ⟨[.ref I,.ref q,.ref S],[(q0V "default",d)]⟩) R s':=by
 let jd:(toString (ky mx)++toString ".loop" : String)=uh mx:=by cases mx<;>decide
 ext r
 induction r with
 |zero =>
  ext kvs H' s' nL c oI hr J pk sY DH hb;let pS:=J.pin (S,seqObj "list" nL c) (q0k _ (.head _));let pI:=J.pin (I,oI) (q0k _ (.tail _ (.head _)));let Jn:=J.fx.fx;let⟨az,rv,pl,_⟩:=Jn.list (bU.of (hl kvs H' pk));let lv:↑az=↑xs:=rv.length.symm;let T8:↑kvs=↑az:=by symm
  calc q1t (JR mx) ?_;rw[q1R (ui mx) _];show M _ X.A.in1 (seqItems? (.ref S) >>= _) _ _ _;calc rH (q1D pS.1 Y ?_);show M _ X.A.in1 (tryCatch (pyNext (.ref I)) _ >>= _) _ _ _;let W:=q3q (prog:=X.prog) (w:=X.w) (A:=X.A.in1) hh I l wz az.toArray;calc rH (q31 (W.done _ _ _ ⟨⟨oI,pI.1,sY,by rw[DH,PA,<-T8]⟩,q5I pl⟩ λh' lb jy=>?_));let J1:Inv X pins σ H' {s' with heap:=h',toks:=lb}:=Jn.gT (fI H' pI.2.1) λc o n e=>jy c o n⁻¹ e;let sV:=jy S _ wA⁻¹ pS.1;rcases hb with⟨wB,rfl⟩|⟨b,x,vb,t,hb,hx,rx,ht,rfl,best⟩
  .refine rH (q3p (HA ?_))
   refine(fin kvs H' _ ⋯ pk J1).1 ?_
   cases xs with
   |nil=>rfl
   |cons _ _=>rw[wB] at hr;simp at hr
  .let s1:=q0L h' S (q04 λ_=>(#[]:Array L))
   show M _ X.A.in1 (updateSeq S (λ_ => #[]) >>= _) _ _ _;calc rH (q21 sV Y (rH (q27 (HA ?_))));exact(fin kvs H' _ ⋯ pk (J1.gT (fS H' pS.2.1) λc o n e=>(s1.2 c n).trans e)).2 b x vb hx rx λj hj=>best j ⋯
 |succ r ih =>
  ext kvs H' s' nL c oI hr J pk sY DH hb;let pS:=J.pin (S,seqObj "list" nL c) (q0k _ (.head _));let pI:=J.pin (I,oI) (q0k _ (.tail _ (.head _)));let Jn:=J.fx.fx;let⟨az,rv,pl,_⟩:=Jn.list (bU.of (hl kvs H' pk));let lv:↑az=↑xs:=rv.length.symm;let d_:↑kvs<↑az:=by symm
  calc q1t (JR mx) ?_;rw[q1R (ui mx) _];show M _ X.A.in1 (seqItems? (.ref S) >>= _) _ _ _;calc rH (q1D pS.1 Y ?_);show M _ X.A.in1 (tryCatch (pyNext (.ref I)) _ >>= _) _ _ _;let W:=q3q (prog:=X.prog) (w:=X.w) (A:=X.A.in1) hh I l wz az.toArray;calc rH (q31 (W.item ↑kvs _ _ _ (by rw[PA];calc d_) ⟨⟨oI,pI.1,sY,DH⟩,q5I pl⟩ λv h' lb hv DI jy=>?_));let hv:az[↑kvs]?=U v:=by simpa using hv
  let⟨sF,DJ,wC,wD⟩:=id DI.1;let hi:↑kvs<↑xs:=by symm
  let⟨u,e1,rx⟩:=rv.get (xF hi);rw[hv] at e1;cases e1
  let hx:=xF hi;generalize xs[↑kvs]=x at hx rx;let sV:=jy S _ wA⁻¹ pS.1;let nI:∀z,sF.data≠.cell z:=λz e=>by rw[wD] at e;cases e
  let J1:Inv X pins σ H' {s' with heap:=h',toks:=lb}:=Jn.gT (fI H' pI.2.1) λc o n e=>jy c o n⁻¹ e;let J2:=(J1.kY (fI H' pI.2.1) DJ nI).kY ((fS H' pS.2.1).cons (p:=(I,sF)) wA.symm) sV Di;show M _ X.A.in1 (tryCatch (holding [v] (call (.ref q) [v])) _ >>= _) _ _ _;calc rH (q31 (q0H (q1M (sE _ x v kvs H' _ hx rx J2 pk) (λkv s2 he=>?_) λ_ _ hF=>hF.elim)));let⟨kx,H2,J3,rk,yO⟩:=he;let⟨t2,et,lQ⟩:=hP _ H2 yO ↑kvs (by rw[Pz];calc q0N _)
  let ek:kx=.ref t2:=by
   rw[Zf (Hz _),q0W] at et;simpa using et
  subst ek;cases rk
  let qS:=J3.pin (S,seqObj "list" nL c) (q0k _ (.head _));let qI:=J3.pin (I,sF) (q0k _ (.tail _ (.head _)));let Jm:=J3.fx.fx;let JV:↑(kvs++[V.ref t2])+r=↑xs:=by rw[Pz,q0Q];symm
  let wF:sF.data=.fields #[.ref l,.int (↑(kvs++[V.ref t2]):Nat) 0]:=by rw[wD,Pz];rfl
  let put:∀(b:Nat),b<↑kvs+1->b=↑kvs->(∀j,j<↑kvs+1->pE mx (kf b) (kf j))->codeAny (g X.prog X.w) X.A (.builtin (uh mx) ⟨[.ref I,.ref q,.ref S],[(q0V "default",d)]⟩) R {s2 with heap:=s2.heap.update S (q04 λ_ => #[v,.ref t2])}:=λb hb eb best=>by
   subst eb;let s1:=q0L s2.heap S (q04 λ_ => #[v,q0F t2]);let⟨c2,jH⟩:∃c2,(s2.heap.update S (q04 λ_ => #[v,q0F t2])).get? S=U (seqObj "list" #[v,.ref t2] c2):=⟨_,q43 qS.1 λ_ => #[v,q0F t2]⟩;let J4:Inv X pins σ H2 {s2 with heap:=s2.heap.update S (q04 λ_ => #[v,q0F t2])}:=Jm.gT (t':=s2.toks) (fS H2 qS.2.1) λc o n e=>(s1.2 c n).trans e;let J5:=(J4.kY (fI H2 qI.2.1) ((s1.2 I wA.symm).trans qI.1) nI).kY ((fS H2 qS.2.1).cons (p:=(I,sF)) wA.symm) jH Di;refine ih _ H2 _ _ c2 sF JV J5 yO wC wF (.inr ⟨↑kvs,x,v,t2,by rw[Pz];calc q0N _,hx,rx,et,Y,λj hj=>best j (by rw[Pz] at hj;calc hj)⟩)
  rcases hb with⟨wB,rfl⟩|⟨b,y,vb,t,hb,hy,ry,ht,rfl,best⟩
  .show M _ X.A.in1 (updateSeq S (λ_ => #[v,.ref t2]) >>= _) _ _ _
   calc rH (q21 qS.1 Y ?_);rw[jd];calc HA ⟨q2d (ui mx) _,put ↑kvs (q0N _) Y λj hj=>?_⟩;rw[wB] at hj ⊢;let:j=0:=by simp at hj;symm
   subst this;exact JU _ _
  .let⟨t',JX,T9⟩:=hP _ H2 yO b (by rw[Pz];symm)
   rw[Zd hb,ht] at JX;cases JX
   let⟨i1,r1,T_,_⟩:=Jm.tuple (b8.of lQ);let⟨i2,r2,Ua,_⟩:=Jm.tuple (b8.of T9);show M _ X.A.in1 (tryCatch (holding [v,.ref t2] (richCompare _ (.ref t2) (.ref t) >>= _)) _ >>= _) _ _ _;calc rH (q31 (q0H (rH ?_)));calc T4 (A:=X.A.in1) (mx:=mx) (ns:=kf ↑kvs) (ms:=kf b) T_ Ua (intsAre_of r1)⁻¹ (intsAre_of r2)⁻¹ hu ?_;calc rH (q0H (q1Y ?_));calc rH (q27 (HA ?_));split
   .rename_i hq
    calc rH (q21 qS.1 Y (rH (q27 ?_)));rw[jd];refine HA ⟨q2d (ui mx) _,put ↑kvs (q0N _) Y λj hj=>?_⟩
    by_cases e:j=↑kvs
    .subst e;exact JU _ _
    .exact T2 hq (best j ⋯)
   .rename_i hq
    calc rH (q27 ?_);rw[jd];refine HA ⟨q2d (ui mx) _,ih _ H2 _ _ c sF JV J3 yO wC wF (.inr ⟨b,y,vb,t,by rw[Pz];symm,hy,ry,by rw[Zd hb];calc ht,Y,λj hj=>?_⟩)⟩
    by_cases e:j=↑kvs
    .subst e;exact T3 hq
    .calc best j (by rw[Pz,q0Q] at hj;symm)
theorem Ub(mx:Bool){Q:bA}(kf:Nat->LK)(J:Inv X pins σ H s)(hh:X.A.handled=Z)(hu:X.A.units+1<cLine)(p0:P [] H)
  (hl:∀kvs H',P kvs H'->H' l=U (.lst xs)) (hP:∀kvs H',P kvs H'->∀i,i<↑kvs->∃t,kvs[i]?=U (.ref t)/\H' t=U (.tup ((kf i).map V.int)))
  (sE:∀(dF:aL)(x:V)(u:L)(kvs:-V)(H':Hp)(s':B),xs[↑kvs]?=U x->RelV x u->Inv X dF σ H' s'->P kvs H'->M (g X.prog X.w) X.A.in1 (call (.ref q) [u]) (EP X dF σ λk lA=>P (kvs++[k]) lA) (λ_ _=>False) s')
  (fin:∀kvs H' s',↑kvs=↑xs->P kvs H'->Inv X pins σ H' s'->(xs=[]->Q d s')/\∀(b:Nat)(x:V)(u:L),xs[b]?=U x->RelV x u->(∀j,j<↑xs->pE mx (kf b) (kf j))->Q u s') :
  M (g X.prog X.w) X.A (call (.builtin (ky mx)) [.ref l] [(q0V "key",.ref q),(q0V "default",d)]) Q E s:=by
 let jd:(toString (ky mx)++toString ".loop" : String)=uh mx:=by cases mx<;>decide
 let⟨az,rv,pl,_⟩:=J.list (bU.of (hl _ _ p0));let yd:=PlainL.lt pl;calc kmk_tree (TZ mx) (T1 mx) (TY mx) (T5 _ _ _ _) ?_;calc rH (q5l (show Builtin.Builtins.bindParams (ky mx) ["key", "default"] 0 ⟨[],[(q0V "key",.ref q),(q0V "default",d)]⟩=pure [U (.ref q),U d] from Y) ?_);calc rH (HA ?_);calc rH (q1X (q5I pl) ?_);calc rH (q4j ?_ (q0Z _));rw[jd];calc HA ⟨q2d (ui mx) _,?_⟩;let J1:Inv X pins σ H {s with heap:=s.heap.push {cls:=.type "list_iterator",data:=.fields #[.ref l,.int 0 0]}}:=J.kept (h':=s.heap.push {cls:=.type "list_iterator",data:=.fields #[.ref l,.int 0 0]}) (t':=s.toks) λb u e=>u7 _ e
 let gI:(s.heap.push {cls:=.type "list_iterator",data:=.fields #[.ref l,.int 0 0]}).get? ⇑s=U {cls:=.type "list_iterator",data:=.fields #[.ref l,.int 0 0]}:=Zg _ Y;let hS:(s.heap.push {cls:=.type "list_iterator",data:=.fields #[.ref l,.int 0 0]}).objs.size≠⇑s:=λz=>q1E _ (Nat.lt_of_lt_of_eq (Ze gI) z);let fI:∀H',H' ⇑s=Z->b7 X pins H' ⇑s:=λH' e=>J.g8 (Hz _) e;let JY:H ⇑s=Z:=J.bu.fresh (Hz _);let wz:l≠⇑s:=q0b yd;generalize ⇑s=I at gI hS fI JY wz;generalize s.heap.push {cls:=.type "list_iterator",data:=.fields #[.ref l,.int 0 0]}=g1 at J1 gI hS
 let fS:∀H',H' g1.objs.size=Z->b7 X pins H' g1.objs.size:=λH' e=>J1.g8 (Hz _) e;let Uc:H g1.objs.size=Z:=J1.bu.fresh (Hz _);let J2:Inv X pins σ H {s with heap:=g1.push (seqObj "list" #[] 0)}:=J1.kept (h':=g1.push (seqObj "list" #[] 0)) (t':=s.toks) λb u e=>u7 _ e;let J3:=(J2.kY (fI H JY) (u7 _ gI) (λz e=>by cases e)).kY ((fS H Uc).cons (p:=(I,_)) hS.symm) (Zg _ Y) Di;calc T7 mx kf hh hu wz hS fI fS hl hP sE fin ↑xs [] H _ #[] 0 _ (by simp) J3 p0 Y Y (.inl ⟨Y,Y⟩)
end
variable[aR]
def pF(mx:Bool)(cp:-(Option Nat))(fb:WE)(δ:aM)(ds:-D)(K:D->Prop):Prop :=
 ∃key:D->LK,S7 cp fb δ ds key/\(ds=[]->K .non)/\∀d∈ds,(∀e∈ds,pE mx (key d) (key e))->K d
def pG(mx:Bool)(cp:-(Option Nat))(fb:WE)(x:DV)(δ:aM)(K:D->Prop):Prop:=∃ds,x=.p (.lst ds)/\pF mx cp fb δ ds K
theorem Ud{mx:Bool}{cp:-(Option Nat)}{fb:WE}{x:DV}{δ:aM}{K:D->Prop}(h:pG mx cp fb x δ K):∃ds,x=.p (.lst ds)/\pF mx cp fb δ ds K:=h
def DK(mx:Bool)(f:WE)(cp:-(Option Nat))(fb:WE):WE:=fun δ K=>f δ λx δ1=>pG mx cp fb x δ1 λd=>K (.p d) δ1
noncomputable def yP(mx:Bool):J:=q0V (ky mx)
section
variable{X:Cx}{params:Arguments}{body:l}{scope:a}{gH:y}{x:J}{Nb:-J}{cp:-(Option Nat)}{fb:WE}{T:O}
theorem Ue{mx:Bool}{pins:aL}{σ:St}{H:Hp}{s:B}{E:bA}{l:O}{F:Hp}{ad:-O}{δ:aM}{ds:-D}{xs:-V}{kH mJ pos j p2}{Q:VK}(L:mH X params body scope gH T x Nb cp fb)(hu:X.A.units+64<cLine)
  (I:Inv X pins σ H s) (S:SR F ad δ σ H) (hl:F l=U (.lst xs)) (hx:af F ds xs)
  (hs:pF mx cp fb δ ds λd=>∀v F' H',Ext F ad δ.mu H F' ad δ.mu H'->SR F' ad δ σ H'->Is F' d v->Q v H') :
  M (g X.prog X.w) X.A (evalAll ((backToKw pos (keywordEach [⟨U "key",.Lambda params body scope gH,kH⟩,⟨U "default",.Constant .none j p2,mJ⟩] X.env)).map (·.2))) (λkvs s₂=>M (g X.prog X.w) X.A (call (.builtin (ky mx)) [.ref l] (((backToKw pos (keywordEach [⟨U "key",.Lambda params body scope gH,kH⟩,⟨U "default",.Constant .none j p2,mJ⟩] X.env)).filterMap (·.1)).zip kvs)) (EP X pins σ Q) E s₂) E s:=by
 let⟨key,hk,K0,K⟩:=hs;let⟨k,wG,J⟩:=L.room;let⟨cc,kq,hC⟩:=L.env.code;show M _ _ (evalAll [do let v <- eval (.Lambda params body scope gH) X.env;standAt pos;pure v,do let v <- eval (.Constant .none j p2) X.env;standAt pos;pure v]) _ _ _;calc evalAll_cons (rH ?_);let DL:=L.names;unfold yI at DL;erw[q0G,q1N,q0t] at DL;let SC:=x3N L.kind DL.1.1.1;let⟨cl,qj,sA,yJ⟩:=HC (scope:=scope) (env:=X.env) λy hy e=>I.ok.has y.1 (SC.free y hy e);refine SI I (L.tbl.get H S.tab) L.S8 qj kq (hC.keeps I.bk) L.env.ng (I.mod.glob.keeps I.bk) (L.env.blt.keeps I.bk) λf H1 s1 c I1 t1 k1 SF hf hc=>?_
 calc rH (q2Y (HA ?_));calc evalAll_cons (rH (HA ?_));calc rH (q2Y (HA ?_));calc evalAll_nil ?_;show M _ _ (call (.builtin (ky mx)) [.ref l] [(q0V "key",.ref f),(q0V "default",.none)]) _ _ _;let kT:∀b o,H b=U o->b∉aR.ad->H1 b=U o:=λb o e t=>k1 b o e λz=>t (by rw[z];calc L.tbl.mem);let mX:=L.tbl.put H H1 S.tab t1 k1;let S1:=S.Dl kT mX;let E1:=Ext.Dl S kT mX;let lx:=↑hx;let r1:bD (k+2) X.A.in1:=bD.in1 (k:=k+2) wG;let gd:∀{i:Nat}{d:D},ds[i]?=U d->ds.getD i .non=d:=λ{i d} e=>by rw[PD,e];rfl
 refine Ub mx (l:=l) (xs:=xs) (d:=.none) (λi=>key (ds.getD i .non)) (P:=λkvs H'=>∃F',Ext F ad δ.mu H F' ad δ.mu H'/\SR F' ad δ σ H'/\H' f=U (jU f "<lambda>" (X.env.qual++"<lambda>") params body scope cl ((X.mg "__name__").getD .none) (.ref c))/\H' c=U (nK c (X.env.qual++"<lambda>"))/\↑kvs<=↑ds/\∀(i:Nat)(d:D)(kv:V),ds[i]?=U d->kvs[i]?=U kv->Is F' (.tup ((key d).map D.int)) kv)
  I1 r1.hd ⋯ ⟨_,E1,S1,hf,hc,q0Z _,λi d kv _ e=>by simp at e⟩ (λkvs H' ⟨F',E',S',_⟩↦S'.sub _ _ (E'.same _ _ hl)) (λkvs H' ⟨F',E',S',yQ,kD,hle,yR⟩ i hi=>?_) (λdF v u kvs H' s' hv rv I' ⟨F',E',S',yQ,kD,hle,yR⟩=>?_) λkvs H' s' jP ⟨F',E',S',yQ,kD,hle,yR⟩ I'=>⟨λh0=>?_,λb y u hy ry best=>?_⟩
 .let hd:=xF (show i<↑ds by symm)
  let is:=yR i _ _ hd (xF hi);erw[Is] at is;let⟨t,us,e1,e2,e3⟩:=is;calc⟨t,by rw[xF hi,e1],?_⟩;rw[gd hd,<-oO e3];exact S'.sub _ _ e2
 .let hi:↑kvs<↑ds:=by rw[<-lx];exact(Hy.mp hv).1
  let hd:=xF hi;let Ug:Is F' ds[↑kvs] v:=af.at (hx.same E'.same) hd hv;let⟨ZD,Uh⟩:=hk _ (q1Q hi);calc SO I' yQ kD (by rw[show X.A.in1.frames=X.A.frames from Y];calc I'.ok.frames) r1.hd (bD.depth (r1.mono (by symm:k+1<=k+2))) L.kind L.names L.co L.gen sA yJ (λct=>L.bind cl _ _ ct u) rv (J ⟨X.A.in1,cl,f,.ref c,s',H'⟩ ((r1.mono (by symm:k+1<=k+2)).deeper _)) ?_;calc⟨F',ad,_,_,(S'.vD (cp:=cp)).wy Ug,Uh,λy δ' ⟨ey,em⟩ w F2 cG H2 E2 S2 V2=>?_⟩;subst ey
  let ea:cG=ad:=by
   let l2:↑cG=↑ad:=by rw[S2.cF,em,S'.cF]
   refine q2K λi=>?_
   by_cases hi:i<↑ad
   .rw[xF hi];exact E2.pre i _ (xF hi)
   .rw[q11 ⋯,q11 ⋯]
  subst ea;let⟨GA,c5⟩:=δ';let em:c5=δ.mu:=em;subst em;refine⟨F2,E'.trans E2,SR.back S' E2 S2,E2.qF S' yQ (λ_ z=>by cases z) (λ_ z=>by cases z) (λ_ z=>by cases z) (λ_ z=>by cases z),E2.qF S' kD (λ_ z=>by cases z) (λ_ z=>by cases z) (λ_ z=>by cases z) (λ_ z=>by cases z),by rw[Pz,q0Q];calc hi,λi d kv e1 e2=>?_⟩
  by_cases oT:i<↑kvs
  .rw[Zd oT] at e2
   exact Is.same E2.same (yR i d kv e1 e2)
  .let:i=↑kvs:=by
    let:=(Hy.mp e2).1;rw[Pz,q0Q] at this;symm
   subst this;rw[Zf (Hz _),q0W] at e2;cases(show U w=U kv from e2)
   rw[hd] at e1;cases e1;exact V2
 .let Ui:ds=[]:=q1P.mp (by rw[<-lx,h0];rfl)
  exact⟨.non,H',I',Y,K0 Ui _ F' H' E' S' (by erw[Is])⟩
 .let hb:b<↑ds:=by rw[<-lx];exact(Hy.mp hy).1
  let hd:=xF hb;calc⟨y,H',I',ry,K ds[b] (q1Q hb) (λe he=>?_) _ F' H' E' S' (af.at (hx.same E'.same) hd hy)⟩;let⟨j,hj,rfl⟩:=q2q.mp he;let:=best j ⋯;rw[gd hd,gd (xF hj)] at this;calc this
variable{e:l}{f:WE}{p1 q1 kH mJ:y}
theorem Uj{j p2}(mx:Bool)(L:mH X params body scope gH T x Nb cp fb)(hu:X.A.units+64<cLine)(Uk:Gl X (yP mx))(hs:X.mg (yP mx)=Z)(Ul:bootBuiltins (yP mx)=U (.builtin (ky mx)))(ha:JA X [e] (cE (ak f ag)))
  (he:starEach [e] X.env=[(ι,eval e X.env)]:=by rfl):JE X (.Call (.Name (yP mx) p1) [e] [⟨U "key",.Lambda params body scope gH,kH⟩,⟨U "default",.Constant .none j p2,mJ⟩] q1) (tD (DK mx f cp fb)) :=
 ⟨λpins s σ H Q I ⟨F,ad,δ,K,S,q,k⟩=>by
  calc q2g (nX I Uk hs Ul ?_ (hn:=by cases mx<;>decide) (hd:=by cases mx<;>decide));calc callWith_kw ?_ (he:=by rw[he];rfl) (hplain:=by rw[he];rfl);refine bL (ha q1 pins s σ H (λvs H1=>∃(l:O)(F1:Hp)(bt:-O)(δ1:aM)(ds:-D)(us:-V),vs=[.ref l]/\F1 l=U (.lst us)/\af F1 ds us/\Ext F ad δ.mu H F1 bt δ1.mu H1/\SR F1 bt δ1 σ H1/\pF mx cp fb δ1 ds λd=>K (.p d) δ1) I ?_) λus s1 Um=>?_
  .refine⟨F,ad,δ,λxs δ1=>match xs with
    |[x]=>pG mx cp fb x δ1 λd=>K (.p d) δ1
    |_=>False,S,q,λxs δ1 h1 vs F1 bt H1 E1 S1 V1=>?_⟩
   cases xs with
   |nil=>exact h1.elim
   |cons x xs =>
    cases xs with
    |cons _ _=>exact h1.elim
    |nil =>
     let⟨v,r,rfl,W1,W2⟩:=V1;let W2:r=[]:=W2;subst W2;let⟨ds,rfl,h2⟩:=Ud h1;let W1:Is F1 (.lst ds) v:=W1;erw[Is] at W1;let⟨a,us,rfl,g1,g2⟩:=W1;exact⟨a,F1,bt,δ1,ds,us,Y,g1,g2,E1,S1,h2⟩
  .let⟨vs,H1,I1,r1,l,F1,bt,δ1,ds,ws,ev,hl,hi,E1,S1,Uo⟩:=Um
   subst ev;let⟨u,rfl,rx⟩:=vals1 r1;cases rx
   calc Ue L hu I1 S1 hl hi ?_;let⟨key,hk,K0,hK⟩:=Uo
   calc⟨key,hk,λh0 v F' H' E' S' is=>k _ _ (K0 h0) _ _ _ _ (E1.trans E') S' is,λd hd hb v F' H' E' S' is=>k _ _ (hK d hd hb) _ _ _ _ (E1.trans E') S' is⟩⟩
end
end L2
namespace LJ
open PySem L2
variable[aR]
noncomputable def sG:D->D
 |.tup [.int i,_]=>.int i
 |_=>.non
noncomputable def sH(p:Int->Bool):D->Bool
 |.tup [.int i,_]=>p i
 |_=>ι
theorem yS(p:Int->Bool):∀(ds:-D)(i:Nat),((jz i ds).filter (sH p)).map sG=((q4b i ↑ds).filter λk:Nat=>p k).map λk:Nat=>D.int k
 |[],_=>Y
 |d::r,i=>by
  let ih:=yS p r (i+1);show(((D.tup [.int i,d])::jz (i+1) r).filter _).map _=_;rw[HB,q6E,q0_,q0_];show(if p i=θ then _ else _:-D).map _=_
  cases q:p i with
  |true=>erw[q2G,q0m,ih];rfl
  |false=>erw[q03,q2a,ih]
noncomputable def fD(l:-Int)(y:Wy):Bool:=G (y.1∈l) != G (y.2.1∈l)
noncomputable def gW(ws:-Wy)(l:-Int):-Int:=(b_ ↑ws).filter λn=>fD l (aG ws n)
inductive DM (ys:-DV) (aB:-OV) (K:RV->-OV->Prop):Prop
 |mk (y:Wy) (l:-Int) (_:ys=[.p (bQ y),.p (bJ l)]) (_:aB=[]) (_:K (.p (.bl (fD l y))) [])
def DN:WS:=(aQ (d2 (d2 (d2 (aa 0) (dC (.int 0)) bz) (aa 1) (fX ι)) (d2 (d2 (aa 0) (dC (.int 1)) bz) (aa 1) (fX ι)) oP))
theorem Uq:Sem 2 0 DM DN:=by
 ext ys aB K'-⟨y,l,rfl,rfl,k⟩;unfold DN;simp![bQ,bJ,dB,eB];let d0:=ja l;calc⟨⋯,⋯,?_⟩;rw[jc,jc];unfold fD at k;generalize G (y.1∈l)=p at k;generalize G (y.2.1∈l)=q at k;cases p<;>cases q<;>calc cq k
inductive DO (ys:-DV) (aB:-OV) (K:RV->-OV->Prop):Prop
 |mk (m:Int) (ws:-Wy) (l:-Int) (_:aO m ws) (_:ys=[.p (bq m ws),.p (bJ l)]) (_:aB=[]) (_:K (.p (bJ (gW ws l))) [])
def DP:WS:=(aQ (dZ (iY (ak (d2 (aa 0) (dC (.int 1)) bz) ag)) [Z,Z,U 1] (iX 2 (dX (bR 0) (dX (bR 1) iJ))) (dT (aE 2 DM (ak (aa 1) (ak (aa 2) ag)))) (aa 0)))
theorem Ur:Sem 2 0 DO DP:=by
 ext ys aB K'-⟨m,ws,l,W,rfl,rfl,k⟩;let kW:=W.iP;unfold DP;simp![bq,eB];refine kS (sH λi=>fD l (aG ws i)) sG (by rw[oM,Ba];symm) trivial ?_ ?_
 .ext d hd acc L' ha h1 h2
  let⟨z,hz⟩:=q0d.mp hd;let⟨e,z1,z2⟩:=oN hz;rw[PB] at z1;let⟨y,z3,rfl⟩:=q0a.mp z1;rw[q0A] at z2;subst z2;let ew:aG ws (z:Int)=y:=by unfold aG;rw[q0s,PD,z3];rfl
  erw[sH,sG] at h1 h2;rw[ew] at h1 h2;simp!;calc⟨y,l,Y,Y,?_⟩;simp!
  cases q:fD l y with
  |true=>simp!;exact⟨ha,h1 q⟩
  |false=>simp!;exact h2 q
 .let e:=yS (λi=>fD l (aG ws i)) (ws.map bQ) 0
  let e2:(gW ws l).map D.int=((q4b 0 ↑(ws.map bQ)).filter λk:Nat=>fD l (aG ws k)).map λk:Nat=>D.int k:=by
   unfold gW b_;rw[q10,q0C,Ba,<-q2O];rfl
  rw[<-e2] at e;rw[e];calc cq k
inductive DQ (ys:-DV) (aB:-OV) (K:RV->-OV->Prop):Prop
 |mk (m:Int) (ws:-Wy) (ns:-Int) (_:aO m ws) (_:Nums ws ns) (_:ys=[.p (bq m ws),.p (bJ ns)]) (_:aB=[]) (_:(ns=[]->K (.p .non) [])) (_:∀n∈ns,(∀e∈ns,kle (eZ ws n) (eZ ws e))->K (.p (.int n)) [])
def DR:WS:=(aQ (DK ι (aa 1) [U 0] (aE 1 Dz (ak (d2 (d2 (aa 1) (dC (.int 1)) bz) (aa 0) bz) ag))))
theorem Us:Sem 2 0 DQ DR:=by
 ext ys aB K'-⟨m,ws,ns,W,hn,rfl,rfl,k0,k⟩;unfold DR;simp![DK,pG,bq,bJ]
 refine⟨ns.map D.int,Y,λd=>match d with
  |.int n=>eZ ws n
  |_=>[],λd hd=>?_,λh0=>?_,λd hd best=>?_⟩
 .let⟨n,h,rfl⟩:=q0l.mp hd
  let⟨n0,n1⟩:=hn n h;let⟨y,ey,hy,ea,_⟩:=qC W n0 n1;calc⟨(by ext z;cases z),?_⟩;simp![eB,ea];calc⟨y,Y,Y,?_⟩;simp!;unfold eZ;rw[ey];rfl
 .exact cq (k0 (List.map_eq_nil_iff.mp h0))
 .let⟨n,h,rfl⟩:=q0l.mp hd
  exact cq (k n h λe he=>best _ (q0l.mpr ⟨e,he,Y⟩))
open Classical in
noncomputable def uj (ws:List Wy) (ns:List Int):Int:=if h:∃n,n∈ns/\∀e∈ns,kle (eZ ws n) (eZ ws e) then x1i h else 0
theorem JZ{m:Int}{ws:-Wy}(W:aO m ws){ns:-Int}(hn:Nums ws ns){n:Int}(h:n∈ns)(b:∀e∈ns,kle (eZ ws n) (eZ ws e)):uj ws ns=n:=by
 unfold uj;let ex:∃n,n∈ns/\∀e∈ns,kle (eZ ws n) (eZ ws e):=⟨n,h,b⟩;rw[dif_pos ex];let⟨h1,h2⟩:=q5b ex;calc Tw W (hn _ h1) (hn _ h) (I_ (h2 n h) (b _ h1))
theorem yT{ws:-Wy}{l:-Int}:Nums ws (gW ws l):=λn h=>C4 (q0M.mp h).1
theorem Ut{ws:-Wy}{l:-Int}:↑(gW ws l)<=↑ws:=by
 unfold gW;let:=q0K (λn=>fD l (aG ws n)) (b_ ↑ws);rw[sC] at this;calc this
theorem DT(ns:-Int):∀i,i<=↑ns->(LJS.jC ns i).Nodup/\∀x,x∈LJS.jC ns i↔x∈ns.take i
 |0,_=>⟨q5k,λx=>by simp[LJS.jC]⟩
 |i+1,h=>by
  let⟨n,m⟩:=DT ns i ⋯
  let et:ns.take (i+1)=ns.take i++[ns.getD i 0]:=by
   rw[q3h,PD,xF (show i<↑ns by symm)];rfl
  rw[et];unfold LJS.jC LJS.once;split
  .rename_i c
   calc⟨n,λx=>?_⟩;rw[m x,q0u,q0D];calc⟨.inl,λz=>z.elim id λz=>?_⟩;subst z;exact(m _).mp c
  .rename_i c
   refine⟨q1W.mpr ⟨n,by simp,λa ha b hb z=>?_⟩,λx=>?_⟩
   .subst z;rw[q0D.mp hb] at ha;exact c ha
   .rw[q0u,q0u,m x]
theorem J0{ws:-Wy}:∀{ns:-Int},ns≠[]->∃n,n∈ns/\∀e∈ns,kle (eZ ws n) (eZ ws e)
 |[],h=>absurd Y h
 |[a],_=>⟨a,q0h,λe he=>by rw[q0D.mp he];calc kle_refl _⟩
 |a::b::r,_=>by
  let⟨n,h1,h2⟩:=J0 (ws:=ws) (ns:=b::r) (by simp)
  cases q:HT.lexLt (eZ ws n) (eZ ws a) with
  |true=>exact⟨n,q0g _ h1,λe he=>(PC.mp he).elim (λz=>by rw[z];calc si q) (h2 e)⟩
  |false=>calc⟨a,q0h,λe he=>(PC.mp he).elim (λz=>by rw[z];calc kle_refl _) λz=>kle_trans q (h2 e z)⟩
theorem Uu{ws:-Wy}{ns:-Int}(h:ns≠[]):uj ws ns∈ns/\∀e∈ns,kle (eZ ws (uj ws ns)) (eZ ws e):=by
 let ex:=J0 (ws:=ws) h;unfold uj;rw[dif_pos ex];calc q5b ex
theorem Uv(ns:-Int)(x:Int):x∈gq ns↔x∈ns:=by
 let:=(DT ns _ (Hz _)).2 x;rw[q2Q] at this;calc this
end LJ
namespace L2
open PySem PySem.Spec PyProof.Rows PySem.W
theorem J6(kf:Nat->Int):∀k,argBest (λi j=>G (kf i<kf j)) k<=k/\∀j,j<=k->kf (argBest (λi j=>G (kf i<kf j)) k)<=kf j
 |0=>⟨Hz _,λj hj=>by
  let e:j=0:=by symm
  subst e
  calc q6N _⟩
 |k+1=>by
  let⟨h1,h2⟩:=J6 kf k;show(if G (kf (k+1)<kf (argBest _ k))=θ then k+1 else argBest _ k)<=k+1/\∀j,j<=k+1->kf (if G (kf (k+1)<kf (argBest _ k))=θ then k+1 else argBest _ k)<=kf j
  by_cases c:kf (k+1)<kf (argBest (λi j=>G (kf i<kf j)) k)
  .rw[q0e (q0i c)]
   refine⟨Hz _,λj hj=>?_⟩
   by_cases e:j=k+1
   .subst e;exact q6N _
   .let:=h2 j ⋯;symm
  .rw[q0c (by rw[Zi c];decide)]
   refine⟨⋯,λj hj=>?_⟩
   by_cases e:j=k+1
   .subst e;symm
   .calc h2 j ⋯
section
variable{X:Cx}
theorem Uw(hc:X.calm=θ):g9 X (.builtin "min") (λxs H Q=>∃(l:O)(ns:-Int),xs=[.ref l]/\bU X.K H l (ns.map V.int)/\ns≠[]/\∀x∈ns,(∀y∈ns,x<=y)->Q (.int x) H):=by
 ext pins s σ H xs us Q I r h;let⟨l,ns,rfl,hq,ne,q⟩:=h;let⟨u,rfl,rx⟩:=vals1 r;cases rx
 let⟨az,r',pl,_⟩:=I.list hq;let hl:=↑r';rw[Ba] at hl;let hL:=pl.isList;let ll:l<⇑s:=by let⟨o,e,_⟩:=hL;exact Ze e
 let nI:l≠⇑s:=q0b ll;let n0:0<↑ns:=List.length_pos_iff.mpr ne;let sz:az.toArray.size=↑ns:=by rw[PA];exact hl.symm
 let qN:∀(i:Nat)(v:L),az.toArray[i]?=U v->∃t,v=q0X (ns.getD i 0) t:=λi v hv=>by
  rw[q2l] at hv;let hi:i<↑ns:=by rw[hl];exact(Hy.mp hv).1
  let⟨u,e1,t,e2⟩:=r'.get (x:=V.int (ns.getD i 0)) (i:=i) (by rw[PB,xF hi,PD,xF hi];rfl);rw[hv] at e1;cases e1
  exact⟨t,e2⟩
 calc call_min_walk (q1X hL ?_);refine⟨⇑s,_,_,_,_,_,λi j=>G (ns.getD i 0<ns.getD j 0),Y,q3q (by rw[q2h];calc I.ok.hd hc) ⇑s l nI _,⟨⟨_,Zg _ Y,Y,Y⟩,hL.push _⟩,λb hb=>?_,by rw[sz];calc n0,CmpOf.ints_lt (λi=>ns.getD i 0) qN,λv h' tk hv kp=>?_⟩
 .erw[PC,q0o,q1r] at hb
  rw[q0T];rcases hb with e|e
  .rw[e];exact q0N _
  .rw[e];exact q0J ll
 .let⟨t,rfl⟩:=qN _ v hv
  rw[sz] at hv ⊢;let⟨b1,b2⟩:=J6 (λi=>ns.getD i 0) (↑ns-1);let gm:∀{i:Nat},i<↑ns->ns.getD i 0∈ns:=λ{i} h=>by rw[PD,xF h];exact q1Q h
  refine⟨.int _,H,I.kept (t':=tk) λb o e=>kp b o (λz=>?_) (u7 _ e),⟨t,Y⟩,q _ (gm ⋯) λy hy=>?_⟩
  .let:=Ze e
   rw[q0D.mp z] at this;exact q1E _ this
  .let⟨j,hj,rfl⟩:=q2q.mp hy
   let:=b2 j ⋯;rw[show ns.getD j 0=ns[j] by rw[PD,xF hj];rfl] at this;calc this
end
def uk:-D->(D->Prop)->Prop
 |[.lst ds],K=>match intsOf ds with
  |some ns=>ns≠[]/\∀x∈ns,(∀y∈ns,x<=y)->K (.int x)
  |none=>False
 |_,_=>False
variable[aR]{X:Cx}
theorem J7(hc:X.calm=θ):dJ X (.builtin "min") uk:=by
 ext pins s σ H xs us Q I r ⟨F,ds,K,sub,rd,q,md⟩;unfold uk at q;split at q
 .rename_i es
  split at q
  .rename_i ns e
   let⟨v,rfl,a,vs,rfl,h1,h2⟩:=dA rd;rw[r9 e] at h2;rw[oO h2] at h1;exact Uw hc pins s σ H _ us Q I r ⟨a,ns,Y,bU.of h1,q.1,λx hx hm=>md _ _ _ (q.2 x hx hm) (λ_ _ e=>e) Y⟩
  .exact q.elim
 .calc q.elim
end L2
namespace LJ
open PySem L2
variable[aR]
end LJ
namespace L2
open PySem PySem.Spec PyProof.Rows PySem.W
section
variable{X:Cx}{pins:aL}{σ:St}{H:Hp}{s:B}{E:bA}{l I S:O}{ts:-O}{d:L}{R:Result->B->Prop}
end
variable[aR]
section
variable{X:Cx}{e:l}{f:WE}{p1 q1 mJ:y}
end
end L2
namespace LJ
open PySem L2
variable[aR]
end LJ
namespace LJ
open PySem L2
noncomputable def b1(p:Prop)[Decidable p]:Nat:=if p then 1 else 0
noncomputable def mK(ws:-Wy)(us:-Int):-Int:=us.map (λn=>(aG ws n).1)++us.map λn=>(aG ws n).2.1
section
variable{ws:-Wy}{us ns vs:-Int}{a b c x n:Int}
end
end LJ
namespace L2
open PySem PySem.Spec PyProof.Rows
variable[aR]
section
variable{X:Cx}{fa:WA}
end
end L2
namespace LJ
open PySem L2
variable[aR]
inductive yU (ys:-DV) (aB:-OV) (K:RV->-OV->Prop):Prop
 |mk (m:Int) (ws:-Wy) (us:-Int) (_:aO m ws) (_:Nums ws us) (_:↑us<=400) (_:ys=[.p (bq m ws),.p (bJ us)]) (_:aB=[]) (_:K (.p (bJ (mK ws us))) [])
def DU:WS:=(aQ (d2 (dZ (cm (aa 1)) [Z,U 0] (bR 0) dj (d2 (d2 (d2 (aa 1) (dC (.int 1)) bz) (aa 0) bz) (dC (.int 0)) bz)) (dZ (cm (aa 1)) [Z,U 0] (bR 0) dj (d2 (d2 (d2 (aa 1) (dC (.int 1)) bz) (aa 0) bz) (dC (.int 1)) bz)) c8))
theorem J8{ws:-Wy}{n:Int}(h:0<=n/\n<(↑ws:Int)):fq (ws.map bQ) n=U (bQ (aG ws n)):=by
 let⟨i,rfl⟩:∃i:Nat,n=i:=⟨n.toNat,⋯⟩;let hi:i<↑ws:=by symm
 calc j9 ?_;rw[PB,xF hi];unfold aG;rw[q0s,PD,xF hi];rfl
theorem Ux:Sem 2 0 yU DU:=by
 ext ys aB K'-⟨m,ws,us,W,hu,ul,rfl,rfl,k⟩;unfold DU;rw[show bJ us=.lst (us.map D.int) from Y];simp!
 refine L2.km (λd=>match d with
  |.int n=>.int (aG ws n).1
  |_=>.non) (by rw[Ba];symm) trivial ?_ ?_
 .ext d hd acc L ha h
  let⟨n,hn,rfl⟩:=q0l.mp hd;simp![bq,eB,J8 (hu n hn),bQ,dB];exact⟨ha,h⟩
 refine L2.km (λd=>match d with
  |.int n=>.int (aG ws n).2.1
  |_=>.non) (by rw[Ba];symm) trivial ?_ ?_
 .ext d hd acc L ha h
  let⟨n,hn,rfl⟩:=q0l.mp hd;simp![bq,eB,J8 (hu n hn),bQ];exact⟨ha,h⟩
 simp!;refine⟨⋯,?_⟩
 let e:(us.map D.int).map (λd=>match d with
  |.int n=>D.int (aG ws n).1
  |_=>.non)++(us.map D.int).map (λd=>match d with
  |.int n=>D.int (aG ws n).2.1
  |_=>.non)=(mK ws us).map D.int:=by
  unfold mK;rw[q0C,q0C,q0r,q0C,q0C];rfl
 rw[e];calc cq k
section
variable{m:Int}{ws:-Wy}{us:-Int}
end
end LJ
namespace LJS
open PySem PySem.SetTable PyProof.Rows
theorem J9(ns:-Int){i:Nat}:∀{n:Nat},i<=n->↑(jC ns i)<=↑(jC ns n)
 |0,h=>by
  obtain rfl:i=0:=by symm
  exact Hz _
 | n + 1,h=>by
  by_cases c:i=n + 1
  .subst c;exact Hz _
  .have:=J9 ns (i:=i) (n:=n) ⋯
   show _ <= (once (jC ns n) (ns.getD n 0)).length;unfold once;split
   .exact this
   .rw[Pz];symm
section
variable{prog:t}{w:ω}{A:o}{R:Result->B->Prop}{I S:O}{fp wr:-O}{G:Array GenState->Array GenState->Prop}{n:Nat}{P:Nat->L->Prop}{St:Nat->B->Prop}
theorem J_(W:WalksS prog w A.in1 I fp wr G n P St)(out:S∉fp){led:Bool}(ns:-Int)(isInt:∀i v,P i v->∃t,v=.int (ns.getD i 0) t)(qM:↑(jC ns n)<60):
  ∀(left i:Nat)(s:B),i+left=n->St i s->fg s.heap S led (jC ns i)->(∀s',Moved (S::wr) G s s'->fg s'.heap S led (jC ns n)->R (.ok (.ret .none)) s') →
   codeAny (g prog w) A (.builtin "set.update.loop" ⟨[.ref S,.ref I],[]⟩) R s:=by
 let lT:S∉wr:=λz=>out (W.sub _ z);let more:∀b,b∈wr->b∈S::wr:=λb hb=>q0g _ hb;ext left
 induction left with
 |zero =>
  ext i s hi st se fin;obtain rfl:i=n:=by symm
  calc q1t q2B ?_;rw[q1R q1S _];show M _ A.in1 (pyNext (.ref I) >>= _) _ _ s;calc rH (W.done s _ _ st λs' mv=>?_);show M _ A.in1 (ret q0y) _ _ s';exact HA (fin s' (mv.mono more) (zT se λo e=>mv.heap S o lT e))
 |succ left ih =>
  ext i s hi st se fin;let d_:i<n:=by symm
  calc q1t q2B ?_;rw[q1R q1S _];show M _ A.in1 (pyNext (.ref I) >>= _) _ _ s;calc rH (W.item i s _ _ d_ st λv s1 hP lg mv=>?_);let⟨t,rfl⟩:=isInt i v hP;show M _ A.in1 (holding [q0X (ns.getD i 0) t] (setAdd S (.int (ns.getD i 0) t)) >>= _) _ _ s1;calc rH (q0H ?_);unfold setAdd;calc q0H (rH ((intKind prog w).pyHash (k:=ns.getD i 0) (q3o _ _ _ _) ?_));let hlen:=J9 ns (i:=i) (n:=n) ⋯;calc add_int (s:={s1 with toks:=s1.toks+1}) (zT se λo e=>mv.heap S o lT e) ⋯ λb h2 sb zQ=>?_;let nS:∀b,b∈fp->b≠S:=λb hb z=>out (by rw[<-z];calc hb);refine HA ⟨q2d q1S _,ih (i+1) _ ⋯ (W.frame _ s1 _ _ lg (q13 _ _) λb hb o e=>by rw[sb.2 b (nS b hb)];calc e) zQ λs3 zR zS=>?_⟩
  calc fin s3 (Moved.trans W.gtrans ((mv.mono more).then_heap (q13 _ _) λb o hb e=>?_) zR) zS;rw[sb.2 b (λz=>hb (by rw[z];calc q0h))];calc e
end
section
variable{prog:t}{w:S}{A:o}{E:bA}{s:B}
set_option maxHeartbeats 3200000 in
theorem Uy {l:O} {items:Array L} {Q:bA} (ns:-Int) (hh:A.handled=Z) (isL:s.heap.IsList l items\/s.heap.IsTuple l items) (isInt:∀(i:Nat)(v:L),items[i]?=U v->∃t,v=.int (ns.getD i 0) t) (qM:↑(jC ns items.size)<60)
  (fin:∀(h':I)(tk:Nat),fg h' ⇑s (iF w) (jC ns items.size)->(∀b o,b<⇑s->s.heap.get? b=U o->h'.get? b=U o)->Q (.ref ⇑s) {s with heap:=h',toks:=tk}) :
  M (g prog w) A (call (.type "set") [.ref l]) Q E s:=by
 let⟨c,tl,zU⟩:=q1e.mro;let m1:=q1e.made;let m2:=q1e.sub;let m3:=q1e.notType;let m4:=q1e.canCreate;let m5:=q6t (.ref l);calc q4J (q4W ?_);show M _ _ (callAny (.type "set") _) _ _ _;calc HA ⟨q5M _ (by decide +kernel),q1t q50 ?_⟩;rw[q5N (q48 "set" [.ref l] []) Y]
 repeat(any_goals (first|assumption|wp_step))
 refine q2H (Nc (.ref l) (E:=E) (Q₁:=λr s1=>r=.ref ⇑s/\s1={s with heap:=s.heap.push (cH (iF w))}) ⟨Y,Y⟩) λr s1 hr=>?_
 cases r with
 |error e=>exact hr
 |ok fl =>
  cases fl with
  |ret obj =>
   let⟨rfl,rfl⟩:=hr;generalize Uz:iF w=led at fin ⊢;let gS:(s.heap.push (cH led)).get? ⇑s=U (cH led):=Zg _ Y;let tS:q7x {s with heap:=s.heap.push (cH led)} (.ref ⇑s) "set" := ⟨_,gS,Y⟩;let m6:=q1e.init.lookup;let m7:=q1e.init.bind (.ref ⇑s)
   repeat(any_goals (first|assumption|wp_step))
   refine q2H (q5i (R:=wants (λr s2=>r=.none/\∃h' tk,s2={s with heap:=h',toks:=tk}/\fg h' ⇑s led (jC ns items.size) ∧
     ∀b o,b<⇑s->s.heap.get? b=U o->h'.get? b=U o) E) q1e.init.plain q6u (q6v tS ?_)) λr2 s2 lU=>?_
   .let h3:A.in1.in1.in1.handled=Z:=by simp[hh]
    let ez:(s.heap.push (cH led)).objs.size=⇑s+1:=q0T ..;let ll:l<⇑s:=by rcases isL with⟨ol,gl,_⟩|⟨ol,gl,_⟩<;>exact Ze gl
    let nI:l≠(s.heap.push (cH led)).objs.size:=by rw[ez];exact q0b (q0J ll)
    let out:⇑s∉[(s.heap.push (cH led)).objs.size,l]:=by
     erw[PC,q0o,q1r,q4K,ez];exact⟨q0b (q0N _),q1I ll⟩
    unfold Builtin.«set.__init__» noKeywords q3z;generalize xf:pyIter=PI;rcases isL with isL|isL
    .let⟨ol,gl,cl,nl,dl⟩:=isL
     let⟨c0,d0,Gn,uG⟩:=ol;simp only at cl dl;subst cl;subst dl;let uH:(s.heap.push (cH led)).get? l=U {cls:=.type "list",dict:=d0,data:=.seq items nl,slots:=uG}:=u7 _ gl;let x1:=q69;let x2:=q5j;let x3:(q1L "list" == q1L "dict")=ι:=by decide
     let iQ:(s.heap.push (cH led)).IsList l items:=⟨_,uH,Y,nl,Y⟩
     wp_walk
     subst xf;refine q1X iQ (rH (q3O ?_))
     refine J_ ((q3q h3 _ l nI items).toS) (S:=s.heap.objs.size) out (led:=led) ns (λi v hv=>isInt i v hv) qM items.size 0 _ (q0A _)
      ⟨⟨_,Zg _ Y,Y,Y⟩,iQ.push _⟩ (Gp (led:=led) (u7 _ gS)) ?fin
     ext s' mv se;let⟨h',g',d',lb,qP⟩:=s';obtain rfl:g'=s.gens:=mv.gens;obtain rfl:d'=s.drawn:=mv.drawn;obtain rfl:qP=s.os:=mv.os;show M _ _ _ _ _ _;calc HA ?_;show M _ _ (ret q0y) _ _ _;calc HA ⟨Y,h',lb,Y,se,λb o hb e=>?_⟩;calc mv.heap b o ?_ (u7 _ (u7 _ e));erw[PC,q0o,q1r,q4K,ez];exact⟨q0b hb,q0b (q0J hb)⟩
    .let⟨ol,gl,cl,nl,dl⟩:=isL
     let⟨c0,d0,Gn,uG⟩:=ol;simp only at cl dl;subst cl;subst dl;let uH:(s.heap.push (cH led)).get? l=U {cls:=.type "tuple",dict:=d0,data:=.seq items nl,slots:=uG}:=u7 _ gl;let x1:=F.sub_tuple_set;let x2:=F.sub_tuple_frozenset;let x3:(q1L "tuple" == q1L "dict")=ι:=by decide
     let iQ:(s.heap.push (cH led)).IsTuple l items:=⟨_,uH,Y,nl,Y⟩
     wp_walk
     subst xf;refine q2i iQ (rH (q3O ?_))
     refine J_ ((Walks.tuple h3 _ l nI items).toS) (S:=s.heap.objs.size) out (led:=led) ns (λi v hv=>isInt i v hv) qM items.size 0 _ (q0A _)
      ⟨⟨_,Zg _ Y,Y,Y⟩,iQ.push _⟩ (Gp (led:=led) (u7 _ gS)) ?fin2
     ext s' mv se;let⟨h',g',d',lb,qP⟩:=s';obtain rfl:g'=s.gens:=mv.gens;obtain rfl:d'=s.drawn:=mv.drawn;obtain rfl:qP=s.os:=mv.os;show M _ _ _ _ _ _;calc HA ?_;show M _ _ (ret q0y) _ _ _;calc HA ⟨Y,h',lb,Y,se,λb o hb e=>?_⟩;calc mv.heap b o ?_ (u7 _ (u7 _ e));erw[PC,q0o,q1r,q4K,ez];exact⟨q0b hb,q0b (q0J hb)⟩
   .cases r2 with
    |error e=>exact lU
    |ok zV =>
     cases zV with
     |ret r =>
      let⟨rfl,h',lb,rfl,se,kp⟩:=lU
      repeat(any_goals (first|assumption|wp_step))
      exact fin _ _ se kp
     |next=>exact lU
     |brk=>exact lU
     |cont=>exact lU
  |next=>exact hr
  |brk=>exact hr
  |cont=>calc hr
end
end LJS
namespace L2
open PySem PySem.Spec PyProof.Rows
variable[aR]{X:Cx}{fa:WA}
def aS:-D->(D->Prop)->Prop
 |[.lst ds],K=>match intsOf ds with
  |some ns=>↑(gq ns)<60/\K (.lst ((sortI (gq ns)).map D.int))
  |none=>False
 |[.tup ds],K=>match intsOf ds with
  |some ns=>↑(gq ns)<60/\K (.lst ((sortI (gq ns)).map D.int))
  |none=>False
 |_,_=>False
theorem UA(hc:X.calm=θ):g9 X (.type "set") (λxs H Q=>∃(l:O)(ns:-Int),xs=[.ref l]/\(bU X.K H l (ns.map V.int)\/b8 X.K H l (ns.map V.int))/\↑(gq ns)<60/\∀p,H p=Z->Q (.ref p) (upd H p (t_ (LJS.iF X.w) p (gq ns)))):=by
 ext pins s σ H xs us Q I r h;let⟨l,ns,rfl,hq,qM,q⟩:=h;let⟨u,rfl,rx⟩:=vals1 r;cases rx
 let⟨az,r',pl⟩:∃az:-L,Vals (ns.map V.int) az/\(s.heap.IsList l az.toArray\/s.heap.IsTuple l az.toArray):=by
  rcases hq with hq|hq
  .let⟨az,r',pl,_⟩:=I.list hq
   exact⟨az,r',.inl pl.isList⟩
  .let⟨az,r',pl,_⟩:=I.tuple hq
   exact⟨az,r',.inr pl⟩
 let hl:=↑r';rw[Ba] at hl;let e:az.toArray.size=↑ns:=by rw[PA];symm
 refine LJS.Uy ns (I.ok.hd hc) pl (λi v hv=>?_) (by rw[e];calc qM) λh' tk se kp=>?_
 .rw[q2l] at hv
  let hi:=(Hy.mp hv).1;let⟨x,hx,rv⟩:=vP r' (j:=i) (by rw[PA];calc hi);rw[show az.toArray[i]'(by rw[PA];calc hi)=v by simpa using(Hy.mp hv).2] at rv;rw[PB] at hx;let⟨n,hn,rfl⟩:=q0a.mp hx;let⟨t,rfl⟩:=rv;rw[PD,hn];exact⟨t,Y⟩
 .let UB:LJS.fg h' ⇑s (LJS.iF X.w) (gq ns):=by rw[e] at se;exact se
  calc⟨.ref ⇑s,upd H ⇑s (t_ (LJS.iF X.w) ⇑s (gq ns)),I.laid (t':=tk) (λb o e=>kp b o (Ze e) e) (Hz _) (RJ UB),Y,q _ (I.bu.fresh (Hz _))⟩
theorem DW{a:l}{p1 p2 q1 q2:y}(hc:X.calm=θ)(vY:Gl X "sorted")(hl:X.mg "sorted" = Z)(vZ:bootBuiltins "sorted" = U (.builtin "sorted"))(v3:Gl X "set")(hr:X.mg "set" = Z)(v5:bootBuiltins "set" = U (.type "set"))(ha:JA X [a] (cE fa))
  (he:starEach [a] X.env=[(ι,eval a X.env)]:=by rfl) (v7:starEach [.Call (.Name "set" p2) [a] [] q2] X.env=[(ι,eval (.Call (.Name "set" p2) [a] [] q2) X.env)]:=by rfl):JE X (.Call (.Name "sorted" p1) [.Call (.Name "set" p2) [a] [] q2] [] q1) (tD (dN fa aS)) :=
 (xC (RL hc) vY hl vZ (ot (tj (UA hc) v3 hr v5 ha (he:=he)) cZ) (he:=v7)).weak fun σ H Q ⟨F,ad,δ,K,S,q,k⟩=>⟨F,ad,δ,_,S,q,λxs δ1 h1 vs F1 bt H1 E1 S1 V1=>by
  let⟨ds,h2,qm⟩:=xX S1 V1 h1;unfold aS at h2;split at h2
  .split at h2
   .rename_i es ns e
    let⟨v,rfl,a,vs,rfl,g1,g2⟩:=dA qm;rw[r9 e] at g2;rw[oO g2] at g1;calc⟨a,ns,Y,.inl (bU.of g1),h2.1,λp hp=>⟨p,gq ns,Y,cz,⋯,λr dz pm pw hr=>?_⟩⟩;let s1:aP H1 (upd H1 p (t_ (LJS.iF X.w) p (gq ns))):=cI hp;let S2:=S1.al s1;let E2:=Ext.al S1 s1;calc k _ _ h2.2 _ _ _ _ ((E1.trans E2).trans (Ext.al S2 (cI hr))) (S2.al (cI hr)) ?_;rw[<-yn pm pw];exact mi S2.sub hr tY
   .exact h2.elim
  .split at h2
   .rename_i es ns e
    let⟨v,rfl,a,vs,rfl,g1,g2⟩:=dA qm;rw[r9 e] at g2;rw[oO g2] at g1;calc⟨a,ns,Y,.inr (b8.of (S1.sub _ _ g1)),h2.1,λp hp=>⟨p,gq ns,Y,cz,⋯,λr dz pm pw hr=>?_⟩⟩;let s1:aP H1 (upd H1 p (t_ (LJS.iF X.w) p (gq ns))):=cI hp;let S2:=S1.al s1;let E2:=Ext.al S1 s1;calc k _ _ h2.2 _ _ _ _ ((E1.trans E2).trans (Ext.al S2 (cI hr))) (S2.al (cI hr)) ?_;rw[<-yn pm pw];exact mi S2.sub hr tY
   .exact h2.elim
  .calc h2.elim⟩
end L2
namespace LJ
open PySem L2
variable[aR]
abbrev Up(us:-Int):Prop:=us.Pairwise (· < ·)
noncomputable def tupI(ns:-Int):D:=.tup (ns.map D.int)
noncomputable def oD:Option Int->D
 |none=>.non
 |some n=>.int n
noncomputable def fY(ns:-Int):-Int:=sortI (gq ns)
theorem UC(ns:-Int):(gq ns).Nodup:=(DT ns ↑ns (Hz _)).1
theorem bN{ns:-Int}{x:Int}:x∈fY ns↔x∈ns:=(sortI_perm _).mem_iff.trans (Uv ns x)
theorem DX{ns:-Int}(nd:ns.Nodup):Up (sortI ns):=((IL _).and ((sortI_perm ns).nodup_iff.mpr nd)).imp λz=>by let a:=z.1;let b:=z.2;symm
theorem qG(ns:-Int):Up (fY ns):=DX (UC ns)
theorem Ka{ns:-Int}(nd:ns.Nodup):sortI ns=fY ns:=ug (DX nd) (qG ns) λx=>(sortI_perm _).mem_iff.trans bN.symm
theorem Up.nd{us:-Int}(h:Up us):us.Nodup:=h.imp λz=>by symm
theorem wH{us:-Int}{n:Nat}(h:Up us)(r:∀x∈us,0<=x/\x<n):↑us<=n:=by
 let e:us=(b_ n).filter λx=>G (x∈us):=ug h ((DF n).filter _) λx=>by
  rw[q0M,sD,q0t];exact⟨λhx=>⟨r x hx,hx⟩,λhx=>hx.2⟩
 rw[e];calc q0w (q0K _ _) ?_;rw[sC];calc Hz _
theorem Kb{ns:-Int}{n:Nat}(r:∀x∈ns,0<=x/\x<n):↑(fY ns)<=n:=wH (qG ns) λx hx=>r x (bN.mp hx)
theorem yV{ns:-Int}{n:Nat}(r:∀x∈ns,0<=x/\x<n)(h:n<=30):↑(gq ns)<60:=by
 let:=Kb r;unfold fY at this;rw[IP] at this;symm
abbrev gK:=Option (Option Int×Int)
structure Nt where
 p:-Int
 k:-Int
 s:-Int
 q:-gK
noncomputable def gM(p k s:-Int):D:=.tup [tupI p,tupI k,tupI s]
noncomputable def bj(m:Int)(ws:-Wy)(p:-Int)(h:Int):-Int:=cls m.toNat (gU ws p) h
noncomputable def je(ws:-Wy)(l:-Int):Option Int:=if gW ws l=[] then Z else U (uj ws (gW ws l))
noncomputable def eD(ws:-Wy)(p k:-Int):-Int:=(b_ ↑ws).filter λn=>G (n∉p++k)
noncomputable def mL(ws:-Wy)(us l:-Int):-Int:=(mK ws us).filter λh=>G (h∈l)
noncomputable def pH(ws:-Wy)(l:-Int):-Int:=(b_ ↑ws).filter λn=>G ((aG ws n).1∈l)&&G ((aG ws n).2.1∈l)
noncomputable def jV(ws:-Wy)(l p:-Int):-Int:=(pH ws l).filter λn=>G (n∉p)
noncomputable def sI(m:Int)(ws:-Wy)(p k:-Int)(h:Int):-Int:=fY (k++jV ws (bj m ws p h) p)
noncomputable def wI(m:Int)(ws:-Wy)(p k:-Int)(h:Int):Int:=2*((↑(bj m ws p h):Int)-1)+2*(↑(mL ws (eD ws p k) (bj m ws p h)):Int)
noncomputable def DY(m:Int)(ws:-Wy)(p:-Int)(w:Int):Int:=min (↑(bj m ws p (aG ws w).1):Int) (↑(bj m ws p (aG ws w).2.1):Int)
noncomputable def mM(m:Int)(ws:-Wy)(N:Nt)(fo:Option Int)(h:Int):Option Int×Int:=match fo with
 |none=>if h∈N.s then(Z,0) else(Z,(↑(bj m ws N.p h):Int)-1)
 |some w=>if w∈N.p then(Z,0) else(U w,1+DY m ws N.p w)
noncomputable def fM(m:Int)(ws:-Wy)(N:Nt)(fo:Option Int)(h:Int):Nt:=match fo with
 |none=>if h∈N.s then N else⟨N.p,N.k,fY (N.s++bj m ws N.p h),N.q⟩
 |some w=>if w∈N.p then N else⟨fY (N.p++[w]),N.k,N.s,N.q⟩
inductive fN where
 |wake (h:Int)|fin (i:Nat)
noncomputable def iK:fN->D
 |.wake h=>.tup [.str "wake",.int h]
 |.fin i=>.tup [.str "end",.int i]
noncomputable def gr(t:Option Int×Int):D:=.tup [oD t.1,.int t.2]
noncomputable def Nt.step(m:Int)(ws:-Wy)(N:Nt):fN->Nt
 |.wake h=>if h∈N.s then⟨N.p,N.k,N.s,N.q++[Z]⟩ else⟨N.p,sI m ws N.p N.k h,N.s,N.q++[U (je ws (bj m ws N.p h),h)]⟩
 |.fin i=>match N.q[i]? with
  |some (some (fo,h))=>fM m ws ⟨N.p,N.k,N.s,N.q.set i Z⟩ fo h
  |_=>N
noncomputable def Nt.tell(m:Int)(ws:-Wy)(N:Nt):fN->Option Int×Int
 |.wake h=>if h∈N.s then(Z,0) else(Z,wI m ws N.p N.k h)
 |.fin i=>match N.q[i]? with
  |some (some (fo,h))=>mM m ws N fo h
  |_=>(Z,0)
def gN(m:Int)(N:Nt):fN->Prop
 |.wake h=>0<=h/\h<m
 |.fin i=>∃fo h,N.q[i]?=U (U (fo,h))
noncomputable def runN(m:Int)(ws:-Wy):Nt->-fN->Nt
 |N,[]=>N
 |N,e::r=>runN m ws (N.step m ws e) r
noncomputable def jW(m:Int)(ws:-Wy):Nt->-fN->-(Option Int×Int)
 |_,[]=>[]
 |N,e::r=>N.tell m ws e::jW m ws (N.step m ws e) r
noncomputable def nM(m:Int)(ws:-Wy):Nt->-fN->Prop
 |_,[]=>True
 |N,e::r=>gN m N e/\nM m ws (N.step m ws e) r
theorem DZ{m:Int}{ws:-Wy}:∀{N:Nt}{a:-fN}{e:fN},runN m ws N (a++[e])=(runN m ws N a).step m ws e
 |N,[],e=>Y
 |N,x::a,e=>DZ (N:=N.step m ws x) (a:=a)
theorem D0{m:Int}{ws:-Wy}:∀{N:Nt}{a:-fN}{e:fN},jW m ws N (a++[e])=jW m ws N a++[(runN m ws N a).tell m ws e]
 |N,[],e=>Y
 |N,x::a,e=>by
  show _::jW m ws (N.step m ws x) (a++[e])=_;rw[D0 (N:=N.step m ws x) (a:=a)];rfl
theorem Kc{m:Int}{ws:-Wy}:∀{N:Nt}{a:-fN}{e:fN},nM m ws N a->gN m (runN m ws N a) e->nM m ws N (a++[e])
 |N,[],e,_,h=>⟨h,trivial⟩
 |N,x::a,e,⟨h1,h2⟩,h=>⟨h1,Kc (N:=N.step m ws x) (a:=a) h2 h⟩
theorem yW{m:Int}{ws:-Wy}:∀{N:Nt}{a:-fN},↑(jW m ws N a)=↑a
 |N,[]=>Y
 |N,x::a=>by show↑(jW m ws _ a)+1=_;rw[yW];rfl
structure eO(m:Int)(ws:-Wy)(N:Nt):Prop where
 pu:Up N.p
 pn:Nums ws N.p
 ku:Up N.k
 kn:Nums ws N.k
 su:Up N.s
 sn:∀x∈N.s,0<=x/\x<m
 gz:∀n∈N.k,bE (gU ws N.p) (aG ws n).1 (aG ws n).2.1
 sc:∀n,0<=n/\n<(↑ws:Int)->((aG ws n).1∈N.s↔(aG ws n).2.1∈N.s)
 q:∀(i:Nat)(fo:Option Int)(h:Int),N.q[i]?=U (U (fo,h))->(0<=h/\h<m)/\(∀w,fo=U w->0<=w/\w<(↑ws:Int))/\(fo=Z->gW ws (bj m ws N.p h)=[])
noncomputable def cx:Nt:=⟨[],[],[],[]⟩
theorem wJ(m:Int)(ws:-Wy):eO m ws cx:=⟨.nil,(λ_ h=>nomatch h),.nil,(λ_ h=>nomatch h),.nil,(λ_ h=>nomatch h),(λ_ h=>nomatch h),λ_ _=>⟨(λh=>nomatch h),(λh=>nomatch h)⟩,λi fo h e=>by simp[cx] at e⟩
section
variable{m:Int}{ws:-Wy}{N:Nt}
theorem UD{p:-Int}{n:Int}(h:n∈p):bE (gU ws p) (aG ws n).1 (aG ws n).2.1:=.one ⟨n,h,Y⟩
theorem lM(W:aO m ws){p:-Int}{h x:Int}:x∈bj m ws p h↔(0<=x/\x<m)/\bE (gU ws p) h x:=by
 let:=W.m1;unfold bj;rw[TM];calc and_congr_left' ⟨λz=>by symm,λz=>by symm⟩
theorem D1(W:aO m ws){n:Int}(hn:0<=n/\n<(↑ws:Int)):(0<=(aG ws n).1/\(aG ws n).1<m)/\(0<=(aG ws n).2.1/\(aG ws n).2.1<m):=by
 let⟨i,k,_,e1,e2,h1,h2⟩:=JN W hn.1 hn.2;symm
theorem Kd(W:aO m ws){p:-Int}{h n:Int}(hn:0<=n/\n<(↑ws:Int))(c:bE (gU ws p) (aG ws n).1 (aG ws n).2.1):(aG ws n).1∈bj m ws p h↔(aG ws n).2.1∈bj m ws p h:=by
 let⟨r1,r2⟩:=D1 W hn;rw[lM W,lM W];calc⟨λz=>⟨r2,z.2.trans c⟩,λz=>⟨r1,z.2.trans c.symm⟩⟩
theorem Ke{l:-Int}{y:Wy}(h:y.1∈l↔y.2.1∈l):fD l y=ι:=by
 unfold fD
 by_cases c:y.1∈l
 .rw[q0i c,q0i (h.mp c)];rfl
 .rw[Zi c,Zi λz=>c (h.mpr z)];rfl
theorem Kf{l:-Int}{y:Wy}(h:fD l y=ι):y.1∈l↔y.2.1∈l:=by
 unfold fD at h
 by_cases c:y.1∈l<;>by_cases d:y.2.1∈l<;>simp[c,d] at h ⊢
theorem fy{l:-Int}{n:Int}:n∈gW ws l↔(0<=n/\n<(↑ws:Int))/\fD l (aG ws n)=θ:=by
 unfold gW;rw[q0M,sD]
theorem Kg{l:-Int}(h:gW ws l=[]){n:Int}(hn:0<=n/\n<(↑ws:Int)):(aG ws n).1∈l↔(aG ws n).2.1∈l:=by
 refine Kf ?_
 cases q:fD l (aG ws n) with
 |false=>rfl
 |true=>let:=fy.mpr ⟨hn,q⟩;rw[h] at this;calc nomatch this
theorem UE(ws:-Wy)(l:-Int):Up (gW ws l):=(DF _).filter _
theorem Kh{p:-Int}(hp:Nums ws p){l:-Int}(hc:∀n,0<=n/\n<(↑ws:Int)->((aG ws n).1∈l↔(aG ws n).2.1∈l)){a b:Int}(c:bE (gU ws p) a b)(ha:a∈l):b∈l:=by
 induction c with
 |rf=>exact ha
 |st _ UG ih =>
  let⟨w,⟨k,hk,rfl⟩,hw⟩:=UG;let:=hc k (hp k hk);rcases hw with⟨e1,e2⟩|⟨e1,e2⟩
  .rw[<-e2];rw[<-e1] at ih;exact this.mp ih
  .rw[<-e1];rw[<-e2] at ih;calc this.mpr ih
theorem wK(m:Int)(ws:-Wy)(p:-Int)(h:Int):Up (bj m ws p h):=TN _ _ _
theorem um(W:aO m ws){p:-Int}{h:Int}:↑(bj m ws p h)<=12:=by
 let:=W.iI;calc q0w (wH (n:=m.toNat) (wK m ws p h) λx hx=>by let:=((lM W).mp hx).1;symm) ⋯
theorem UH(W:aO m ws){p:-Int}{h:Int}(hh:0<=h/\h<m):h∈bj m ws p h:=(lM W).mpr ⟨hh,.rf⟩
theorem Ki{p p':-Int}(h:∀x∈p,x∈p'){a b:Int}(c:bE (gU ws p) a b):bE (gU ws p') a b:=c.mono λv ⟨k,hk,e⟩↦⟨k,h k hk,e⟩
theorem UI(W:aO m ws){p p':-Int}(UJ:Nums ws p')(h:∀x∈p,x∈p'){a:Int}(ha:0<=a/\a<m)(e:gW ws (bj m ws p a)=[]):bj m ws p' a=bj m ws p a:=by
 refine ug (wK ..) (wK ..) λx=>⟨λhx=>?_,λhx=>?_⟩
 .exact Kh UJ (λn hn=>Kg e hn) ((lM W).mp hx).2 (UH W ha)
 .let⟨h1,h2⟩:=(lM W).mp hx
  calc(lM W).mpr ⟨h1,Ki h h2⟩
theorem e7{l p:-Int}{n:Int}:n∈jV ws l p↔((0<=n/\n<(↑ws:Int))/\(aG ws n).1∈l/\(aG ws n).2.1∈l)/\n∉p:=by
 unfold jV pH;rw[q0M,q0M,sD,q0t,q0G,q0t,q0t]
theorem UK(W:aO m ws){l:-Int}{w:Int}(h:je ws l=U w):0<=w/\w<(↑ws:Int):=by
 unfold je at h;split at h
 .cases h
 .rename_i ne
  cases h
  calc yT _ (Uu ne).1
theorem eO.step(W:aO m ws)(O:eO m ws N){e:fN}(he:gN m N e):eO m ws (N.step m ws e):=by
 cases e with
 |wake h =>
  unfold Nt.step;dsimp only;split
  .refine⟨O.pu,O.pn,O.ku,O.kn,O.su,O.sn,O.gz,O.sc,λi fo h' e=>?_⟩
   let e:(N.q++[Z])[i]?=U (U (fo,h')):=e
   by_cases c:i<↑N.q
   .rw[Zd c] at e;exact O.q i fo h' e
   .rw[Zf ⋯] at e
    cases z:i-↑N.q with
    |zero=>rw[z] at e;cases e
    |succ j=>rw[z] at e;simp at e
  .refine⟨O.pu,O.pn,qG _,λn hn=>?_,O.su,O.sn,λn hn=>?_,O.sc,λi fo h' e=>?_⟩
   .rcases q0u.mp (bN.mp hn) with z|z
    .exact O.kn n z
    .exact (e7.mp z).1.1
   .rcases q0u.mp (bN.mp hn) with z|z
    .exact O.gz n z
    .let⟨⟨_,z1,z2⟩,_⟩:=e7.mp z
     exact((lM W).mp z1).2.symm.trans ((lM W).mp z2).2
   .let e:(N.q++[U (je ws (bj m ws N.p h),h)])[i]?=U (U (fo,h')):=e
    by_cases c:i<↑N.q
    .rw[Zd c] at e;exact O.q i fo h' e
    .rw[Zf ⋯] at e
     cases z:i-↑N.q with
     |zero =>
      rw[z] at e;let e:U (je ws (bj m ws N.p h),h)=U (fo,h'):=by simpa using e
      cases e
      calc⟨he,λw hw=>UK W hw,λz=>?_⟩;unfold je at z;split at z
      .assumption
      .cases z
     |succ j=>rw[z] at e;simp at e
 |fin i =>
  let⟨fo,h,hq⟩:=he;let⟨hh,hw,hn⟩:=O.q i fo h hq
  let qs:∀j jX h',(N.q.set i Z)[j]?=U (U (jX,h'))->N.q[j]?=U (U (jX,h')):=λj jX h' e=>by
   by_cases c:i=j
   .subst c
    rw[q01 (Hy.mp hq).1] at e;cases e
   .rwa [q02 c] at e
  unfold Nt.step;dsimp only;rw[hq];dsimp only;unfold fM
  cases fo with
  |none =>
   dsimp only;split
   .exact⟨O.pu,O.pn,O.ku,O.kn,O.su,O.sn,O.gz,O.sc,λj jX h' e=>O.q j jX h' (qs j jX h' e)⟩
   .refine⟨O.pu,O.pn,O.ku,O.kn,qG _,λx hx=>?_,O.gz,λn hr=>?_,λj jX h' e=>O.q j jX h' (qs j jX h' e)⟩
    .rcases q0u.mp (bN.mp hx) with z|z
     .exact O.sn x z
     .exact ((lM W).mp z).1
    .rw[bN,bN,q0u,q0u]
     exact or_congr (O.sc n hr) (Kg (hn Y) hr)
  |some w =>
   dsimp only;split
   .exact⟨O.pu,O.pn,O.ku,O.kn,O.su,O.sn,O.gz,O.sc,λj jX h' e=>O.q j jX h' (qs j jX h' e)⟩
   .let mo:∀x∈N.p,x∈fY (N.p++[w]):=λx hx=>bN.mpr (q1p _ hx)
    let pn:Nums ws (fY (N.p++[w])):=λx hx=>by
     rcases q0u.mp (bN.mp hx) with z|z
     .exact O.pn x z
     .rw[q0D.mp z];exact hw w Y
    calc⟨qG _,pn,O.ku,O.kn,O.su,O.sn,λn pU=>Ki mo (O.gz n pU),O.sc,λj jX h' e=>?_⟩;let⟨a1,a2,a3⟩:=O.q j jX h' (qs j jX h' e);calc⟨a1,a2,λz=>?_⟩;show gW ws (bj m ws (fY (N.p++[w])) h')=[];rw[UI W pn mo a1 (a3 z)];calc a3 z
theorem eO.run(W:aO m ws):∀{N:Nt}{es:-fN},eO m ws N->nM m ws N es->eO m ws (runN m ws N es)
 |_,[],O,_=>O
 |N,e::r,O,⟨h1,h2⟩=>eO.run W (N:=N.step m ws e) (es:=r) (eO.step W O h1) h2
theorem eO.pl(W:aO m ws)(O:eO m ws N):↑N.p<=30:=q0w (wH O.pu O.pn) W.iP
theorem eO.kl(W:aO m ws)(O:eO m ws N):↑N.k<=30:=q0w (wH O.ku O.kn) W.iP
theorem eO.sl(W:aO m ws)(O:eO m ws N):↑N.s<=12:=by
 let:=W.iI;calc q0w (wH (n:=m.toNat) O.su λx hx=>by let:=O.sn x hx;symm) ⋯
end
end LJ
namespace L2
open PySem PySem.Spec PyProof.Rows
variable[aR]
inductive RK where
 |p (d:D)|w (a:O)|n (ds:-D)|u (t:Bool) (fs:-FV)
abbrev GK:=-DV->-OV->(RK->-OV->-OV->Prop)->Prop
def wL(F' H H':Hp)(aN:-O)(c5:-(Option OV))(v:V):RK->Prop
 |.p d=>Is F' d v
 |.w a=>v=.ref a
 |.u t fs=>∃b us,v=.ref b/\F' b=U (ou t us)/\fH F' fs us
 |.n ds=>∃b us,v=.ref b/\H b=Z/\H' b=U (.lst us)/\F' b=Z/\af F' ds us/\¬ Lv aN c5 b
structure Kj(F:Hp)(ad:-O)(aB:-OV)(H:Hp)(r:RK)(ows news:-OV)(v:V)(F':Hp)(aN:-O)(H':Hp):Prop where
 ext:Ext F ad (aB.map U) H F' aN ((ows++news).map U) H'
 sr:SR F' aN ⟨[],(ows++news).map U⟩ [] H'
 len:↑ows=↑aB
 res:wL F' H H' aN ((ows++news).map U) v r
inductive lN (G:GK) (n:Nat) (vs:-V) (H:Hp) (Q:VK) (_:XK):Prop
 |mk (hl:↑vs=n) (F:Hp) (ad:-O) (ys:-DV) (aB:-OV) (K:RK->-OV->-OV->Prop) (S:SR F ad ⟨ys.map U,aB.map U⟩ (vs.map U) H) (g:G ys aB K) (k:∀r ows news,K r ows news->∀v F' aN H',Kj F ad aB H r ows news v F' aN H'->Q v H')
def sJ(n:Nat)(K:RK->-OV->-OV->Prop)(x:DV)(δ:aM):Prop:=∃ows news gs,δ.mu=(ows++news).map U++gs/\↑ows=n/\match x with
 |.p d=>K (.p d) ows news
 |.w a=>K (.w a) ows news
 |.u t fs=>K (.u t fs) ows news
 |.o k=>↑(ows++news)<=k/\match δ.mu[k]? with
  |some (some (.lst ds))=>K (.n ds) ows news
  |_=>False
 |.t _ _=>False
noncomputable def ae(n:Nat)(K:RK->-OV->-OV->Prop):KS where
 nx:=sJ n K (.p .non)
 rt:=sJ n K
section
variable{F F' H H':Hp}{ad aN:-O}{σ σ':St}{δ:aM}{mu c5:-(Option OV)}
theorem uo{α:Type}{l:-α}{n k:Nat}{a:α}(e:(l.take n)[k]?=U a):k<n/\l[k]?=U a:=by
 let hk:k<n:=by
  let:=(Hy.mp e).1;rw[q0E] at this;symm
 rw[q0I hk] at e;calc⟨hk,e⟩
theorem SR.cut(m:Nat)(S:SR F ad δ σ H):SR F (ad.take m) ⟨[],δ.mu.take m⟩ [] H:=by
 refine⟨S.sub,λa x=>S.off a x.take,?_,λk l a w w' e1 e2 e3 e4=>S.inj k l a w w' (uo e1).2 (uo e2).2 (uo e3).2 (uo e4).2,λk ov e=>?_,λi x e=>by simp at e,Y,S.tab,S.nt⟩
 .show ↑(ad.take _)=↑(δ.mu.take _)
  rw[q0E,q0E,S.cF]
 .let⟨e1,e2⟩:=uo e
  let⟨a,o,e3,h⟩:=S.mu k ov e2;calc⟨a,o,by rw[q0I e1];calc e3,h⟩
theorem Ext.cut{m:Nat}(e:Ext F ad mu H F' aN c5 H')(hm:↑ad<=m):Ext F ad mu H F' (aN.take m) (c5.take m) H' :=
 ⟨e.same,e.new,e.keep,λk a h=>by rw[q0I (q0j (Hy.mp h).1 hm)];calc e.pre k a h,λa x=>e.cA a x.take,e.iW⟩
theorem Kk{aB:-OV}{x:DV}{v:V}{K:RK->-OV->-OV->Prop}{Q:VK}{sl:-(Option DV)}{τ:St}(S0:SR F ad ⟨sl,aB.map U⟩ τ H)(E:Ext F ad (aB.map U) H F' aN δ.mu H')(S:SR F' aN δ σ' H')(V:dI F' aN x v)
  (h:sJ ↑aB K x δ) (k:∀r ows news,K r ows news->∀v F' aN H',Kj F ad aB H r ows news v F' aN H'->Q v H'):Q v H':=by
 let⟨ows,news,gs,em,hl,h⟩:=h;let al:↑ad=↑aB:=by let:=S0.cF;rwa [Ba] at this
 let tk:δ.mu.take ↑(ows++news)=(ows++news).map U:=by rw[em,List.take_left' (by rw[Ba])]
 let E2:=E.cut (m:=↑(ows++news)) (by rw[al,Pz];symm);let S2:=S.cut ↑(ows++news);rw[tk] at E2 S2
 cases x with
 |p d=>exact k _ _ _ h _ _ _ _ ⟨E2,S2,hl,V⟩
 |w a=>exact k _ _ _ h _ _ _ _ ⟨E2,S2,hl,V⟩
 |u t fs=>exact k _ _ _ h _ _ _ _ ⟨E2,S2,hl,V⟩
 |t _ _=>exact h.elim
 |o i =>
  let⟨hi,h⟩:=h;split at h
  .rename_i ds ei
   let⟨a,e1,rfl⟩:=V;let⟨a',o,e2,e3,vs,rfl,h4⟩:=S.mu i _ ei;rw[e1] at e2;cases e2;refine k _ _ _ h _ _ _ _ ⟨E2,S2,hl,a,vs,Y,?_,e3,S.off a ⟨i,_,e1,ei⟩,h4,λ⟨j,ov,z1,z2⟩=>?_⟩
   .rcases E.cA a ⟨i,_,e1,ei⟩ with⟨j,ov,z,_⟩|z
    .let hj:j<↑ows:=by rw[hl,<-al];exact(Hy.mp z).1
     let mj:δ.mu[j]?=U (U ows[j]):=by
      rw[em,Zd (by rw[Ba,Pz];symm),PB,Zd hj,xF hj];rfl
     let:=S.inj i j a _ _ e1 (E.pre j a z) ei mj;rw[Pz] at hi;symm
    .exact z
   .have ⟨hj,z1⟩:=uo z1
    let mj:δ.mu[j]?=U (U ov):=by
     rw[em,Zd (by rw[Ba];calc hj)];exact z2
    let:=S.inj i j a _ _ e1 z1 ei mj;symm
  .calc h.elim
end
theorem gj.D2{P:t}{w:ω}{K:My}{mg:J->Option L}{base:I}{x qual:J}{st:R}{f:O}{fd:FuncData}{N ps:-J}{k:Nat}{G:GK}(F:gj K x qual st f fd)(S:n8 N ps (cK st))
  (eT:∀(bH:L)(A:o)(outer:-X)(s:ο)(H:Hp)(E:XK),bD k (A.deeper (envOfC qual (cK st) ⇑s f bH)) →
   ∃B:WS,dO (fm ft P w K mg base N qual (cK st) f bH A outer s H E).lj (f_ st) (dW B)/\∀ys aB K',↑ys=↑ps->G ys aB K'->B (ae ↑aB K') ⟨ys.map U++q0f (↑N-↑ps) Z,aB.map U⟩) :
  cj P w K mg base ft (k+1) f fd ps (lN G ↑ps) :=
 F.xG S (λvs H Q E h=>h.1) λbH A outer s H vs Q E hr h=>by
  let⟨hl,Fz,ad,ys,aB,K',S0,g,kk⟩:=h;let⟨B,jb,hb⟩:=eT bH A outer s H E hr
  let hy:↑ys=↑ps:=by
   let:=S0.len;rw[Ba] at this;rw[<-hl,this];rw[Ba]
  refine⟨_,jb,Fz,ad,⟨ys.map U++q0f (↑N-↑ps) Z,aB.map U⟩,ae ↑aB K',by rw[<-hl];calc S0.start,hb ys aB K' hy g,⟨fun δ' h F' aN σ' H' E' S'=>?_,fun δ' h=>h.elim,fun δ' h=>h.elim,λy δ' h v F' aN σ' H' E' S' V=>?_,trivial⟩⟩
  .exact Kk (σ':=σ') S0 E' S' (x:=.p .non) (v:=.non) Y h kk
  .calc Kk (σ':=σ') S0 E' S' V h kk
def yX(mu:-(Option OV)):-(Nat×OV)->Prop
 |[]=>True
 |(k,ov)::r=>mu[k]?=U (U ov)/\yX mu r
theorem Kl{mu:-(Option OV)}:∀{es:-(Nat×OV)},yX mu es->∀ko∈es,mu[ko.1]?=U (U ko.2)
 |(k,ov)::r,h,ko,hk=>by
  rcases PC.mp hk with rfl|hk
  .exact h.1
  .calc Kl h.2 ko hk
section
variable{F F' H H':Hp}{ad aN:-O}{δ:aM}{σ σ':St}
theorem UL{xs:-DV}{vs:-V}{r:-DV×-(Nat×OV)}{es:-(Nat×OV)}{G:GK}{n:Nat}{Q:VK}{E:XK}{K:RK->-OV->-OV->Prop}(S:SR F ad δ σ H)(V:cS F ad xs vs)(hn:↑vs=n)(hp:passes δ.mu xs 0=U r)(he:yX δ.mu es)(nd:kQ (r.2++es)=θ)(g:G r.1 ((r.2++es).map (·.2)) K)
  (fin:∀res ows news v F' aN H',K res ows news->Ext F ad δ.mu H F' aN (cP δ.mu (r.2++es) ows++news.map U) H'->SR F' aN ⟨δ.sl,cP δ.mu (r.2++es) ows++news.map U⟩ σ H'->wL F' H H' aN (cP δ.mu (r.2++es) ows++news.map U) v res->Q v H'):lN G n vs H Q E:=by
 let⟨UM,yY,b0,c⟩:=tW S.mu hp V;let⟨_,c1,c2⟩:=c [] Y;let⟨D3,Km⟩:∃D3:-O,D3=es.map λko=>(ad[ko.1]?).getD 0:=⟨_,Y⟩;let⟨as,has⟩:∃as,as=UM++D3:=⟨_,Y⟩;let⟨bX,sL⟩:∃bX,bX=r.2++es:=⟨_,Y⟩;rw[<-sL] at nd g fin
 let b:∀(i:Nat)(ko:Nat×OV),bX[i]?=U ko->δ.mu[ko.1]?=U (U ko.2)/\∃a o,as[i]?=U a/\ad[ko.1]?=U a/\H a=U o/\eU F a ko.2 o:=λi ko e=>by
  rw[sL] at e
  by_cases hi:i<↑r.2
  .rw[Zd hi] at e
   let⟨z1,a,o,z2,z3⟩:=b0 i ko e;exact⟨z1,a,o,by rw[has,Zd (by rw[yY];calc hi)];calc z2,z3⟩
  .let hi:↑r.2<=i:=by symm
   rw[Zf hi] at e;let m:=Kl he ko (q0S e);let⟨a,o,z1,z2⟩:=S.mu _ _ m;calc⟨m,a,o,?_,z1,z2⟩;rw[has,Zf (by rw[yY];calc hi),yY,Km,PB,e];show U ((ad[ko.1]?).getD 0)=U a;rw[z1];rfl
 let al:↑as=↑bX:=by rw[has,sL,Pz,Pz,yY,Km,Ba]
 let kj:∀(i:Nat)(a:O),as[i]?=U a->Lv ad δ.mu a/\∃ko,bX[i]?=U ko/\ad[ko.1]?=U a/\δ.mu[ko.1]?=U (U ko.2):=λi a e=>by
  let hi:i<↑bX:=by rw[<-al];exact(Hy.mp e).1
  let⟨m1,a',o,e1,e2,_,_⟩:=b i _ (xF hi);rw[e] at e1;cases e1;exact⟨⟨_,_,e2,m1⟩,_,xF hi,e2,m1⟩
 let UN:∀(i:Nat)(ov:OV),((bX.map (·.2)).map U)[i]?=U (U ov)->∃ko,bX[i]?=U ko/\ko.2=ov:=λi ov e=>by
  let e:=vG e;rw[PB] at e;let⟨ko,e1,e2⟩:=q0a.mp e;exact⟨ko,e1,e2⟩
 refine⟨hn,F,as,r.1,bX.map (·.2),K,⟨S.sub,λa ⟨i,ov,e1,e2⟩↦S.off a (kj i a e1).1,by rw[al];rw[Ba,Ba],λi j a ov ow e1 e2 _ _=>?_,λi ov e=>?_,λi y e=>?_,?_,S.tab,S.nt⟩,g,λres ows news hk v F' aN H' P=>?_⟩
 .let⟨_,ko,k1,k2,k3⟩:=kj i a e1
  let⟨_,kp,p1,p2,p3⟩:=kj j a e2;let:ko.1=kp.1:=S.inj _ _ a _ _ k2 p2 k3 p3;exact BL nd i j ko.1 ko.2 kp.2 k1 (by rw[this];calc p1)
 .let⟨ko,e1,rfl⟩:=UN i ov e
  let⟨_,a,o,e2,_,e4,e5⟩:=b i ko e1;exact⟨a,o,e2,e4,e5⟩
 .let⟨v,e1,e2⟩:=c2 i y (vG e)
  calc⟨v,vH e1,?_⟩;rw[q40] at e2;exact e2.pre λk a h _=>by rw[has,Zd (Hy.mp h).1];exact h
 .show ↑(vs.map U)=↑(r.1.map U)
  rw[Ba,Ba,c1]
 .let X:=P.ext
  let T:=P.sr;let ol:↑ows=↑bX:=by rw[P.len,Ba]
  let cF:↑aN=↑bX+↑news:=by
   let:=T.cF;rw[this];show↑((ows++news).map U)=_;rw[Ba,Pz,ol]
  let vL:∀a,Lv as ((bX.map (·.2)).map U) a->Lv ad δ.mu a:=λa ⟨i,_,e,_⟩↦(kj i a e).1
  let ZE:∀(i:Nat)(a:O),as[i]?=U a->Lv as ((bX.map (·.2)).map U) a:=λi a e=>by
   let⟨_,ko,k1,_⟩:=kj i a e;exact⟨i,ko.2,e,vH (by rw[PB,k1];rfl)⟩
  let pre:∀(i:Nat)(a:O),as[i]?=U a->aN[i]?=U a:=X.pre;let mo:∀(i:Nat)(ow:OV),ows[i]?=U ow->((ows++news).map U)[i]?=U (U ow):=λi ow e=>vH (by rw[Zd (Hy.mp e).1];calc e);let mn:∀(j:Nat)(w:OV),news[j]?=U w->((ows++news).map U)[↑bX+j]?=U (U w):=λj w e=>vH (by rw[Zf ⋯,ol,q4C];calc e);let pJ:↑(cP δ.mu bX ows)=↑ad:=by rw[BM,S.cF]
  let gz:∀(l:Nat)(ow:OV),(cP δ.mu bX ows++news.map U)[l]?=U (U ow)->(∃(i:Nat)(ko:Nat×OV),l<↑ad/\bX[i]?=U ko/\ko.1=l/\ows[i]?=U ow)\/(l<↑ad/\(∀ko∈bX,ko.1≠l)/\δ.mu[l]?=U (U ow))\/(↑ad<=l/\news[l-↑ad]?=U ow):=λl ow e=>by
   by_cases hl:l<↑ad
   .rw[Zd (by rw[pJ];calc hl)] at e
    by_cases z:∃ko∈bX,ko.1=l
    .let⟨ko,hk,rfl⟩:=z
     let⟨i,hi⟩:=q0d.mp hk;let nv:i<↑ows:=by rw[ol];exact(Hy.mp hi).1
     let:=BN (mu:=δ.mu) nd hi (xF nv) (Hy.mp (b i ko hi).1).1;rw[e] at this;cases this
     exact .inl ⟨i,ko,hl,hi,Y,xF nv⟩
    .let z':∀ko∈bX,ko.1≠l:=λko hk q=>z ⟨ko,hk,q⟩
     rw[vK _ _ _ _ z'] at e;exact .inr (.inl ⟨hl,z',e⟩)
   .rw[Zf (by rw[pJ];symm),pJ] at e
    exact .inr (.inr ⟨⋯,vG e⟩)
  let gn:∀(l:Nat)(a:O),↑ad<=l->(ad++aN.drop ↑bX)[l]?=U a->aN[↑bX+(l-↑ad)]?=U a:=λl a hl e=>by
   rw[Zf hl,q5V] at e;exact e
  let go:∀(l:Nat)(a:O),l<↑ad->(ad++aN.drop ↑bX)[l]?=U a->ad[l]?=U a:=λl a hl e=>by
   rw[Zd hl] at e;exact e
  let oJ:∀(l:Nat)(ow:OV)(a:O),(ad++aN.drop ↑bX)[l]?=U a->(cP δ.mu bX ows++news.map U)[l]?=U (U ow)->(Lv ad δ.mu a/\l<↑ad/\ad[l]?=U a/\∃w,δ.mu[l]?=U (U w))\/(↑ad<=l/\aN[↑bX+(l-↑ad)]?=U a/\((ows++news).map U)[↑bX+(l-↑ad)]?=U (U ow)):=λl ow a e1 e2=>by
   rcases gz l ow e2 with⟨i,ko,hl,hi,rfl,_⟩|⟨hl,_,q⟩|⟨hl,q⟩
   .exact .inl ⟨⟨_,_,go _ _ hl e1,(b i ko hi).1⟩,hl,go _ _ hl e1,_,(b i ko hi).1⟩
   .exact .inl ⟨⟨_,_,go _ _ hl e1,q⟩,hl,go _ _ hl e1,_,q⟩
   .exact .inr ⟨hl,gn l a hl e1,mn _ _ q⟩
  let alive:∀a,Lv ad δ.mu a->∃o,H a=U o/\a∉aR.ad:=λa ⟨k,ov,e1,e2⟩=>by
   let⟨a',o,e3,e4,h⟩:=S.mu k ov e2;rw[e1] at e3;cases e3;calc⟨o,e4,λt=>?_⟩;let⟨ps,q⟩:=aR.tb S.tab t;rw[e4] at q;exact h.kind ps (q0v q)
  let rY:∀a,Lv ad δ.mu a->F' a=Z:=λa l=>by
   cases q:F' a with
   |none=>rfl
   |some u =>
    rcases X.new a u q with y|y|⟨i,ov,y,_⟩
    .rw[S.off a l] at y;cases y
    .let⟨o,z,_⟩:=alive a l
     rw[y] at z;cases z
    .let⟨_,ko,k1,_⟩:=kj i a y
     let hi:i<↑ows:=by rw[ol];exact(Hy.mp k1).1
     rw[T.off a ⟨i,ows[i],pre i a y,mo i _ (xF hi)⟩] at q;cases q
  let Kn:∀(j:Nat)(a:O)(w:OV),aN[↑bX+j]?=U a->((ows++news).map U)[↑bX+j]?=U (U w)->¬ Lv ad δ.mu a:=λj a w e1 e2 l=>by
   rcases X.cA a ⟨_,w,e1,e2⟩ with⟨i,ov,y,_⟩|y
   .let hi:i<↑ows:=by rw[ol,<-al];exact(Hy.mp y).1
    let:=T.inj _ _ a _ _ e1 (pre i a y) e2 (mo i _ (xF hi));symm
   .let⟨o,z,_⟩:=alive a l
    rw[y] at z;cases z
  let ex:Ext F ad δ.mu H F' (ad++aN.drop ↑bX) (cP δ.mu bX ows++news.map U) H':=by
   refine⟨X.same,λa o e=>?_,λa o e n t=>X.keep a o e (λz=>n (vL a z)) t,λk a e=>by rw[Zd (Hy.mp e).1];calc e,λa ⟨l,ow,e1,e2⟩=>?_,X.iW⟩
   .rcases X.new a o e with z|z|z
    .exact .inl z
    .exact .inr (.inl z)
    .exact .inr (.inr (vL a z))
   .rcases oJ l ow a e1 e2 with⟨z,_⟩|⟨_,z1,z2⟩
    .exact .inl z
    .rcases X.cA a ⟨_,_,z1,z2⟩ with z|z
     .exact .inl (vL a z)
     .exact .inr z
  let sr:SR F' (ad++aN.drop ↑bX) ⟨δ.sl,cP δ.mu bX ows++news.map U⟩ σ H':=by
   refine⟨T.sub,λa ⟨l,ow,e1,e2⟩=>?_,?_,λk l a ov ow e1 e2 e3 e4=>?_,λl ow e=>?_,λi y e=>?_,S.len,T.tab,T.nt⟩
   .rcases oJ l ow a e1 e2 with⟨z,_⟩|⟨_,z1,z2⟩
    .exact rY a z
    .exact T.off a ⟨_,_,z1,z2⟩
   .show ↑(ad++aN.drop ↑bX)=↑(cP δ.mu bX ows++news.map U)
    rw[Pz,Pz,pJ,q2e,cF,Ba,q4C]
   .rcases oJ k ov a e1 e3 with⟨z,_,y1,w1,y2⟩|⟨jy,z1,z2⟩
    .rcases oJ l ow a e2 e4 with⟨_,_,y3,w2,y4⟩|⟨_,z1,z2⟩
     .exact S.inj k l a _ _ y1 y3 y2 y4
     .exact (Kn _ _ _ z1 z2 z).elim
    .rcases oJ l ow a e2 e4 with⟨z,_⟩|⟨jP,z3,z4⟩
     .exact (Kn _ _ _ z1 z2 z).elim
     .let:=T.inj _ _ a _ _ z1 z3 z2 z4
      symm
   .rcases gz l ow e with⟨i,ko,hl,hi,rfl,ho⟩|⟨hl,z,q⟩|⟨hl,q⟩
    .let⟨_,a,o,e1,e2,_,_⟩:=b i ko hi
     let⟨a',o',e3,e4,h5⟩:=T.mu i ow (mo i ow ho);rw[pre i a e1] at e3;cases e3;exact⟨a,o',by rw[Zd hl];calc e2,e4,h5⟩
    .let⟨a,o,e1,e2,h⟩:=S.mu l ow q
     let lv:Lv ad δ.mu a:=⟨l,ow,e1,q⟩;calc⟨a,o,by rw[Zd hl];calc e1,X.keep a o e2 (λ⟨i,_,y,_⟩=>?_) (alive a lv).choose_spec.2,h.same X.same⟩;let⟨_,ko,k1,k2,k3⟩:=kj i a y;exact z ko (q0d.mpr ⟨i,k1⟩) (S.inj _ _ a _ _ k2 e1 k3 q)
    .let⟨a,o,e1,e2,h⟩:=T.mu _ _ (mn _ _ q)
     exact⟨a,o,by rw[Zf hl,q5V];calc e1,e2,h⟩
   .let⟨v,e1,h⟩:=S.sl i y e
    exact⟨v,e1,h.ext ex⟩
  calc fin res ows news v F' _ H' hk ex sr ?_;let h9:=P.res
  cases res with
  |p d=>exact h9
  |w a=>exact h9
  |u t fs=>exact h9
  |n ds =>
   let⟨c,us,rfl,n1,n2,n3,n4,n5⟩:=h9;calc⟨c,us,Y,n1,n2,n3,n4,λ⟨l,ow,e1,e2⟩=>?_⟩;rcases oJ l ow c e1 e2 with⟨z,_⟩|⟨_,z1,z2⟩
   .let⟨o,y,_⟩:=alive c z
    rw[n1] at y;cases y
   .calc n5 ⟨_,_,z1,z2⟩
end
def aj(δ:aM)(bX:-(Nat×OV))(K:DV->aM->Prop)(r:RK)(ows news:-OV):Prop:=match r with
 |.p d=>K (.p d) ⟨δ.sl,cP δ.mu bX ows++news.map U⟩
 |.w a=>K (.w a) ⟨δ.sl,cP δ.mu bX ows++news.map U⟩
 |.u t fs=>K (.u t fs) ⟨δ.sl,cP δ.mu bX ows++news.map U⟩
 |.n ds=>K (.p (.lst ds)) ⟨δ.sl,cP δ.mu bX ows++news.map U⟩
def aK(δ:aM)(bX:-(Nat×OV))(K:DV->aM->Prop)(r:RK)(ows news:-OV):Prop:=match r with
 |.n ds=>K (.o ↑(cP δ.mu bX ows++news.map U)) ⟨δ.sl,cP δ.mu bX ows++news.map U++[U (.lst ds)]⟩
 |_=>False
def uq(o:Bool)(n:Nat)(G:GK)(xs:-DV)(δ:aM)(K:DV->aM->Prop):Prop:=∃es,yX δ.mu es/\match passes δ.mu xs 0 with
 |some r=>(kQ (r.2++es)=θ/\↑r.1=n)/\G r.1 ((r.2++es).map (·.2)) (if o then aK δ (r.2++es) K else aj δ (r.2++es) K)
 |none=>False
section
variable{F F1 H H1:Hp}{ad bt:-O}{δ δ1:aM}{σ:St}{K:DV->aM->Prop}{Q:VK}{xs:-DV}{vs:-V}{n:Nat}{G:GK}{E:XK}{o:Bool}
theorem yZ(kk:∀x δ',K x δ'->∀v F' aN H',Ext F ad δ.mu H F' aN δ'.mu H'->SR F' aN δ' σ H'->dI F' aN x v->Q v H')(h1:uq o n G xs δ1 K)(E1:Ext F ad δ.mu H F1 bt δ1.mu H1)(S1:SR F1 bt δ1 σ H1)(V1:cS F1 bt xs vs):lN G n vs H1 Q E:=by
 let⟨es,he,h1⟩:=h1;split at h1
 .rename_i r hp
  let⟨⟨nd,hn⟩,h1⟩:=h1;refine UL S1 V1 (by rw[↑V1,<-tX hp,hn]) hp he nd h1 λres ows news v F2 cG H2 hk E2 S2 fL=>?_
  cases o with
  |false =>
   cases res with
   |p d=>exact kk _ _ hk _ _ _ _ (E1.trans E2) S2 fL
   |w a=>exact kk _ _ hk _ _ _ _ (E1.trans E2) S2 fL
   |u t fs=>exact kk _ _ hk _ _ _ _ (E1.trans E2) S2 fL
   |n ds =>
    let⟨a,us,rfl,n1,n2,n3,n4,n5⟩:=fL;calc kk _ _ hk _ _ _ _ (E1.trans (E2.adopt (o:=.lst us) n1 n3)) (S2.adopt n3 n2 n5) ?_;show Is _ (.lst ds) _;exact⟨a,us,Y,cz,n4.same (cI n3)⟩
  |true =>
   cases res with
   |p d=>exact hk.elim
   |w a=>exact hk.elim
   |u t fs=>exact hk.elim
   |n ds =>
    let⟨a,us,rfl,n1,n2,n3,n4,n5⟩:=fL;let oi:eU F2 a (.lst ds) (.lst us):=⟨us,Y,n4⟩;calc kk _ _ hk _ _ _ _ (E1.trans (E2.c6 (ov:=.lst ds) n1 S2.cF)) (S2.c6 n3 n2 n5 oi) ⟨a,?_,Y⟩;let:=S2.cF;rw[<-show ↑cG=↑(cP δ1.mu (r.2++es) ows++news.map U) from this,Zf (Hz _),q0W];rfl
 .calc h1.elim
end
def aF(o:Bool)(n:Nat)(G:GK)(fa:WA):WE:=fun δ K=>fa δ λxs δ1=>uq o n G xs δ1 K
def aI(o:Bool)(C:O)(m:J)(n:Nat)(G:GK)(fo:WE)(fa:WA):WE:=fun δ K=>fo δ λx δ1=>(∃(a:O)(k:Nat)(fs:-(J×FV)),x=.w a/\δ1.mu[k]?=U (U (.ins a C fs))/\fs.lookup m=Z)/\fa δ1 λxs δ2=>uq o n G (x::xs) δ2 K
def aJ(C:O)(n:Nat)(G:GK)(fa:WA):WE:=fun δ K=>fa δ λxs δ1=>∀a,uq ι n G (.w a::xs) ⟨δ1.sl,δ1.mu++[U (.ins a C [])]⟩ λx δ2=>x=.p .non/\K (.w a) δ2
theorem di.look{α:Type}{R:α->V->Prop}{x:J}:∀{fs:-(J×α)}{ws:-(J×V)},di R fs ws->(fs.lookup x=Z/\ws.lookup x=Z)\/∃f v,fs.lookup x=U f/\ws.lookup x=U v/\R f v
 |[],ws,h=>by let h:ws=[]:=h;subst h;exact .inl ⟨Y,Y⟩
 |(y,g)::r,ws,⟨v,t,e,h1,h2⟩=>by
  subst e;rw[q0q,q0q]
  cases q:x==y with
  |true=>exact .inr ⟨_,_,Y,Y,h1⟩
  |false=>calc di.look h2
theorem ju.v{F:Hp}{ad:-O}{v:V}:∀{f:FV},ju F f v->dI F ad f.v v
 |.p _,h=>h
 |.w _,h=>h
noncomputable def mN(f:J)(v:FV):-(J×FV)->-(J×FV)
 |[]=>[(f,v)]
 |(g,x)::r=>if g=f then(g,v)::r else(g,x)::mN f v r
theorem ni.put{F:Hp}{x:J}{g:FV}{v:V}(hg:ju F g v):∀{fs:-(J×FV)}{ws:-(J×V)},ni F fs ws->ni F (mN x g fs) (cY x v ws)
 |[],ws,h=>by let h:ws=[]:=h;subst h;exact⟨v,[],Y,hg,Y⟩
 |(y,f)::r,ws,⟨u,t,e,h1,h2⟩=>by
  subst e;unfold mN cY;split
  .exact⟨v,t,Y,hg,h2⟩
  .calc⟨u,_,Y,h1,ni.put hg h2⟩
def ah(C:O)(x:J)(f:WE):WE:=fun δ K=>f δ λy δ1=>∃(a:O)(k:Nat)(fs:-(J×FV))(v:FV),(y=.w a/\δ1.mu[k]?=U (U (.ins a C fs))/\fs.lookup x=U v)/\K v.v δ1
noncomputable def D4:OV->Option O
 |.al a _=>U a
 |.ac a _=>U a
 |.av a _=>U a
 |_=>Z
def ai(f:WE):WE:=fun δ K=>f δ λy δ1=>∃(a:O)(k:Nat)(ov:OV),(y=.w a/\δ1.mu[k]?=U (U ov)/\D4 ov=U a)/\K (.o k) δ1
def toF(x:DV)(δ:aM)(K:FV->aM->Prop):Prop:=match x with
 |.p d=>K (.p d) δ
 |.w a=>K (.w a) δ
 |.o k=>match δ.mu[k]? with
  |some (some (.lst ds))=>∀a,K (.w a) ⟨δ.sl,δ.mu.set k (U (.al a ds))⟩
  |some (some (.dct kvs))=>∀a,K (.w a) ⟨δ.sl,δ.mu.set k (U (.ac a kvs))⟩
  |_=>False
 |.u _ _=>False
 |.t _ _=>False
def aH(C:O)(x:J)(fv fo:WE):WS:=λK δ=>fv δ λz δ1=>fo δ1 λy δ2=>toF z δ2 λg δ3=>∃(a:O)(k:Nat)(fs:-(J×FV)),(y=.w a/\δ3.mu[k]?=U (U (.ins a C fs))/\fs.length<1000)/\K.nx ⟨δ3.sl,δ3.mu.set k (U (.ins a C (mN x g fs)))⟩
section
variable{F H:Hp}{ad:-O}{δ:aM}{σ:St}
theorem Ko{H:Hp}{a:O}{o:HO}(h:H a=U o):upd H a o=H:=by
 funext b
 by_cases c:b=a
 .subst c;rw[cz,h]
 .rw[bF c]
theorem D5{x:DV}{v:V}{K:FV->aM->Prop}(S:SR F ad δ σ H)(V:dI F ad x v)(h:toF x δ K):∃f δ',K f δ'/\Ext F ad δ.mu H F ad δ'.mu H/\SR F ad δ' σ H/\ju F f v:=by
 cases x with
 |p d=>exact⟨_,_,h,.refl,S,V⟩
 |w a=>exact⟨_,_,h,.refl,S,V⟩
 |u _ _=>exact h.elim
 |t _ _=>exact h.elim
 |o k =>
  let⟨a,e1,rfl⟩:=V;unfold toF at h;dsimp only at h;split at h
  .rename_i ds e
   let⟨a',o,e2,e3,vs,rfl,h4⟩:=S.mu k _ e;rw[e1] at e2;cases e2;let oi:eU F a (.al a ds) (.lst vs):=⟨Y,vs,Y,h4⟩;let E:=Ext.put (ov:=.al a ds) (o:=.lst vs) S e e1;let T:=S.put e e1 oi;rw[Ko e3] at E T;exact⟨_,_,h a,E,T,Y⟩
  .rename_i ds e
   let⟨a',o,e2,e3,vs,rfl,h4⟩:=S.mu k _ e;rw[e1] at e2;cases e2;let oi:eU F a (.ac a ds) (.dK vs):=⟨Y,vs,Y,h4⟩;let E:=Ext.put (ov:=.ac a ds) (o:=.dK vs) S e e1;let T:=S.put e e1 oi;rw[Ko e3] at E T;exact⟨_,_,h a,E,T,Y⟩
  .calc h.elim
theorem D6{k:Nat}{a C:O}{fs:-(J×FV)}(S:SR F ad δ σ H)(h:δ.mu[k]?=U (U (.ins a C fs))):∃dx ws,ad[k]?=U a/\H a=U (.ins C dx ws)/\ni F fs ws:=by
 let⟨a',o,e1,e2,rfl,dx,ws,rfl,h4⟩:=S.mu k _ h;calc⟨dx,ws,e1,e2,h4⟩
end
section
variable{X:Cx}{a b o v:l}{f fo fv:WE}{fa:WA}{C:O}{x m:J}{pos pos' apos p:y}{G:GK}{n k:Nat}{g:O}{fd:FuncData}{ps:-J}{e:l}{es:-l}
theorem nN(c:j7 X.K C)(hx:cM X.K C x)(he:JE X a (tD f))(hb:attributeBase a x X.env (eval a X.env)=eval a X.env:=by rfl):JE X (.Attribute a x pos) (tD (ah C x f)) :=
 (OP he hb).weak fun σ H Q ⟨F,ad,δ,K,S,q,k⟩↦⟨F,ad,δ,_,S,q,λy δ1 h1 u F1 bt H1 E1 S1 V1=>by
  let⟨a,i,fs,w,⟨rfl,hi,hl⟩,h2⟩:=h1;let⟨dx,ws,e1,e2,e3⟩:=D6 S1 hi;rcases e3.look (x:=x) with⟨z,_⟩|⟨f,w',z1,z2,z3⟩
  .rw[z] at hl;cases hl
  .rw[z1] at hl;cases hl
   calc⟨a,C,dx,ws,w',V1,e2,c,hx,z2,k _ _ h2 _ _ _ _ E1 S1 z3.v⟩⟩
theorem qH(he:JE X a (tD f)):JE X a (tD (ai f)) :=
 he.weak fun σ H Q ⟨F,ad,δ,K,S,q,k⟩↦⟨F,ad,δ,_,S,q,λy δ1 h1 u F1 bt H1 E1 S1 V1=>by
  let⟨a,i,ov,⟨rfl,hi,ht⟩,h2⟩:=h1;let⟨a',o,e1,e2,e3⟩:=S1.mu i ov hi
  let:a'=a:=by
   cases ov with
   |al b ds=>cases ht;exact e3.1.symm
   |ac b ds=>cases ht;exact e3.1.symm
   |av b ds=>cases ht;exact e3.1.symm
   |lst _=>cases ht
   |dct _=>cases ht
   |dtt _=>cases ht
   |ins _ _ _=>cases ht
  subst this
  calc k _ _ h2 _ _ _ _ E1 S1 ⟨a',e1,V1⟩⟩
theorem sM[kO](c:j7 X.K C)(hx:cM X.K C x)(ho:JE X o (tD fo))(hv:JE X v (tD fv))(hs:swapsWith v (U (.Attribute o x pos')) pos.line X.env=pure ι:=by rfl):JS X (.Assign [.Attribute o x pos'] v pos) (dW (aH C x fv fo)) :=
 (OQ ho hv hs).weak λD σ H ⟨F,ad,δ,K,S,q,k⟩↦⟨F,ad,δ,_,S,q,λz δ1 h1 u F1 bt H1 E1 S1 V1=>⟨F1,bt,δ1,_,S1,h1,λy δ2 h2 w F2 cG H2 E2 S2 V2=>by
  let⟨g,δ3,h3,E3,S3,ig⟩:=D5 S2 (V1.ext E2) h2;let⟨a,i,fs,⟨rfl,hi,hl⟩,h4⟩:=h3;let⟨dx,ws,e1,e2,e3⟩:=D6 S3 hi;let oi:eU F2 a (.ins a C (mN x g fs)) (.ins C dx (cY x u ws)):=⟨Y,dx,_,Y,ni.put ig e3⟩
  calc⟨a,C,dx,ws,V2,e2,c,hx,by rw[↑e3];calc hl,k.nx _ h4 _ _ _ _ (((E1.trans E2).trans E3).trans (Ext.put S3 hi e1)) (S3.put hi e1 oi)⟩⟩⟩
theorem UO(o:Bool)(Fn:cj X.prog X.w X.K X.mg X.base ft k g fd ps (lN G n))(hr:bD k X.A)(hg:Gl X x)(hm:X.mg x=U (.ref g))(hk:q09 X.K (.ref g)=θ)(hb:Binds X.K fd ps [])
  (ha:JA X (e::es) (cE fa)) (dR:b9 x:=by decide) (he:cR X e es:=by rfl) (dP:dh X pos es:=by rfl) :
  JE X (.Call (.Name x p) (e::es) [] pos) (tD (aF o n G fa)):=(xB Fn hr hg hm hk hb .nil rK ha dR he dP).weak fun σ H Q ⟨F,ad,δ,K,S,q,kk⟩↦⟨F,ad,δ,_,S,q,λxs δ1 h1 vs F1 bt H1 E1 S1 V1=>by
   rw[oo];calc yZ kk h1 E1 S1 V1⟩
theorem UP{r:Bool}{E:XK}:∀σ H Q,tD (aI r C m n G fo fa) σ H Q->G0 C m (lN G n) [] E (tD fo) (cE fa) σ H Q:=fun σ H Q ⟨F,ad,δ,K,S,q,kk⟩=>⟨F,ad,δ,_,S,q,λy δ1 h1 u F1 bt H1 E1 S1 V1=>by
  let⟨⟨a,i,fs,rfl,hi,hl⟩,h2⟩:=h1;let⟨dx,ws,e1,e2,e3⟩:=D6 S1 hi;rcases e3.look (x:=m) with⟨_,z⟩|⟨f,w',z1,z2,z3⟩
  .refine⟨a,dx,ws,V1,e2,z,F1,bt,δ1,_,S1,h2,λxs δ2 h3 vs F2 cG H2 E2 S2 V2=>?_⟩
   rw[oo];exact yZ kk h3 (E1.trans E2) S2 ⟨_,_,Y,V1.ext E2,V2⟩
  .rw[z1] at hl;cases hl⟩
theorem UQ {pl:Sem Bool} (r:Bool) (c:j7 X.K C) (hm:Meth X.K C m g) (Fn:cj X.prog X.w X.K X.mg X.base ft k g fd ps (lN G n)) (hr:bD k X.A) (hb:Binds X.K fd ps []) (ho:JE X o (tD fo)) (ha:JA X (e :: es) (cE fa))
  (iS:cR X e es:=by rfl) (dP:dh X pos es:=by rfl)
  (ht:eval (.Call (.Attribute o m apos) (e :: es) [] pos) X.env=(do
   let ov <- eval o X.env
   standAt apos.atName
   let (f,first) <- holding [ov] (getMethod ov m pl)
   callWith pos f first (backTo pos (starEach (e :: es) X.env)) (backToKw pos (keywordEach [] X.env))):=by rfl) :
  JE X (.Call (.Attribute o m apos) (e :: es) [] pos) (tD (aI r C m n G fo fa)):=(OX ho c hm Fn hr hb .nil rK ha iS dP ht).weak UP
theorem UR{F H F1 H1:Hp}{ad bt:-O}{δ δ1:aM}{σ:St}{K:DV->aM->Prop}{Q:VK}{E:XK}{xs:-DV}{vs:-V}(kk:∀x δ',K x δ'->∀v F' aN H',Ext F ad δ.mu H F' aN δ'.mu H'->SR F' aN δ' σ H'->dI F' aN x v->Q v H')
  (h1:∀a,uq ι n G (.w a::xs) ⟨δ1.sl,δ1.mu++[U (.ins a C [])]⟩ λx δ2=>x=.p .non/\K (.w a) δ2) (E1:Ext F ad δ.mu H F1 bt δ1.mu H1) (S1:SR F1 bt δ1 σ H1) (V1:cS F1 bt xs vs) {x dx:O} (nx:H1 x=Z) (y6:H1 dx=Z) (ne:dx≠x) :
  lN G n (.ref x::vs) (upd (upd H1 dx (.own x)) x (.ins C dx [])) (λv H2=>v=.non/\Q (.ref x) H2) E:=by
 let S2:=S1.al (cI (o:=.own x) y6);let E2:=Ext.al S1 (cI (o:=.own x) y6);let Kp:upd H1 dx (.own x) x=Z:=by rw[bF λz=>ne z.symm];exact nx
 let oi:eU (Nw F1 H1 (upd H1 dx (.own x))) x (.ins x C []) (.ins C dx []):=⟨Y,dx,[],Y,Y⟩;let S3:=S2.own Kp oi;let E3:=Ext.own (o:=.ins C dx []) (ov:=.ins x C []) S2 Kp;calc yZ (K:=λy δ2=>y=.p .non/\K (.w x) δ2) (λy δ' h v F' aN H' X T V=>?_) (h1 x) ((E1.trans E2).trans E3) S3 ⟨_,_,Y,Y,(V1.ext E2).ext E3⟩;let⟨rfl,h⟩:=h;calc⟨V,kk _ _ h _ _ _ _ X T Y⟩
theorem US(M:Mk X.K C g)(Fn:cj X.prog X.w X.K X.mg X.base ft k g fd ps (lN G n))(hr:bD (k+1) X.A)(hg:Gl X x)(hm:X.mg x=U (.ref C))(hb:Binds X.K fd ps [])
  (ha:JA X (e::es) (cE fa)) (dR:b9 x:=by decide) (he:cR X e es:=by rfl) (dP:dh X pos es:=by rfl) :
  JE X (.Call (.Name x p) (e::es) [] pos) (tD (aJ C n G fa)):=(OZ M Fn hr hg hm hb .nil rK ha dR he dP).weak fun σ H Q ⟨F,ad,δ,K,S,q,kk⟩↦⟨F,ad,δ,_,S,q,λxs δ1 h1 vs F1 bt H1 E1 S1 V1 x dx nx y6 ne=>by
   rw[oo];calc UR kk h1 E1 S1 V1 nx y6 ne⟩
end
end L2
namespace L2
open PySem PySem.Spec PyProof.Rows
section
variable{M:Model}{A:o}{E:bA}{s:B}{env:X}{outer:-X}{base:I}{L a C:O}{dx T:Option O}{Q:Unit->B->Prop}
end
section
variable{X:Cx}{P:t}{w:S}{K:My}{mg:J->Option L}{base:I}{N:-J}{qual:J}{scope:a}{f:O}{cd:L}{A:o}{outer:-Ζ}{s:B}{H:Hp}{E:XK}
end
section
variable{X:Cx}{pins dF:aL}{σ:St}{H:Hp}{s:B}{E:bA}
theorem Inv.wM(I:Inv X pins σ H s):Inv {X with pn:=X.pn++pins,xe:=E} [] σ H s :=
 ⟨⟨I.ok.mod,I.ok.kind,I.ok.glob,I.ok.blt,I.ok.above,I.ok.inj,I.ok.has,I.ok.pX,I.ok.hd,I.ok.frames,I.ok.sX,I.ok.xj,I.ok.bs,I.ok.lV,I.ok.iR,I.ok.kC,I.ok.eg,I.ok.mZ⟩,I.os,I.bare,I.base,I.loc,I.cell,I.free,I.cJ,λp hp=>I.pin p hp⁻¹,I.bu,I.len⟩
theorem Inv.kz(I:Inv {X with pn:=X.pn++pins,xe:=E} dF σ H s):Inv X pins σ H s :=
 ⟨⟨I.ok.mod,I.ok.kind,I.ok.glob,I.ok.blt,I.ok.above,I.ok.inj,I.ok.has,I.ok.pX,I.ok.hd,I.ok.frames,I.ok.sX,I.ok.xj,I.ok.bs,I.ok.lV,I.ok.iR,I.ok.kC,I.ok.eg,I.ok.mZ⟩,I.os,I.bare,I.base,I.loc,I.cell,I.free,I.cJ,λp hp=>I.pin p (q1p _ hp),I.bu,I.len⟩
end
section
variable{X:Cx}{body Kq:-R}{b0:R}{x n:J}{p1 p2 pos:y}{L:O}{i:Nat}{tb:XK->TS}{th:TS}
end
variable[aR]
section
variable{X:Cx}{body:-R}{h0:ExceptHandler}{hs:-ExceptHandler}{pos:y}
theorem UT{t:TS}(hb:∀pn,dO {X with pn:=pn,xe:=λ_ _=>False} body t):JS X (.Try body (h0::hs) [] [] pos) t:=by
 calc⟨?_⟩;ext pins s σ H D I h;calc wpAny_Try_except ?_;refine q1M (hb (X.pn++pins) [] s σ H D I.wM h) (λf s1 hq=>?_) (λe s1 z=>z.elim)
 cases f with
 |next =>
  let⟨σ',H',I',q⟩:=hq;exact q3A ⟨σ',H',I'.kz,q⟩
 |brk=>let⟨σ',H',I',q⟩:=hq;exact⟨σ',H',I'.kz,q⟩
 |cont=>let⟨σ',H',I',q⟩:=hq;exact⟨σ',H',I'.kz,q⟩
 |ret u=>let⟨v,σ',H',I',r,q⟩:=hq;calc⟨v,σ',H',I'.kz,r,q⟩
theorem UU[kO]{G:WS}(hb:∀pn,dO {X with pn:=pn,xe:=λ_ _=>False} body (dW G)):JS X (.Try body (h0::hs) [] [] pos) (dW G):=UT hb
end
noncomputable def k6{α:Type}(kvs:-(Key×α))(k:Key):-(Key×α):=kvs.filter λkv=>G (kv.1≠k)
omit [aR] in
theorem di.drop {α:Type} {R:α->V->Prop} (k:Key):∀{gJ:-(Key×α)}{ws:-(Key×V)},di R gJ ws->di R (k6 gJ k) (qi ws k)
 |[],_,h=>by let h:_=[]:=h;subst h;rfl
 |kd::r,_,⟨v,t,e,h1,h2⟩=>by
  subst e;unfold k6 qi;rw[q0_,q0_];split
  .exact⟨v,_,Y,h1,h2.drop k⟩
  .calc h2.drop k
def bc(fo fi:WE):WE:=fun δ K=>fo δ λx δ1=>ar x δ1 λ_ _ _=>fi δ1 λy δ2=>au y λi=>ar x δ2 λk B kvs=>match du kvs (.inl i) with
 |some d=>K (.p d) ⟨δ2.sl,δ2.mu.set k (U (B (k6 kvs (.inl i))))⟩
 |none=>False
def aq(x:J)(f:WE):WE:=fun δ K=>f δ λy δ1=>∃(a:O)(k:Nat)(kvs:-(Key×FV))(v:FV),(y=.w a/\δ1.mu[k]?=U (U (.av a kvs))/\du kvs (.inr x)=U v)/\K v.v δ1
def aW(x:J)(fv fo:WE):WS:=λK δ=>fv δ λz δ1=>fo δ1 λy δ2=>toF z δ2 λg δ3=>∃(a:O)(k:Nat)(kvs:-(Key×FV)),(y=.w a/\δ3.mu[k]?=U (U (.av a kvs))/\↑kvs<1000)/\K.nx ⟨δ3.sl,δ3.mu.set k (U (.av a (putD kvs (.inr x) g)))⟩
def aX:-(J×WE)->aM->(-(Key×FV)->aM->Prop)->Prop
 |[],δ,K=>K [] δ
 |(x,f)::r,δ,K=>f δ λy δ1=>toF y δ1 λg δ2=>aX r δ2 λkvs δ3=>K ((.inr x,g)::kvs) δ3
def bf(es:-(J×WE)):WE:=fun δ K=>aX es ⟨δ.sl,δ.mu++[U (.dct [])]⟩ λkvs δ1=>(δ1.mu[↑δ.mu]?=U (U (.dct []))/\↑kvs<=15)/\∀a,K (.w a) ⟨δ1.sl,δ1.mu.set ↑δ.mu (U (.av a (kvs.foldl (λacc kv=>putD acc kv.1 kv.2) [])))⟩
section
variable{F H:Hp}{ad:-O}{δ:aM}{σ:St}
theorem Kr{k:Nat}{a:O}{kvs:-(Key×FV)}(S:SR F ad δ σ H)(h:δ.mu[k]?=U (U (.av a kvs))):∃ws,ad[k]?=U a/\H a=U (.dK ws)/\ni F kvs ws:=by
 let⟨a',o,e1,e2,rfl,ws,rfl,h4⟩:=S.mu k _ h;calc⟨ws,e1,e2,h4⟩
variable{X:Cx}{o i e v:l}{fo fi fv f:WE}{pos apos:y}{x:J}
theorem UW(ho:JE X o (tD fo))(hi:JE X i (tD fi))(m:M1 X o "pop" apos i pos:=by calc⟨Y,Y,Y,Y⟩):JE X (.Call (.Attribute o "pop" apos) [i] [] pos) (tD (bc fo fi)) :=
 (Qz ho hi m).weak fun σ H Q ⟨F,ad,δ,K,S,q,k⟩=>⟨F,ad,δ,_,S,q,λx δ1 h1 v F1 bt H1 E1 S1 V1=>by
  let⟨k0,B,kvs,a,ws,rfl,h2,rfl,e1,e2,i1,m1,qx⟩:=yM S1 V1 h1;calc⟨a,Y,.inl ⟨ws,.inl e2⟩,F1,bt,δ1,_,S1,h2,λy δ2 h3 u F2 cG H2 E2 S2 V2=>?_⟩;let⟨i,rfl,h4⟩:=DD V2 h3;let⟨k1,B',UX,b,Ks,ek,h5,eb,f1,f2,j1,n1,UY⟩:=yM S2 (V1.ext E2) h4;cases ek
  cases eb
  rcases j1.val (.inl i) with⟨z1,z2⟩|⟨d,v,z1,z2,z3⟩
  .rw[z1] at h5;exact h5.elim
  .rw[z1] at h5
   let oi:=UY (F':=F2) (us:=qi Ks (.inl i)) (j1.drop (.inl i))
   calc⟨Ks,.inl i,v,f2,Y,z2,k _ _ h5 _ _ _ _ ((E1.trans E2).trans (Ext.put S2 n1 f1)) (S2.put n1 f1 oi) z3⟩⟩
theorem jB{jj:Nat}{p2:Ε}(hu:X.A.units+64<cLine)(ho:JE X o (tD fo))(hs:rN (.Constant (.str x) jj p2):=by ext _ _;rfl):JE X (.Subscript o (.Constant (.str x) jj p2) pos) (tD (aq x fo)) :=
 (Qq ⋯ ho xk hs).weak fun σ H Q ⟨F,ad,δ,K,S,q,k⟩↦⟨F,ad,δ,_,S,q,λy δ1 h1 v F1 bt H1 E1 S1 V1=>by
  let⟨a,i,kvs,w,⟨rfl,hi,hl⟩,h2⟩:=h1;let⟨ws,e1,e2,e3⟩:=Kr S1 hi;rcases e3.val (.inr x) with⟨z,_⟩|⟨f,w',z1,z2,z3⟩
  .rw[z] at hl;cases hl
  .rw[z1] at hl;cases hl
   calc⟨a,w',V1,by rw[<-z2];calc gC.k (k:=q39 x) e2,k _ _ h2 _ _ _ _ E1 S1 z3.v⟩⟩
theorem D7[kO]{jj:Nat}{p2 pos':Ε}(hu:X.A.units+64<cLine)(ho:JE X o (tD fo))(hv:JE X v (tD fv))(hs:swapsWith v (U (.Subscript o (.Constant (.str x) jj p2) pos')) pos.line X.env=pure ι:=by rfl):JS X (.Assign [.Subscript o (.Constant (.str x) jj p2) pos'] v pos) (dW (aW x fv fo)) :=
 (HS ⋯ ho xk hv hs).weak λD σ H ⟨F,ad,δ,K,S,q,k⟩↦⟨F,ad,δ,_,S,q,λz δ1 h1 u F1 bt H1 E1 S1 V1=>⟨F1,bt,δ1,_,S1,h1,λy δ2 h2 w F2 cG H2 E2 S2 V2=>by
  let⟨g,δ3,h3,E3,S3,ig⟩:=D5 S2 (V1.ext E2) h2;let⟨a,i,kvs,⟨rfl,hi,hl⟩,h4⟩:=h3;let⟨ws,e1,e2,e3⟩:=Kr S3 hi;let oi:eU F2 a (.av a (putD kvs (.inr x) g)) (.dK (putK ws (.inr x) u)):=⟨Y,_,Y,di.put e3 ig⟩
  calc⟨a,_,V2,kM.k (k:=q39 x) e2 (qg (by rw[↑e3];calc q1d hl)),k.nx _ h4 _ _ _ _ (((E1.trans E2).trans E3).trans (Ext.put S3 hi e1)) (S3.put hi e1 oi)⟩⟩⟩
structure y7(X:Cx)(pos:y)(keys:-(Option l))(values:-l)(es:-(J×WE)):Prop where
 iV:∃iV,vo X pos keys values iV/\∀σ H (Q:-(V×V)->Hp->Prop) F ad δ K,SR F ad δ σ H->aX es δ K →
  (∀kvs δ',K kvs δ'->∀ws F' aN H',Ext F ad δ.mu H F' aN δ'.mu H'->SR F' aN δ' σ H'->ni F' kvs ws->Q (ws.map λkv=>(kV kv.1,kv.2)) H')->xQ iV σ H Q
theorem UZ{pos:y}:y7 X pos [] [] []:=⟨[],Qt,fun σ H Q F ad δ K S q k=>k _ _ q [] _ _ _ .refl S Y⟩
theorem y8{jj:Nat}{p2:Ε}{ks:-(Option l)}{vs:-l}{es:-(J×WE)}(hv:JE X v (tD f))(hr:y7 X pos ks vs es):y7 X pos (U (.Constant (.str x) jj p2)::ks) (v::vs) ((x,f)::es):=by
 let⟨iV,h1,h2⟩:=hr.iV;calc⟨_,Qu xk hv h1,fun σ H Q F ad δ K S q k=>?_⟩;calc⟨F,ad,δ,_,S,q,λy δ1 g1 u F1 bt H1 E1 S1 V1=>?_⟩;let⟨g,δ2,g2,E2,S2,ig⟩:=D5 S1 V1 g1;calc h2 σ H1 _ _ _ δ2 _ S2 g2 λkvs δ3 g3 ws F3 rW H3 E3 S3 i3=>?_;exact k _ _ g3 ((.inr x,u)::ws) _ _ _ ((E1.trans E2).trans E3) S3 ⟨u,ws,Y,ju.same E3.same _ _ ig,i3⟩
omit [aR] in
theorem di.merge {α:Type} {R:α->V->Prop}:∀{more:-(Key×α)}{rs:-(Key×V)}{kvs:-(Key×α)}{ws:-(Key×V)},di R more rs->di R kvs ws->di R (more.foldl (λacc kv=>putD acc kv.1 kv.2) kvs) (rO ws rs)
 |[],_,_,_,h,q=>by let h:_=[]:=h;subst h;exact q
 |kd::r,_,kvs,ws,⟨v,t,e,h1,h2⟩,q=>by
  subst e;let:=di.merge (more:=r) (rs:=t) (kvs:=putD kvs kd.1 kd.2) (ws:=putK ws kd.1 v) h2 (di.put q h1);calc this
theorem U0{keys:-(Option l)}{values:-l}{es:-(J×WE)}(h:y7 X pos keys values es)(iO:keys.all (·.isSome)=θ:=by rfl)(hl:↑keys=↑values:=by rfl)(h0:keys≠[]:=by simp)(Bs:↑keys<=15:=by simp):JE X (.Dict keys values pos) (tD (bf es)):=by
 let⟨iV,h1,h2⟩:=h.iV;calc(Qw h1 iO hl h0 Bs).weak fun σ H Q ⟨F,ad,δ,K,S,q,k⟩ p hp=>?_;let oi:eU F p (.dct []) (.dK []):=⟨[],Y,Y⟩;let lp:(ad++[p])[↑δ.mu]?=U p:=by rw[<-S.cF,Zf (Hz _),q0W];rfl
 calc h2 σ _ _ F (ad++[p]) _ _ (S.own hp oi) q λkvs δ1 ⟨⟨g1,g2⟩,g3⟩ ws F1 bt H1 E1 S1 i1=>?_;let a1:=E1.pre _ _ lp;let⟨p',o,e1,e2,us,rfl,e4⟩:=S1.mu _ _ g1;rw[a1] at e1;cases e1;let eu:us=[]:=e4;subst eu;let oj:eU F1 p (.av p (kvs.foldl (λacc kv=>putD acc kv.1 kv.2) [])) (.dK (rO [] ws)):=⟨Y,_,Y,i1.merge (show di (ju F1) [] [] from Y)⟩;calc⟨e2,ws,Y,by rw[↑i1];calc g2,?_⟩;calc k _ _ (g3 p) _ _ _ _ (((Ext.own S hp).trans E1).trans (Ext.put S1 g1 a1)) (S1.put g1 a1 oj) Y
end
end L2
namespace LJ
open PySem L2
variable[aR]
noncomputable def nP(x:Option Int×Int):D:=.tup [.int x.2,oD x.1]
noncomputable def cf:Nat->-gK->-(Key×D)
 |_,[]=>[]
 |i,none::r=>cf (i+1) r
 |i,some x::r=>(.inl (i:Int),nP x)::cf (i+1) r
theorem D8:∀{i:Nat}{q:-gK},cf i (q++[Z])=cf i q
 |i,[]=>Y
 |i,none::r=>D8 (i:=i+1) (q:=r)
 |i,some x::r=>congrArg (_ :: ·) (D8 (i:=i+1) (q:=r))
theorem D9{x:Option Int×Int}:∀{i:Nat}{q:-gK},cf i (q++[U x])=cf i q++[(.inl ((i+↑q:Nat):Int),nP x)]
 |i,[]=>Y
 |i,none::r=>by
  let:=D9 (x:=x) (i:=i+1) (q:=r);rw[show i+1+↑r=i+↑(Z::r:-gK) by rw[HB];symm] at this;exact this
 |i,some y::r=>by
  let:=D9 (x:=x) (i:=i+1) (q:=r);rw[show i+1+↑r=i+↑(U y::r:-gK) by rw[HB];symm] at this;calc congrArg (_ :: ·) this
theorem wN:∀{i:Nat}{q:-gK}{kv:Key×D},kv∈cf i q->∃j:Nat,kv.1=.inl (j:Int)/\i<=j/\j<i+↑q
 |i,[],kv,h=>nomatch h
 |i,none::r,kv,h=>by
  let⟨j,e,h1,h2⟩:=wN (i:=i+1) (q:=r) h;exact⟨j,e,⋯,by rw[HB];symm⟩
 |i,some x::r,kv,h=>by
  rcases PC.mp h with rfl|h
  .exact⟨i,Y,Hz _,by rw[HB];symm⟩
  .let⟨j,e,h1,h2⟩:=wN (i:=i+1) (q:=r) h
   calc⟨j,e,⋯,by rw[HB];symm⟩
theorem U1{q:-gK}{x:Option Int×Int}:putD (cf 0 q) (.inl (↑q:Int)) (nP x)=cf 0 (q++[U x]):=by
 unfold putD;rw[q0c ?_,D9,q0A];ext h;let⟨kv,h1,h2⟩:=q6D.mp h;let⟨j,e,_,h3⟩:=wN h1;rw[e] at h2;let:=q3v (q0O h2);symm
theorem D_:∀{i:Nat}{q:-gK},↑(cf i q)<=↑q
 |i,[]=>Hz _
 |i,none::r=>q6o (D_ (i:=i+1) (q:=r))
 |i,some x::r=>q4y (D_ (i:=i+1) (q:=r))
theorem Ea{x:Option Int×Int}:∀{i j:Nat}{q:-gK},q[j]?=U (U x)->du (cf i q) (.inl ((i+j:Nat):Int))=U (nP x)
 |i,j,[],h=>by simp at h
 |i,0,none::r,h=>by simp at h
 |i,0,some y::r,h=>by
  cases(show U y=U x by simpa using h)
  unfold du cf;rw[q4T (by calc q0i Y)];rfl
 |i,j+1,none::r,h=>by
  let:=Ea (x:=x) (i:=i+1) (j:=j) (q:=r) h⁻¹;rw[show i+1+j=i+(j+1) by symm] at this;exact this
 |i,j+1,some y::r,h=>by
  let:=Ea (x:=x) (i:=i+1) (j:=j) (q:=r) h⁻¹;rw[show i+1+j=i+(j+1) by symm] at this;unfold du cf;rw[q4U]
  .exact this
  .ext z
   let:=q3v (q0O z);symm
theorem Kt{kvs:-(Key×D)}{k:Key}(h:∀kv∈kvs,kv.1≠k):k6 kvs k=kvs:=by
 unfold k6;calc q5x.mpr λkv hk=>q0i (h kv hk)
theorem Eb:∀{i j:Nat}{q:-gK},k6 (cf i q) (.inl ((i+j:Nat):Int))=cf i (q.set j Z)
 |i,j,[]=>Y
 |i,0,none::r=>by
  show k6 (cf (i+1) r) _=cf (i+1) r;calc Kt λkv hk e=>?_;let⟨l,e1,h1,_⟩:=wN hk;rw[e1] at e;let:=q3v e;symm
 |i,0,some y::r=>by
  show k6 ((.inl (i:Int),nP y)::cf (i+1) r) _=cf (i+1) r
  let e:k6 (cf (i+1) r) (.inl ((i+0:Nat):Int))=cf (i+1) r:=Kt λkv hk e=>by
   let⟨l,e1,h1,_⟩:=wN hk;rw[e1] at e;let:=q3v e;symm
  unfold k6 at e ⊢;rw[q4D,e];ext z;exact q0O z Y
 |i,j+1,none::r=>by
  let:=Eb (i:=i+1) (j:=j) (q:=r);rw[show i+1+j=i+(j+1) by symm] at this;exact this
 |i,j+1,some y::r=>by
  let:=Eb (i:=i+1) (j:=j) (q:=r);rw[show i+1+j=i+(j+1) by symm] at this;show k6 ((.inl (i:Int),nP y)::cf (i+1) r) _=(.inl (i:Int),nP y)::cf (i+1) (r.set j Z);unfold k6 at this ⊢;rw[q4E,this];calc q0i λz=>?_;let:=q3v z;symm
noncomputable def mO(ws:-Wy)(g:-Int)(one:Int):-Int:=(b_ ↑ws).filter λn=>(G (one=(aG ws n).1)||G (one=(aG ws n).2.1))&&G (n∉g)
noncomputable def jf(ws:-Wy)(g l:-Int):-Int:=l.flatMap (mO ws g)
theorem fz{ws:-Wy}{g l:-Int}{n:Int}:n∈jf ws g l↔((0<=n/\n<(↑ws:Int))/\n∉g)/\((aG ws n).1∈l\/(aG ws n).2.1∈l):=by
 unfold jf mO;rw[q6B]
 constructor
 .ext ⟨one,h1,h2⟩
  rw[q0M,sD,q0G,q3B,q0t,q0t,q0t] at h2;let⟨h2,h3,h4⟩:=h2;calc⟨⟨h2,h4⟩,?_⟩;rcases h3 with rfl|rfl
  .exact .inl h1
  .exact .inr h1
 .ext ⟨⟨h1,h2⟩,h3⟩
  rcases h3 with h|h
  .refine⟨_,h,?_⟩
   rw[q0M,sD,q0G,q3B,q0t,q0t,q0t];exact⟨h1,.inl Y,h2⟩
  .refine⟨_,h,?_⟩
   rw[q0M,sD,q0G,q3B,q0t,q0t,q0t];calc⟨h1,.inr Y,h2⟩
section
variable{m:Int}{ws:-Wy}{N:Nt}{h:Int}
theorem U2(W:aO m ws)(O:eO m ws N):(fY (jf ws (N.p++N.k) (bj m ws N.p h))).filter (λn=>fD (bj m ws N.p h) (aG ws n))=gW ws (bj m ws N.p h):=by
 calc ug ((qG _).filter _) (UE _ _) λn=>?_;rw[q0M,bN,fz,fy]
 constructor
 .ext ⟨⟨⟨h1,_⟩,_⟩,h2⟩;exact⟨h1,h2⟩
 .ext ⟨h1,h2⟩
  let no:∀z:(aG ws n).1∈bj m ws N.p h↔(aG ws n).2.1∈bj m ws N.p h,False:=λz=>by rw[Ke z] at h2;cases h2
  refine⟨⟨⟨h1,λz=>?_⟩,?_⟩,h2⟩
  .rcases q0u.mp z with z|z
   .exact no (Kd W h1 (UD z))
   .exact no (Kd W h1 (O.gz n z))
  .by_cases c:(aG ws n).1∈bj m ws N.p h
   .exact .inl c
   .by_cases d:(aG ws n).2.1∈bj m ws N.p h
    .exact .inr d
    .calc (no ⟨λz=>absurd z c,λz=>absurd z d⟩).elim
theorem U3(W:aO m ws)(O:eO m ws N){os:-Int}(pm:os.Perm (gW ws (bj m ws N.p h))):sortI (N.k++(fY (jf ws (N.p++N.k) (bj m ws N.p h))).filter λn=>G (n∉os))=sI m ws N.p N.k h:=by
 let mf:∀n,n∈(fY (jf ws (N.p++N.k) (bj m ws N.p h))).filter (λn=>G (n∉os))↔((0<=n/\n<(↑ws:Int))/\n∉N.p++N.k)/\((aG ws n).1∈bj m ws N.p h/\(aG ws n).2.1∈bj m ws N.p h):=λn=>by
  rw[q0M,bN,fz,q0t,pm.mem_iff,fy]
  constructor
  .ext ⟨⟨h1,h2⟩,h3⟩
   refine⟨h1,?_⟩
   let:fD (bj m ws N.p h) (aG ws n)=ι:=by
    cases q:fD (bj m ws N.p h) (aG ws n) with
    |false=>rfl
    |true=>exact absurd ⟨h1.1,q⟩ h3
   let z:=Kf this;rcases h2 with h2|h2
   .exact⟨h2,z.mp h2⟩
   .exact⟨z.mpr h2,h2⟩
  .ext ⟨h1,h2,h3⟩
   exact⟨⟨h1,.inl h2⟩,λz=>by rw[Ke ⟨λ_=>h3,λ_=>h2⟩] at z;cases z.2⟩
 let nd:(N.k++(fY (jf ws (N.p++N.k) (bj m ws N.p h))).filter λn=>G (n∉os)).Nodup:=by
  calc q1W.mpr ⟨O.ku.nd,Up.nd ((qG _).filter _),λa ha b hb e=>?_⟩;subst e;exact((mf a).mp hb).1.2 (q0k _ ha)
 unfold sI;calc ug (DX nd) (qG _) λn=>?_;rw[(sortI_perm _).mem_iff,bN,q0u,q0u,mf n,e7]
 constructor
 .ext (z|⟨⟨h1,h2⟩,h3,h4⟩)
  .exact .inl z
  .exact .inr ⟨⟨h1,h3,h4⟩,λz=>h2 (q1p _ z)⟩
 .ext (z|⟨⟨h1,h3,h4⟩,h2⟩)
  .exact .inl z
  .by_cases c:n∈N.k
   .exact .inl c
   .calc .inr ⟨⟨h1,λz=>(q0u.mp z).elim h2 c⟩,h3,h4⟩
theorem U4(W:aO m ws){l os:-Int}(p:os.Perm (gW ws l))(up:(os.map (eZ ws)).Pairwise kle):os.head?=je ws l:=by
 unfold je
 cases os with
 |nil=>rw[List.nil_perm.mp p,q0e Y];rfl
 |cons a r =>
  let ne:gW ws l≠[]:=λz=>by rw[z] at p;exact absurd p.length_eq (by simp)
  rw[q0c ne];rw[q0m,q1q] at up;let:=JZ W yT (p.mem_iff.mp q0h) λe he=>(PC.mp (p.mem_iff.mpr he)).elim (λz=>by rw[z];calc kle_refl _) λz=>up.1 _ (q2V z);rw[this];rfl
theorem Ec{α:Type}(p q:α->Bool):∀l:-α,↑(l.filter λx=>p x||q x)+↑(l.filter λx=>p x&&q x)=↑(l.filter p)+↑(l.filter q)
 |[]=>Y
 |a::r=>by
  let ih:=Ec p q r;rw[q0_,q0_,q0_,q0_];cases hp:p a<;>cases hq:q a<;>simp<;>symm
theorem Ed{α:Type}(p:α->Bool)(l:-α)(h:∀x∈l,p x=ι):↑(l.filter p)=0:=by
 rw[q1P,List.filter_eq_nil_iff];calcλx hx z=>by rw[h x hx] at z;cases z
theorem Ee(f:Int->Int)(us:-Int):∀{l:-Int},l.Nodup->(l.map λa=>↑(us.filter λn=>G (a=f n))).sum=↑(us.filter λn=>G (f n∈l))
 |[],_=>by
  rw[q16,List.sum_nil];exact(Ed _ _ λx _=>by simp).symm
 |a::r,nd=>by
  let⟨h1,h2⟩:=q2n.mp nd;rw[q0m,q7O,Ee f us h2];let:=Ec (λn=>G (a=f n)) (λn=>G (f n∈r)) us
  rw[Ed (λn=>G (a=f n)&&G (f n∈r)) us (λx _=>by
   by_cases c:a=f x
   .rw[q0i c,Zi (by rw[<-c];calc h1)];rfl
   .rw[Zi c];rfl)] at this
  rw[q8C] at this;rw[<-this];congr 2;funext n;rw[<-Bool.decide_or];congr 1;rw[PC,@eq_comm _ a (f n)]
theorem U5(W:aO m ws)(p k l:-Int)(nd:l.Nodup):↑(jf ws (p++k) l)=↑(mL ws (eD ws p k) l):=by
 let e1:∀a,↑(mO ws (p++k) a)=↑((eD ws p k).filter λn=>G (a=(aG ws n).1))+↑((eD ws p k).filter λn=>G (a=(aG ws n).2.1)):=λa=>by
  let:=Ec (λn=>G (a=(aG ws n).1)) (λn=>G (a=(aG ws n).2.1)) (eD ws p k);rw[Ed (λn=>G (a=(aG ws n).1)&&G (a=(aG ws n).2.1)) _ (λx hx=>?_)] at this
  .rw[<-this,q8C]
   unfold mO eD;rw[List.filter_filter]
  .let hx:=C4 (q0M.mp hx).1
   let⟨y,ey,_,_,i,j,e1,e2,_,_,lt⟩:=qC W hx.1 hx.2;let ew:aG ws x=y:=ey;rw[ew,e1,e2]
   by_cases c:a=i
   .rw[q0i c,Zi ⋯];rfl
   .rw[Zi c];rfl
 unfold jf mL mK;rw[List.length_flatMap,q3Z,Pz,q10,q10,Ba,Ba];let c1:=Ee (λn=>(aG ws n).1) (eD ws p k) nd;let c2:=Ee (λn=>(aG ws n).2.1) (eD ws p k) nd
 let sp:∀l:-Int,(l.map λa=>↑(mO ws (p++k) a)).sum=(l.map λa=>↑((eD ws p k).filter λn=>G (a=(aG ws n).1))).sum+(l.map λa=>↑((eD ws p k).filter λn=>G (a=(aG ws n).2.1))).sum:=λl=>by
  induction l with
  |nil=>rfl
  |cons a r ih =>
   erw[q0m,q7O];rw[ih,e1 a];symm
 rw[sp l,c1,c2];rfl
theorem U6(W:aO m ws)(O:eO m ws N)(hs:h∉N.s):(N.s++bj m ws N.p h).Nodup:=by
 calc q1W.mpr ⟨O.su.nd,(wK ..).nd,λa ha b hb e=>?_⟩;subst e;calc hs (Kh O.pn O.sc ((lM W).mp hb).2.symm ha)
theorem U7{p:-Int}(u:Up p){w:Int}(hw:w∉p):(p++[w]).Nodup:=q1W.mpr ⟨u.nd,by simp,λa ha b hb e=>by
 rw[q0D] at hb
 subst e;subst hb;calc hw ha⟩
end
end LJ
namespace L2
open PySem PySem.Spec PyProof.Rows
variable[aR]
def bg(x:DV)(δ:aM)(K:FV->aM->Prop):Prop:=match x with
 |.w a=>K (.w a) δ
 |y=>lC y δ λd δ1=>K (.p d) δ1
def aw:-DV->aM->(-FV->aM->Prop)->Prop
 |[],δ,K=>K [] δ
 |x::xs,δ,K=>bg x δ λf δ1=>aw xs δ1 λfs δ2=>K (f::fs) δ2
def bh(t:Bool)(fa:WA):WE:=fun δ K=>fa δ λxs δ1=>aw xs δ1 λfs δ2=>fs.length<=1000/\K (.u t fs) δ2
abbrev sN:=-FV->aM->(aM->Prop)->Prop
def pK(g:sN):kE:=λvs σ H Q=>∃F ad δ fs K,SR F ad δ σ H/\fH F fs vs/\g fs δ K/\Cn F ad δ.mu H K Q
def aY:sN:=λfs δ K=>match fs with
 |[]=>K δ
 |_=>False
def aU(g:WG)(g':sN):sN:=λfs δ K=>match fs with
 |f::r=>g f.v δ fun δ1=>g' r δ1 K
 |[]=>False
def aZ(n:Nat)(g:sN):WG:=λx δ K=>match x with
 |.u true fs=>fs.length=n/\g fs δ K
 |_=>False
section
variable{F H:Hp}{ad:-O}{δ:aM}{σ:St}
omit [aR] in
theorem fH.length {F:Hp}:∀{fs:-FV}{us:-V},fH F fs us->↑us=fs.length
 |[],_,h=>by let h:_=[]:=h;rw[h];rfl
 |_::_,_,⟨v,t,e,_,h2⟩=>by rw[e,HB,HB,fH.length h2]
theorem U8{x:DV}{v:V}{K:FV->aM->Prop}(S:SR F ad δ σ H)(V:dI F ad x v)(h:bg x δ K):∃f δ' F',K f δ'/\Ext F ad δ.mu H F' ad δ'.mu H/\SR F' ad δ' σ H/\ju F' f v:=by
 cases x with
 |w a=>exact⟨_,_,F,h,.refl,S,V⟩
 |p d=>let⟨d,δ',F',h1,h2,h3,h4⟩:=rS S V (show lC (.p d) δ (λd δ1=>K (.p d) δ1) from h);exact⟨_,_,F',h1,h2,h3,h4⟩
 |o k=>let⟨d,δ',F',h1,h2,h3,h4⟩:=rS S V (show lC (.o k) δ (λd δ1=>K (.p d) δ1) from h);exact⟨_,_,F',h1,h2,h3,h4⟩
 |u _ _=>exact h.elim
 |t _ _=>calc h.elim
theorem Ku:∀{xs:-DV}{vs:-V}{F:Hp}{δ:aM}{K:-FV->aM->Prop},SR F ad δ σ H->cS F ad xs vs->aw xs δ K->∃fs δ' F',K fs δ'/\Ext F ad δ.mu H F' ad δ'.mu H/\SR F' ad δ' σ H/\fH F' fs vs
 |[],_,F,δ,K,S,V,h=>⟨[],δ,F,h,.refl,S,V⟩
 |x::xs,_,F,δ,K,S,⟨v,r,e,V1,V2⟩,h=>by
  subst e;let⟨f,δ1,F1,h1,E1,S1,i1⟩:=U8 S V1 h;let⟨fs,δ2,F2,h2,E2,S2,i2⟩:=Ku S1 (V2.ext E1) h1;calc⟨f::fs,δ2,F2,h2,E1.trans E2,S2,v,r,Y,ju.same E2.same _ _ i1,i2⟩
variable{X:Cx}{a b e:l}{es:-l}{f g:WE}{fa:WA}{pos:y}
theorem U9{F1 H1:Hp}{bt:-O}{δ1:aM}{t:Bool}{K:DV->aM->Prop}{Q:VK}{xs:-DV}{vs:-V}(k:∀x δ',K x δ'->∀v F' aN H',Ext F ad δ.mu H F' aN δ'.mu H'->SR F' aN δ' σ H'->dI F' aN x v->Q v H')(h1:aw xs δ1 λfs δ2=>fs.length<=1000/\K (.u t fs) δ2)(E1:Ext F ad δ.mu H F1 bt δ1.mu H1)(S1:SR F1 bt δ1 σ H1)(V1:cS F1 bt xs vs):↑vs<=sizeLine/\∀p,H1 p=Z->Q (.ref p) (upd H1 p (ou t vs)):=by
 let⟨fs,δ2,F2,⟨hl,h2⟩,E2,S2,i2⟩:=Ku S1 V1 h1;calc⟨lD (by rw[↑i2];calc hl),λp hp=>?_⟩;let sm:aP H1 (upd H1 p (ou t vs)):=cI hp;calc k _ _ h2 _ _ _ _ ((E1.trans E2).trans (Ext.al S2 sm)) (S2.al sm) ?_;rw[Nw.upd S2.sub hp];calc⟨p,vs,Y,cz,i2.same λb o e=>by rw[bF (dQ (S2.sub b o e) hp)];calc e⟩
theorem U_{x1}(ha:JA X es (cE fa)):JE X (.Tuple es x1 pos) (tD (bh θ fa)):=(GZ ha).weak fun σ H Q ⟨F,ad,δ,K,S,q,k⟩ ↦
 ⟨F,ad,δ,_,S,q,λxs δ1 h1 vs F1 bt H1 E1 S1 V1=>U9 (t:=true) k h1 E1 S1 V1⟩
theorem Va:iH X [] (pK aY):=g7.weak λvs σ H Q ⟨F,ad,δ,fs,K,S,V,q,k⟩↦by
 unfold aY at q;split at q
 .exact⟨V,k _ q _ _ _ _ .refl S⟩
 .calc q.elim
theorem Ef{g:WG}{g':sN}(h1:JG X e (jx g))(h2:iH X es (pK g'))(hs:(assignEach (e::es) X.env).map (·.2)=assign e X.env::(assignEach es X.env).map (·.2):=by rfl):iH X (e::es) (pK (aU g g')) :=
 (xq h1 h2 hs).weak λvs σ H Q ⟨F,ad,δ,fs,K,S,V,q,k⟩↦by
  unfold aU at q;split at q
  .rename_i f r
   let⟨v,r',e,i1,i2⟩:=V;exact⟨v,r',e,F,ad,δ,f.v,_,S,i1.v,q,fun δ' h _ _ _ _ E S'=>⟨_,_,δ',r,K,S',i2.same E.same,h,k.ext E⟩⟩
  .calc q.elim
theorem Vb{k:Nat}{g:sN}{n:Nat}(hc:X.calm=θ)(h:iH X es (pK g))(hn:↑(assignEach es X.env)=n:=by rfl)(iS:(assignEach es X.env).findIdx? (·.1)=Z:=by rfl):JG X (.Tuple es k pos) (jx (aZ n g)) :=
 (Ap hc h hn iS).weak λv σ H Q ⟨F,ad,δ,x,K,S,V,q,k⟩↦by
  unfold aZ at q;split at q
  .rename_i fs
   let⟨b,us,e,h1,h2⟩:=V;exact⟨b,us,e,b8.of (S.sub _ _ h1),by rw[↑h2];calc q.1,F,ad,δ,fs,K,S,h2,q.2,k⟩
  .calc q.elim
end
end L2
namespace LJ
open PySem L2 PySem.Spec PySem.W PyProof.Rows
structure Ev where
 P:t
 w:S
 K:My
 mg:J->Option L
 base:I
section
variable[aR]
structure Fx(V:Ev)(k:Nat)(x:J)(ps:-J)(n:Nat)(G:GD):Prop where
 ex:∃f fd,Fn V.P V.w V.K V.mg V.base k x ps (oG G n) f fd
def Dx(V:Ev)(x:J)(st:R):Prop:=∃f fd,V.mg x=U (.ref f)/\gj V.K x x st f fd
def y9(V:Ev)(x:J)(st:R)(T:O)(pos:y)(q:J):Prop:=∃f fd,(V.mg x=U (.ref f)/\gj V.K x x st f fd)/\ik V.mg V.base fd T pos q
def Ct(V:Ev)(x:J)(i:Int):Prop:=∃u,V.mg x=U u/\RelV (.int i) u
section
variable{X:Cx}{x:J}{ps:-J}{G:GD}{e:l}{es:-l}{fa:WA}{p pos:y}{j k n:Nat}
theorem cC(F:Fx ⟨X.prog,X.w,X.K,X.mg,X.base⟩ j x ps n G)(hr:bD k X.A)(ha:JA X (e::es) (cE fa))(hj:q6p j k=θ:=by rfl)(hg:Gl X x:=by rfl)(dR:b9 x:=by decide)(he:cR X e es:=by rfl)(dP:dh X pos es:=by rfl):
  JE X (.Call (.Name x p) (e::es) [] pos) (tD (aE n G fa)):=let⟨_,_,F⟩:=F.ex;Q3 F.ok (hr.mono (q12 hj)) hg F.vq F.kp F.bd ha dR he dP
theorem Vc(F:Fx ⟨X.prog,X.w,X.K,X.mg,X.base⟩ j x ps n G)(hr:bD k X.A)(ha:JA X (e::es) (cE fa))(hj:q6p j k=θ:=by rfl)(hg:Gl X x:=by rfl)(dR:b9 x:=by decide)(he:cR X e es:=by rfl)(dP:dh X pos es:=by rfl):
  JE X (.Call (.Name x p) (e::es) [] pos) (tD (vJ n G fa)):=let⟨_,_,F⟩:=F.ex;Q4 F.ok (hr.mono (q12 hj)) hg F.vq F.kp F.bd ha dR he dP
theorem Vd{i:Int}(C:Ct ⟨X.prog,X.w,X.K,X.mg,X.base⟩ x i)(hg:Gl X x:=by rfl)(hd:b9 x:=by decide):JE X (.Name x pos) (tD (dC (.int i))):=let⟨_,a,b⟩:=C;QP hg a b hd
end
theorem _root_.L2.ik.env{mg:J->Option ν}{base:I}{fd:FuncData}{T:O}{lp:y}{q:J}{bH:ν}(L:ik mg base fd T lp q)(h:fd.code=bH):∃cc,bH=.ref cc/\CodeHd base cc T:=let⟨cc,e1,e2⟩:=L.code;⟨cc,h.symm.trans e1,e2⟩
noncomputable def Ve:NameKind->Bool
 |.local=>θ
 |.cell=>θ
 |_=>ι
noncomputable def Vf:NameKind->Bool
 |.free=>ι
 |_=>θ
noncomputable def Vg:ScopeKind->Bool
 |.function=>θ
 |_=>ι
noncomputable def sP(N P:-J)(sc:a):Bool:=Vg sc.kind && !sc.isCoroutine && !sc.isGenerator&&G N.Nodup&&G (N.take ↑P=P)&&(P.all λx=>match sc.names.lookup x with
 |some k=>Ve k
 |none=>ι)&&sc.names.all λy=>Vf y.2
theorem fO{N P:-J}{sc:a}(h:sP N P sc=θ):n8 N P sc:=by
 unfold sP at h;erw[q0G,q3g,q0t,q1N] at h;let⟨⟨⟨⟨⟨⟨h1,h2⟩,h3⟩,h4⟩,h5⟩,h6⟩,h7⟩:=h;refine⟨?_,h2,h3,h4,h5,λx hx=>?_,λy hy z=>?_⟩
 .cases q:sc.kind<;>rw[q] at h1<;>first|rfl|cases h1
 .let:=h6 x hx
  split at this
  .rename_i k e
   rw[e];cases k<;>first|exact .inl Y|exact .inr Y|cases this
  .cases this
 .let:=h7 y hy
  rw[z] at this;cases this
def ip(x:J)(st:R)(ps:-J):Prop:=∀(kV doc pm:L)(an:Option O)(bH ct:L)(us:-L),↑us=↑ps->bindArgs (q06 x x (jL st) (f_ st) (cK st) .none kV doc pm an bH ct) ⟨us,[]⟩=pure (ps.zip us)
section
theorem Kv{us:-L}(h:↑us=1):∃a,us=[a]:=List.length_eq_one_iff.mp h
theorem Eg{us:-L}(h:↑us=2):∃a b,us=[a,b]:=by
 cases us with
 |nil=>cases h
 |cons a r=>let⟨b,rfl⟩:=Kv (q6q h);calc⟨a,b,Y⟩
theorem Kw{us:-L}(h:↑us=3):∃a b c,us=[a,b,c]:=by
 cases us with
 |nil=>cases h
 |cons a r=>let⟨b,c,rfl⟩:=Eg (q6q h);calc⟨a,b,c,Y⟩
theorem Vh{us:-L}(h:↑us=4):∃a b c d,us=[a,b,c,d]:=by
 cases us with
 |nil=>cases h
 |cons a r=>let⟨b,c,d,rfl⟩:=Kw (q6q h);calc⟨a,b,c,d,Y⟩
theorem qJ{x:J}{st:R}{ps:-J}(h:∀(kV doc pm:L) (an:Option O) (bH ct a:L),bindArgs (q06 x x (jL st) (f_ st) (cK st) .none kV doc pm an bH ct) ⟨[a],[]⟩=pure (ps.zip [a]):=by intros;rfl)(hl:↑ps=1:=by rfl):ip x st ps:=λkV doc pm an bH ct us hu=>by
 let⟨a,rfl⟩:=Kv (hu.trans hl);calc h kV doc pm an bH ct a
theorem iL{x:J}{st:R}{ps:-J}(h:∀(kV doc pm:L) (an:Option O) (bH ct a b:L),bindArgs (q06 x x (jL st) (f_ st) (cK st) .none kV doc pm an bH ct) ⟨[a,b],[]⟩=pure (ps.zip [a,b]):=by intros;rfl)(hl:↑ps=2:=by rfl):ip x st ps:=λkV doc pm an bH ct us hu=>by
 let⟨a,b,rfl⟩:=Eg (hu.trans hl);calc h kV doc pm an bH ct a b
theorem jg{x:J}{st:R}{ps:-J}(h:∀(kV doc pm:L) (an:Option O) (bH ct a b c:L),bindArgs (q06 x x (jL st) (f_ st) (cK st) .none kV doc pm an bH ct) ⟨[a,b,c],[]⟩=pure (ps.zip [a,b,c]):=by intros;rfl)(hl:↑ps=3:=by rfl):ip x st ps:=λkV doc pm an bH ct us hu=>by
 let⟨a,b,c,rfl⟩:=Kw (hu.trans hl);calc h kV doc pm an bH ct a b c
theorem Ky{x:J}{st:R}{ps:-J}(h:∀(kV doc pm:L) (an:Option O) (bH ct a b c d:L),bindArgs (q06 x x (jL st) (f_ st) (cK st) .none kV doc pm an bH ct) ⟨[a,b,c,d],[]⟩=pure (ps.zip [a,b,c,d]):=by intros;rfl)(hl:↑ps=4:=by rfl):ip x st ps:=λkV doc pm an bH ct us hu=>by
 let⟨a,b,c,d,rfl⟩:=Vh (hu.trans hl);calc h kV doc pm an bH ct a b c d
variable{V:Ev}{x:J}{st:R}{N ps:-J}{k:Nat}{G:GD}
theorem d7(D:Dx V x st)(bd:ip x st ps)(h:∀{bH:L} {A:o} {outer:-X} {s:ο} {H:Hp} {E:XK} {f:O},bD k (A.deeper (envOfC x (cK st) ⇑s f bH))->N.Nodup->(A.deeper (envOfC x (cK st) ⇑s f bH)).units+64<cLine →
   ∃B:WS,dO (fm ft V.P V.w V.K V.mg V.base N x (cK st) f bH A outer s H E).lj (f_ st) (dW B)/\∀ys aB K',↑ys=↑ps->G ys aB K'->B (jQ ↑aB K') ⟨ys.map U++q0f (↑N-↑ps) Z,aB.map U⟩)(sc:sP N ps (cK st)=θ:=by decide +kernel):Fx V (k+1) x ps ↑ps G :=
 let⟨f,fd,a,F⟩:=D
 ⟨f,fd,F.QY (fO sc) λbH A outer s H E hr=>h hr (fO sc).nd hr.units,a,F.kp,F.binds bd⟩
theorem Vi{T:O}{lp:y}{q:J}(D:y9 V x st T lp q)(bd:ip x st ps)(h:∀{bH:L} {A:o} {outer:-X} {s:ο} {H:Hp} {E:XK} {f:O} {fd:FuncData},ik V.mg V.base fd T lp q->fd.code=bH->bD k (A.deeper (envOfC x (cK st) ⇑s f bH))->N.Nodup->(A.deeper (envOfC x (cK st) ⇑s f bH)).units+64<cLine →
   ∃B:WS,dO (fm ft V.P V.w V.K V.mg V.base N x (cK st) f bH A outer s H E).lj (f_ st) (dW B)/\∀ys aB K',↑ys=↑ps->G ys aB K'->B (jQ ↑aB K') ⟨ys.map U++q0f (↑N-↑ps) Z,aB.map U⟩)(sc:sP N ps (cK st)=θ:=by decide +kernel):Fx V (k+1) x ps ↑ps G :=
 let⟨f,fd,⟨a,F⟩,LD⟩:=D
 ⟨f,fd,F.Dp (fO sc) λbH A outer s H E hc hr=>h LD hc hr (fO sc).nd hr.units,a,F.kp,F.binds bd⟩
end
end
section
variable{K:My}{h:I}{mg:J->Option L}
def Dk(K:My)(x:J)(st:R):Prop:=∃f fd,q1K K mainGlobals x=U (U (.ref f))/\gj K x x st f fd
inductive iq (K:My):-(J×R)->Prop
 |nil:iq K []
 |cons {x st r}:Dk K x st->iq K r->iq K ((x,st)::r)
theorem Eh{x:J}{st:R}{r:-(J×R)}{f:O}{od an:Option O}{sl:Array (Option L)}{oc kV dc pm cd ct:L}(a:q1K K mainGlobals x=U (U (.ref f)))(l:K.lookup f=U ⟨oc,od,.func (q06 x x (jL st) (f_ st) (cK st) .none kV dc pm an cd ct),sl⟩)(q:q2N K cd x=θ)(k:q09 K (.ref f)=θ)(h:iq K r):iq K ((x,st)::r) :=
 .cons ⟨f,_,a,xH l q k⟩ h
theorem iq.at{ds:-(J×R)}(h:iq K ds)(i:Nat){x:J}{st:R}(e:ds[i]?=U (x,st)):Dk K x st:=by
 induction h generalizing i with
 |nil=>cases e
 |cons d _ ih=>cases i with
  |zero=>cases e;exact d
  |succ i=>calc ih i e
def y_(K:My)(x:J)(st:R)(T:O):Prop:=∃f fd,(q1K K mainGlobals x=U (U (.ref f))/\gj K x x st f fd)/\∃cc,fd.code=.ref cc/\q6F K cc T=θ
inductive fA (K:My):-(J×R×O)->Prop
 |nil:fA K []
 |cons {x st T r}:y_ K x st T->fA K r->fA K ((x,st,T)::r)
theorem wO{x:J}{st:R}{T:O}{r:-(J×R×O)}{f cc:O}{od an:Option O}{sl:Array (Option L)}{oc kV dc pm ct:L}(a:q1K K mainGlobals x=U (U (.ref f)))(l:K.lookup f=U ⟨oc,od,.func (q06 x x (jL st) (f_ st) (cK st) .none kV dc pm an (.ref cc) ct),sl⟩)(q:q2N K (.ref cc) x=θ)(k:q09 K (.ref f)=θ)(c:q6F K cc T=θ)(h:fA K r):fA K ((x,st,T)::r) :=
 .cons ⟨f,_,⟨a,xH l q k⟩,cc,Y,c⟩ h
theorem fA.at{ds:-(J×R×O)}(h:fA K ds)(i:Nat){x:J}{st:R}{T:O}(e:ds[i]?=U (x,st,T)):y_ K x st T:=by
 induction h generalizing i with
 |nil=>cases e
 |cons d _ ih=>cases i with
  |zero=>cases e;exact d
  |succ i=>calc ih i e
theorem fA.code{ds:-(J×R×O)}(h:fA K ds){hp:I}(X:K.In hp):∀T∈ds.map (·.2.2),∃cc,q7s hp cc T:=by
 induction h with
 |nil=>ext T hT;exact nomatch hT
 |cons d _ ih =>
  ext T hT;rcases PC.mp hT with rfl|hT
  .let⟨_,_,_,cc,_,e⟩:=d
   exact⟨cc,q5A X e⟩
  .calc ih T hT
theorem Vj{x:J}{r:-J}(a:q1K K mainGlobals x=U Z)(h:∀y∈r,q1K K mainGlobals y=U Z):∀y∈x::r,q1K K mainGlobals y=U Z:=λy hy=>by
 rcases PC.mp hy with rfl|hy
 .exact a
 .calc h y hy
theorem Vk{ls:-mG}(nd:(ls.map (·.T)).Nodup):∀{a b:mG},a∈ls->b∈ls->a.T=b.T->a=b:=by
 induction ls with
 |nil=>ext a b ha;exact nomatch ha
 |cons c r ih =>
  ext a b ha hb e;rw[q0m,q2n] at nd;rcases PC.mp ha with rfl|ha'<;>rcases PC.mp hb with rfl|hb'
  .rfl
  .exact absurd (q0l.mpr ⟨b,hb',e.symm⟩) nd.1
  .exact absurd (q0l.mpr ⟨a,ha',e⟩) nd.1
  .calc ih nd.2 ha' hb' e
theorem Dk.v{P:t}{w:S}{base:I}{x:J}{st:R}(d:Dk K x st)(X:K.In h)(G:h.Ns mainGlobals mg):Dx ⟨P,w,K,mg,base⟩ x st :=
 let⟨f,fd,a,F⟩:=d
 ⟨f,fd,q20 X G a,F⟩
theorem y_.v{P:ψ}{w:S}{base:I}{x:J}{st:R}{ls:-mG}{C:CC}{T:O}{lp:y}{q:J}(d:y_ K x st T)(X:K.In h)(G:h.Ns mainGlobals mg)(KB:K.In base)(hB:∀t∈ls,base.BuiltinsAt mg t.T)(nd:(ls.map (·.T)).Nodup)(ng:∀t∈ls,mainGlobals≠t.T)(hl:⟨T,lp,q⟩∈ls):@y9 (gg ls C) ⟨P,w,K,mg,base⟩ x st T lp q :=
 let⟨f,fd,⟨a,F⟩,cc,e1,e2⟩:=d
 letI:aR:=gg ls C
 ⟨f,fd,⟨q20 X G a,F⟩,⟨cc,e1,q5A KB e2⟩,ng _ hl,hB _ hl,SX hl λa ha b hb e=>Vk nd ha hb e⟩
def Ck(K:My)(x:J)(i:Int):Prop:=∃u,q1K K mainGlobals x=U (U u)/\RelV (.int i) u
theorem Ck.v{P:t}{w:S}{base:I}{x:J}{i:Int}(d:Ck K x i)(X:K.In h)(G:h.Ns mainGlobals mg):Ct ⟨P,w,K,mg,base⟩ x i :=
 let⟨u,a,r⟩:=d
 ⟨u,q20 X G a,r⟩
noncomputable def Ei:-J:=["len", "range", "list", "tuple", "set", "sorted", "min", "max", "sum", "all", "any", "enumerate", "zip", "isinstance", "int", "bool", "str", "repr"]
theorem Vl(X:K.In h)(G:h.Ns mainGlobals mg)(N:∀x∈Ei,q1K K mainGlobals x=U Z):BT mg :=
 have n:∀i x,Ei[i]?=U x->mg x=Z:=λi x e=>PySem.W.mg_none_of X G (N x (q0S e))
 ⟨n 0 _ Y,n 1 _ Y,n 2 _ Y,n 3 _ Y,n 4 _ Y,n 5 _ Y,n 6 _ Y,n 7 _ Y,n 8 _ Y,n 9 _ Y,n 10 _ Y,n 11 _ Y,n 12 _ Y,n 13 _ Y,n 14 _ Y,n 15 _ Y,n 16 _ Y,n 17 _ Y⟩
end
section
variable[aR]
structure Kx(K:My)(C:O)(fs:-J):Prop where
 c:j7 K C
 n:∀f∈fs,cM K C f
theorem Kx.at{K:My}{C:O}{fs:-J}(h:Kx K C fs)(f:J)(e:fs.contains f=θ:=by rfl):cM K C f:=h.n f (q45.mp e)
structure Fk(V:Ev)(C:O)(k:Nat)(m:J)(ps:-J)(n:Nat)(G:GK):Prop where
 ex:∃f fd,Meth V.K C m f/\cj V.P V.w V.K V.mg V.base ft k f fd ps (lN G n)/\Binds V.K fd ps []
structure Fq(V:Ev)(k:Nat)(x:J)(ps:-J)(n:Nat)(G:GK):Prop where
 ex:∃f fd,Fn V.P V.w V.K V.mg V.base k x ps (lN G n) f fd
structure Fc(V:Ev)(C:O)(k:Nat)(x:J)(ps:-J)(n:Nat)(G:GK):Prop where
 ex:∃f fd,V.mg x=U (.ref C)/\Mk V.K C f/\cj V.P V.w V.K V.mg V.base ft k f fd ps (lN G n)/\Binds V.K fd ps []
def Dm(V:Ev)(C:O)(m q:J)(st:R):Prop:=∃f fd,Meth V.K C m f/\gj V.K m q st f fd
def Dc(V:Ev)(C:O)(x q:J)(st:R):Prop:=∃f fd,(V.mg x=U (.ref C)/\Mk V.K C f)/\gj V.K "__init__" q st f fd
section
variable{X:Cx}{C:O}{x m:J}{ps:-J}{G:GK}{e o:l}{es:-l}{fa:WA}{fo:WE}{p pos apos:y}{j k n:Nat}
theorem ir(r:Bool)(F:Fq ⟨X.prog,X.w,X.K,X.mg,X.base⟩ j x ps n G)(hr:bD k X.A)(ha:JA X (e::es) (cE fa))(hj:q6p j k=θ:=by rfl)(hg:Gl X x:=by rfl)(dR:b9 x:=by decide)(he:cR X e es:=by rfl)(dP:dh X pos es:=by rfl):
  JE X (.Call (.Name x p) (e::es) [] pos) (tD (aF r n G fa)):=let⟨_,_,F⟩:=F.ex;UO r F.ok (hr.mono (q12 hj)) hg F.vq F.kp F.bd ha dR he dP
theorem Ej(F:Fc ⟨X.prog,X.w,X.K,X.mg,X.base⟩ C j x ps n G)(hr:bD k X.A)(ha:JA X (e::es) (cE fa))(hj:q6p (j+1) k=θ:=by rfl)(hg:Gl X x:=by rfl)(dR:b9 x:=by decide)(he:cR X e es:=by rfl)(dP:dh X pos es:=by rfl):
  JE X (.Call (.Name x p) (e::es) [] pos) (tD (aJ C n G fa)):=let⟨_,_,a,M,F,B⟩:=F.ex;US M F (hr.mono (q12 hj)) hg a B ha dR he dP
theorem wQ {pl:PySem.Sem Bool} (r:Bool) (c:j7 X.K C) (F:Fk ⟨X.prog,X.w,X.K,X.mg,X.base⟩ C j m ps n G) (hr:bD k X.A) (ho:JE X o (tD fo)) (ha:JA X (e :: es) (cE fa)) (hj:q6p j k=θ:=by rfl)
  (iS:cR X e es:=by rfl) (dP:dh X pos es:=by rfl)
  (ht:eval (.Call (.Attribute o m apos) (e :: es) [] pos) X.env=(do
   let ov <- eval o X.env
   standAt apos.atName
   let (f,first) <- holding [ov] (getMethod ov m pl)
   callWith pos f first (backTo pos (starEach (e :: es) X.env)) (backToKw pos (keywordEach [] X.env))):=by rfl) :
  JE X (.Call (.Attribute o m apos) (e :: es) [] pos) (tD (aI r C m n G fo fa)):=let ⟨_,_,M,F,B⟩:=F.ex; UQ r c M F (hr.mono (q12 hj)) B ho ha iS dP ht
end
def sQ(x q:J)(st:R)(ps:-J):Prop:=∀(kV doc pm:L)(an:Option O)(bH ct:L)(us:-L),↑us=↑ps->bindArgs (q06 x q (jL st) (f_ st) (cK st) .none kV doc pm an bH ct) ⟨us,[]⟩=pure (ps.zip us)
theorem Ek{x q:J}{st:R}{ps:-J}(h:∀(kV doc pm:L) (an:Option O) (bH ct a b:L),bindArgs (q06 x q (jL st) (f_ st) (cK st) .none kV doc pm an bH ct) ⟨[a,b],[]⟩=pure (ps.zip [a,b]):=by intros;rfl)(hl:↑ps=2:=by rfl):sQ x q st ps:=λkV doc pm an bH ct us hu=>by
 let⟨a,b,rfl⟩:=Eg (hu.trans hl);calc h kV doc pm an bH ct a b
section
variable{V:Ev}{C:O}{x m q:J}{st:R}{N ps:-J}{k:Nat}{G:GK}
abbrev El(V:Ev)(N ps:-J)(q:J)(st:R)(k:Nat)(G:GK):Prop:=∀{bH:L}{A:o}{outer:-X}{s:ο}{H:Hp}{E:XK}{f:O},bD k (A.deeper (envOfC q (cK st) ⇑s f bH))->N.Nodup->(A.deeper (envOfC q (cK st) ⇑s f bH)).units+64<cLine →
   ∃B:WS,dO (fm ft V.P V.w V.K V.mg V.base N q (cK st) f bH A outer s H E).lj (f_ st) (dW B)/\∀ys aB K',↑ys=↑ps->G ys aB K'->B (ae ↑aB K') ⟨ys.map U++q0f (↑N-↑ps) Z,aB.map U⟩
theorem Kz(D:Dm V C m q st)(bd:sQ m q st ps)(h:El V N ps q st k G)(sc:sP N ps (cK st)=θ:=by decide +kernel):Fk V C (k+1) m ps ↑ps G :=
 let⟨f,fd,a,F⟩:=D
 ⟨f,fd,a,F.D2 (fO sc) λbH A outer s H E hr=>h hr (fO sc).nd hr.units,F.binds bd⟩
theorem Vm(D:Dc V C x q st)(bd:sQ "__init__" q st ps)(h:El V N ps q st k G)(sc:sP N ps (cK st)=θ:=by decide +kernel):Fc V C (k+1) x ps ↑ps G :=
 let⟨f,fd,a,F⟩:=D
 ⟨f,fd,a.1,a.2,F.D2 (fO sc) λbH A outer s H E hr=>h hr (fO sc).nd hr.units,F.binds bd⟩
theorem nQ(D:Dx V x st)(bd:ip x st ps)(h:El V N ps x st k G)(sc:sP N ps (cK st)=θ:=by decide +kernel):Fq V (k+1) x ps ↑ps G :=
 let⟨f,fd,a,F⟩:=D
 ⟨f,fd,F.D2 (fO sc) λbH A outer s H E hr=>h hr (fO sc).nd hr.units,a,F.kp,F.binds bd⟩
end
end
inductive iu (K:My) (C:O):-(J×J×R)->Prop
 |nil:iu K C []
 |cons {m q st r}:(∃f fd,Meth K C m f/\gj K m q st f fd)->iu K C r->iu K C ((m,q,st)::r)
theorem allM{K:My}{C:O}{m q:J}{st:R}{r:-(J×J×R)}{f:O}{od an:Option O}{sl:Array (Option L)}{oc kV dc pm cd ct:L}(a:q1s K (.ref C) m=U (U (.ref f)))(i:q4M K (.ref f)=θ)(l:K.lookup f=U ⟨oc,od,.func (q06 m q (jL st) (f_ st) (cK st) .none kV dc pm an cd ct),sl⟩)(c:q2N K cd q=θ)(k:q09 K (.ref f)=θ)(h:iu K C r):iu K C ((m,q,st)::r) :=
 .cons ⟨f,_,⟨a,i,k⟩,xH l c k⟩ h
theorem iu.at{K:My}{C:O}{ds:-(J×J×R)}(h:iu K C ds)(i:Nat){m q:J}{st:R}(e:ds[i]?=U (m,q,st)):∃f fd,Meth K C m f/\gj K m q st f fd:=by
 induction h generalizing i with
 |nil=>cases e
 |cons d _ ih=>cases i with
  |zero=>cases e;exact d
  |succ i=>calc ih i e
end LJ
namespace L2
open PySem PySem.Spec PyProof.Rows
variable[aR]
theorem Vn{X:Cx}{x:J}{p pos:y}{G:GK}{k:Nat}{g:O}{fd:FuncData}{ps:-J}(o:Bool)(Fn:cj X.prog X.w X.K X.mg X.base ft k g fd ps (lN G 0))(hr:bD k X.A)(hg:Gl X x)(hm:X.mg x=U (.ref g))(hk:q09 X.K (.ref g)=θ)(hb:Binds X.K fd ps [])
  (dR:b9 x:=by decide) :
  JE X (.Call (.Name x p) [] [] pos) (tD (aF o 0 G ag)):=(OW Fn hr hg hm hk hb .nil rK dR).weak fun σ H Q ⟨F,ad,δ,K,S,q,kk⟩↦yZ (xs:=[]) (vs:=[]) kk (show uq o 0 G [] δ K from q) .refl S Y
end L2
namespace LJ
open PySem L2 PySem.Spec PySem.W PyProof.Rows
variable[aR]
theorem Vo{X:Cx}{x:J}{ps:-J}{G:GK}{p pos:y}{j k:Nat}(r:Bool)(F:Fq ⟨X.prog,X.w,X.K,X.mg,X.base⟩ j x ps 0 G)(hr:bD k X.A)(hj:q6p j k=θ:=by rfl)(hg:Gl X x:=by rfl)(dR:b9 x:=by decide):
  JE X (.Call (.Name x p) [] [] pos) (tD (aF r 0 G ag)):=let⟨_,_,F⟩:=F.ex;Vn r F.ok (hr.mono (q12 hj)) hg F.vq F.kp F.bd dR
theorem Vp{x:J}{st:R}{ps:-J}(h:∀(kV doc pm:L) (an:Option O) (bH ct:L),bindArgs (q06 x x (jL st) (f_ st) (cK st) .none kV doc pm an bH ct) ⟨[],[]⟩=pure (ps.zip []):=by intros;rfl)(hl:↑ps=0:=by rfl):ip x st ps:=λkV doc pm an bH ct us hu=>by
 obtain rfl:=q1P.mp (hu.trans hl);calc h kV doc pm an bH ct
end LJ
namespace LJ
open PySem L2
variable[aR]
inductive Em (ys:-DV) (aB:-OV) (K:RV->-OV->Prop):Prop
 |mk (m:Int) (ws:-Wy) (ns:-Int) (_:aO m ws) (_:Nums ws ns) (_:ys=[.p (bq m ws),.p (tupI ns)]) (_:aB=[]) (_:K (.p (bJ (qB m ws ns))) [])
def En:WS:=(aD (bo 2 (yq (ak (d2 (aa 0) (dC (.int 0)) bz) ag))) (aD (fK (cm (aa 1)) (bR 3) (aD (bo 4 (d2 (d2 (aa 0) (dC (.int 1)) bz) (aa 3) bz)) (bo 2 (aE 3 C0 (ak (aa 2) (ak (d2 (aa 4) (dC (.int 0)) bz) (ak (d2 (aa 4) (dC (.int 1)) bz) ag))))))) (aQ (aa 2))))
theorem Vq:Sem 2 3 Em En:=by
 ext ys aB K'-⟨m,ws,ns,W,hn,rfl,rfl,k⟩;let m1:=W.m1;let iI:=W.iI;let il:↑(b_ m.toNat)=m.toNat:=by unfold b_;simp
 let rg:dm 0 m.toNat=(b_ m.toNat).map D.int:=vX m.toNat;unfold En tupI;calc br λN hN=>?_;simp![dB,bq];calc⟨⟨⋯,⋯⟩,?_⟩;subst hN;rw[rg];calc br λN hN=>sk λg' b' K2 hg hb' hK=>?_;simp!;subst hg hb' hK;refine oU (λi δ=>δ=⟨[U (.p (.tup [.int m,.tup (ws.map bQ)])),U (.p (.tup (ns.map D.int))),U (.p (.lst ((ie ws (b_ m.toNat) (ns.take i)).map D.int))),Z,Z],[]⟩) Y ?_ ?_
 .ext j d δ L hj rfl hL
  rw[PB] at hj;let⟨n,wj,rfl⟩:=q0a.mp hj;let⟨n0,n1⟩:=hn n (q0S wj);let⟨y,ey,hy,ea,i,k,e1,e2,h1,h2,_⟩:=qC W n0 n1;calc⟨trivial,?_⟩;erw[bR,q1b,q1c];calc br λN2 my=>?_;simp![eB,ea];subst my;simp![dB,eB,bQ];let hlen:↑(ie ws (b_ m.toNat) (ns.take j))=m.toNat:=by rw[C2,il]
  refine⟨ie ws (b_ m.toNat) (ns.take j),i,k,by rw[e1,e2];rfl,Y,⋯,⋯,⋯,?_⟩
  let ej:jT (ie ws (b_ m.toNat) (ns.take j)) i k=ie ws (b_ m.toNat) (ns.take (j+1)):=by
   let:ns.take (j+1)=ns.take j++[n]:=by rw[q3h,wj];rfl
   rw[this];unfold ie;rw[q6m];show _=jT _ (eW ws n).1 (eW ws n).2
   let:eW ws n=(i,k):=by
    unfold eW;rw[ey,e1,e2,q0s,q0s]
   rw[this]
  rw[ej];exact hL _ Y
 .ext δ rfl
  rw[Ba,q1y (Hz _)];calc⟨trivial,?_⟩;show N _;subst hN;simp!;calc cq k
inductive wR (ys:-DV) (aB:-OV) (K:RV->-OV->Prop):Prop
 |mk (m:Int) (ws:-Wy) (us:-Int) (h:Int) (_:aO m ws) (_:Nums ws us) (_:(0<=h/\h<m)) (_:ys=[.p (bq m ws),.p (tupI us),.p (.int h)]) (_:aB=[]) (_:K (.p (bJ (bj m ws us h))) [])
def Eo:WS:=(aD (bo 3 (aE 2 Em (ak (aa 0) (ak (aa 1) ag)))) (aQ (dZ (iY (ak (aa 3) ag)) [Z,Z,U 3,U 2] (iX 2 (dX (bR 0) (dX (bR 1) iJ))) (dT (d2 (aa 1) (d2 (aa 2) (aa 3) bz) oEq)) (aa 0))))
open Classical in
theorem Vr:Sem 3 1 wR Eo:=by
 rintro ys aB K'-⟨m,ws,us,h,W,hu,hh,rfl,rfl,k⟩;have iI:=W.iI;obtain⟨i,rfl⟩:=q2C hh.1;have hi:i<m.toNat:=by symm
 unfold Eo;refine br λN hN=>?_;simp!;refine⟨m,ws,us,W,hu,rfl,rfl,?_⟩;have mo:=JP W hu;generalize qB m ws us=fs at mo;have a1:=sy (ns:=fs) (i:=i) (by rw[mo.1];exact hi);rw[show bJ fs=.lst (fs.map D.int) from rfl];simp!;subst hN;simp!;refine L2.kS (sH λx=>decide (bE (gU ws us) i x)) sG (by rw[oM,Ba,mo.1];symm) trivial ?_ ?_
 .intro d hd acc L' ha h1 h2
  obtain⟨z,hz⟩:=q0d.mp hd;obtain⟨e,z1,z2⟩:=oN hz;rw[PB] at z1;obtain⟨y,z3,rfl⟩:=q0a.mp z1;rw[q0A] at z2;subst z2;have zl:z<m.toNat:=by rw[<-mo.1];exact(Hy.mp z3).1
  have ez:fs.getD z 0=y:=by rw[PD,z3];rfl
  simp only[sH,sG] at h1 h2;simp![a1];rw[uf]
  by_cases c:bE (gU ws us) i z
  .rw[q0i (show y=fs.getD i 0 by rw[<-ez];exact((mo.2 i z hi zl).mpr c).symm)]
   simp!;exact⟨ha,h1 (q0i c)⟩
  .rw[Zi (show ¬ y=fs.getD i 0 fromλe=>c ((mo.2 i z hi zl).mp (by rw[<-e,ez])))]
   simp!;exact h2 (Zi c)
 .have e:=yS (λx=>decide (bE (gU ws us) i x)) (fs.map D.int) 0
  have e2:(cls m.toNat (gU ws us) i).map D.int=((q4b 0 (fs.map D.int).length).filter λk:Nat=>decide (bE (gU ws us) i k)).map λk:Nat=>D.int k:=by
   unfold cls b_;rw[q10,q0C,Ba,<-q2O,mo.1];rfl
  rw[<-e2] at e;rw[e];exact cq k
noncomputable def Ep(t:Bool)(ns:-Int):D:=if t=θ then tupI ns else bJ ns
inductive wU (ys:-DV) (aB:-OV) (K:RV->-OV->Prop):Prop
 |mk (t:Bool) (ns:-Int) (_:↑(gq ns)<60) (_:ys=[.p (Ep t ns)]) (_:aB=[]) (_:K (.p (tupI (fY ns))) [])
def Er:WS:=(aQ (dN (ak (dN (ak (aa 0) ag) aS) ag) vV))
theorem Vs:Sem 1 0 wU Er:=by
 ext ys aB K'-⟨t,ns,h,rfl,rfl,k⟩;unfold Er;let e:↑(sortI (gq ns))<60:=by rw[IP];exact h
 cases t
 all_goals
  simp![ah,ai,aH,toF,aI,aF,aJ,aj,aK,FV.v,ae,oo,rG,aq,aW,bf,aX,a_,bc,ba,ay,au,ar,aS,bh,bg,aw,aZ,aU,aY,rJ,tE,Ep,tupI,bJ,nA];calc⟨h,?_⟩;calc cq k
inductive Es (ys:-DV) (aB:-OV) (K:RV->-OV->Prop):Prop
 |mk (m:Int) (ws:-Wy) (p k s l:-Int) (_:aO m ws) (_:↑p<=30) (_:k.length<=30) (_:↑l<=12) (_:ys=[.p (bq m ws),.p (gM p k s),.p (bJ l)]) (_:aB=[]) (_:K (.p (.int (2*((↑l:Int)-1)+2*(↑(mL ws (eD ws p k) l):Int)))) [])
def Et:WS:=(aD (bo 3 (d2 (d2 (aa 1) (dC (.int 0)) bz) (d2 (aa 1) (dC (.int 1)) bz) c8)) (aD (bo 4 (dZ (me (ak (dN (ak (d2 (aa 0) (dC (.int 1)) bz) ag) cB) ag)) [Z,U 3] (bR 0) (dT (d2 (aa 0) (aa 1) (fX θ))) (aa 0))) (aD (bo 5 (dZ (cm (aE 2 yU (ak (aa 0) (ak (aa 4) ag)))) [Z,U 2] (bR 0) (dT (d2 (aa 0) (aa 1) (fX ι))) (aa 0))) (aQ (d2 (d2 (dC (.int 2)) (d2 (dN (ak (aa 2) ag) cB) (dC (.int 1)) (oI λi j=>.int (i-j))) eV) (d2 (dC (.int 2)) (dN (ak (aa 5) ag) cB) eV) c8)))))
theorem Vt(ws:-Wy)(p k:-Int):Nums ws (eD ws p k):=λn h=>C4 (q0M.mp h).1
theorem Vu(ws:-Wy)(p k:-Int):↑(eD ws p k)<=↑ws:=by
 let:=q0K (λn=>G (n∉p++k)) (b_ ↑ws);rw[sC] at this;calc this
theorem Vv(ws:-Wy)(us:-Int):↑(mK ws us)=↑us+↑us:=by unfold mK;rw[Pz,Ba,Ba]
noncomputable def pL(p:Int->Bool):D->Bool
 |.int n=>p n
 |_=>ι
theorem za(p:Int->Bool)(us:-Int):((us.map D.int).filter (pL p)).map (λd=>d)=(us.filter p).map D.int:=by
 rw[List.map_id',q10];rfl
theorem Vw:Sem 3 3 Es Et:=by
 ext ys aB K'-⟨m,ws,p,k,s,l,W,hp,hk,hl,rfl,rfl,kk⟩;let kW:=W.iP;let d0:bT ((p++k).map D.int)=0:=ja _;let d1:=ja l;unfold Et;calc br λN hN=>?_;simp![gM,tupI,dB,eB];calc⟨⋯,?_⟩;rw[<-q0r];subst hN;calc br λN hN=>?_;simp![bq,eB];calc⟨⋯,?_⟩;rw[q0s,vX];refine L2.kS (pL λn=>G (n∉p++k)) (λd=>d) (by rw[Ba,sC];symm) trivial ?_ ?_
 .ext d hd acc L ha h1 h2
  let⟨n,hn,rfl⟩:=q0l.mp hd;erw[pL] at h1 h2;simp!;calc⟨⋯,?_⟩;rw[jc]
  by_cases c:n∈p++k
  .rw[q0i c];simp!;exact h2 (Zi (q4k c))
  .rw[Zi c];simp!;exact⟨ha,h1 (q0i c)⟩
 rw[za];let un:=Vt ws p k;let ul:=Vu ws p k;rw[show(b_ ↑ws).filter (λn=>G (n∉p++k))=eD ws p k from Y];unfold mL at kk;generalize eD ws p k=us at un ul kk ⊢;subst hN;calc br λN hN=>?_;simp!;calc⟨m,ws,us,W,un,⋯,Y,Y,?_⟩;rw[show bJ (mK ws us)=.lst ((mK ws us).map D.int) from Y];simp![bJ];let el:=Vv ws us;refine L2.kS (pL λn=>G (n∈l)) (λd=>d) (by rw[Ba];symm) trivial ?_ ?_
 .ext d hd acc L ha h1 h2
  let⟨n,hn,rfl⟩:=q0l.mp hd;erw[pL] at h1 h2;simp![d1];rw[jc]
  by_cases c:n∈l
  .rw[q0i c];simp!;exact⟨ha,h1 (q0i c)⟩
  .rw[Zi c];simp!;exact h2 (Zi c)
 rw[za];subst hN;simp!;let fl:=q0K (λn=>G (n∈l)) (mK ws us);calc⟨by unfold kF;symm,by unfold kF;symm,cq kk⟩
inductive Eu (ys:-DV) (aB:-OV) (K:RV->-OV->Prop):Prop
 |mk (m:Int) (ws:-Wy) (l:-Int) (_:aO m ws) (_:ys=[.p (bq m ws),.p (bJ l)]) (_:aB=[]) (_:K (.p (bJ (pH ws l))) [])
def Ew:WS:=(aQ (dZ (iY (ak (d2 (aa 0) (dC (.int 1)) bz) ag)) [Z,Z,U 1] (iX 2 (dX (bR 0) (dX (bR 1) iJ))) (fJ (dT (d2 (d2 (aa 1) (dC (.int 0)) bz) (aa 2) (fX ι))) (dT (d2 (d2 (aa 1) (dC (.int 1)) bz) (aa 2) (fX ι)))) (aa 0)))
theorem Vx:Sem 2 0 Eu Ew:=by
 ext ys aB K'-⟨m,ws,l,W,rfl,rfl,k⟩;let kW:=W.iP;let d0:=ja l;unfold Ew;simp![bq,eB];refine L2.kS (sH λi=>G ((aG ws i).1∈l)&&G ((aG ws i).2.1∈l)) sG (by rw[oM,Ba];symm) trivial ?_ ?_
 .ext d hd acc L' ha h1 h2
  let⟨z,hz⟩:=q0d.mp hd;let⟨e,z1,z2⟩:=oN hz;rw[PB] at z1;let⟨y,z3,rfl⟩:=q0a.mp z1;rw[q0A] at z2;subst z2;let ew:aG ws (z:Int)=y:=by unfold aG;rw[q0s,PD,z3];rfl
  erw[sH,sG] at h1 h2;rw[ew] at h1 h2;simp![bJ,bQ,dB,eB];calc⟨⋯,?_⟩;rw[jc]
  by_cases c:y.1∈l
  .rw[q0i c] at h1 h2 ⊢
   simp!;calc⟨⋯,?_⟩;rw[jc]
   by_cases c2:y.2.1∈l
   .rw[q0i c2] at h1 h2 ⊢;simp!;exact⟨ha,h1 Y⟩
   .rw[Zi c2] at h1 h2 ⊢;simp!;exact h2 Y
  .rw[Zi c] at h1 h2 ⊢
   simp!;exact h2 Y
 .let e:=yS (λi=>G ((aG ws i).1∈l)&&G ((aG ws i).2.1∈l)) (ws.map bQ) 0
  let e2:(pH ws l).map D.int=((q4b 0 ↑(ws.map bQ)).filter λk:Nat=>G ((aG ws (k:Int)).1∈l)&&G ((aG ws (k:Int)).2.1∈l)).map λk:Nat=>D.int k:=by
   unfold pH b_;rw[q10,q0C,Ba,<-q2O];rfl
  rw[<-e2] at e;rw[e];calc cq k
inductive Ex (ys:-DV) (aB:-OV) (K:RV->-OV->Prop):Prop
 |mk (m:Int) (ws:-Wy) (N:Nt) (h:Int) (_:aO m ws) (_:eO m ws N) (_:(0<=h/\h<m)) (_:ys=[.p (bq m ws),.p (gM N.p N.k N.s),.p (.int h)]) (_:aB=[]) (_:K (.p (.tup [oD (je ws (bj m ws N.p h)),.int (wI m ws N.p N.k h),gM N.p (sI m ws N.p N.k h) N.s])) [])
def Ey:WS:=(aD (bo 3 (aE 3 wR (ak (aa 0) (ak (d2 (aa 1) (dC (.int 0)) bz) (ak (aa 2) ag))))) (aD (bo 4 (aE 2 DQ (ak (aa 0) (ak (aE 2 DO (ak (aa 0) (ak (aa 3) ag))) ag)))) (aD (bo 5 (dZ (cm (aE 2 Eu (ak (aa 0) (ak (aa 3) ag)))) [Z,U 1] (bR 0) (dT (d2 (aa 0) (d2 (aa 1) (dC (.int 0)) bz) (fX θ))) (aa 0))) (aD (bo 6 (bV (ak (d2 (aa 1) (dC (.int 0)) bz) (ak (aE 1 wU (ak (d2 (dN (ak (d2 (aa 1) (dC (.int 1)) bz) ag) t7) (aa 5) c8) ag)) (ak (d2 (aa 1) (dC (.int 2)) bz) ag))))) (aQ (bV (ak (aa 4) (ak (aE 3 Es (ak (aa 0) (ak (aa 1) (ak (aa 3) ag)))) (ak (aa 6) ag)))))))))
theorem Vy:Sem 3 4 Ex Ey:=by
 ext ys aB K'-⟨m,ws,N,h,W,O,hh,rfl,rfl,k⟩;let kW:=W.iP;let pl:=O.pl W;let kl:=O.kl W;let ll:=um W (p:=N.p) (h:=h);let d0:=ja N.p
 let wl:↑(pH ws (bj m ws N.p h))<=↑ws:=by
  let:=q0K (λn=>G ((aG ws n).1∈bj m ws N.p h)&&G ((aG ws n).2.1∈bj m ws N.p h)) (b_ ↑ws);rw[sC] at this;exact this
 let nl:↑(jV ws (bj m ws N.p h) N.p)<=↑ws:=q0w (q0K _ _) wl
 let kr:∀x∈N.k++jV ws (bj m ws N.p h) N.p,0<=x/\x<(↑ws:Int):=λx hx=>by
  rcases q0u.mp hx with z|z
  .exact O.kn x z
  .exact (e7.mp z).1.1
 unfold Ey;calc br λM hM=>?_;simp![gM,dB];calc⟨m,ws,N.p,h,W,O.pn,hh,Y,Y,?_⟩;simp!;subst hM;calc br λM hM=>?_;simp!;calc⟨m,ws,bj m ws N.p h,W,Y,Y,?_⟩;simp!
 let go:∀d,d=oD (je ws (bj m ws N.p h))->M ⟨[U (.p (bq m ws)),U (.p (.tup [tupI N.p,tupI N.k,tupI N.s])),U (.p (.int h)),U (.p (bJ (bj m ws N.p h))),U (.p d),Z,Z],[]⟩:=by
  ext d rfl;subst hM;calc br λM hM=>?_;simp!;calc⟨m,ws,bj m ws N.p h,W,Y,Y,?_⟩;rw[show bJ (pH ws (bj m ws N.p h))=.lst ((pH ws (bj m ws N.p h)).map D.int) from Y];simp!;refine L2.kS (pL λn=>G (n∉N.p)) (λd=>d) (by rw[Ba];symm) trivial ?_ ?_
  .ext d hd acc L ha h1 h2
   let⟨n,hn,rfl⟩:=q0l.mp hd;erw[pL] at h1 h2;simp![dB,tupI,d0];rw[jc]
   by_cases c:n∈N.p
   .rw[q0i c];simp!;exact h2 (Zi (q4k c))
   .rw[Zi c];simp!;exact⟨ha,h1 (q0i c)⟩
  rw[za,show(pH ws (bj m ws N.p h)).filter (λn=>G (n∉N.p))=jV ws (bj m ws N.p h) N.p from Y];subst hM;calc br λM hM=>?_;simp![dB,eB,at2,tupI];calc⟨⋯,?_⟩;rw[<-q0r];calc⟨ι,N.k++jV ws (bj m ws N.p h) N.p,yV kr kW,Y,Y,?_⟩;simp!;subst hM;simp!;calc⟨m,ws,N.p,N.k,N.s,bj m ws N.p h,W,pl,kl,ll,Y,Y,?_⟩;simp!;exact cq k
 refine⟨m,ws,gW ws (bj m ws N.p h),W,yT,Y,Y,λe=>?_,λn hn b=>?_⟩
 .refine go _ ?_
  unfold je;rw[q0e e];rfl
 .refine go _ ?_
  unfold je;rw[q0c (List.ne_nil_of_mem hn),JZ W yT hn b];rfl
inductive Ez (ys:-DV) (aB:-OV) (K:RV->-OV->Prop):Prop
 |mk (m:Int) (ws:-Wy) (N:Nt) (w:Int) (_:aO m ws) (_:eO m ws N) (_:(0<=w/\w<(↑ws:Int))) (_:ys=[.p (bq m ws),.p (gM N.p N.k N.s),.p (.int w)]) (_:aB=[]) (_:K (.p (.tup [.int w,.int (1+DY m ws N.p w),gM (fY (N.p++[w])) N.k N.s])) [])
def EA:WS:=(aD (bo 3 (dZ (cm (aE 2 yU (ak (aa 0) (ak (dU (ak (aa 2) ag)) ag)))) [Z,U 0,U 1] (bR 0) dj (dN (ak (aE 3 wR (ak (aa 1) (ak (d2 (aa 2) (dC (.int 0)) bz) (ak (aa 0) ag)))) ag) cB))) (aQ (bV (ak (aa 2) (ak (d2 (dC (.int 1)) (dN (ak (aa 3) ag) uk) c8) (ak (bV (ak (aE 1 wU (ak (d2 (d2 (aa 1) (dC (.int 0)) bz) (bV (ak (aa 2) ag)) c8) ag)) (ak (d2 (aa 1) (dC (.int 1)) bz) (ak (d2 (aa 1) (dC (.int 2)) bz) ag)))) ag))))))
theorem KC{a b x:Int}(h:x∈[a,b])(b1:∀y∈[a,b],x<=y):x=min a b:=by
 let h1:=b1 a (by simp);let h2:=b1 b (by simp);erw[PC,q0o,q1r] at h;symm
theorem Vz:Sem 3 1 Ez EA:=by
 ext ys aB K'-⟨m,ws,N,w,W,O,hw,rfl,rfl,k⟩;let kW:=W.iP;let pl:=O.pl W;let⟨r1,r2⟩:=D1 W hw
 let kr:∀x∈N.p++[w],0<=x/\x<(↑ws:Int):=λx hx=>by
  rcases q0u.mp hx with z|z
  .exact O.pn x z
  .rw[q0D.mp z];exact hw
 unfold EA;calc br λM hM=>?_;simp!;calc⟨m,ws,[w],W,λn hn=>by rw[q0D.mp hn];calc hw,by show 1<=400;decide,Y,Y,?_⟩;rw[show bJ (mK ws [w])=.lst [.int (aG ws w).1,.int (aG ws w).2.1] from Y];simp!
 refine L2.km (λd=>match d with|.int x=>.int (↑(bj m ws N.p x):Int)|_=>.non) (by show 2<=1000;decide) trivial ?_ ?_
 .ext d hd acc L ha h
  let⟨x,rx,rfl⟩:∃x:Int,(0<=x/\x<m)/\d=.int x:=by
   erw[PC,q0o,q1r] at hd;rcases hd with rfl|rfl
   .exact⟨_,r1,Y⟩
   .exact⟨_,r2,Y⟩
  simp![gM,dB];calc⟨m,ws,N.p,x,W,O.pn,rx,Y,Y,?_⟩;simp![bJ];exact⟨ha,h⟩
 simp!;subst hM;unfold aQ bV;calc ua λK2 EB=>?_;simp!;subst EB;dsimp only;calc ua λK2 EB=>?_;simp![uk,intsOf];calc⟨by simp,λx hx b=>?_⟩;let ex:=KC hx b;subst EB;simp![gM,dB,eB,at2,tupI];refine⟨⋯,θ,N.p++[w],yV kr kW,?_,Y,?_⟩
 .unfold Ep tupI
  rw[q0r];rfl
 simp!;calc cq ?_;rw[ex];calc k
inductive EC (ys:-DV) (aB:-OV) (K:RV->-OV->Prop):Prop
 |mk (m:Int) (ws:-Wy) (N:Nt) (h:Int) (_:aO m ws) (_:eO m ws N) (_:(0<=h/\h<m)) (_:ys=[.p (bq m ws),.p (gM N.p N.k N.s),.p (.int h)]) (_:aB=[]) (_:K (.p (.tup [.non,.int ((↑(bj m ws N.p h):Int)-1),gM N.p N.k (fY (N.s++bj m ws N.p h))])) [])
def ED:WS:=(aD (bo 3 (aE 3 wR (ak (aa 0) (ak (d2 (aa 1) (dC (.int 0)) bz) (ak (aa 2) ag))))) (aQ (bV (ak (dC .non) (ak (d2 (dN (ak (aa 3) ag) cB) (dC (.int 1)) (oI λi j=>.int (i-j))) (ak (bV (ak (d2 (aa 1) (dC (.int 0)) bz) (ak (d2 (aa 1) (dC (.int 1)) bz) (ak (aE 1 wU (ak (d2 (dN (ak (d2 (aa 1) (dC (.int 2)) bz) ag) t7) (aa 3) c8) ag)) ag)))) ag))))))
theorem VA:Sem 3 1 EC ED:=by
 ext ys aB K'-⟨m,ws,N,h,W,O,hh,rfl,rfl,k⟩;let iI:=W.iI;let sl:=O.sl W;let ll:=um W (p:=N.p) (h:=h)
 let kr:∀x∈N.s++bj m ws N.p h,0<=x/\x<((m.toNat:Nat):Int):=λx hx=>by
  rcases q0u.mp hx with z|z
  .let:=O.sn x z;symm
  .let:=((lM W).mp z).1;symm
 unfold ED;calc br λM hM=>?_;simp![gM,dB];calc⟨m,ws,N.p,h,W,O.pn,hh,Y,Y,?_⟩;rw[show bJ (bj m ws N.p h)=.lst ((bj m ws N.p h).map D.int) from Y];simp!;subst hM;simp![dB,eB,at2,tupI];calc⟨⋯,?_⟩;rw[<-q0r];calc⟨ι,N.s++bj m ws N.p h,yV kr ⋯,Y,Y,?_⟩;simp!;calc cq k
inductive EE (ys:-DV) (aB:-OV) (K:RV->-OV->Prop):Prop
 |mk (m:Int) (ws:-Wy) (N:Nt) (fo:Option Int) (h:Int) (_:aO m ws) (_:eO m ws N) (_:(0<=h/\h<m)) (_:(∀w,fo=U w->0<=w/\w<(↑ws:Int))) (_:ys=[.p (bq m ws),.p (gM N.p N.k N.s),.p (.int h),.p (oD fo)]) (_:aB=[]) (_:K (.p (.tup [oD (mM m ws N fo h).1,.int (mM m ws N fo h).2,gM (fM m ws N fo h).p (fM m ws N fo h).k (fM m ws N fo h).s])) [])
def EF:WS:=(aD (bS (fJ (dT (d2 (aa 3) (dC .non) i7)) (dT (d2 (aa 2) (d2 (aa 1) (dC (.int 2)) bz) (fX θ)))) (aQ (aE 3 EC (ak (aa 0) (ak (aa 1) (ak (aa 2) ag))))) dM) (aD (bS (fJ (dT (d2 (aa 3) (dC .non) wc)) (dT (d2 (aa 3) (d2 (aa 1) (dC (.int 0)) bz) (fX θ)))) (aQ (aE 3 Ez (ak (aa 0) (ak (aa 1) (ak (aa 3) ag))))) dM) (aQ (bV (ak (dC .non) (ak (dC (.int 0)) (ak (aa 1) ag)))))))
theorem VB:Sem 4 0 EE EF:=by
 ext ys aB K'-⟨m,ws,N,fo,h,W,O,hh,hw,rfl,rfl,k⟩;let d0:=ja N.s;let d1:=ja N.p;unfold EF;unfold mM fM at k;calc br λM hM=>?_;refine i9 λA B hA hB=>?_
 cases fo with
 |none =>
  simp![oD,h_,gM,at2,tupI,d0];rw[jc];dsimp only at k
  by_cases c:h∈N.s
  .rw[q0i c]
   rw[q0e c,q0e c] at k;simp!;subst hB;show M _;subst hM;simp![h_,vS];exact cq k
  .rw[Zi c]
   rw[q0c c,q0c c] at k;simp!;subst hA;simp!;calc⟨m,ws,N,h,W,O,hh,Y,Y,?_⟩;simp!;exact cq k
 |some w =>
  simp![oD,h_];dsimp only at k;subst hB;show M _;subst hM;calc br λM hM=>?_;calc i9 λA2 B2 VC VD=>?_;simp![vS,gM,dB,tupI,d1];rw[jc]
  by_cases c:w∈N.p
  .rw[q0i c]
   rw[q0e c,q0e c] at k;simp!;subst VD;show M _;subst hM;simp!;exact cq k
  .rw[Zi c]
   rw[q0c c,q0c c] at k;simp!;subst VC;simp!;calc⟨m,ws,N,w,W,O,hw w Y,Y,Y,?_⟩;simp!;calc cq k
noncomputable def nO(C a b:O)(m:Int)(ws:-Wy)(N:Nt):OV:=.ins a C [("town",.p (bq m ws)),("latest",.p (gM N.p N.k N.s)),("begun",.p (.int (↑N.q:Int))),("going",.w b)]
noncomputable def gO(b:O)(N:Nt):OV:=.ac b (cf 0 N.q)
def EG(C:O):GK:=λys aB K=>∃(a:O)(m:Int)(ws:-Wy),aO m ws/\ys=[.w a,.p (bq m ws)]/\aB=[.ins a C []]/\∀b,K (.p .non) [nO C a b m ws cx] [gO b cx]
def EH(c_Night:O):WS:=(aD (lF (aE 1 Dw (ak (aa 1) ag))) (aD (aH c_Night "town" (aa 1) (aa 0)) (aD (aH c_Night "latest" (dC (.tup [(.tup []),(.tup []),(.tup [])])) (aa 0)) (aD (aH c_Night "begun" (dC (.int 0)) (aa 0)) (aH c_Night "going" a_ (aa 0))))))
theorem VE(C:O):∀ys aB K',↑ys=2->EG C ys aB K'->EH C (ae ↑aB K') ⟨ys.map U++q0f 0 Z,aB.map U⟩:=by
 ext ys aB K'-⟨a,m,ws,W,rfl,rfl,k⟩;unfold EH;calc br λN hN=>?_;simp![ah,ai,aH,toF,aI,aF,aJ,aj,aK,FV.v,ae,oo,rG];calc⟨m,ws,W,Y,Y,?_⟩;simp![ah,ai,aH,toF,aI,aF,aJ,aj,aK,FV.v,ae,oo,rG];subst hN;calc br λN hN=>?_;simp![ah,ai,aH,toF,aI,aF,aJ,aj,aK,FV.v,ae,oo,rG];calc⟨a,0,_,⟨Y,Y,by decide⟩,?_⟩;subst hN;calc br λN hN=>?_;simp![ah,ai,aH,toF,aI,aF,aJ,aj,aK,FV.v,ae,oo,rG];calc⟨a,0,_,⟨Y,Y,by show 1<1000;decide⟩,?_⟩;subst hN;calc br λN hN=>?_;simp![ah,ai,aH,toF,aI,aF,aJ,aj,aK,FV.v,ae,oo,rG];refine⟨a,0,_,⟨Y,Y,by show 2<1000;decide⟩,?_⟩
 subst hN;simp![ah,ai,aH,toF,aI,aF,aJ,aj,aK,FV.v,ae,oo,rG,aq,aW,bf,aX,a_,bc,ba,ay,au,ar,aS,bh,bg,aw,aZ,aU,aY,rJ,tE];ext b;calc⟨a,0,_,⟨Y,Y,by show 3<1000;decide⟩,?_⟩;calc⟨_,[gO b cx],[],Y,Y,k b⟩
def EI(C:O):GK:=λys aB K=>∃(a b:O)(m:Int)(ws:-Wy)(N:Nt)(h:Int),aO m ws/\eO m ws N/\(0<=h/\h<m)/\↑N.q<900/\ys=[.w a,.p (.int h)]/\aB=[nO C a b m ws N,gO b N]/\K (.p (gr (N.tell m ws (.wake h)))) [nO C a b m ws (N.step m ws (.wake h)),gO b (N.step m ws (.wake h))] []
def EJ(c_Night:O):WS:=(aD (bS (gD (dT (aE 3 sx (ak (aa 1) (ak (dC (.int 0)) (ak (d2 (d2 (ah c_Night "town" (aa 0)) (dC (.int 0)) bz) (dC (.int 1)) (oI λi j=>.int (i-j))) ag)))))) tR dM) (aD (bo 2 (ah c_Night "begun" (aa 0))) (aD (aH c_Night "begun" (d2 (aa 2) (dC (.int 1)) c8) (aa 0)) (aD (bS (dT (d2 (aa 1) (d2 (ah c_Night "latest" (aa 0)) (dC (.int 2)) bz) (fX ι))) (aQ (bV (ak (dC .non) (ak (dC (.int 0)) ag)))) dM) (aD (bo 3 (aE 3 Ex (ak (ah c_Night "town" (aa 0)) (ak (ah c_Night "latest" (aa 0)) (ak (aa 1) ag))))) (aD (ba (bV (ak (aa 1) (ak (d2 (aa 3) (dC (.int 0)) bz) ag))) (ai (ah c_Night "going" (aa 0))) (aa 2)) (aD (aH c_Night "latest" (d2 (aa 3) (dC (.int 2)) bz) (aa 0)) (aQ (bV (ak (dC .non) (ak (d2 (aa 3) (dC (.int 1)) bz) ag)))))))))))
theorem VF(C:ξ):∀ys aB K',↑ys=2->EI C ys aB K'->EJ C (ae ↑aB K') ⟨ys.map U++q0f 2 Z,aB.map U⟩:=by
 ext ys aB K'-⟨a,b,m,ws,N,h,W,O,hh,ql,rfl,rfl,k⟩;let d0:=ja N.s;let gl:=D_ (i:=0) (q:=N.q);unfold EJ;calc br λM hM=>?_;simp![ah,ai,aH,toF,aI,aF,aJ,aj,aK,FV.v,ae,oo,rG];calc⟨a,0,_,.p (bq m ws),⟨Y,Y,Y⟩,?_⟩;simp![ah,ai,aH,toF,aI,aF,aJ,aj,aK,FV.v,ae,oo,rG,bq,dB];calc⟨.int h,0,m-1,Y,Y,?_⟩;simp![ah,ai,aH,toF,aI,aF,aJ,aj,aK,FV.v,ae,oo,rG];rw[wg hh.1 ⋯];simp![ah,ai,aH,toF,aI,aF,aJ,aj,aK,FV.v,ae,oo,rG];subst hM;calc br λM hM=>?_;simp![ah,ai,aH,toF,aI,aF,aJ,aj,aK,FV.v,ae,oo,rG];refine⟨a,0,_,.p (.int (↑N.q:Int)),⟨Y,Y,Y⟩,?_⟩
 subst hM;calc br λM hM=>?_;simp![ah,ai,aH,toF,aI,aF,aJ,aj,aK,FV.v,ae,oo,rG];calc⟨a,0,_,⟨Y,Y,by show 4<1000;decide⟩,?_⟩;subst hM;calc br λM hM=>?_;calc i9 λA B hA hB=>?_;simp![ah,ai,aH,toF,aI,aF,aJ,aj,aK,FV.v,ae,oo,rG];calc⟨a,0,_,.p (gM N.p N.k N.s),⟨Y,Y,Y⟩,?_⟩;simp![ah,ai,aH,toF,aI,aF,aJ,aj,aK,FV.v,ae,oo,rG,gM,at2,tupI,d0];rw[jc];unfold Nt.tell Nt.step at k;dsimp only at k
 by_cases c:h∈N.s
 .rw[q0i c]
  rw[q0e c,q0e c] at k;simp![ah,ai,aH,toF,aI,aF,aJ,aj,aK,FV.v,ae,oo,rG];subst hA;simp![ah,ai,aH,toF,aI,aF,aJ,aj,aK,FV.v,ae,oo,rG];calc⟨[_,_],[],[],Y,Y,?_⟩;unfold nO gO at k;dsimp only at k;rw[D8,Pz] at k;exact k
 .rw[Zi c]
  rw[q0c c,q0c c] at k;simp![ah,ai,aH,toF,aI,aF,aJ,aj,aK,FV.v,ae,oo,rG];subst hB;show M _;subst hM;calc br λM hM=>?_;simp![ah,ai,aH,toF,aI,aF,aJ,aj,aK,FV.v,ae,oo,rG];calc⟨a,0,_,.p (bq m ws),⟨Y,Y,Y⟩,a,0,_,.p (gM N.p N.k N.s),⟨Y,Y,Y⟩,?_⟩;simp![ah,ai,aH,toF,aI,aF,aJ,aj,aK,FV.v,ae,oo,rG];calc⟨m,ws,N,h,W,O,hh,Y,Y,?_⟩;simp![ah,ai,aH,toF,aI,aF,aJ,aj,aK,FV.v,ae,oo,rG];subst hM;calc br λM hM=>?_;simp![ah,ai,aH,toF,aI,aF,aJ,aj,aK,FV.v,ae,oo,rG,aq,aW,bf,aX,a_,bc,ba,ay,au,ar,aS,bh,bg,aw,aZ,aU,aY,rJ,tE,dB];refine⟨a,0,_,.w b,⟨Y,Y,Y⟩,b,1,gO b N,⟨Y,Y,Y⟩,?_⟩
  simp![ah,ai,aH,toF,aI,aF,aJ,aj,aK,FV.v,ae,oo,rG,aq,aW,bf,aX,a_,bc,ba,ay,au,ar,aS,bh,bg,aw,aZ,aU,aY,rJ,tE,gO];calc⟨⋯,?_⟩;rw[show D.tup [.int h,oD (je ws (bj m ws N.p h))]=nP (je ws (bj m ws N.p h),h) from Y,U1];subst hM;calc br λM hM=>?_;simp![ah,ai,aH,toF,aI,aF,aJ,aj,aK,FV.v,ae,oo,rG,at2];calc⟨a,0,_,⟨Y,Y,by show 4<1000;decide⟩,?_⟩;subst hM;simp![ah,ai,aH,toF,aI,aF,aJ,aj,aK,FV.v,ae,oo,rG,eB];calc⟨[_,_],[],[],Y,Y,?_⟩;unfold nO gO at k;dsimp only at k;rw[Pz] at k;calc k
def EK(C:O):GK:=λys aB K=>∃(a b:O)(m:Int)(ws:-Wy)(N:Nt)(i:Nat),aO m ws/\eO m ws N/\gN m N (.fin i)/\ys=[.w a,.p (.int (i:Int))]/\aB=[nO C a b m ws N,gO b N]/\K (.p (gr (N.tell m ws (.fin i)))) [nO C a b m ws (N.step m ws (.fin i)),gO b (N.step m ws (.fin i))] []
def EL(c_Night:O):WS:=(aD (bS (nr (gD (dT (aE 1 yA (ak (aa 1) ag)))) (dT (ay θ (aa 1) (ai (ah c_Night "going" (aa 0)))))) tR dM) (aD (bo 2 (bc (ai (ah c_Night "going" (aa 0))) (aa 1))) (aD (bo 3 (aE 4 EE (ak (ah c_Night "town" (aa 0)) (ak (ah c_Night "latest" (aa 0)) (ak (d2 (aa 2) (dC (.int 0)) bz) (ak (d2 (aa 2) (dC (.int 1)) bz) ag)))))) (aD (aH c_Night "latest" (d2 (aa 3) (dC (.int 2)) bz) (aa 0)) (aQ (bV (ak (d2 (aa 3) (dC (.int 0)) bz) (ak (d2 (aa 3) (dC (.int 1)) bz) ag))))))))
theorem EM{m:Int}{ws:-Wy}{N:Nt}{q:-gK}(fo:Option Int)(h:Int):fM m ws ⟨N.p,N.k,N.s,q⟩ fo h=⟨(fM m ws N fo h).p,(fM m ws N fo h).k,(fM m ws N fo h).s,q⟩:=by
 cases fo<;>unfold fM<;>dsimp only<;>split<;>rfl
theorem VG(C:ξ):∀ys aB K',↑ys=2->EK C ys aB K'->EL C (ae ↑aB K') ⟨ys.map U++q0f 2 Z,aB.map U⟩:=by
 ext ys aB K'-⟨a,b,m,ws,N,i,W,O,⟨fo,h,hq⟩,rfl,rfl,k⟩;let⟨hh,hw,hn⟩:=O.q i fo h hq;let ev:du (cf 0 N.q) (.inl (i:Int))=U (nP (fo,h)):=by let:=Ea (i:=0) hq;rwa [q0A] at this
 let ed:k6 (cf 0 N.q) (.inl (i:Int))=cf 0 (N.q.set i Z):=by let:=Eb (i:=0) (j:=i) (q:=N.q);rwa [q0A] at this
 unfold Nt.tell Nt.step at k;dsimp only at k;rw[hq] at k;dsimp only at k;rw[EM] at k;unfold EL;calc br λM hM=>?_;calc i9 λA B hA hB=>?_;simp![ah,ai,aH,toF,aI,aF,aJ,aj,aK,FV.v,ae,oo,rG,aq,aW,bf,aX,a_,bc,ba,ay,au,ar,aS,bh,bg,aw,aZ,aU,aY,rJ,tE];calc⟨.int i,Y,Y,?_⟩;simp![ah,ai,aH,toF,aI,aF,aJ,aj,aK,FV.v,ae,oo,rG,aq,aW,bf,aX,a_,bc,ba,ay,au,ar,aS,bh,bg,aw,aZ,aU,aY,rJ,tE,CI];calc⟨a,0,_,.w b,⟨Y,Y,Y⟩,b,1,gO b N,⟨Y,Y,Y⟩,?_⟩;simp![ah,ai,aH,toF,aI,aF,aJ,aj,aK,FV.v,ae,oo,rG,aq,aW,bf,aX,a_,bc,ba,ay,au,ar,aS,bh,bg,aw,aZ,aU,aY,rJ,tE,gO,ev,q3V,q36];subst hB;show M _
 subst hM;calc br λM hM=>?_;simp![ah,ai,aH,toF,aI,aF,aJ,aj,aK,FV.v,ae,oo,rG,aq,aW,bf,aX,a_,bc,ba,ay,au,ar,aS,bh,bg,aw,aZ,aU,aY,rJ,tE];calc⟨a,0,_,.w b,⟨Y,Y,Y⟩,b,1,gO b N,⟨Y,Y,Y⟩,?_⟩;simp![ah,ai,aH,toF,aI,aF,aJ,aj,aK,FV.v,ae,oo,rG,aq,aW,bf,aX,a_,bc,ba,ay,au,ar,aS,bh,bg,aw,aZ,aU,aY,rJ,tE,gO,ev,ed];subst hM;calc br λM hM=>?_;simp![ah,ai,aH,toF,aI,aF,aJ,aj,aK,FV.v,ae,oo,rG];calc⟨a,0,_,.p (bq m ws),⟨Y,Y,Y⟩,a,0,_,.p (gM N.p N.k N.s),⟨Y,Y,Y⟩,?_⟩;simp![ah,ai,aH,toF,aI,aF,aJ,aj,aK,FV.v,ae,oo,rG,nP,dB,eB];refine⟨m,ws,N,fo,h,W,O,hh,hw,Y,Y,?_⟩
 simp![ah,ai,aH,toF,aI,aF,aJ,aj,aK,FV.v,ae,oo,rG];subst hM;calc br λM hM=>?_;simp![ah,ai,aH,toF,aI,aF,aJ,aj,aK,FV.v,ae,oo,rG,at2];calc⟨a,0,_,⟨Y,Y,by show 4<1000;decide⟩,?_⟩;subst hM;simp![ah,ai,aH,toF,aI,aF,aJ,aj,aK,FV.v,ae,oo,rG,dB,eB];calc⟨[_,_],[],[],Y,Y,?_⟩;unfold nO gO at k;dsimp only at k;rw[q1v] at k;calc k
section
variable{m:Int}{ws:-Wy}
theorem KD:∀{N:Nt}{es:-fN}{i:Nat}{e:fN},nM m ws N es->es[i]?=U e->gN m (runN m ws N (es.take i)) e/\nM m ws N (es.take i)
 |_,[],_,_,_,h=>by simp at h
 |N,x::r,0,e,h,q=>by cases(show U x=U e by simpa using q);exact⟨h.1,trivial⟩
 |N,x::r,i+1,e,h,q=>by
  let:=KD (N:=N.step m ws x) (es:=r) (i:=i) (e:=e) h.2 q⁻¹;calc⟨this.1,h.1,this.2⟩
theorem VH(N:Nt)(e:fN):(N.step m ws e).q.length<=↑N.q+1:=by
 cases e with
 |wake h =>
  unfold Nt.step;dsimp only;split
  .show ↑(N.q++[Z])<=_;rw[Pz];exact Hz _
  .show ↑(N.q++[U _])<=_;rw[Pz];exact Hz _
 |fin i =>
  unfold Nt.step;dsimp only;split
  .rename_i fo h _
   rw[EM (N:=N) fo h];show↑(N.q.set i Z)<=_;rw[q1v];symm
  .omega
theorem EN:∀{N:Nt}{es:-fN},(runN m ws N es).q.length<=↑N.q+↑es
 |_,[]=>Hz _
 |N,x::r=>by
  let:=EN (N:=N.step m ws x) (es:=r);let:=VH (m:=m) (ws:=ws) N x;show(runN m ws (N.step m ws x) r).q.length<=_;rw[HB];symm
theorem KG{α:Type}{l:-α}{i:Nat}{a:α}(h:l[i]?=U a):l.take (i+1)=l.take i++[a]:=by
 rw[List.take_add_one,h];rfl
end
def EO(C:O):GK:=λys aB K=>∃(a b:O)(m:Int)(ws:-Wy)(N:Nt)(e:fN),aO m ws/\eO m ws N/\gN m N e/\↑N.q<900/\ys=[.w a,.p (iK e)]/\aB=[nO C a b m ws N,gO b N]/\K (.p (gr (N.tell m ws e))) [nO C a b m ws (N.step m ws e),gO b (N.step m ws e)] []
def ER(c_Night:O):WS:=(aD (bS (fJ (dT (aE 2 uc (ak (aa 1) (ak (dC (.int 2)) ag)))) (dT (d2 (d2 (aa 1) (dC (.int 0)) bz) (dC (.str "wake")) oEq))) (aQ (aI ι c_Night "wake" 2 (EI c_Night) (aa 0) (ak (d2 (aa 1) (dC (.int 1)) bz) ag))) dM) (aD (bS (fJ (dT (aE 2 uc (ak (aa 1) (ak (dC (.int 2)) ag)))) (dT (d2 (d2 (aa 1) (dC (.int 0)) bz) (dC (.str "end")) oEq))) (aQ (aI ι c_Night "end" 2 (EK c_Night) (aa 0) (ak (d2 (aa 1) (dC (.int 1)) bz) ag))) dM) tR))
theorem VI(C:ξ):∀ys aB K',↑ys=2->EO C ys aB K'->ER C (ae ↑aB K') ⟨ys.map U++q0f 0 Z,aB.map U⟩:=by
 ext ys aB K'-⟨a,b,m,ws,N,e,W,O,he,ql,rfl,rfl,k⟩;let ww:dEq (.str "wake") (.str "wake")=θ:=Y;let ew:dEq (.str "end") (.str "wake")=ι:=Y;let ee:dEq (.str "end") (.str "end")=θ:=Y;unfold ER;refine br λM hM=>i9 λA B hA hB=>?_
 cases e with
 |wake h =>
  simp![ah,ai,aH,toF,aI,aF,aJ,aj,aK,FV.v,ae,oo,rG,iK];calc⟨.tup [.str "wake",.int h],2,Y,Y,?_⟩;simp![ah,ai,aH,toF,aI,aF,aJ,aj,aK,FV.v,ae,oo,rG,sv,dB,ww,q44,q32];subst hA;simp![ah,ai,aH,toF,aI,aF,aJ,aj,aK,FV.v,ae,oo,rG];calc⟨⟨a,0,_,Y,Y,Y⟩,?_⟩;simp![ah,ai,aH,toF,aI,aF,aJ,aj,aK,FV.v,ae,oo,rG,eB];calc⟨[(0,nO C a b m ws N),(1,gO b N)],⟨Y,Y,trivial⟩,?_⟩;simp![ah,ai,aH,toF,aI,aF,aJ,aj,aK,FV.v,ae,oo,rG];calc⟨a,b,m,ws,N,h,W,O,he,ql,Y,Y,?_⟩;simp![ah,ai,aH,toF,aI,aF,aJ,aj,aK,FV.v,ae,oo,rG];exact⟨[_,_],[],[],Y,Y,k⟩
 |fin i =>
  simp![ah,ai,aH,toF,aI,aF,aJ,aj,aK,FV.v,ae,oo,rG,iK];calc⟨.tup [.str "end",.int i],2,Y,Y,?_⟩;simp![ah,ai,aH,toF,aI,aF,aJ,aj,aK,FV.v,ae,oo,rG,sv,dB,ew,q44,q32];subst hB;simp![ah,ai,aH,toF,aI,aF,aJ,aj,aK,FV.v,ae,oo,rG];subst hM;calc br λM hM=>i9 λA B hA hB=>?_;simp![ah,ai,aH,toF,aI,aF,aJ,aj,aK,FV.v,ae,oo,rG];calc⟨.tup [.str "end",.int i],2,Y,Y,?_⟩;simp![ah,ai,aH,toF,aI,aF,aJ,aj,aK,FV.v,ae,oo,rG,sv,dB,ee,q44,q32];subst hA;simp![ah,ai,aH,toF,aI,aF,aJ,aj,aK,FV.v,ae,oo,rG];calc⟨⟨a,0,_,Y,Y,Y⟩,?_⟩;simp![ah,ai,aH,toF,aI,aF,aJ,aj,aK,FV.v,ae,oo,rG,eB]
  calc⟨[(0,nO C a b m ws N),(1,gO b N)],⟨Y,Y,trivial⟩,?_⟩;simp![ah,ai,aH,toF,aI,aF,aJ,aj,aK,FV.v,ae,oo,rG];calc⟨a,b,m,ws,N,i,W,O,he,Y,Y,?_⟩;simp![ah,ai,aH,toF,aI,aF,aJ,aj,aK,FV.v,ae,oo,rG];calc⟨[_,_],[],[],Y,Y,k⟩
def ES(C:O):GK:=λys aB K=>∃(a b:O)(m:Int)(ws:-Wy)(es:-fN),aO m ws/\nM m ws cx es/\↑es<900/\ys=[.w a,.p (.lst (es.map iK))]/\aB=[nO C a b m ws cx,gO b cx]/\K (.n ((jW m ws cx es).map gr)) [nO C a b m ws (runN m ws cx es),gO b (runN m ws cx es)] []
def ET(c_Night:O):WS:=(aD (bo 2 (oz ag)) (aD (fK (iY (ak (aa 1) ag)) (iX 2 (dX (bR 3) (dX (bR 4) iJ))) (lF (ib (aa 2) (ak (aF ι 2 (EO c_Night) (ak (aa 0) (ak (aa 4) ag))) ag)))) (aQ (aa 2))))
theorem VJ(C:O):∀ys aB K',↑ys=2->ES C ys aB K'->ET C (ae ↑aB K') ⟨ys.map U++q0f 3 Z,aB.map U⟩:=by
 ext ys aB K'-⟨a,b,m,ws,es,W,ok,KH,rfl,rfl,k⟩;unfold ET;calc br λM hM=>?_;simp![ah,ai,aH,toF,aI,aF,aJ,aj,aK,FV.v,ae,oo,rG];subst hM;calc br λM hM=>sk λg' b' K2 hg hb' hK=>?_;simp![ah,ai,aH,toF,aI,aF,aJ,aj,aK,FV.v,ae,oo,rG];subst hg hb' hK;refine oU (λi δ=>δ=⟨[U (.w a),U (.p (.lst (es.map iK))),U (.o 2),Z,Z],[U (nO C a b m ws (runN m ws cx (es.take i))),U (gO b (runN m ws cx (es.take i))),U (.lst ((jW m ws cx (es.take i)).map gr))]⟩) Y ?_ ?_
 .ext i d δ L hi rfl hL
  let⟨e',h1,h2⟩:=oN hi;rw[q0A] at h2;subst h2;rw[PB] at h1;let⟨e,he,rfl⟩:=q0a.mp h1;let il:i<↑es:=(Hy.mp he).1;let⟨o1,o2⟩:=KD ok he;let ql:=EN (m:=m) (ws:=ws) (N:=cx) (es:=es.take i);let tl:=yW (m:=m) (ws:=ws) (N:=cx) (a:=es.take i);rw[q0E,Nat.min_eq_left (q1d il)] at ql tl;let ql:(runN m ws cx (es.take i)).q.length<=i:=by let:=ql;erw[cx,q1i,q0A] at this;exact this
  let ON:=eO.run W (wJ m ws) o2;let hN:∀δ',δ'=_->L δ':=hL;rw[KG he,DZ,D0] at hN;generalize runN m ws cx (es.take i)=N at ON o1 ql hN ⊢;calc⟨trivial,?_⟩;erw[iX,dX,iJ,bR,HB,q1i,q1b,q1c,q0A,q7K,true_and];simp![ah,ai,aH,toF,aI,aF,aJ,aj,aK,FV.v,ae,oo,rG,gf];calc⟨[(0,nO C a b m ws N),(1,gO b N)],⟨Y,Y,trivial⟩,?_⟩;simp![ah,ai,aH,toF,aI,aF,aJ,aj,aK,FV.v,ae,oo,rG];calc⟨a,b,m,ws,N,e,W,ON,o1,⋯,Y,Y,?_⟩;simp![ah,ai,aH,toF,aI,aF,aJ,aj,aK,FV.v,ae,oo,rG,cP];calc⟨by rw[tl];symm,?_⟩;calc hN _ ?_;rw[q0r];rfl
 .ext δ rfl
  calc⟨trivial,?_⟩;show M _;subst hM;simp![ah,ai,aH,toF,aI,aF,aJ,aj,aK,FV.v,ae,oo,rG];calc⟨[_,_],[],[U (.lst _)],Y,Y,Hz _,?_⟩;rw[oM,Ba,q2Q];calc k
def EU(C:O):GK:=λys aB K=>∃(m:Int)(ws:-Wy)(es:-fN),aO m ws/\nM m ws cx es/\↑es<900/\ys=[.p (bq m ws),.p (.lst (es.map iK))]/\aB=[]/\K (.n ((jW m ws cx es).map gr)) [] []
def EV(c_Night:O):WS:=(aQ (aF θ 2 (ES c_Night) (ak (aJ c_Night 2 (EG c_Night) (ak (aa 0) ag)) (ak (aa 1) ag))))
theorem VL(C:O):∀ys aB K',↑ys=2->EU C ys aB K'->EV C (ae ↑aB K') ⟨ys.map U++q0f 0 Z,aB.map U⟩:=by
 ext ys aB K'-⟨m,ws,es,W,ok,KH,rfl,rfl,k⟩;unfold EV;simp![ah,ai,aH,toF,aI,aF,aJ,aj,aK,FV.v,ae,oo,rG];ext a;calc⟨[(0,.ins a C [])],⟨Y,trivial⟩,?_⟩;simp![ah,ai,aH,toF,aI,aF,aJ,aj,aK,FV.v,ae,oo,rG];calc⟨a,m,ws,W,Y,Y,λb=>?_⟩;simp![ah,ai,aH,toF,aI,aF,aJ,aj,aK,FV.v,ae,oo,rG,cP];calc⟨[(0,nO C a b m ws cx),(1,gO b cx)],⟨Y,Y,trivial⟩,?_⟩;simp![ah,ai,aH,toF,aI,aF,aJ,aj,aK,FV.v,ae,oo,rG];calc⟨a,b,m,ws,es,W,ok,KH,Y,Y,?_⟩;simp![ah,ai,aH,toF,aI,aF,aJ,aj,aK,FV.v,ae,oo,rG,cP];calc⟨[],[],[U _,U _,U (.lst _)],Y,Y,q0Z _,k⟩
end LJ
namespace PySem
open Sem (wp)
structure ZG(z TI TO i j:O)(fp gp:-O):Prop where
 a1:TI≠z
 a2:TO≠z
 a3:i≠z
 a4:j≠z
 a5:TI≠TO
 a6:TI≠i
 a7:TI≠j
 a8:TO≠i
 a9:TO≠j
 b1:i≠j
 f1:z∉fp
 f2:TO∉fp
 f3:j∉fp
 g1:z∉gp
 g2:TO∉gp
 g3:i∉gp
theorem bk{a:O}{h h':I}(hs:q2E a h h'){b:O}{o:Q}(n:b≠a)(e:h.get? b=U o):h'.get? b=U o:=(hs.2 b n).trans e
section
variable{prog:t}{w:S}{A:o}{E:bA}{s:B}{z TI TO i j:O}{fp gp:-O}{n m k:Nat}{P P':Nat->L->Prop}{St k9:Nat->I->Prop}{a b:L}
theorem VM{Q:bA}(D:Draws prog w A i fp n P St)(D':Draws prog w A j gp m P' k9)(Z:ZG z TI TO i j fp gp)
  (hz:IsZip s.heap z TI TO .none) (hI:IsPair s.heap TI (.ref i) (.ref j)) (hO:IsPair s.heap TO a b) (st:St k s.heap) (gi:k9 k s.heap) (hk:k<n) (jy:k<m)
  (hQ:∀x y h' tk,P k x->P' k y->IsZip h' z TI TO (rawInt ⇑s)->IsPair h' TO x y->St (k+1) h'->k9 (k+1) h'->IsPair h' ⇑s x y →
   (∀c o,c≠z->c≠TO->c≠i->c≠j->s.heap.get? c=U o->h'.get? c=U o)->Q (.ref ⇑s) {s with heap:=h',toks:=tk}) :
  M (g prog w) A (Builtin.«zip.__next__» ⟨[.ref z],[]⟩) (λfin s'=>∃v,fin=.done (.ret v)/\Q v s') E s:=by
 show M _ _ (field (.ref z) 2 >>= _) _ _ _;calc rH (q1C hz Y (x:=.bool ι) Y ?_);show M _ _ (field (.ref z) 3 >>= _) _ _ _;calc rH (q1C hz Y (x:=.ref TI) Y (rH (q1D hI Y ?_)));show M _ _ (q1G (.ref z) >>= _) _ _ _;calc rH ?_;unfold q1G;calc rH (q1C hz Y (x:=.none) Y (HA ?_));erw[q2G];calc rH (q3p (rH (q1C hz Y (x:=.ref TO) Y (rH (q2k hz (by simp) λk1 z1 s1=>?_)))));let z1:IsZip k1 z TI TO .ellipsis:=z1;calc rH ?_;erw[q6G,q63,q41,q5r];calc rH (rH (q4l ?_));show M _ _ (q1z (.ref i) >>= _) _ _ _;refine rH (D.item k {s with heap:=k1} _ _ hk (D.frame k _ _ st λc hc o e=>bk s1 (λy=>Z.f1 (y▸hc)) e) λx k2 t2 px j5 s2=>HA ?_)
 let o2:IsPair k2 TO a b:=bk s2 Z.a8 (bk s1 Z.a2 hO);calc rH (q1D o2 Y (rH (q3x o2 λk3 o3 s3=>?_)));let o3:IsPair k3 TO x b:=o3;calc rH (q27 (HA (rH (rH (q4l ?_)))));show M _ _ (q1z (.ref j) >>= _) _ _ _;let sR:k9 k k3:=D'.frame k _ _ gi λc hc o e=>bk s3 (λy=>Z.g2 (y▸hc)) (bk s2 (λy=>Z.g3 (y▸hc)) (bk s1 (λy=>Z.g1 (y▸hc)) e));let qa:St (k+1) k3:=D.frame _ _ _ j5 λc hc o e=>bk s3 (λy=>Z.f2 (y▸hc)) e;calc rH (D'.item k {s with heap:=k3,toks:=t2} _ _ jy sR λy k4 t4 py VN s4=>HA ?_);let o4:IsPair k4 TO x b:=bk s4 Z.a9 o3;refine rH (q1D o4 Y (rH (q3x o4 λk5 o5 s5=>?_)))
 let o5:IsPair k5 TO x y:=o5;calc rH (q27 (HA (HA (rH (q1D o5 Y (rH (q7r ?_)))))));let sz:k5.objs.size=⇑s:=by rw[s5.1,s4.1,s3.1,s2.1,s1.1]
 let z5:IsZip k5 z TI TO .ellipsis:=bk s5 Z.a2.symm (bk s4 Z.a4.symm (bk s3 Z.a2.symm (bk s2 Z.a3.symm z1)));let kp:∀c o,c≠z->c≠TO->c≠i->c≠j->s.heap.get? c=U o->k5.get? c=U o:=λc o c1 c2 c3 c4 e=>bk s5 c2 (bk s4 c4 (bk s3 c2 (bk s2 c3 (bk s1 c1 e))));let t5:St (k+1) k5:=D.frame _ _ _ qa λc hc o e=>bk s5 (λy=>Z.f2 (y▸hc)) (bk s4 (λy=>Z.f3 (y▸hc)) e);let VO:k9 (k+1) k5:=D'.frame _ _ _ VN λc hc o e=>bk s5 (λy=>Z.g2 (y▸hc)) e;let zl:z<k5.objs.size:=Ze z5;show M _ _ (q2W (.ref z) (.ref k5.objs.size) >>= _) _ _ _;calc rH ?_;unfold q2W;refine rH (q2k (show IsZip (k5.push {cls:=.type "tuple",data:=.seq #[x,y]}) z TI TO .ellipsis from u7 _ z5) (by simp) λk7 z7 s7=>?_)
 let z7:IsZip k7 z TI TO (rawInt k5.objs.size):=z7;calc q2k z7 (by simp) λk8 z8 s8=>?_;let z8:IsZip k8 z TI TO (rawInt k5.objs.size):=z8;let up:∀c o,c≠z->k5.get? c=U o->k8.get? c=U o:=λc o c1 e=>bk s8 c1 (bk s7 c1 (u7 _ e));let p8:IsPair k8 k5.objs.size x y:=bk s8 (q1I zl) (bk s7 (q1I zl) (Zg _ Y));rw[sz] at z8 p8;calc HA ⟨_,Y,?_⟩;show Q (.ref k5.objs.size) _;rw[sz];calc hQ x y k8 t4 px py z8 (up _ _ Z.a2 o5) (D.frame _ _ _ t5 λc hc o e=>up c o (λy=>Z.f1 (y▸hc)) e) (D'.frame _ _ _ VO λc hc o e=>up c o (λy=>Z.g1 (y▸hc)) e) p8 λc o c1 c2 c3 c4 e=>up c o c1 (kp c o c1 c2 c3 c4 e)
theorem VP{Q:Fin->B->Prop}(D:Draws prog w A i fp n P St)(D':Draws prog w A j gp m P' k9)(Z:ZG z TI TO i j fp gp)
  (hz:IsZip s.heap z TI TO .none) (hI:IsPair s.heap TI (.ref i) (.ref j)) (hO:IsPair s.heap TO a b) (st:St k s.heap) (gi:k9 k s.heap) (hk:k=n\/(k<n/\k=m))
  (hE:∀h' e tk,(∀c o,c≠z->c≠TO->c≠i->c≠j->s.heap.get? c=U o->h'.get? c=U o)->(∃o,h'.get? e=U o/\o.cls=.type "StopIteration")->E (.ref e) {s with heap:=h',toks:=tk}) :
  M (g prog w) A (Builtin.«zip.__next__» ⟨[.ref z],[]⟩) Q E s:=by
 show M _ _ (field (.ref z) 2 >>= _) _ _ _;calc rH (q1C hz Y (x:=.bool ι) Y ?_);show M _ _ (field (.ref z) 3 >>= _) _ _ _;calc rH (q1C hz Y (x:=.ref TI) Y (rH (q1D hI Y ?_)));show M _ _ (q1G (.ref z) >>= _) _ _ _;calc rH ?_;unfold q1G;calc rH (q1C hz Y (x:=.none) Y (HA ?_));erw[q2G];calc rH (q3p (rH (q1C hz Y (x:=.ref TO) Y (rH (q2k hz (by simp) λk1 z1 s1=>?_)))));let z1:IsZip k1 z TI TO .ellipsis:=z1;calc rH ?_;erw[q6G,q63,q41,q5r];calc rH (rH (q4l ?_));show M _ _ (q1z (.ref i) >>= _) _ _ _;let lg:St k k1:=D.frame k _ _ st λc hc o e=>bk s1 (λy=>Z.f1 (y▸hc)) e
 rcases hk with rfl|⟨hk,rfl⟩
 .refine rH (D.done {s with heap:=k1} _ _ lg λk2 e s2 he=>?_)
  let⟨oe,ho,hc⟩:=he;let z2:IsZip k2 z TI TO .ellipsis:=s2 _ _ Z.a3.symm z1;let ez:e≠z:=λx=>by subst x;rw[z2] at ho;cases ho;simp at hc
  exact q2k z2 (by simp) λk3 _ s3=>hE k3 e _ (λc o c1 _ c3 _ x=>bk s3 c1 (s2 _ _ c3 (bk s1 c1 x))) ⟨oe,bk s3 ez ho,hc⟩
 .refine rH (D.item k {s with heap:=k1} _ _ hk lg λx k2 t2 px j5 s2=>HA ?_)
  let o2:IsPair k2 TO a b:=bk s2 Z.a8 (bk s1 Z.a2 hO);calc rH (q1D o2 Y (rH (q3x o2 λk3 o3 s3=>?_)));calc rH (q27 (HA (rH (rH (q4l ?_)))));show M _ _ (q1z (.ref j) >>= _) _ _ _;let sR:k9 k k3:=D'.frame k _ _ gi λc hc o e=>bk s3 (λy=>Z.g2 (y▸hc)) (bk s2 (λy=>Z.g3 (y▸hc)) (bk s1 (λy=>Z.g1 (y▸hc)) e));calc rH (D'.done {s with heap:=k3,toks:=t2} _ _ sR λk4 e s4 he=>?_);let⟨oe,ho,hc⟩:=he;let z4:IsZip k4 z TI TO .ellipsis:=s4 _ _ Z.a4.symm (bk s3 Z.a2.symm (bk s2 Z.a3.symm z1));let ez:e≠z:=λx=>by subst x;rw[z4] at ho;cases ho;simp at hc
  calc q2k z4 (by simp) λk5 _ s5=>hE k5 e _ (λc o c1 c2 c3 c4 x=>bk s5 c1 (s4 _ _ c4 (bk s3 c2 (bk s2 c3 (bk s1 c1 x))))) ⟨oe,bk s5 ez ho,hc⟩
theorem VQ{Q:Option L->B->Prop}(D:Draws prog w A.in1 i fp n P St)(D':Draws prog w A.in1 j gp m P' k9)(Z:ZG z TI TO i j fp gp)
  (hz:IsZip s.heap z TI TO .none) (hI:IsPair s.heap TI (.ref i) (.ref j)) (hO:IsPair s.heap TO a b) (st:St k s.heap) (gi:k9 k s.heap) (hk:k<n) (jy:k<m)
  (hQ:∀x y h' tk,P k x->P' k y->IsZip h' z TI TO (rawInt ⇑s)->IsPair h' TO x y->St (k+1) h'->k9 (k+1) h'->IsPair h' ⇑s x y →
   (∀c o,c≠z->c≠TO->c≠i->c≠j->s.heap.get? c=U o->h'.get? c=U o)->Q (U (.ref ⇑s)) {s with heap:=h',toks:=tk}):M (g prog w) A (pyNext (.ref z)) Q E s:=by
 let hT:s.TypeIs (.ref z) "zip" := ⟨_,hz,Y⟩;unfold pyNext;calc rH (q4f (q07 (name:=q0V "__next__") hT q3D (q08 q3D hT q6H (VM D D' Z hz hI hO st gi hk jy λx y h' tk a1 a2 a3 a4 a5 a6 a7 a8=>HA (hQ x y h' tk a1 a2 a3 a4 a5 a6 a7 a8)) (q6r _))))
theorem VR{Q:Option L->B->Prop}(D:Draws prog w A.in1 i fp n P St)(D':Draws prog w A.in1 j gp m P' k9)(Z:ZG z TI TO i j fp gp)
  (hz:IsZip s.heap z TI TO .none) (hI:IsPair s.heap TI (.ref i) (.ref j)) (hO:IsPair s.heap TO a b) (st:St k s.heap) (gi:k9 k s.heap) (hk:k=n\/(k<n/\k=m))
  (hQ:∀h' tk,(∀c o,c≠z->c≠TO->c≠i->c≠j->s.heap.get? c=U o->h'.get? c=U o)->Q η {s with heap:=h',toks:=tk}):M (g prog w) A (pyNext (.ref z)) Q E s:=by
 let hT:s.TypeIs (.ref z) "zip" := ⟨_,hz,Y⟩;unfold pyNext;calc rH (q4f (q07 (name:=q0V "__next__") hT q3D (q08 q3D hT q6H (VP D D' Z hz hI hO st gi hk λh' e tk kp he=>?_) (q6r _))));let⟨o,ho,hc⟩:=he;calc rH (q4s (T:="StopIteration") (b:=true) ⟨o,ho,hc⟩ q7c (HA (hQ _ _ kp)))
end
def eE(h:I)(t:Bool)(l:O)(xs:Array L):Prop:=match t with
 |true=>h.IsTuple l xs
 |false=>h.IsList l xs
noncomputable abbrev jY(t:Bool)(l:O)(k:Nat):Q:={cls:=.type (match t with|true=>"tuple_iterator" | false=>"list_iterator"),data:=.fields #[.ref l,.int k 0]}
def fP(h:I)(t:Bool)(it l:O)(k:Nat):Prop:=match t with
 |true=>h.IsTupleIter it l k
 |false=>h.IsListIter it l k
theorem eE.lt{h:I}{t:Bool}{l:O}{xs:Array L}(x:eE h t l xs):l<h.objs.size:=by
 cases t<;>(let⟨o,e,_⟩:=x;calc Ze e)
theorem eE.at{h h':I}{t:Bool}{l:O}{xs:Array L}(x:eE h t l xs)(k:∀o,h.get? l=U o->h'.get? l=U o):eE h' t l xs:=by
 cases t with
 |true=>exact Heap.IsTuple.at x k
 |false=>calc Heap.IsList.at x k
theorem fP.at{h h':I}{t:Bool}{i l:O}{n:Nat}(x:fP h t i l n)(k:∀o,h.get? i=U o->h'.get? i=U o):fP h' t i l n:=by
 cases t with
 |true=>exact Heap.IsTupleIter.at x k
 |false=>calc Heap.IsListIter.at x k
theorem fP.obj{h:I}{t:Bool}{i l:O}{n:Nat}(x:fP h t i l n):∃o,h.get? i=U o/\∀v,o.data≠.cell v:=by
 cases t<;>(let⟨o,e,_,d⟩:=x;calc⟨o,e,λv z=>by rw[d] at z;cases z⟩)
theorem fP.new{h:I}{t:Bool}{i l:O}(e:h.get? i=U (jY t l 0)):fP h t i l 0:=by
 cases t<;>calc⟨_,e,Y,Y⟩
section
variable{prog:t}{w:S}{A:o}{E:bA}{s:B}
theorem zb(hh:A.handled=Z)(t:Bool)(it l:O)(gv:l≠it)(items:Array L):Draws prog w A it [it,l] items.size (λi v=>items[i]?=U v) (λi h=>fP h t it l i/\eE h t l items):=by
 cases t
 .exact Draws.list hh it l gv items
 .calc BS hh it l gv items
theorem KI{t:Bool}{l:O}{xs:Array L}{Q:bA}(hl:eE s.heap t l xs)(h:Q (.ref ⇑s) {s with heap:=s.heap.push (jY t l 0)}):M (g prog w) A (pyIter (.ref l)) Q E s:=by
 cases t
 .exact q1X hl h
 .calc q2i hl h
end
noncomputable abbrev zc(h:I)(t:Bool)(l:O):I:=h.push (jY t l 0)
noncomputable abbrev zd(h:I)(t u:Bool)(l m:O):I:=(zc h t l).push (jY u m 0)
noncomputable abbrev ze(h:I)(t u:Bool)(l m:O):I:=(zd h t u l m).push {cls:=.type "tuple",data:=.seq #[.ref h.objs.size,.ref (zc h t l).objs.size]}
noncomputable abbrev zf(h:I)(t u:Bool)(l m:O):I:=(ze h t u l m).push {cls:=.type "tuple",data:=.seq #[.none,.none]}
noncomputable abbrev ur(h:I)(t u:Bool)(l m:O):I:=(zf h t u l m).push {cls:=.type "zip",data:=.fields #[.none,.bool ι,.bool ι,.ref (zd h t u l m).objs.size,.ref (ze h t u l m).objs.size]}
theorem VS(t u:Bool)(l m:O)(xs ys:Array L):
  Meets (Builtin.«zip.__new__» ⟨[.type "zip",.ref l,.ref m],[]⟩) (λ_ R s=>eE s.heap t l xs/\eE s.heap u m ys/\R (.ok (.ret (.ref (zf s.heap t u l m).objs.size))) {s with heap:=ur s.heap t u l m}) :=
 .of_wp λprog w A R s h=>by
  let⟨hp,g,d,tk,os⟩:=s;let⟨h1,h2,h⟩:=h;let BP:=sub_zip;let e1:eE (q6M ⟨hp,g,d,tk,os⟩) t l xs:=h1;let e2:eE (q6M ⟨hp.push (jY t l 0),g,d,tk,os⟩) u m ys:=eE.at h2 λo e=>u7 _ e
  wp_walk using KI e1,KI e2
  calc⟨_,Y,h⟩
section
variable{prog:t}{w:S}{A:o}{E:bA}{s:B}
theorem VT{t u:Bool}{l m:O}{xs ys:Array L}{Q:bA}(h1:eE s.heap t l xs)(h2:eE s.heap u m ys)
  (h:∀h',IsZip h' (⇑s+4) (⇑s+2) (⇑s+3) .none->IsPair h' (⇑s+2) (.ref ⇑s) (.ref (⇑s+1)) →
   IsPair h' (⇑s+3) .none .none->fP h' t ⇑s l 0->fP h' u (⇑s+1) m 0->(∀c o,s.heap.get? c=U o->h'.get? c=U o)->Q (.ref (⇑s+4)) {s with heap:=h'}) :
  M (g prog w) A (call (.type "zip") [.ref l,.ref m]) Q E s:=by
 calc callType_new F.called_zip (by decide) (F.typeCall_zip_2 _ _) (F.newCall_zip_2 _ _) (λobj=>F.args_object_init_3 obj _ _) F.entry_zip_new (VS t u l m xs ys) ⟨h1,h2,?_⟩;let z1:(zc s.heap t l).objs.size=⇑s+1:=q0T ..;let z2:(zd s.heap t u l m).objs.size=⇑s+2:=by rw[q0T,z1]
 let z3:(ze s.heap t u l m).objs.size=⇑s+3:=by rw[q0T,z2]
 let z4:(zf s.heap t u l m).objs.size=⇑s+4:=by rw[q0T,z3]
 let q5:(ur s.heap t u l m).get? (zf s.heap t u l m).objs.size=U _:=Zg _ Y;let q4:(ur s.heap t u l m).get? (ze s.heap t u l m).objs.size=U _:=u7 _ (Zg _ Y);let q3:(ur s.heap t u l m).get? (zd s.heap t u l m).objs.size=U _:=u7 _ (u7 _ (Zg _ Y));let q2:(ur s.heap t u l m).get? (zc s.heap t l).objs.size=U (jY u m 0):=u7 _ (u7 _ (u7 _ (Zg _ Y)));let q1:(ur s.heap t u l m).get? ⇑s=U (jY t l 0):=u7 _ (u7 _ (u7 _ (u7 _ (Zg _ Y))));show _/\_;rw[z2,z3,z4] at q5;rw[z1,z2] at q3;rw[z3] at q4;rw[z1] at q2;rw[z4];calc⟨⟨_,q5,Y⟩,h _ q5 q3 q4 (.new q1) (.new q2) λc o x=>u7 _ (u7 _ (u7 _ (u7 _ (u7 _ x))))⟩
end
end PySem
namespace L2
open PySem PySem.Spec PyProof.Rows
def k_(K:My)(H:Hp)(t:Bool)(a:O)(xs:-V):Prop:=match t with
 |true=>b8 K H a xs
 |false=>bU K H a xs
section
variable{X:Cx}{pins:aL}{σ:St}{H:Hp}{s:B}
theorem Inv.sq{t:Bool}{a:O}{xs:-V}(I:Inv X pins σ H s)(h:k_ X.K H t a xs):∃az:-L,Vals xs az/\eE s.heap t a az.toArray:=by
 cases t
 .let⟨az,r,p,_⟩:=I.list h;exact⟨az,r,p.isList⟩
 .let⟨az,r,⟨o,o1,o2,n,o3⟩,_⟩:=I.tuple h;calc⟨az,r,o,o1,o2,n,o3⟩
theorem Inv.mP{t:Bool}{a:O}{xs ys:-V}(I:Inv X pins σ H s)(h:k_ X.K H t a xs)(h':k_ X.K H t a ys):xs=ys:=by
 cases t
 .exact I.f9 h h'
 .calc I.fj h h'
end
noncomputable def wV(K:My)(t u:Bool)(a b:O):It :=
 ⟨λi H=>∃xs ys x y,k_ K H t a xs/\k_ K H u b ys/\xs[i]?=U x/\ys[i]?=U y,
  λi H v H'=>∃T x y,v=.ref T/\H T=Z/\H'=upd H T (.tup [x,y])/\(∀xs,k_ K H t a xs->xs[i]?=U x)/\∀ys,k_ K H u b ys->ys[i]?=U y,
  λi H=>∃xs ys,k_ K H t a xs/\k_ K H u b ys/\((↑xs=i)\/(i<↑xs/\↑ys=i))⟩
structure EW(t u:Bool)(z TI TO i1 i2 l1 l2:O)(i:Nat)(h:I):Prop where
 hz:IsZip h z TI TO .none
 lP:IsPair h TI (.ref i1) (.ref i2)
 mQ:∃x y,IsPair h TO x y
 h1:fP h t i1 l1 i
 h2:fP h u i2 l2 i
theorem VU{P:ψ}{w:S}{K:My}{elts:-l}{x1}{tp:Ε}{t u:Bool}{z TI TO i1 i2 l1 l2:O}(D:ZG z TI TO i1 i2 [i1,l1] [i2,l2])(n1:l1≠i1)(n2:l2≠i2):
  Turn P w K (.Tuple elts x1 tp) (wV K t u l1 l2) [z,TI,TO,i1,i2] z (EW t u z TI TO i1 i2 l1 l2) where
 mem:=by simp
 obj:=λi h st b hb=>by
  let⟨hz,lP,⟨x,y,mQ⟩,g1,g2⟩:=st;erw[PC,q0o,q1r] at hb;rcases hb with rfl|rfl|rfl|rfl|rfl
  .exact⟨_,hz,λv z=>by cases z⟩
  .exact⟨_,lP,λv z=>by cases z⟩
  .exact⟨_,mQ,λv z=>by cases z⟩
  .exact g1.obj
  .exact g2.obj
 keep:=λi h h' st k=>by
  let⟨hz,lP,⟨x,y,mQ⟩,g1,g2⟩:=st;exact⟨k z (by simp) _ hz,k TI (by simp) _ lP,⟨x,y,k TO (by simp) _ mQ⟩,g1.at λo q=>k i1 (by simp) o q,g2.at λo q=>k i2 (by simp) o q⟩
 item:=by
  ext X hP hw hK hc i pins s σ H E I hf st hg;subst hP hw hK;let⟨hz,lP,⟨a,b,mQ⟩,g1,g2⟩:=id st;let⟨xs,ys,x,y,uu,uv,hx,hy⟩:=hg;let⟨az,rv,p⟩:=I.sq uu;let⟨bO,wW,p2⟩:=I.sq uv;let hh:X.A.in1.handled=Z:=by rw[q2h];exact I.ok.hd hc
  let lx:=(Hy.mp hx).1;let ly:=(Hy.mp hy).1;calc VQ (zb hh t i1 l1 n1 az.toArray) (zb hh u i2 l2 n2 bO.toArray) D hz lP mQ ⟨g1,p⟩ ⟨g2,p2⟩ (by rw[PA,<-↑rv];calc lx) (by rw[PA,<-↑wW];calc ly) λcu cv k1 tk pu pv z1 t1 a1 a2 VW zg=>⟨_,Y,?_⟩;let⟨u',hu,ru⟩:=rv.get hx;let⟨v',hv,VX⟩:=wW.get hy;let pu:az[i]?=U cu:=by simpa using pu
  let pv:bO[i]?=U cv:=by simpa using pv
  rw[hu] at pu;rw[hv] at pv;obtain rfl:=q0v pu;obtain rfl:=q0v pv;calc wpAny_letOwnedTupleGo_zip z1 λk2 z2 eQ=>?_;let VY:⇑s≠z:=q1I (Ze hz);let VZ:IsPair k2 ⇑s u' v':=(eQ.2 _ VY).trans VW
  let V0:∀b o,b∉[z,TI,TO,i1,i2]->s.heap.get? b=U o->k2.get? b=U o:=λb o hb q=>by
   erw[PC,q0o,q1r,q4K] at hb;exact(eQ.2 _ hb.1).trans (zg b o hb.1 hb.2.2.1 hb.2.2.2.1 hb.2.2.2.2 q)
  let hn:H ⇑s=Z:=I.bu.fresh (Hz _);refine⟨.ref ⇑s,upd H ⇑s (.tup [x,y]),I.gb (ch:=[z,TI,TO,i1,i2]) (t':=tk) hf V0 (Hz _) ?_,Y,⟨_,x,y,Y,hn,Y,λzs hy=>by rw[I.mP hy uu];calc hx,λzs ub=>by rw[I.mP ub uv];calc hy⟩,⟨z2,?_,⟨u',v',(eQ.2 _ D.a2).trans t1⟩,a1.1.at λo q=>(eQ.2 _ D.a3).trans q,a2.1.at λo q=>(eQ.2 _ D.a4).trans q⟩,λb hb=>?_⟩
  .exact⟨by show 2<=sizeLine;decide,[u',v'],.cons ru (.cons VX .nil),_,VZ,Y,_,Y⟩
  .exact (eQ.2 _ D.a1).trans (zg TI _ D.a1 D.a5 D.a6 D.a7 lP)
  .let:b<⇑s:=by
    let⟨o1,q1,_⟩:=g1.obj;let⟨o2,q2,_⟩:=g2.obj;erw[PC,q0o,q1r] at hb;rcases hb with rfl|rfl|rfl|rfl|rfl
    .exact Ze hz
    .exact Ze lP
    .exact Ze mQ
    .exact Ze q1
    .exact Ze q2
   rw[bF (q0b this)];exact(hf b hb).1
 done:=by
  ext X hP hw hK hc i pins s σ H E I hf st hg;subst hP hw hK;let⟨hz,lP,⟨a,b,mQ⟩,g1,g2⟩:=id st;let⟨xs,ys,uu,uv,hx⟩:=hg;let⟨az,rv,p⟩:=I.sq uu;let⟨bO,wW,p2⟩:=I.sq uv;let hh:X.A.in1.handled=Z:=by rw[q2h];exact I.ok.hd hc
  let hl:=↑rv;let tw:=↑wW;refine VR (zb hh t i1 l1 n1 az.toArray) (zb hh u i2 l2 n2 bO.toArray) D hz lP mQ ⟨g1,p⟩ ⟨g2,p2⟩ ?_ λk1 tk zg=>⟨Y,I.kL (t':=tk) (ch:=[z,TI,TO,i1,i2]) hf λb o hb q=>?_⟩
  .rw[PA,PA];symm
  .erw[PC,q0o,q1r,q4K] at hb
   exact zg b o hb.1 hb.2.2.1 hb.2.2.2.1 hb.2.2.2.2 q
 self:=λA i s Q E st h=>q6I st.hz h
theorem V6(n l1 l2:Nat)(q1:l1<n)(q2:l2<n):ZG (n+4) (n+2) (n+3) n (n+1) [n,l1] [n+1,l2]:=by
 constructor<;>first|(show @Ne Nat _ _;symm)|(ext h;erw[PC,q0o,q1r] at h;rcases h with h|h<;>(let h:(_:Nat)=_:=h;symm))
section
variable{X:Cx}{elts:-l}{x1:Nat}{tp:y}
def V7(K:My)(ta:TA):TI:=fun σ H R=>ta σ H λvs H1=>∃a b t u,vs=[.ref a,.ref b]/\(∃xs,k_ K H1 t a xs)/\(∃ys,k_ K H1 u b ys)/\R (wV K t u a b) H1
theorem V8{a b:l}{ta:TA}{p pos:y}(hg:Gl X "zip")(hm:X.mg "zip" = Z)(ha:JA X [a,b] ta)(hs:starEach [a,b] X.env=[(ι,eval a X.env),(ι,eval b X.env)]:=by rfl)(eQ:starEach [b] X.env=[(ι,eval b X.env)]:=by rfl):
  JI X (.Tuple elts x1 tp) (.Call (.Name "zip" p) [a,b] [] pos) (V7 X.K ta):=by
 calc⟨λpins s σ H R I h=>?_⟩;calc Call_ (nX I hg hm P6 (q1o (bL (ha pos pins s σ H _ I h) λus s1 ⟨vs,H1,I1,r1,q1⟩=>?_) (by rw[hs,eQ]) (by rw[eQ];rfl)));let⟨l1,l2,t,u,e,⟨xs,uu⟩,⟨ys,uv⟩,q⟩:=q1;subst e
 cases r1 with
 |cons r rr =>
  cases rr with
  |cons r' V9 =>
   cases V9
   cases r
   cases r'
   let⟨az,rv,p⟩:=I1.sq uu;let⟨bO,wW,p2⟩:=I1.sq uv;let b1:l1<⇑s1:=p.lt;let b2:l2<⇑s1:=p2.lt;calc VT p p2 λh' hz lP mQ vh oT hk=>?_;let I2:Inv X pins σ H1 {s1 with heap:=h'}:=I1.kept (t':=s1.toks) hk;let D:=V6 ⇑s1 l1 l2 b1 b2;calc q6I hz ?_;refine⟨_,_,_,_,H1,Y,I2,VU D (q0b b1) (q0b (q0J b2)),⟨hz,lP,⟨_,_,mQ⟩,vh,oT⟩,λb hb=>?_,q⟩
   let hb':⇑s1<=b:=by
    erw[PC,q0o,q1r] at hb;rcases hb with rfl|rfl|rfl|rfl|rfl
    .exact q13 _ _
    .exact q13 _ _
    .exact q13 _ _
    .exact Hz _
    .exact q13 _ _
   calc I1.g8 hb' (I1.bu.fresh hb')
end
section
variable[aR]{X:Cx}{a b:l}{fa:WA}
def zh(fa:WA):WI:=fun δ K=>fa δ λxs δ1=>match xs with
 |[x,y]=>qt x δ1 λi=>qt y δ1 λj=>K ⟨c7 i.items j.items,fun δ'=>i.bZ δ'/\j.bZ δ'⟩ δ1
 |_=>False
theorem KJ{F H:Hp}{ad:-O}{δ:aM}{σ:St}{x:DV}{v:V}{K0:My}{K:oC->Prop}(S:SR F ad δ σ H)(hv:dI F ad x v)(h:qt x δ K):∃a it t,v=.ref a/\K it/\(∃xs,k_ K0 H t a xs) ∧
  ∀(F':Hp)(aN:-O)(δ':aM)(σ':St)(H':Hp),aP F F'->(∀(k:Nat)(a:O),ad[k]?=U a->aN[k]?=U a)->SR F' aN δ' σ' H'->it.bZ δ'->∃ws,k_ K0 H' t a ws/\af F' it.items ws:=by
 let⟨a,it,e,hk,r⟩:=BY S hv h;rcases r with⟨⟨vs,e1⟩,r⟩|⟨⟨vs,e1⟩,r⟩
 .exact⟨a,it,ι,e,hk,⟨vs,bU.of e1⟩,λF' aN δ' σ' H' s pre S' ck=>let⟨ws,q1,q2⟩:=r F' aN δ' σ' H' s pre S' ck;⟨ws,bU.of q1,q2⟩⟩
 .calc⟨a,it,θ,e,hk,⟨vs,b8.of e1⟩,λF' aN δ' σ' H' s pre S' ck=>let⟨ws,q1,q2⟩:=r F' aN δ' σ' H' s pre S' ck;⟨ws,b8.of q1,q2⟩⟩
theorem V_{elts:-l}{x1:Nat}{tp p pos:Ε}(hg:Gl X "zip")(hm:X.mg "zip" = Z)(ha:JA X [a,b] (cE fa))(hs:starEach [a,b] X.env=[(ι,eval a X.env),(ι,eval b X.env)]:=by rfl)(eQ:starEach [b] X.env=[(ι,eval b X.env)]:=by rfl):
  JI X (.Tuple elts x1 tp) (.Call (.Name "zip" p) [a,b] [] pos) (kh (zh fa)):=(V8 hg hm ha hs eQ).weak fun σ H R ⟨F,ad,δ,K,S,q,k⟩=>⟨F,ad,δ,_,S,q,λxs δ1 h1 vs F1 bt H1 E1 S1 V1=>by
 match xs,h1,V1 with
 |[x,y],g1,⟨v,r,e,W1,w,r2,e2,W2,W3⟩ =>
  subst e;subst e2;let W4:r2=[]:=W3;subst W4;let⟨a,it,t,rfl,wB,sU,r⟩:=KJ (K0:=X.K) S1 W1 g1;let⟨b,jt,u,rfl,hk,eQ,r'⟩:=KJ (K0:=X.K) S1 W2 wB;calc⟨a,b,t,u,Y,sU,eQ,k _ _ hk _ _ _ _ E1 S1 λF' aN δ' σ' H' s pre S' ck=>?_⟩;let⟨ws,e1,e2⟩:=r F' aN δ' σ' H' s pre S' ck.1;let⟨zs,e3,e4⟩:=r' F' aN δ' σ' H' s pre S' ck.2;refine⟨⟨ws,zs,e1,e3,?_⟩,λi d ed=>?_⟩
  .rw[↑e2,↑e4,ye];symm
  .let⟨d1,d2,Wa,Wb,rfl⟩:=Iy ed
   let⟨w1,f1,g1⟩:=qv e2 Wa;let⟨w2,f2,g2⟩:=qv e4 Wb;calc⟨⟨ws,zs,w1,w2,e1,e3,f1,f2⟩,λy lA ⟨T,v1,v2,ey,hT,eh,Wc,Wd⟩=>?_⟩;subst eh ey;let q1:=Wc ws e1;let q2:=Wd zs e3;rw[f1] at q1;cases q1;rw[f2] at q2;cases q2;exact⟨cI hT,BZ S'.sub hT g1 g2⟩
 |[],h1,_=>exact h1.elim
 |[_],h1,_=>exact h1.elim
 |_::_::_::_,h1,_=>calc h1.elim⟩
end
end L2
namespace LJ
open PySem L2
variable[aR]
inductive EX (ys:-DV) (aB:-OV) (K:RV->-OV->Prop):Prop
 |mk (m:Int) (ws:-Wy) (l:-Int) (n:Int) (_:aO m ws) (_:(0<=n/\n<(↑ws:Int))) (_:ys=[.p (bq m ws),.p (bJ l),.p (.int n)]) (_:aB=[]) (_:K (.p (.bl (fD l (aG ws n)))) [])
def EY:WS:=(aD (hZ (i5 (d2 (d2 (aa 0) (dC (.int 1)) bz) (aa 2) bz) i0 (qw (dC (.int 2)))) (iX 2 (dX (bR 3) (dX (bR 4) iJ)))) (aQ (d2 (d2 (aa 3) (aa 1) (fX ι)) (d2 (aa 4) (aa 1) (fX ι)) oP)))
theorem We:Sem 3 2 EX EY:=by
 ext ys aB K'-⟨m,ws,l,n,W,⟨n0,n1⟩,rfl,rfl,k⟩;let⟨y,ey,hy,ea,_⟩:=qC W n0 n1;let ew:aG ws n=y:=ey;rw[ew] at k;unfold EY;calc br λN hN=>?_;let c2:cutD [D.int y.1,D.int y.2.1,D.int y.2.2] Z (U 2)=[D.int y.1,D.int y.2.1]:=Y;simp![bq,eB,ea,bQ,c2];subst hN;simp![bJ];let d0:=ja l;calc⟨⋯,⋯,?_⟩;rw[jc,jc];unfold fD at k;generalize G (y.1∈l)=p at k;generalize G (y.2.1∈l)=q at k;cases p<;>cases q<;>calc cq k
noncomputable def wX:D->D
 |.tup [_,n]=>n
 |_=>.non
inductive wY (ys:-DV) (aB:-OV) (K:RV->-OV->Prop):Prop
 |mk (m:Int) (ws:-Wy) (us:-Int) (h:Int) (_:aO m ws) (_:Nums ws us) (_:(0<=h/\h<m)) (_:ys=[.p (bq m ws),.p (bJ us),.p (.int h)]) (_:aB=[]) (_:K (.p (bJ (bj m ws us h))) [])
def EZ:WS:=(aD (bo 3 (aE 2 C3 (ak (aa 0) (ak (aa 1) ag)))) (aQ (dZ (me (ak (d2 (aa 0) (dC (.int 0)) bz) ag)) [Z,U 3,U 2] (bR 0) (dT (d2 (d2 (aa 1) (aa 0) bz) (d2 (aa 1) (aa 2) bz) oEq)) (aa 0))))
open Classical in
theorem Wf:Sem 3 1 wY EZ:=by
 rintro ys aB K'-⟨m,ws,us,h,W,hu,hh,rfl,rfl,k⟩;obtain⟨i,rfl⟩:=q2C hh.1;have hi:i<m.toNat:=by symm
 have iI:=W.iI;have mo:=JP W hu;have a1:=sy (ns:=qB m ws us) (i:=i) (by rw[mo.1];exact hi);unfold bj at k;unfold EZ;refine br λN hN=>?_;simp!;refine⟨m,ws,us,W,hu,.inl ⟨rfl,rfl,?_⟩⟩;generalize qB m ws us=fs at mo a1;rw[show bJ fs=.lst (fs.map D.int) from rfl];simp!;subst hN;simp![bq,dB];refine⟨⋯,?_⟩
 refine L2.kS (λd=>match d with
  |.int x=>decide (bE (gU ws us) i x)
  |_=>false) id (by rw[ny];symm) trivial ?_ ?_
 .intro d hd acc L' ha h1 h2
  obtain⟨z,hz⟩:=q0d.mp hd;obtain⟨zl,rfl⟩:=oK hz;rw[q6j] at h1 h2 ⊢;have a2:=sy (ns:=fs) (i:=z) (by rw[mo.1];exact zl);dsimp only at h1 h2;simp![a1,a2];rw[uf]
  by_cases q:bE (gU ws us) i z
  .rw[q0i ((mo.2 z i zl hi).mpr q.symm)]
   simp!;exact⟨ha,h1 (q0i q)⟩
  .rw[Zi λy=>q ((mo.2 z i zl hi).mp y).symm]
   simp!;exact h2 (Zi q)
 have e:((dm 0 m.toNat).filter λd=>match d with
  |.int x=>decide (bE (gU ws us) i x)
  |_=>false).map id=(cls m.toNat (gU ws us) i).map D.int:=by
  unfold cls;rw[q5s,vX,q10];rfl
 rw[e];exact cq k
inductive E5 (ys:-DV) (aB:-OV) (K:RV->-OV->Prop):Prop
 |mk (m:Int) (ws:-Wy) (l us:-Int) (_:aO m ws) (_:Nums ws us) (_:↑us<=30) (_:ys=[.p (bq m ws),.p (bJ l),.p (bJ us)]) (_:aB=[]) (_:∀os:-Int,os.Perm (us.filter λn=>fD l (aG ws n))->(os.map (eZ ws)).Pairwise kle->K (.p (bJ os)) [])
def E6:WS:=(aD (bo 3 (dZ (cm (aa 2)) [Z,U 0,U 1] (bR 0) (dT (aE 3 EX (ak (aa 1) (ak (aa 2) (ak (aa 0) ag))))) (bV (ak (aE 2 DB (ak (aa 1) (ak (aa 0) ag))) (ak (aa 0) ag))))) (aQ (dZ (cm (dN (ak (aa 3) ag) yK)) [Z,Z] (iX 2 (dX (bR 0) (dX (bR 1) iJ))) dj (aa 1))))
theorem Wg:Sem 3 1 E5 E6:=by
 ext ys aB K'-⟨m,ws,l,us,W,hu,Wh,rfl,rfl,k⟩;let ol:↑(us.filter λn=>fD l (aG ws n))<=30:=q0w (q0K _ _) Wh;unfold E6;calc br λN hN=>?_;rw[show bJ us=.lst (us.map D.int) from Y];simp!
 refine kS (λd=>match d with
  |.int n=>fD l (aG ws n)
  |_=>ι) (λd=>match d with
  |.int n=>kZ ws n
  |_=>.non) (by rw[Ba];symm) trivial ?_ ?_
 .ext d hd acc L ha h1 h2
  let⟨n,hn,rfl⟩:=q0l.mp hd;let nn:=hu n hn;dsimp only at h1 h2;simp!;calc⟨m,ws,l,n,W,nn,Y,Y,?_⟩;simp!
  cases q:fD l (aG ws n) with
  |false=>simp!;exact h2 q
  |true =>
   simp!;calc⟨m,ws,n,W,nn,Y,Y,?_⟩;simp!;exact⟨ha,h1 q⟩
 let e:((us.map D.int).filter λd=>match d with
  |.int n=>fD l (aG ws n)
  |_=>ι).map (λd=>match d with
  |.int n=>kZ ws n
  |_=>.non)=(us.filter λn=>fD l (aG ws n)).map (kZ ws):=by
  rw[q10,q0C];rfl
 rw[e];generalize us.filter (λn=>fD l (aG ws n))=ls at ol k;subst hN;simp![yK]
 refine⟨⋯,λd=>match d with
  |.tup [.tup ks,.int n]=>(match intsOf ks with
   |some l=>l++[n]
   |none=>[])
  |_=>[],.inr ⟨3,λd hd=>?_⟩,λout pm pw=>?_⟩
 .let⟨n,_,rfl⟩:=q0l.mp hd
  refine⟨eZ ws n,n,Y,Y,?_⟩
  show(match intsOf ((eZ ws n).map D.int) with
   |some l=>l++[n]
   |none=>[])=_
  rw[nA]
 .let⟨ns,rfl,pn⟩:∃ns:-Int,out=ns.map (kZ ws)/\ns.Perm ls:=by
   refine⟨out.map λd=>match d with
    |.tup [_,.int n]=>n
    |_=>0,?_,?_⟩
   .rw[q0C]
    calc(q5s out).symm.trans (q2y λd hd=>?_);let⟨n,_,rfl⟩:=q0l.mp (pm.mem_iff.mp hd);rfl
   .let:=pm.map λd=>match d with
     |.tup [_,.int n]=>n
     |_=>0
    rw[q0C] at this;exact this.trans (List.Perm.of_eq ((q2y λn _=>Y).trans (q5s _)))
  let nl:↑ns<=30:=by rw[pn.length_eq];exact ol
  let up:(ns.map (eZ ws)).Pairwise kle:=by
   rw[q0C] at pw;rw[q2L] at pw ⊢;refine pw.imp λ{a b} h=>?_
   let h:kle ((match intsOf ((eZ ws a).map D.int) with
    |some l=>l++[a]
    |none=>[])) ((match intsOf ((eZ ws b).map D.int) with
    |some l=>l++[b]
    |none=>[])):=h
   rw[nA,nA] at h;exact Tz Y h
  refine L2.km wX (by rw[Ba];symm) trivial ?_ ?_
  .ext d hd acc L ha h
   let⟨n,_,rfl⟩:=q0l.mp hd;simp![kZ];exact⟨ha,h⟩
  .let e:(ns.map (kZ ws)).map wX=ns.map D.int:=by rw[q0C];rfl
   rw[e];calc cq (k ns pn up)
noncomputable def eF:gK->D
 |none=>.non
 |some x=>.tup [oD x.1,.int x.2]
noncomputable def lO(a b:O)(N:Nt):OV:=.av a [(.inr "put",.p (bJ N.p)),(.inr "known",.p (bJ N.k)),(.inr "sure",.p (bJ N.s)),(.inr "searches",.w b)]
noncomputable def sO(b:O)(N:Nt):OV:=.al b (N.q.map eF)
def E7(C:O):GK:=λys aB K=>ys=[]/\aB=[]/\∀a b,K (.w a) [] [lO a b cx,sO b cx]
def E8(c_Night:O):WS:=(aQ (bf [("put",(dU ag)),("known",(dU ag)),("sure",(dU ag)),("searches",(oz ag))]))
theorem Wi(C:O):∀ys aB K',↑ys=0->E7 C ys aB K'->E8 C (ae ↑aB K') ⟨ys.map U++q0f 0 Z,aB.map U⟩:=by
 ext ys aB K'-⟨rfl,rfl,k⟩;unfold E8;simp![ah,ai,aH,toF,aI,aF,aJ,aj,aK,FV.v,ae,oo,rG,aq,aW,bf,aX,a_,bc,ba,ay,au,ar,aS,bh,bg,aw,aZ,aU,aY,rJ,tE];ext b a;calc⟨[],[lO a b cx,sO b cx],[],Y,Y,k a b⟩
noncomputable def jh:Nat->-gK->-Int
 |_,[]=>[]
 |i,none::r=>jh (i+1) r
 |i,some _::r=>(i:Int)::jh (i+1) r
theorem E9:∀{i:Nat}{q:-gK}{x:Int},x∈jh i q->∃j fo h,x=((i+j:Nat):Int)/\q[j]?=U (U (fo,h))
 |i,[],x,h=>nomatch h
 |i,none::r,x,h=>by
  let⟨j,fo,h',e,g⟩:=E9 (i:=i+1) (q:=r) h;exact⟨j+1,fo,h',by rw[e];congr 1;symm,by simpa using g⟩
 |i,some y::r,x,h=>by
  rcases PC.mp h with rfl|h
  .exact⟨0,y.1,y.2,Y,Y⟩
  .let⟨j,fo,h',e,g⟩:=E9 (i:=i+1) (q:=r) h
   calc⟨j+1,fo,h',by rw[e];congr 1;symm,by simpa using g⟩
theorem E_:∀{i:Nat}{q:-gK},↑(jh i q)<=↑q
 |i,[]=>Hz _
 |i,none::r=>q6o (E_ (i:=i+1) (q:=r))
 |i,some x::r=>q4y (E_ (i:=i+1) (q:=r))
noncomputable def mR:D->Bool
 |.tup [_,.non]=>ι
 |_=>θ
noncomputable def iw:D->D
 |.tup [x,_]=>x
 |_=>.non
theorem Fb:∀{i:Nat}{q:-gK},(((jz i (q.map eF)).filter mR).map iw)=(jh i q).map D.int
 |i,[]=>Y
 |i,none::r=>by
  show((D.tup [.int i,.non]::jz (i+1) (r.map eF)).filter mR).map iw=_;rw[q4D (by simp[mR])];exact Fb (i:=i+1) (q:=r)
 |i,some y::r=>by
  show((D.tup [.int i,.tup [oD y.1,.int y.2]]::jz (i+1) (r.map eF)).filter mR).map iw=_;rw[q4E (by rfl),q0m,Fb (i:=i+1) (q:=r)];rfl
def Fd(C:O):GK:=λys aB K=>∃(a b:O)(N:Nt),↑N.q<900/\ys=[.w a]/\aB=[lO a b N,sO b N]/\K (.p (bJ (jh 0 N.q))) [lO a b N,sO b N] []
def Fe(c_Night:O):WS:=(aQ (dZ (iY (ak (ai (aq "searches" (aa 0))) ag)) [Z,Z] (iX 2 (dX (bR 0) (dX (bR 1) iJ))) (dT (d2 (aa 1) (dC .non) wc)) (aa 0)))
theorem Wj(C:O):∀ys aB K',↑ys=1->Fd C ys aB K'->Fe C (ae ↑aB K') ⟨ys.map U++q0f 0 Z,aB.map U⟩:=by
 ext ys aB K'-⟨a,b,N,ql,rfl,rfl,k⟩;unfold Fe;simp![ah,ai,aH,toF,aI,aF,aJ,aj,aK,FV.v,ae,oo,rG,aq,aW,bf,aX,a_,bc,ba,ay,au,ar,aS,bh,bg,aw,aZ,aU,aY,rJ,tE];calc⟨a,0,_,.w b,⟨Y,Y,Y⟩,b,1,sO b N,⟨Y,Y,Y⟩,?_⟩;simp![ah,ai,aH,toF,aI,aF,aJ,aj,aK,FV.v,ae,oo,rG,aq,aW,bf,aX,a_,bc,ba,ay,au,ar,aS,bh,bg,aw,aZ,aU,aY,rJ,tE,sO];refine L2.kS mR iw ?_ ?_ ?_ ?_
 .rw[oM,Ba];symm
 .trivial
 .ext d hd acc L ha h1 h2
  let⟨i,hi⟩:=q0d.mp hd;let⟨e,g1,rfl⟩:=oN hi;rw[PB] at g1;let⟨s,hs,rfl⟩:=q0a.mp g1;rw[q0A] at h1 h2 ⊢;simp![ah,ai,aH,toF,aI,aF,aJ,aj,aK,FV.v,ae,oo,rG,aq,aW,bf,aX,a_,bc,ba,ay,au,ar,aS,bh,bg,aw,aZ,aU,aY,rJ,tE]
  cases s with
  |none=>simp![ah,ai,aH,toF,aI,aF,aJ,aj,aK,FV.v,ae,oo,rG,aq,aW,bf,aX,a_,bc,ba,ay,au,ar,aS,bh,bg,aw,aZ,aU,aY,rJ,tE,eF];exact h2 Y
  |some y=>simp![ah,ai,aH,toF,aI,aF,aJ,aj,aK,FV.v,ae,oo,rG,aq,aW,bf,aX,a_,bc,ba,ay,au,ar,aS,bh,bg,aw,aZ,aU,aY,rJ,tE,eF];exact⟨ha,h1 Y⟩
 .rw[Fb]
  calc⟨[_,_],[],[],Y,Y,k⟩
theorem Ff{a b:O}{N:Nt}:∃kvs,lO a b N=.av a kvs/\du kvs (.inr "put")=U (.p (bJ N.p))/\du kvs (.inr "known")=U (.p (bJ N.k))/\du kvs (.inr "sure")=U (.p (bJ N.s))/\du kvs (.inr "searches")=U (.w b)/\↑kvs=4
 /\ (∀d,putD kvs (.inr "put") d=[(.inr "put",d),(.inr "known",.p (bJ N.k)),(.inr "sure",.p (bJ N.s)),(.inr "searches",.w b)])
 /\ (∀d,putD kvs (.inr "known") d=[(.inr "put",.p (bJ N.p)),(.inr "known",d),(.inr "sure",.p (bJ N.s)),(.inr "searches",.w b)])
 /\ (∀d,putD kvs (.inr "sure") d=[(.inr "put",.p (bJ N.p)),(.inr "known",.p (bJ N.k)),(.inr "sure",d),(.inr "searches",.w b)]) :=
 ⟨_,Y,Y,Y,Y,Y,Y,λ_=>Y,λ_=>Y,λ_=>Y⟩
theorem Wk(l:-Int):((l.map D.int).any λe=>dEq e .non)=ι:=by
 rw[q8v];calc q17.mpr λx _=>by simp[dEq]
noncomputable def wZ(one:Int)(g:-Int):D->Bool
 |.tup [.int n,.tup [.int i,.int j,_]]=>(G (one=i)||G (one=j))&&G (n∉g)
 |_=>ι
theorem Wl(ws:-Wy)(one:Int)(g:-Int):((jz 0 (ws.map bQ)).filter (wZ one g)).map iw=(mO ws g one).map D.int:=by
 let gen:∀(pre:-Wy)(ys:-Wy),ws=pre++ys->((jz pre.length (ys.map bQ)).filter (wZ one g)).map iw=(((q4b pre.length ↑ys).map λ(i:Nat)=>(i:Int)).filter λn=>(G (one=(aG ws n).1)||G (one=(aG ws n).2.1))&&G (n∉g)).map D.int:=by
  ext pre ys
  induction ys generalizing pre with
  |nil=>ext _;rfl
  |cons y r ih =>
   ext e;let h:=ih (pre++[y]) (by rw[q2p];calc e);rw[Pz,q0Q] at h
   let ey:aG ws (pre.length:Int)=y:=by
    unfold aG;rw[q0s,e,PD,Zf (Hz _),q0W];rfl
   show((D.tup [.int (pre.length:Nat),bQ y]::jz (pre.length+1) (r.map bQ)).filter (wZ one g)).map iw=_;rw[HB,q6E,q0m,q0_,q0_,ey];show(if((G (one=y.1)||G (one=y.2.1))&&G ((pre.length:Int)∉g))=θ then _ else _:-D).map iw=_;split
   .rw[q0m,q0m,h];rfl
   .exact h
 let:=gen [] ws Y;rw[q1i] at this;rw[this];unfold mO b_;rw[q2O]
theorem KN(ws:-Wy)(g l:-Int):↑(jf ws g l)<=↑l*↑ws:=by
 unfold jf
 induction l with
 |nil=>simp
 |cons x r ih =>
  rw[q6s,Pz,HB,q8d]
  let:↑(mO ws g x)<=↑ws:=by
   unfold mO;calc q0w (q0K _ _) ?_;rw[sC];exact Hz _
  symm
def Fg(C:O):GK:=λys aB K=>∃(a b:O)(m:Int)(ws:-Wy)(N:Nt)(h:Int),aO m ws/\eO m ws N/\(0<=h/\h<m)/\↑N.q<900/\ys=[.p (bq m ws),.w a,.p (.int h)]/\aB=[lO a b N,sO b N]/\K (.p (gr (N.tell m ws (.wake h)))) [lO a b (N.step m ws (.wake h)),sO b (N.step m ws (.wake h))] []
def Fh(c_Night:O):WS:=(aD (bS (dT (d2 (aa 2) (aq "sure" (aa 1)) (fX ι))) (aD (lF (ib (ai (aq "searches" (aa 1))) (ak (dC .non) ag))) (aQ (bV (ak (dC .non) (ak (dC (.int 0)) ag))))) dM) (aD (bo 3 (aE 3 wY (ak (aa 0) (ak (aq "put" (aa 1)) (ak (aa 2) ag))))) (aD (bo 4 (d2 (aq "put" (aa 1)) (aq "known" (aa 1)) c8)) (aD (bo 5 (oz ag)) (aD (fK (cm (aa 3)) (bR 6) (lF (oS (aa 5) (ak (dZ (iY (ak (d2 (aa 0) (dC (.int 1)) bz) ag)) [Z,Z,U 6,U 4] (iX 2 (dX (bR 0) (dX (bR 1) iJ))) (fJ (dT (d2 (aa 2) (i5 (aa 1) i0 (qw (dC (.int 2)))) (fX ι))) (dT (d2 (aa 0) (aa 3) (fX θ)))) (aa 0)) ag)))) (aD (bo 7 (aE 3 E5 (ak (aa 0) (ak (aa 3) (ak (dN (ak (aa 5) ag) aS) ag))))) (aD (aW "known" (dN (ak (d2 (aq "known" (aa 1)) (dZ (cm (dN (ak (aa 5) ag) aS)) [Z,U 7] (bR 0) (dT (d2 (aa 0) (aa 1) (fX θ))) (aa 0)) c8) ag) ml) (aa 1)) (aD (lF (ib (ai (aq "searches" (aa 1))) (ak (bV (ak (tP (dT (d2 (aa 7) (dU ag) oP)) (d2 (aa 7) (dC (.int 0)) bz) (dC .non)) (ak (aa 2) ag))) ag))) (aQ (bV (ak (dC .non) (ak (d2 (d2 (dC (.int 2)) (d2 (dN (ak (aa 3) ag) cB) (dC (.int 1)) (oI λi j=>.int (i-j))) eV) (d2 (dC (.int 2)) (dN (ak (aa 5) ag) cB) eV) c8) ag))))))))))))
theorem Wm(C:ξ):∀ys aB K',↑ys=3->Fg C ys aB K'->Fh C (ae ↑aB K') ⟨ys.map U++q0f 5 Z,aB.map U⟩:=by
 ext ys aB K'-⟨a,b,m,ws,N,h,W,O,hh,ql,rfl,rfl,k⟩;let kW:=W.iP;let d0:=ja N.s;let pl:=O.pl W;let kl:=O.kl W;let ll:=um W (p:=N.p) (h:=h);unfold Fh;calc br λM hM=>?_;calc i9 λA B hA hB=>?_;simp![ah,ai,aH,toF,aI,aF,aJ,aj,aK,FV.v,ae,oo,rG,aq,aW,bf,aX,a_,bc,ba,ay,au,ar,aS,bh,bg,aw,aZ,aU,aY,rJ,tE];calc⟨a,0,_,.p (bJ N.s),⟨Y,Y,Y⟩,?_⟩;simp![ah,ai,aH,toF,aI,aF,aJ,aj,aK,FV.v,ae,oo,rG,aq,aW,bf,aX,a_,bc,ba,ay,au,ar,aS,bh,bg,aw,aZ,aU,aY,rJ,tE,bJ];calc⟨⋯,?_⟩;rw[jc];unfold Nt.tell Nt.step at k;dsimp only at k
 by_cases c:h∈N.s
 .rw[q0i c]
  rw[q0e c,q0e c] at k;simp![ah,ai,aH,toF,aI,aF,aJ,aj,aK,FV.v,ae,oo,rG,aq,aW,bf,aX,a_,bc,ba,ay,au,ar,aS,bh,bg,aw,aZ,aU,aY,rJ,tE];subst hA;calc br λM2 pM=>?_;simp![ah,ai,aH,toF,aI,aF,aJ,aj,aK,FV.v,ae,oo,rG,aq,aW,bf,aX,a_,bc,ba,ay,au,ar,aS,bh,bg,aw,aZ,aU,aY,rJ,tE];calc⟨a,0,_,.w b,⟨Y,Y,Y⟩,b,1,sO b N,⟨Y,Y,Y⟩,?_⟩;simp![ah,ai,aH,toF,aI,aF,aJ,aj,aK,FV.v,ae,oo,rG,aq,aW,bf,aX,a_,bc,ba,ay,au,ar,aS,bh,bg,aw,aZ,aU,aY,rJ,tE,sO];calc⟨⋯,?_⟩;subst pM;simp![ah,ai,aH,toF,aI,aF,aJ,aj,aK,FV.v,ae,oo,rG,aq,aW,bf,aX,a_,bc,ba,ay,au,ar,aS,bh,bg,aw,aZ,aU,aY,rJ,tE];refine⟨[_,_],[],[],Y,Y,?_⟩
  unfold lO sO at k;dsimp only at k;rw[q0r] at k;exact k
 .rw[Zi c]
  rw[q0c c,q0c c] at k;simp![ah,ai,aH,toF,aI,aF,aJ,aj,aK,FV.v,ae,oo,rG,aq,aW,bf,aX,a_,bc,ba,ay,au,ar,aS,bh,bg,aw,aZ,aU,aY,rJ,tE];subst hB;show M _;subst hM;calc br λM hM=>?_;simp![ah,ai,aH,toF,aI,aF,aJ,aj,aK,FV.v,ae,oo,rG,aq,aW,bf,aX,a_,bc,ba,ay,au,ar,aS,bh,bg,aw,aZ,aU,aY,rJ,tE];calc⟨a,0,_,.p (bJ N.p),⟨Y,Y,Y⟩,?_⟩;simp![ah,ai,aH,toF,aI,aF,aJ,aj,aK,FV.v,ae,oo,rG,aq,aW,bf,aX,a_,bc,ba,ay,au,ar,aS,bh,bg,aw,aZ,aU,aY,rJ,tE];calc⟨m,ws,N.p,h,W,O.pn,hh,Y,Y,?_⟩;simp![ah,ai,aH,toF,aI,aF,aJ,aj,aK,FV.v,ae,oo,rG,aq,aW,bf,aX,a_,bc,ba,ay,au,ar,aS,bh,bg,aw,aZ,aU,aY,rJ,tE]
  subst hM;let⟨l,hl⟩:∃l,l=bj m ws N.p h:=⟨_,Y⟩;rw[<-hl] at ll;rw[<-hl];calc br λM hM=>?_;simp![ah,ai,aH,toF,aI,aF,aJ,aj,aK,FV.v,ae,oo,rG,aq,aW,bf,aX,a_,bc,ba,ay,au,ar,aS,bh,bg,aw,aZ,aU,aY,rJ,tE];calc⟨a,0,_,.p (bJ N.p),⟨Y,Y,Y⟩,a,0,_,.p (bJ N.k),⟨Y,Y,Y⟩,?_⟩;simp![ah,ai,aH,toF,aI,aF,aJ,aj,aK,FV.v,ae,oo,rG,aq,aW,bf,aX,a_,bc,ba,ay,au,ar,aS,bh,bg,aw,aZ,aU,aY,rJ,tE,bJ,Ba];calc⟨⋯,?_⟩;rw[<-q0r];subst hM;calc br λM hM=>?_;simp![ah,ai,aH,toF,aI,aF,aJ,aj,aK,FV.v,ae,oo,rG,aq,aW,bf,aX,a_,bc,ba,ay,au,ar,aS,bh,bg,aw,aZ,aU,aY,rJ,tE];subst hM;let⟨g,hg⟩:∃g,g=N.p++N.k:=⟨_,Y⟩
  rw[<-hg];let dg:=ja g;let al:=KN ws g l;let ZF:↑l*↑ws<=12*30:=q7t ll kW;calc br λM hM=>sk λg' b' K2 Wn hb' hK=>?_;simp![ah,ai,aH,toF,aI,aF,aJ,aj,aK,FV.v,ae,oo,rG,aq,aW,bf,aX,a_,bc,ba,ay,au,ar,aS,bh,bg,aw,aZ,aU,aY,rJ,tE];subst Wn hb' hK;refine oU (λi δ=>δ=⟨[U (.p (bq m ws)),U (.w a),U (.p (.int h)),U (.p (.lst (l.map D.int))),U (.p (.lst (g.map D.int))),U (.o 2),Z,Z],[U (lO a b N),U (sO b N),U (.lst ((jf ws g (l.take i)).map D.int))]⟩) Y ?_ ?_
  .ext i d δ L hi rfl hL
   rw[PB] at hi;let⟨one,ho,rfl⟩:=q0a.mp hi;calc⟨trivial,?_⟩;let ZH:=KN ws g (l.take i);let il:i<↑l:=(Hy.mp ho).1;let ZI:↑(l.take i)*↑ws<=12*30:=q7t (by rw[q0E];symm) kW
   let ZJ:↑(mO ws g one)<=↑ws:=by
    unfold mO;calc q0w (q0K _ _) ?_;rw[sC];exact Hz _
   erw[bR,q1b,q1c];simp![ah,ai,aH,toF,aI,aF,aJ,aj,aK,FV.v,ae,oo,rG,aq,aW,bf,aX,a_,bc,ba,ay,au,ar,aS,bh,bg,aw,aZ,aU,aY,rJ,tE,bq,eB];refine L2.kS (wZ one g) iw (by rw[oM,Ba];symm) trivial ?_ ?_
   .ext d hd acc L' ha h1 h2
    let⟨j,hj⟩:=q0d.mp hd;let⟨e,g1,rfl⟩:=oN hj;rw[PB] at g1;let⟨y,hy,rfl⟩:=q0a.mp g1;let c2:cutD [D.int y.1,D.int y.2.1,D.int y.2.2] Z (U 2)=[D.int y.1,D.int y.2.1]:=Y;erw[wZ,bQ,q0A] at h1 h2;simp![ah,ai,aH,toF,aI,aF,aJ,aj,aK,FV.v,ae,oo,rG,aq,aW,bf,aX,a_,bc,ba,ay,au,ar,aS,bh,bg,aw,aZ,aU,aY,rJ,tE,bQ,c2]
    let e1:(dEq (.int y.1) (.int one)||dEq (.int y.2.1) (.int one))=(G (one=y.1)||G (one=y.2.1)):=by
     rw[uf,uf,decide_eq_decide.mpr (@eq_comm _ y.1 one),decide_eq_decide.mpr (@eq_comm _ y.2.1 one)]
    rw[e1]
    cases q:(G (one=y.1)||G (one=y.2.1)) with
    |false =>
     rw[q] at h2;simp![ah,ai,aH,toF,aI,aF,aJ,aj,aK,FV.v,ae,oo,rG,aq,aW,bf,aX,a_,bc,ba,ay,au,ar,aS,bh,bg,aw,aZ,aU,aY,rJ,tE];exact h2 Y
    |true =>
     rw[q] at h1 h2;simp![ah,ai,aH,toF,aI,aF,aJ,aj,aK,FV.v,ae,oo,rG,aq,aW,bf,aX,a_,bc,ba,ay,au,ar,aS,bh,bg,aw,aZ,aU,aY,rJ,tE];calc⟨⋯,?_⟩;rw[jc]
     by_cases cg:(j:Int)∈g
     .rw[q0i cg]
      simp![ah,ai,aH,toF,aI,aF,aJ,aj,aK,FV.v,ae,oo,rG,aq,aW,bf,aX,a_,bc,ba,ay,au,ar,aS,bh,bg,aw,aZ,aU,aY,rJ,tE];exact h2 (by rw[q5H];calc Zi (q4k cg))
     .rw[Zi cg]
      simp![ah,ai,aH,toF,aI,aF,aJ,aj,aK,FV.v,ae,oo,rG,aq,aW,bf,aX,a_,bc,ba,ay,au,ar,aS,bh,bg,aw,aZ,aU,aY,rJ,tE];exact⟨ha,h1 (by rw[q5H];calc q0i cg)⟩
   .rw[Wl]
    simp![ah,ai,aH,toF,aI,aF,aJ,aj,aK,FV.v,ae,oo,rG,aq,aW,bf,aX,a_,bc,ba,ay,au,ar,aS,bh,bg,aw,aZ,aU,aY,rJ,tE];calc⟨⋯,?_⟩;calc hL _ ?_;rw[KG ho];unfold jf;rw[List.flatMap_append,q0r,q6s,List.flatMap_nil,oo];rfl
  .ext δ rfl
   calc⟨trivial,?_⟩;show M _;rw[Ba,q2Q];let am:∀x∈jf ws g l,0<=x/\x<(↑ws:Int):=λx hx=>(fz.mp hx).1.1;let KO:=yV am kW;let rl:↑(fY (jf ws g l))<=↑ws:=Kb am;let rn:Nums ws (fY (jf ws g l)):=λx hx=>am x (bN.mp hx);let ec:=U5 W N.p N.k l (by rw[hl];calc(wK ..).nd);let eo:=U2 (h:=h) W O;let ek:=@U3 _ _ _ _ h W O;let ef:=@U4 _ m ws W l;rw[<-hl] at eo ek;rw[<-hg] at eo ek ec;let hw:K' (.p (gr (Z,wI m ws N.p N.k h))) [lO a b ⟨N.p,sI m ws N.p N.k h,N.s,N.q++[U (je ws l,h)]⟩,sO b ⟨N.p,sI m ws N.p N.k h,N.s,N.q++[U (je ws l,h)]⟩] []:=by rw[hl];exact k
   let hc:wI m ws N.p N.k h=2*((↑l:Int)-1)+2*(↑(jf ws g l):Int):=by
    unfold wI;rw[ec,<-hl]
   rw[hc] at hw;generalize jf ws g l=as at *;subst hM;calc br λM hM=>?_;simp![ah,ai,aH,toF,aI,aF,aJ,aj,aK,FV.v,ae,oo,rG,aq,aW,bf,aX,a_,bc,ba,ay,au,ar,aS,bh,bg,aw,aZ,aU,aY,rJ,tE];rw[nA];dsimp only;calc⟨KO,?_⟩;calc⟨m,ws,l,fY as,W,rn,⋯,Y,Y,λos pm up=>?_⟩;rw[eo] at pm;let ol:=(Ut (ws:=ws) (l:=l));let ZK:=pm.length_eq;let ZL:=ja os;simp![ah,ai,aH,toF,aI,aF,aJ,aj,aK,FV.v,ae,oo,rG,aq,aW,bf,aX,a_,bc,ba,ay,au,ar,aS,bh,bg,aw,aZ,aU,aY,rJ,tE];subst hM;calc br λM hM=>?_;simp![ah,ai,aH,toF,aI,aF,aJ,aj,aK,FV.v,ae,oo,rG,aq,aW,bf,aX,a_,bc,ba,ay,au,ar,aS,bh,bg,aw,aZ,aU,aY,rJ,tE]
   calc⟨a,0,_,.p (bJ N.k),⟨Y,Y,Y⟩,?_⟩;simp![ah,ai,aH,toF,aI,aF,aJ,aj,aK,FV.v,ae,oo,rG,aq,aW,bf,aX,a_,bc,ba,ay,au,ar,aS,bh,bg,aw,aZ,aU,aY,rJ,tE];rw[nA];dsimp only;calc⟨KO,?_⟩;refine L2.kS (pL λn=>G (n∉os)) (λd=>d) (by rw[Ba];calc q0w rl ⋯) trivial ?_ ?_
   .ext d hd acc L ha h1 h2
    let⟨n,hn,rfl⟩:=q0l.mp hd;erw[pL] at h1 h2;simp![ah,ai,aH,toF,aI,aF,aJ,aj,aK,FV.v,ae,oo,rG,aq,aW,bf,aX,a_,bc,ba,ay,au,ar,aS,bh,bg,aw,aZ,aU,aY,rJ,tE,bJ];calc⟨⋯,?_⟩;rw[jc]
    by_cases c:n∈os
    .rw[q0i c];simp![ah,ai,aH,toF,aI,aF,aJ,aj,aK,FV.v,ae,oo,rG,aq,aW,bf,aX,a_,bc,ba,ay,au,ar,aS,bh,bg,aw,aZ,aU,aY,rJ,tE];exact h2 (Zi (q4k c))
    .rw[Zi c];simp![ah,ai,aH,toF,aI,aF,aJ,aj,aK,FV.v,ae,oo,rG,aq,aW,bf,aX,a_,bc,ba,ay,au,ar,aS,bh,bg,aw,aZ,aU,aY,rJ,tE];exact⟨ha,h1 (q0i c)⟩
   rw[za];let fl:=q0K (λn=>G (n∉os)) (fY as);let tJ:=ek pm
   change sortI (N.k++(sortI (gq as)).filter _)=_ at tJ
   change ↑((sortI (gq as)).filter _)<=↑(sortI (gq as)) at fl
   change ↑(sortI (gq as))<=_ at rl
   simp![ah,ai,aH,toF,aI,aF,aJ,aj,aK,FV.v,ae,oo,rG,aq,aW,bf,aX,a_,bc,ba,ay,au,ar,aS,bh,bg,aw,aZ,aU,aY,rJ,tE,bJ];calc⟨⋯,?_⟩;rw[<-q0r];unfold ml;dsimp only;rw[nA];dsimp only;calc⟨by rw[Pz];symm,?_⟩;rw[tJ];let⟨kvs,e1,e2,e3,e4,e5,e6,p1,p2,p3⟩:=Ff (a:=a) (b:=b) (N:=N);calc⟨a,0,kvs,⟨Y,by rw[e1];rfl,⋯⟩,?_⟩;rw[p2];subst hM;calc br λM hM=>?_;let ef:=ef pm up
   let go:∀fd,fd=oD (je ws l)->M ⟨[U (.p (.tup [.int m,.tup (ws.map bQ)])),U (.w a),U (.p (.int h)),U (.p (.lst (l.map D.int))),U (.p (.lst (g.map D.int))),U (.o 2),Z,U (.p (.lst (os.map D.int)))],[U (.av a [(.inr "put",.p (bJ N.p)),(.inr "known",.p (bJ (sI m ws N.p N.k h))),(.inr "sure",.p (bJ N.s)),(.inr "searches",.w b)]),U (.al b (N.q.map eF++[.tup [fd,.int h]])),U (.lst (as.map D.int))]⟩:=by
    ext fd rfl;subst hM;simp![ah,ai,aH,toF,aI,aF,aJ,aj,aK,FV.v,ae,oo,rG,aq,aW,bf,aX,a_,bc,ba,ay,au,ar,aS,bh,bg,aw,aZ,aU,aY,rJ,tE];calc⟨.inl ⟨by decide,by decide⟩,.inl ⟨by decide,by decide⟩,?_⟩;calc⟨[_,_],[],[U _],Y,Y,?_⟩;unfold lO sO at hw;dsimp only at hw;rw[q0r] at hw;exact hw
   cases os with
   |nil =>
    simp![ah,ai,aH,toF,aI,aF,aJ,aj,aK,FV.v,ae,oo,rG,aq,aW,bf,aX,a_,bc,ba,ay,au,ar,aS,bh,bg,aw,aZ,aU,aY,rJ,tE,bq];calc⟨a,0,_,.w b,⟨Y,Y,Y⟩,b,1,sO b N,⟨Y,Y,Y⟩,?_⟩;simp![ah,ai,aH,toF,aI,aF,aJ,aj,aK,FV.v,ae,oo,rG,aq,aW,bf,aX,a_,bc,ba,ay,au,ar,aS,bh,bg,aw,aZ,aU,aY,rJ,tE,sO,dEq,dq];calc⟨⋯,?_⟩;exact go _ (by rw[<-ef];rfl)
   |cons x r =>
    let zi:dEq (.lst ((x::r).map D.int)) (.lst [])=ι:=by simp[dEq,dq]
    let a0:fq ((x::r).map D.int) 0=U (.int x):=dB;let KP:=ja (x::r);generalize(x::r).map D.int=xr at zi a0 KP go ⊢;simp![ah,ai,aH,toF,aI,aF,aJ,aj,aK,FV.v,ae,oo,rG,aq,aW,bf,aX,a_,bc,ba,ay,au,ar,aS,bh,bg,aw,aZ,aU,aY,rJ,tE,bq];calc⟨a,0,_,.w b,⟨Y,Y,Y⟩,b,1,sO b N,⟨Y,Y,Y⟩,?_⟩;simp![ah,ai,aH,toF,aI,aF,aJ,aj,aK,FV.v,ae,oo,rG,aq,aW,bf,aX,a_,bc,ba,ay,au,ar,aS,bh,bg,aw,aZ,aU,aY,rJ,tE,sO,zi,a0];calc⟨⋯,?_⟩;calc⟨⋯,?_⟩;calc go _ (by rw[<-ef];rfl)
def Fi(C:O):GK:=λys aB K=>∃(a b:O)(m:Int)(ws:-Wy)(N:Nt)(i:Nat),aO m ws/\eO m ws N/\gN m N (.fin i)/\ys=[.p (bq m ws),.w a,.p (.int (i:Int))]/\aB=[lO a b N,sO b N]/\K (.p (gr (N.tell m ws (.fin i)))) [lO a b (N.step m ws (.fin i)),sO b (N.step m ws (.fin i))] []
def Fj(c_Night:O):WS:=(aD (hZ (d2 (ai (aq "searches" (aa 1))) (aa 2) bz) (iX 2 (dX (bR 3) (dX (bR 4) iJ)))) (aD (qy (dC .non) (ai (aq "searches" (aa 1))) (aa 2)) (aD (bS (nr (fJ (dT (d2 (aa 3) (dC .non) i7)) (dT (d2 (aa 4) (aq "sure" (aa 1)) (fX ι)))) (dT (d2 (aa 3) (aq "put" (aa 1)) (fX ι)))) (aQ (bV (ak (dC .non) (ak (dC (.int 0)) ag)))) dM) (aD (bS (dT (d2 (aa 3) (dC .non) i7)) (aD (bo 5 (aE 3 wY (ak (aa 0) (ak (aq "put" (aa 1)) (ak (aa 4) ag))))) (aD (aW "sure" (dN (ak (d2 (aq "sure" (aa 1)) (aa 5) c8) ag) ml) (aa 1)) (aQ (bV (ak (dC .non) (ak (d2 (dN (ak (aa 5) ag) cB) (dC (.int 1)) (oI λi j=>.int (i-j))) ag)))))) dM) (aD (bo 6 (dZ (cm (i5 (d2 (d2 (aa 0) (dC (.int 1)) bz) (aa 3) bz) i0 (qw (dC (.int 2))))) [Z,U 0,U 1] (bR 0) dj (dN (ak (aE 3 wY (ak (aa 1) (ak (aq "put" (aa 2)) (ak (aa 0) ag)))) ag) cB))) (aD (aW "put" (dN (ak (d2 (aq "put" (aa 1)) (dU (ak (aa 3) ag)) c8) ag) ml) (aa 1)) (aQ (bV (ak (aa 3) (ak (d2 (dC (.int 1)) (dN (ak (aa 6) ag) uk) c8) ag))))))))))
theorem Wo{q:-gK}{i:Nat}{s:gK}(h:q[i]?=U s):fq (q.map eF) (i:Int)=U (eF s):=j9 (by rw[PB,h];rfl)
theorem Wq{q:-gK}{i:Nat}{s:gK}(h:q[i]?=U s):jI ↑q (i:Int)=U i:=by
 let:=(Hy.mp h).1;unfold jI;rw[q0e ⋯,q0e ⋯,q0s]
theorem Wr(C:ξ):∀ys aB K',↑ys=3->Fi C ys aB K'->Fj C (ae ↑aB K') ⟨ys.map U++q0f 4 Z,aB.map U⟩:=by
 ext ys aB K'-⟨a,b,m,ws,N,i,W,O,⟨fo,h,hq⟩,rfl,rfl,k⟩;let⟨hh,hw,hn⟩:=O.q i fo h hq;let ds:=ja N.s;let dp:=ja N.p;let kW:=W.iP;let pl:=O.pl W;let sl:=O.sl W;let ll:=um W (p:=N.p) (h:=h);unfold Nt.tell Nt.step at k;dsimp only at k;rw[hq] at k;dsimp only at k;rw[EM] at k;unfold Fj;calc br λM hM=>?_;simp![ah,ai,aH,toF,aI,aF,aJ,aj,aK,FV.v,ae,oo,rG,aq,aW,bf,aX,a_,bc,ba,ay,au,ar,aS,bh,bg,aw,aZ,aU,aY,rJ,tE];calc⟨a,0,_,.w b,⟨Y,Y,Y⟩,b,1,sO b N,⟨Y,Y,Y⟩,?_⟩;simp![ah,ai,aH,toF,aI,aF,aJ,aj,aK,FV.v,ae,oo,rG,aq,aW,bf,aX,a_,bc,ba,ay,au,ar,aS,bh,bg,aw,aZ,aU,aY,rJ,tE,sO,Wo hq,eF]
 subst hM;calc br λM hM=>?_;simp![ah,ai,aH,toF,aI,aF,aJ,aj,aK,FV.v,ae,oo,rG,aq,aW,bf,aX,a_,bc,ba,ay,au,ar,aS,bh,bg,aw,aZ,aU,aY,rJ,tE];calc⟨a,0,_,.w b,⟨Y,Y,Y⟩,b,1,.al b (N.q.map eF),⟨Y,Y,Y⟩,?_⟩;simp![ah,ai,aH,toF,aI,aF,aJ,aj,aK,FV.v,ae,oo,rG,aq,aW,bf,aX,a_,bc,ba,ay,au,ar,aS,bh,bg,aw,aZ,aU,aY,rJ,tE,Wq hq]
 let es:(N.q.map eF).set i .non=(N.q.set i Z).map eF:=by
  show(N.q.map eF).set i (eF Z)=_;exact q8D.symm
 rw[es];unfold mM fM at k;subst hM;refine br λM hM=>i9 λA B hA hB=>?_
 cases fo with
 |none =>
  dsimp only at k;simp![ah,ai,aH,toF,aI,aF,aJ,aj,aK,FV.v,ae,oo,rG,aq,aW,bf,aX,a_,bc,ba,ay,au,ar,aS,bh,bg,aw,aZ,aU,aY,rJ,tE,oD];calc⟨a,0,_,.p (bJ N.s),⟨Y,Y,Y⟩,?_⟩;simp![ah,ai,aH,toF,aI,aF,aJ,aj,aK,FV.v,ae,oo,rG,aq,aW,bf,aX,a_,bc,ba,ay,au,ar,aS,bh,bg,aw,aZ,aU,aY,rJ,tE,bJ];calc⟨⋯,?_⟩;rw[jc]
  by_cases c:h∈N.s
  .rw[q0i c]
   rw[q0e c,q0e c] at k;simp![ah,ai,aH,toF,aI,aF,aJ,aj,aK,FV.v,ae,oo,rG,aq,aW,bf,aX,a_,bc,ba,ay,au,ar,aS,bh,bg,aw,aZ,aU,aY,rJ,tE];subst hA;simp![ah,ai,aH,toF,aI,aF,aJ,aj,aK,FV.v,ae,oo,rG,aq,aW,bf,aX,a_,bc,ba,ay,au,ar,aS,bh,bg,aw,aZ,aU,aY,rJ,tE];exact⟨[_,_],[],[],Y,Y,k⟩
  .rw[Zi c]
   rw[q0c c,q0c c] at k;simp![ah,ai,aH,toF,aI,aF,aJ,aj,aK,FV.v,ae,oo,rG,aq,aW,bf,aX,a_,bc,ba,ay,au,ar,aS,bh,bg,aw,aZ,aU,aY,rJ,tE];calc⟨a,0,_,.p (bJ N.p),⟨Y,Y,Y⟩,?_⟩;simp![ah,ai,aH,toF,aI,aF,aJ,aj,aK,FV.v,ae,oo,rG,aq,aW,bf,aX,a_,bc,ba,ay,au,ar,aS,bh,bg,aw,aZ,aU,aY,rJ,tE,bJ];calc⟨⋯,?_⟩;rw[Wk];simp![ah,ai,aH,toF,aI,aF,aJ,aj,aK,FV.v,ae,oo,rG,aq,aW,bf,aX,a_,bc,ba,ay,au,ar,aS,bh,bg,aw,aZ,aU,aY,rJ,tE];subst hB;show M _;subst hM;calc br λM hM=>i9 λA B hA hB=>?_;simp![ah,ai,aH,toF,aI,aF,aJ,aj,aK,FV.v,ae,oo,rG,aq,aW,bf,aX,a_,bc,ba,ay,au,ar,aS,bh,bg,aw,aZ,aU,aY,rJ,tE]
   subst hA;calc br λM2 pM=>?_;simp![ah,ai,aH,toF,aI,aF,aJ,aj,aK,FV.v,ae,oo,rG,aq,aW,bf,aX,a_,bc,ba,ay,au,ar,aS,bh,bg,aw,aZ,aU,aY,rJ,tE];calc⟨a,0,_,.p (bJ N.p),⟨Y,Y,Y⟩,?_⟩;simp![ah,ai,aH,toF,aI,aF,aJ,aj,aK,FV.v,ae,oo,rG,aq,aW,bf,aX,a_,bc,ba,ay,au,ar,aS,bh,bg,aw,aZ,aU,aY,rJ,tE];calc⟨m,ws,N.p,h,W,O.pn,hh,Y,Y,?_⟩;simp![ah,ai,aH,toF,aI,aF,aJ,aj,aK,FV.v,ae,oo,rG,aq,aW,bf,aX,a_,bc,ba,ay,au,ar,aS,bh,bg,aw,aZ,aU,aY,rJ,tE];subst pM;let⟨kvs,e1,e2,e3,e4,e5,e6,p1,p2,p3⟩:=Ff (a:=a) (b:=b) (N:=N);let er:sortI (N.s++bj m ws N.p h)=fY (N.s++bj m ws N.p h):=Ka (U6 W O c)
   calc br λM2 pM=>?_;simp![ah,ai,aH,toF,aI,aF,aJ,aj,aK,FV.v,ae,oo,rG,aq,aW,bf,aX,a_,bc,ba,ay,au,ar,aS,bh,bg,aw,aZ,aU,aY,rJ,tE];calc⟨a,0,_,.p (bJ N.s),⟨Y,Y,Y⟩,?_⟩;simp![ah,ai,aH,toF,aI,aF,aJ,aj,aK,FV.v,ae,oo,rG,aq,aW,bf,aX,a_,bc,ba,ay,au,ar,aS,bh,bg,aw,aZ,aU,aY,rJ,tE,bJ];calc⟨⋯,?_⟩;rw[<-q0r];unfold ml;dsimp only;rw[nA];dsimp only;calc⟨by rw[Pz];symm,?_⟩;rw[er];calc⟨a,0,kvs,⟨Y,by rw[e1];rfl,⋯⟩,?_⟩;rw[p3];subst pM;simp![ah,ai,aH,toF,aI,aF,aJ,aj,aK,FV.v,ae,oo,rG,aq,aW,bf,aX,a_,bc,ba,ay,au,ar,aS,bh,bg,aw,aZ,aU,aY,rJ,tE,Ba];exact⟨[_,_],[],[],Y,Y,k⟩
 |some w =>
  let hw:=hw w Y;dsimp only at k;simp![ah,ai,aH,toF,aI,aF,aJ,aj,aK,FV.v,ae,oo,rG,aq,aW,bf,aX,a_,bc,ba,ay,au,ar,aS,bh,bg,aw,aZ,aU,aY,rJ,tE,oD];calc⟨a,0,_,.p (bJ N.p),⟨Y,Y,Y⟩,?_⟩;simp![ah,ai,aH,toF,aI,aF,aJ,aj,aK,FV.v,ae,oo,rG,aq,aW,bf,aX,a_,bc,ba,ay,au,ar,aS,bh,bg,aw,aZ,aU,aY,rJ,tE,bJ];calc⟨⋯,?_⟩;rw[jc]
  by_cases c:w∈N.p
  .rw[q0i c]
   rw[q0e c,q0e c] at k;simp![ah,ai,aH,toF,aI,aF,aJ,aj,aK,FV.v,ae,oo,rG,aq,aW,bf,aX,a_,bc,ba,ay,au,ar,aS,bh,bg,aw,aZ,aU,aY,rJ,tE];subst hA;simp![ah,ai,aH,toF,aI,aF,aJ,aj,aK,FV.v,ae,oo,rG,aq,aW,bf,aX,a_,bc,ba,ay,au,ar,aS,bh,bg,aw,aZ,aU,aY,rJ,tE];exact⟨[_,_],[],[],Y,Y,k⟩
  .rw[Zi c]
   rw[q0c c,q0c c] at k;simp![ah,ai,aH,toF,aI,aF,aJ,aj,aK,FV.v,ae,oo,rG,aq,aW,bf,aX,a_,bc,ba,ay,au,ar,aS,bh,bg,aw,aZ,aU,aY,rJ,tE];subst hB;show M _;subst hM;calc br λM hM=>i9 λA B hA hB=>?_;simp![ah,ai,aH,toF,aI,aF,aJ,aj,aK,FV.v,ae,oo,rG,aq,aW,bf,aX,a_,bc,ba,ay,au,ar,aS,bh,bg,aw,aZ,aU,aY,rJ,tE];subst hB;show M _;subst hM;let⟨r1,r2⟩:=D1 W hw;let⟨y,ey,hy,ea,_⟩:=qC W hw.1 hw.2;let ew:aG ws w=y:=ey;let c2:cutD [D.int y.1,D.int y.2.1,D.int y.2.2] Z (U 2)=[D.int y.1,D.int y.2.1]:=Y;let l1:=um W (p:=N.p) (h:=y.1);let l2:=um W (p:=N.p) (h:=y.2.1);rw[ew] at r1 r2
   calc br λM hM=>?_;simp![ah,ai,aH,toF,aI,aF,aJ,aj,aK,FV.v,ae,oo,rG,aq,aW,bf,aX,a_,bc,ba,ay,au,ar,aS,bh,bg,aw,aZ,aU,aY,rJ,tE,bq,eB,ea,bQ,c2]
   refine L2.km (λd=>match d with|.int x=>.int (↑(bj m ws N.p x):Int)|_=>.non) (by show 2<=1000;decide) trivial ?_ ?_
   .ext d hd acc L ha hL
    let⟨x,rx,rfl⟩:∃x:Int,(0<=x/\x<m)/\d=.int x:=by
     erw[PC,q0o,q1r] at hd;rcases hd with rfl|rfl
     .exact⟨_,r1,Y⟩
     .exact⟨_,r2,Y⟩
    simp![ah,ai,aH,toF,aI,aF,aJ,aj,aK,FV.v,ae,oo,rG,aq,aW,bf,aX,a_,bc,ba,ay,au,ar,aS,bh,bg,aw,aZ,aU,aY,rJ,tE];calc⟨a,0,_,.p (bJ N.p),⟨Y,Y,Y⟩,?_⟩;simp![ah,ai,aH,toF,aI,aF,aJ,aj,aK,FV.v,ae,oo,rG,aq,aW,bf,aX,a_,bc,ba,ay,au,ar,aS,bh,bg,aw,aZ,aU,aY,rJ,tE];calc⟨m,ws,N.p,x,W,O.pn,rx,Y,Y,?_⟩;simp![ah,ai,aH,toF,aI,aF,aJ,aj,aK,FV.v,ae,oo,rG,aq,aW,bf,aX,a_,bc,ba,ay,au,ar,aS,bh,bg,aw,aZ,aU,aY,rJ,tE,bJ];exact⟨ha,hL⟩
   simp![ah,ai,aH,toF,aI,aF,aJ,aj,aK,FV.v,ae,oo,rG,aq,aW,bf,aX,a_,bc,ba,ay,au,ar,aS,bh,bg,aw,aZ,aU,aY,rJ,tE];subst hM;let⟨kvs,e1,e2,e3,e4,e5,e6,p1,p2,p3⟩:=Ff (a:=a) (b:=b) (N:=N);let er:sortI (N.p++[w])=fY (N.p++[w]):=Ka (U7 O.pu c);calc br λM hM=>?_;simp![ah,ai,aH,toF,aI,aF,aJ,aj,aK,FV.v,ae,oo,rG,aq,aW,bf,aX,a_,bc,ba,ay,au,ar,aS,bh,bg,aw,aZ,aU,aY,rJ,tE];calc⟨a,0,_,.p (bJ N.p),⟨Y,Y,Y⟩,?_⟩;simp![ah,ai,aH,toF,aI,aF,aJ,aj,aK,FV.v,ae,oo,rG,aq,aW,bf,aX,a_,bc,ba,ay,au,ar,aS,bh,bg,aw,aZ,aU,aY,rJ,tE,bJ];calc⟨⋯,?_⟩;unfold ml;dsimp only;rw[show N.p.map D.int++[D.int w]=(N.p++[w]).map D.int by rw[q0r];rfl,nA]
   dsimp only;calc⟨by rw[Pz];simp;symm,?_⟩;rw[er];calc⟨a,0,kvs,⟨Y,by rw[e1];rfl,⋯⟩,?_⟩;rw[p1];subst hM;simp![ah,ai,aH,toF,aI,aF,aJ,aj,aK,FV.v,ae,oo,rG,aq,aW,bf,aX,a_,bc,ba,ay,au,ar,aS,bh,bg,aw,aZ,aU,aY,rJ,tE,uk,intsOf];calc⟨by simp,λx hx bx=>?_⟩;let ex:=KC hx bx;calc⟨[_,_],[],[],Y,Y,?_⟩;unfold DY at k;rw[ew,<-ex] at k;calc k
theorem Fl{a b c k:Int}(h:0<=k/\k<3):∃p,fq [D.int a,D.int b,D.int c] k=U (.int p)/\(p=a\/p=b\/p=c):=by
 let⟨t,rfl⟩:=q2C h.1;let ht:t<3:=by symm
 match t,ht with
 |0,_=>exact⟨a,j9 Y,.inl Y⟩
 |1,_=>exact⟨b,j9 Y,.inr (.inl Y)⟩
 |2,_=>calc⟨c,j9 Y,.inr (.inr Y)⟩
theorem Ws{us:-Int}{k:Int}(h0:0<=k)(h1:k<↑us):∃x,x∈us/\fq (us.map D.int) k=U (.int x):=by
 let⟨t,rfl⟩:=q2C h0;let ht:t<↑us:=by symm
 calc⟨us[t],q1Q ht,j9 (by rw[PB,xF ht];rfl)⟩
def Fm(C:O):GK:=λys aB K=>∃(n:Int)(a b:O)(m:Int)(ws:-Wy)(N:Nt)(kA:Int)(o:OV),aO m ws/\↑N.q<900/\ys=[.o 0,.p (bq m ws),.w a,.p (.int kA)]/\aB=[o,lO a b N,sO b N]/\bM n o/\n+10<2 ^ 30/\∀e o',gN m N e->bM (n+4) o'->K (.p (iK e)) [o',lO a b N,sO b N] []
def Fp(c_Night:O):WS:=(aD (bo 4 (aE 2 gG (ak (aa 0) (ak (dC (.int 6)) ag)))) (aD (bo 5 (aE 2 gG (ak (aa 0) (ak (d2 (aa 1) (dC (.int 0)) bz) ag)))) (aD (bo 6 (aF ι 1 (Fd c_Night) (ak (aa 2) ag))) (aD (bS (nr (dT (d2 (aa 6) (dU ag) oEq)) (dT (d2 (aa 4) (aa 3) oLt))) (aQ (bV (ak (dC (.str "wake")) (ak (aa 5) ag)))) dM) (aQ (bV (ak (dC (.str "end")) (ak (d2 (aa 6) (d2 (dU (ak (dC (.int 0)) (ak (d2 (dN (ak (aa 6) ag) cB) (dC (.int 1)) (oI λi j=>.int (i-j))) (ak (aE 2 gG (ak (aa 0) (ak (dN (ak (aa 6) ag) cB) ag))) ag)))) (aE 2 gG (ak (aa 0) (ak (dC (.int 3)) ag))) bz) bz) ag))))))))
theorem Wt(C:O):∀ys aB K',↑ys=4->Fm C ys aB K'->Fp C (ae ↑aB K') ⟨ys.map U++q0f 3 Z,aB.map U⟩:=by
 ext ys aB K'-⟨n,a,b,m,ws,N,kA,o,W,ql,rfl,rfl,P,hn,k⟩;let m1:=W.m1;let iI:=W.iI;unfold Fp;calc br λM hM=>?_;simp![ah,ai,aH,toF,aI,aF,aJ,aj,aK,FV.v,ae,oo,rG,aq,aW,bf,aX,a_,bc,ba,ay,au,ar,aS,bh,bg,aw,aZ,aU,aY,rJ,tE];calc⟨n,6,o,Y,Y,P,⋯,⋯,by decide,λkind o1 k0 k1 P1=>?_⟩;simp![ah,ai,aH,toF,aI,aF,aJ,aj,aK,FV.v,ae,oo,rG,aq,aW,bf,aX,a_,bc,ba,ay,au,ar,aS,bh,bg,aw,aZ,aU,aY,rJ,tE];subst hM;calc br λM hM=>?_;simp![ah,ai,aH,toF,aI,aF,aJ,aj,aK,FV.v,ae,oo,rG,aq,aW,bf,aX,a_,bc,ba,ay,au,ar,aS,bh,bg,aw,aZ,aU,aY,rJ,tE,bq,dB];refine⟨n+1,m,o1,Y,Y,P1,⋯,⋯,⋯,λqK o2 h0 h1 P2=>?_⟩
 simp![ah,ai,aH,toF,aI,aF,aJ,aj,aK,FV.v,ae,oo,rG,aq,aW,bf,aX,a_,bc,ba,ay,au,ar,aS,bh,bg,aw,aZ,aU,aY,rJ,tE];subst hM;calc br λM hM=>?_;simp![ah,ai,aH,toF,aI,aF,aJ,aj,aK,FV.v,ae,oo,rG,aq,aW,bf,aX,a_,bc,ba,ay,au,ar,aS,bh,bg,aw,aZ,aU,aY,rJ,tE];calc⟨[(1,lO a b N),(2,sO b N)],⟨Y,Y,trivial⟩,?_⟩;simp![ah,ai,aH,toF,aI,aF,aJ,aj,aK,FV.v,ae,oo,rG,aq,aW,bf,aX,a_,bc,ba,ay,au,ar,aS,bh,bg,aw,aZ,aU,aY,rJ,tE];calc⟨a,b,N,ql,Y,Y,?_⟩;simp![ah,ai,aH,toF,aI,aF,aJ,aj,aK,FV.v,ae,oo,rG,aq,aW,bf,aX,a_,bc,ba,ay,au,ar,aS,bh,bg,aw,aZ,aU,aY,rJ,tE];subst hM;refine br λM hM=>i9 λA B hA hB=>?_
 let wake:A ⟨[U (.o 0),U (.p (.tup [.int m,.tup (ws.map bQ)])),U (.w a),U (.p (.int kA)),U (.p (.int kind)),U (.p (.int qK)),U (.p (bJ (jh 0 N.q)))],[U o2,U (lO a b N),U (sO b N)]⟩:=by
  subst hA;simp![ah,ai,aH,toF,aI,aF,aJ,aj,aK,FV.v,ae,oo,rG,aq,aW,bf,aX,a_,bc,ba,ay,au,ar,aS,bh,bg,aw,aZ,aU,aY,rJ,tE];exact⟨[_,_,_],[],[],Y,Y,k (.wake qK) o2 ⟨h0,h1⟩ (P2.mono ⋯)⟩
 cases qu:jh 0 N.q with
 |nil =>
  rw[qu] at wake;simp![ah,ai,aH,toF,aI,aF,aJ,aj,aK,FV.v,ae,oo,rG,aq,aW,bf,aX,a_,bc,ba,ay,au,ar,aS,bh,bg,aw,aZ,aU,aY,rJ,tE,bJ,q16,dEq,dq];exact wake
 |cons x r =>
  let zi:dEq (.lst ((x::r).map D.int)) (.lst [])=ι:=by simp[dEq,dq]
  let KP:=ja (x::r);rw[qu] at wake;let mem:=λz (hz:z∈x::r)=>E9 (i:=0) (q:=N.q) (x:=z) (by rw[qu];calc hz);let pos:0<↑(x::r):=by simp
  let len:↑(x::r)<=↑N.q:=by rw[<-qu];exact E_
  generalize x::r=us at *;simp![ah,ai,aH,toF,aI,aF,aJ,aj,aK,FV.v,ae,oo,rG,aq,aW,bf,aX,a_,bc,ba,ay,au,ar,aS,bh,bg,aw,aZ,aU,aY,rJ,tE,bJ,zi];refine⟨⋯,?_⟩
  by_cases c:kind<kA
  .rw[q0i c]
   simp![ah,ai,aH,toF,aI,aF,aJ,aj,aK,FV.v,ae,oo,rG,aq,aW,bf,aX,a_,bc,ba,ay,au,ar,aS,bh,bg,aw,aZ,aU,aY,rJ,tE];exact wake
  .rw[Zi c]
   simp![ah,ai,aH,toF,aI,aF,aJ,aj,aK,FV.v,ae,oo,rG,aq,aW,bf,aX,a_,bc,ba,ay,au,ar,aS,bh,bg,aw,aZ,aU,aY,rJ,tE];subst hB;show M _;subst hM;simp![ah,ai,aH,toF,aI,aF,aJ,aj,aK,FV.v,ae,oo,rG,aq,aW,bf,aX,a_,bc,ba,ay,au,ar,aS,bh,bg,aw,aZ,aU,aY,rJ,tE,Ba];calc⟨n+1+1,↑us,o2,Y,Y,P2,⋯,⋯,⋯,λz o3 z0 z1 P3=>?_⟩;simp![ah,ai,aH,toF,aI,aF,aJ,aj,aK,FV.v,ae,oo,rG,aq,aW,bf,aX,a_,bc,ba,ay,au,ar,aS,bh,bg,aw,aZ,aU,aY,rJ,tE];calc⟨n+1+1+1,3,o3,Y,Y,P3,⋯,⋯,by decide,λy o4 y0 y1 P4=>?_⟩;simp![ah,ai,aH,toF,aI,aF,aJ,aj,aK,FV.v,ae,oo,rG,aq,aW,bf,aX,a_,bc,ba,ay,au,ar,aS,bh,bg,aw,aZ,aU,aY,rJ,tE]
   let⟨p,ep,hp⟩:=Fl (a:=0) (b:=(↑us:Int)-1) (c:=z) ⟨y0,y1⟩;rw[ep];dsimp only;let⟨w,hw,ew⟩:=Ws (us:=us) (k:=p) ⋯ ⋯;rw[ew];simp![ah,ai,aH,toF,aI,aF,aJ,aj,aK,FV.v,ae,oo,rG,aq,aW,bf,aX,a_,bc,ba,ay,au,ar,aS,bh,bg,aw,aZ,aU,aY,rJ,tE];let⟨j,fo,h,e1,e2⟩:=mem w hw;rw[q0A] at e1;subst e1;calc⟨[_,_,_],[],[],Y,Y,k (.fin j) o4 ⟨fo,h,e2⟩ (P4.mono ⋯)⟩
def Fs(C:O):GK:=λys aB K=>∃(a b:O)(m:Int)(ws:-Wy)(N:Nt)(e:fN),aO m ws/\eO m ws N/\gN m N e/\↑N.q<900/\ys=[.p (bq m ws),.w a,.p (iK e)]/\aB=[lO a b N,sO b N]/\K (.p (gr (N.tell m ws e))) [lO a b (N.step m ws e),sO b (N.step m ws e)] []
def Ft(c_Night:O):WS:=(aD (bS (dT (d2 (d2 (aa 2) (dC (.int 0)) bz) (dC (.str "wake")) oEq)) (aQ (aF ι 3 (Fg c_Night) (ak (aa 0) (ak (aa 1) (ak (d2 (aa 2) (dC (.int 1)) bz) ag))))) dM) (aQ (aF ι 3 (Fi c_Night) (ak (aa 0) (ak (aa 1) (ak (d2 (aa 2) (dC (.int 1)) bz) ag))))))
theorem Wu(C:ξ):∀ys aB K',↑ys=3->Fs C ys aB K'->Ft C (ae ↑aB K') ⟨ys.map U++q0f 0 Z,aB.map U⟩:=by
 ext ys aB K'-⟨a,b,m,ws,N,e,W,O,he,ql,rfl,rfl,k⟩;let ww:dEq (.str "wake") (.str "wake")=θ:=Y;let ew:dEq (.str "end") (.str "wake")=ι:=Y;unfold Ft;refine br λM hM=>i9 λA B hA hB=>?_
 cases e with
 |wake h =>
  simp![ah,ai,aH,toF,aI,aF,aJ,aj,aK,FV.v,ae,oo,rG,aq,aW,bf,aX,a_,bc,ba,ay,au,ar,aS,bh,bg,aw,aZ,aU,aY,rJ,tE,iK,dB,ww];subst hA;simp![ah,ai,aH,toF,aI,aF,aJ,aj,aK,FV.v,ae,oo,rG,aq,aW,bf,aX,a_,bc,ba,ay,au,ar,aS,bh,bg,aw,aZ,aU,aY,rJ,tE,eB];calc⟨[(0,lO a b N),(1,sO b N)],⟨Y,Y,trivial⟩,?_⟩;simp![ah,ai,aH,toF,aI,aF,aJ,aj,aK,FV.v,ae,oo,rG,aq,aW,bf,aX,a_,bc,ba,ay,au,ar,aS,bh,bg,aw,aZ,aU,aY,rJ,tE];calc⟨a,b,m,ws,N,h,W,O,he,ql,Y,Y,?_⟩;simp![ah,ai,aH,toF,aI,aF,aJ,aj,aK,FV.v,ae,oo,rG,aq,aW,bf,aX,a_,bc,ba,ay,au,ar,aS,bh,bg,aw,aZ,aU,aY,rJ,tE];exact⟨[_,_],[],[],Y,Y,k⟩
 |fin i =>
  simp![ah,ai,aH,toF,aI,aF,aJ,aj,aK,FV.v,ae,oo,rG,aq,aW,bf,aX,a_,bc,ba,ay,au,ar,aS,bh,bg,aw,aZ,aU,aY,rJ,tE,iK,dB,ew];subst hB;show M _;subst hM;simp![ah,ai,aH,toF,aI,aF,aJ,aj,aK,FV.v,ae,oo,rG,aq,aW,bf,aX,a_,bc,ba,ay,au,ar,aS,bh,bg,aw,aZ,aU,aY,rJ,tE,eB];calc⟨[(0,lO a b N),(1,sO b N)],⟨Y,Y,trivial⟩,?_⟩;simp![ah,ai,aH,toF,aI,aF,aJ,aj,aK,FV.v,ae,oo,rG,aq,aW,bf,aX,a_,bc,ba,ay,au,ar,aS,bh,bg,aw,aZ,aU,aY,rJ,tE];calc⟨a,b,m,ws,N,i,W,O,he,Y,Y,?_⟩;simp![ah,ai,aH,toF,aI,aF,aJ,aj,aK,FV.v,ae,oo,rG,aq,aW,bf,aX,a_,bc,ba,ay,au,ar,aS,bh,bg,aw,aZ,aU,aY,rJ,tE];calc⟨[_,_],[],[],Y,Y,k⟩
def Fu(C:O):GK:=λys aB K=>∃(n m many:Int)(ws:-Wy)(o:OV),aO m ws/\0<=many/\many<=60/\ys=[.o 0,.p (bq m ws),.p (.int many)]/\aB=[o]/\bM n o/\n+500<2 ^ 30/\∀es o' a b,nM m ws cx es->↑es=many.toNat->bM (n+400) o'->K (.u θ [.p (.lst (es.map iK)),.p (.lst ((jW m ws cx es).map gr)),.w a]) [o'] [lO a b (runN m ws cx es),sO b (runN m ws cx es)]
def Fv(c_Night:O):WS:=(aD (bo 3 (d2 (dC (.int 1)) (aE 2 gG (ak (aa 0) (ak (dC (.int 5)) ag))) c8)) (aD (bo 4 (aF ι 0 (E7 c_Night) ag)) (aD (bo 5 (oz ag)) (aD (bo 6 (oz ag)) (aD (fK (me (ak (aa 2) ag)) (bR 7) (aD (bo 8 (aF ι 4 (Fm c_Night) (ak (aa 0) (ak (aa 1) (ak (aa 4) (ak (aa 3) ag)))))) (aD (lF (ib (aa 5) (ak (aa 8) ag))) (lF (ib (aa 6) (ak (aF ι 3 (Fs c_Night) (ak (aa 1) (ak (aa 4) (ak (aa 8) ag)))) ag)))))) (aQ (bh θ (ak (aa 5) (ak (aa 6) (ak (aa 4) ag))))))))))
theorem Wv(C:O):∀ys aB K',↑ys=3->Fu C ys aB K'->Fv C (ae ↑aB K') ⟨ys.map U++q0f 6 Z,aB.map U⟩:=by
 ext ys aB K'-⟨n,m,many,ws,o,W,h0,ZM,rfl,rfl,P,hn,k⟩;unfold Fv;calc br λM hM=>?_;simp![ah,ai,aH,toF,aI,aF,aJ,aj,aK,FV.v,ae,oo,rG,aq,aW,bf,aX,a_,bc,ba,ay,au,ar,aS,bh,bg,aw,aZ,aU,aY,rJ,tE];calc⟨n,5,o,Y,Y,P,⋯,⋯,by decide,λz o1 z0 z1 P1=>?_⟩;simp![ah,ai,aH,toF,aI,aF,aJ,aj,aK,FV.v,ae,oo,rG,aq,aW,bf,aX,a_,bc,ba,ay,au,ar,aS,bh,bg,aw,aZ,aU,aY,rJ,tE];subst hM;calc br λM hM=>?_;simp![ah,ai,aH,toF,aI,aF,aJ,aj,aK,FV.v,ae,oo,rG,aq,aW,bf,aX,a_,bc,ba,ay,au,ar,aS,bh,bg,aw,aZ,aU,aY,rJ,tE];calc⟨[],trivial,?_⟩;simp![ah,ai,aH,toF,aI,aF,aJ,aj,aK,FV.v,ae,oo,rG,aq,aW,bf,aX,a_,bc,ba,ay,au,ar,aS,bh,bg,aw,aZ,aU,aY,rJ,tE]
 calc⟨Y,Y,λa b=>?_⟩;simp![ah,ai,aH,toF,aI,aF,aJ,aj,aK,FV.v,ae,oo,rG,aq,aW,bf,aX,a_,bc,ba,ay,au,ar,aS,bh,bg,aw,aZ,aU,aY,rJ,tE];subst hM;calc br λM hM=>?_;simp![ah,ai,aH,toF,aI,aF,aJ,aj,aK,FV.v,ae,oo,rG,aq,aW,bf,aX,a_,bc,ba,ay,au,ar,aS,bh,bg,aw,aZ,aU,aY,rJ,tE];subst hM;calc br λM hM=>?_;simp![ah,ai,aH,toF,aI,aF,aJ,aj,aK,FV.v,ae,oo,rG,aq,aW,bf,aX,a_,bc,ba,ay,au,ar,aS,bh,bg,aw,aZ,aU,aY,rJ,tE];subst hM;calc br λM hM=>sk λg' b' K2 hg hb' hK=>?_;simp![ah,ai,aH,toF,aI,aF,aJ,aj,aK,FV.v,ae,oo,rG,aq,aW,bf,aX,a_,bc,ba,ay,au,ar,aS,bh,bg,aw,aZ,aU,aY,rJ,tE]
 calc⟨⋯,?_⟩;subst hg hb' hK;refine oU (λi δ=>∃es o,nM m ws cx es/\↑es=i/\bM (n+1+5*i) o/\δ=⟨[U (.o 0),U (.p (bq m ws)),U (.p (.int many)),U (.p (.int (1+z))),U (.w a),U (.o 3),U (.o 4),Z,Z],[U o,U (lO a b (runN m ws cx es)),U (sO b (runN m ws cx es)),U (.lst (es.map iK)),U (.lst ((jW m ws cx es).map gr))]⟩) ⟨[],o1,trivial,Y,P1.mono ⋯,Y⟩ ?_ ?_
 .ext i d δ L hi ⟨es,o2,ok,el,P2,rfl⟩ hL
  let⟨il,rfl⟩:=oK hi;let ql:=EN (m:=m) (ws:=ws) (N:=cx) (es:=es);let ql:(runN m ws cx es).q.length<=i:=by let z:cx.q.length=0:=Y;symm
  let ON:=eO.run W (wJ m ws) ok;let tl:=yW (m:=m) (ws:=ws) (N:=cx) (a:=es);let hN:∀e o,gN m (runN m ws cx es) e->bM (n+1+5*(i+1:Nat)) o->L ⟨[U (.o 0),U (.p (bq m ws)),U (.p (.int many)),U (.p (.int (1+z))),U (.w a),U (.o 3),U (.o 4),Z,Z],[U o,U (lO a b ((runN m ws cx es).step m ws e)),U (sO b ((runN m ws cx es).step m ws e)),U (.lst (es.map iK++[iK e])),U (.lst ((jW m ws cx es).map gr++[gr ((runN m ws cx es).tell m ws e)]))]⟩:=λe o he Po=>hL _ ⟨es++[e],o,Kc ok he,by rw[Pz,el];rfl,Po,by rw[DZ,D0,q0r,q0r];rfl⟩;let Ww:↑((jW m ws cx es).map gr)=i:=by rw[Ba,tl,el]
  generalize runN m ws cx es=N at ON ql hN ⊢;generalize(jW m ws cx es).map gr=ts at hN Ww ⊢;calc⟨trivial,?_⟩;erw[bR,q1b,q1c];calc br λM2 pM=>?_;simp![ah,ai,aH,toF,aI,aF,aJ,aj,aK,FV.v,ae,oo,rG,aq,aW,bf,aX,a_,bc,ba,ay,au,ar,aS,bh,bg,aw,aZ,aU,aY,rJ,tE];calc⟨[(1,lO a b N),(2,sO b N)],⟨Y,Y,trivial⟩,?_⟩;simp![ah,ai,aH,toF,aI,aF,aJ,aj,aK,FV.v,ae,oo,rG,aq,aW,bf,aX,a_,bc,ba,ay,au,ar,aS,bh,bg,aw,aZ,aU,aY,rJ,tE];calc⟨n+1+5*i,a,b,m,ws,N,1+z,o2,W,⋯,Y,Y,P2,⋯,λe o3 he P3=>?_⟩;simp![ah,ai,aH,toF,aI,aF,aJ,aj,aK,FV.v,ae,oo,rG,aq,aW,bf,aX,a_,bc,ba,ay,au,ar,aS,bh,bg,aw,aZ,aU,aY,rJ,tE]
  subst pM;calc br λM2 pM=>?_;simp![ah,ai,aH,toF,aI,aF,aJ,aj,aK,FV.v,ae,oo,rG,aq,aW,bf,aX,a_,bc,ba,ay,au,ar,aS,bh,bg,aw,aZ,aU,aY,rJ,tE];calc⟨⋯,?_⟩;subst pM;simp![ah,ai,aH,toF,aI,aF,aJ,aj,aK,FV.v,ae,oo,rG,aq,aW,bf,aX,a_,bc,ba,ay,au,ar,aS,bh,bg,aw,aZ,aU,aY,rJ,tE];calc⟨[(1,lO a b N),(2,sO b N)],⟨Y,Y,trivial⟩,?_⟩;simp![ah,ai,aH,toF,aI,aF,aJ,aj,aK,FV.v,ae,oo,rG,aq,aW,bf,aX,a_,bc,ba,ay,au,ar,aS,bh,bg,aw,aZ,aU,aY,rJ,tE];calc⟨a,b,m,ws,N,e,W,ON,he,⋯,Y,Y,?_⟩;simp![ah,ai,aH,toF,aI,aF,aJ,aj,aK,FV.v,ae,oo,rG,aq,aW,bf,aX,a_,bc,ba,ay,au,ar,aS,bh,bg,aw,aZ,aU,aY,rJ,tE]
  exact⟨⋯,hN e o3 he (P3.mono ⋯)⟩
 .ext δ ⟨es,o2,ok,el,P2,rfl⟩
  calc⟨trivial,?_⟩;show M _;rw[ny] at el P2;subst hM;simp![ah,ai,aH,toF,aI,aF,aJ,aj,aK,FV.v,ae,oo,rG,aq,aW,bf,aX,a_,bc,ba,ay,au,ar,aS,bh,bg,aw,aZ,aU,aY,rJ,tE];calc⟨[_],[_,_],[Z,Z],Y,Y,k es o2 a b ok el (P2.mono ⋯)⟩
end LJ
namespace LJT
open PySem L2 LJ
variable[aR]
mutual
noncomputable def mS:D->Bool
 |.lst ds=>G (↑ds<=1000)&&iy ds
 |.tup ds=>G (↑ds<=1000)&&iy ds
 |_=>θ
noncomputable def iy:-D->Bool
 |[]=>θ
 |d::r=>mS d&&iy r
end
theorem iz:∀{ds:-D},iy ds=θ->∀d∈ds,mS d=θ
 |[],_,d,h=>nomatch h
 |a::r,hn,d,h=>by
  erw[iy,q0G] at hn;rcases PC.mp h with rfl|h
  .exact hn.1
  .calc iz hn.2 d h
inductive bB (n:Nat) (ys:-DV) (aB:-OV) (K:RV->-OV->Prop):Prop
 |mk (d) (_:dep d<=n) (_:n<=50) (_:mS d=θ) (_:ys=[.p d,.p d]) (_:aB=[]) (_:K (.p (.bl θ)) [])
def bp(Fw:GD):WS:=(aD (bS (dT (d2 (aa 1) (dC .non) i7)) (aQ (d2 (aa 0) (dC .non) i7)) dM) (aD (bS (nr (dT (d1 (aa 1) (dr "bool"))) (dT (d1 (aa 0) (dr "bool")))) (aQ (lE (d1 (aa 1) (dr "bool")) (lE (d1 (aa 0) (dr "bool")) (d2 (aa 0) (aa 1) oEq)))) dM) (aD (bS (dT (d1 (aa 1) (dr "int"))) (aQ (lE (d1 (aa 0) (dr "int")) (d2 (aa 0) (aa 1) oEq))) dM) (aD (bS (dT (d1 (aa 1) (dr "str"))) (aQ (lE (d1 (aa 0) (dr "str")) (d2 (aa 0) (aa 1) oEq))) dM) (aD (bS (nr (dT (d2 (d1 (aa 1) (dr "tuple")) (d1 (aa 0) (dr "tuple")) oP)) (dT (d2 (d1 (aa 1) (dr "list")) (d1 (aa 0) (dr "list")) oP))) (aQ (dC (.bl ι))) dM) (aD (bS (dT (d2 (dN (ak (aa 0) ag) cB) (dN (ak (aa 1) ag) cB) oP)) (aQ (dC (.bl ι))) dM) (aQ (d2 (dC (.bl ι)) (dZ (zh (ak (aa 0) (ak (aa 1) ag))) [Z,Z] (iX 2 (dX (bR 0) (dX (bR 1) iJ))) dj (aE 2 Fw (ak (aa 0) (ak (aa 1) ag)))) (fX θ)))))))))
def ji(g:Nat->GD):Nat->GD
 |0=>λ_ _ _=>False
 |n+1=>g n
theorem Wx(g:GD){K':RV->-OV->Prop}(k:K' (.p (.bl θ)) []):bp g (jQ 0 K') ⟨[U (.p .non),U (.p .non)],[]⟩:=by
 unfold bp;calc br λN hN=>?_;simp![cW,oZ,o6,o7,o8,o9,dEq];calc kU k
theorem Wz(g:GD){K':RV->-OV->Prop}(b:Bool)(k:K' (.p (.bl θ)) []):bp g (jQ 0 K') ⟨[U (.p (.bl b)),U (.p (.bl b))],[]⟩:=by
 unfold bp;calc br λN hN=>?_;simp![cW,nD,nE,nG,nH,nJ,gF];subst hN;calc br λN hN=>?_;simp![cW,nD,nE,nG,nH,nJ,gF];calc kU k
theorem same_int(g:GD){K':RV->-OV->Prop}(b:Int)(k:K' (.p (.bl θ)) []):bp g (jQ 0 K') ⟨[U (.p (.int b)),U (.p (.int b))],[]⟩:=by
 unfold bp;calc br λN hN=>?_;simp![cW,mB,mC,mD,mE,mF,gF];subst hN;calc br λN hN=>?_;simp![cW,mB,mC,mD,mE,mF,gF];subst hN;calc br λN hN=>?_;simp![cW,mB,mC,mD,mE,mF,gF];calc kU k
theorem same_str(g:GD){K':RV->-OV->Prop}(b:J)(k:K' (.p (.bl θ)) []):bp g (jQ 0 K') ⟨[U (.p (.str b)),U (.p (.str b))],[]⟩:=by
 unfold bp;calc br λN hN=>?_;simp![cW,lG,lH,lI,lJ,lK,gF];subst hN;calc br λN hN=>?_;simp![cW,lG,lH,lI,lJ,lK,gF];subst hN;calc br λN hN=>?_;simp![cW,lG,lH,lI,lJ,lK,gF];subst hN;calc br λN hN=>?_;simp![cW,lG,lH,lI,lJ,lK,gF];calc kU k
theorem WB{n:Nat}{K':RV->-OV->Prop}{ds:-D}(hd:dep (.lst ds)<=n)(hn:n<=50)(nd:mS (.lst ds)=θ)(k:K' (.p (.bl θ)) []):bp (ji bB n) (jQ 0 K') ⟨[U (.p (.lst ds)),U (.p (.lst ds))],[]⟩:=by
 unfold bp;calc br λN hN=>?_;simp![cW,oZ,o6,o7,o8,o9,nD,nE,nG,nH,nJ,mB,mC,mD,mE,mF,lG,lH,lI,lJ,lK,o_,pb,pd,pe,pf,ph,pz,pA,pB,pC];subst hN;calc br λN hN=>?_;simp![cW,oZ,o6,o7,o8,o9,nD,nE,nG,nH,nJ,mB,mC,mD,mE,mF,lG,lH,lI,lJ,lK,o_,pb,pd,pe,pf,ph,pz,pA,pB,pC];subst hN;calc br λN hN=>?_;simp![cW,oZ,o6,o7,o8,o9,nD,nE,nG,nH,nJ,mB,mC,mD,mE,mF,lG,lH,lI,lJ,lK,o_,pb,pd,pe,pf,ph,pz,pA,pB,pC];subst hN;calc br λN hN=>?_;simp![cW,oZ,o6,o7,o8,o9,nD,nE,nG,nH,nJ,mB,mC,mD,mE,mF,lG,lH,lI,lJ,lK,o_,pb,pd,pe,pf,ph,pz,pA,pB,pC];subst hN;calc br λN hN=>?_;simp![cW,ph,pz,pA,pB,pC]
 subst hN;erw[gF,q4e,q03,q2a];calc br λN hN=>?_;simp![gF];subst hN;let⟨m,rfl⟩:∃m,n=m+1:=⟨n-1,by erw[dep] at hd;symm⟩;let Fy:bT ds<=m:=by erw[dep] at hd;symm
 let FA:iy ds=θ:=by erw[mS,q0G] at nd;exact nd.2
 let w4:↑ds<=1000:=by erw[mS,q0G,q0t] at nd;exact nd.1
 let zl:↑(c7 ds ds)<=1000:=by rw[ye];symm
 simp![zh];refine L2.km (λd=>.bl θ) zl trivial ?_ ?_
 .ext d qY acc L ha h
  let⟨a,rfl,ma⟩:=CO qY;simp!;calc⟨a,q0w (CN ma) Fy,⋯,iz FA a ma,Y,Y,?_⟩;simp!;exact⟨ha,h⟩
 .simp!
  let e1:((c7 ds ds).map λ_=>D.bl θ).any (λe=>dEq e (.bl ι))=ι:=by
   rw[q17];ext x hx;let⟨_,_,rfl⟩:=q0l.mp hx;simp[dEq]
  let e2:bT ((c7 ds ds).map λ_=>D.bl θ)<=55:=CP _;calc⟨e2,by rw[e1];calc kU k⟩
theorem mT{n:Nat}{K':RV->-OV->Prop}{ds:-D}(hd:dep (.tup ds)<=n)(hn:n<=50)(nd:mS (.tup ds)=θ)(k:K' (.p (.bl θ)) []):bp (ji bB n) (jQ 0 K') ⟨[U (.p (.tup ds)),U (.p (.tup ds))],[]⟩:=by
 unfold bp;calc br λN hN=>?_;simp![cW,oZ,o6,o7,o8,o9,nD,nE,nG,nH,nJ,mB,mC,mD,mE,mF,lG,lH,lI,lJ,lK,o_,pb,pd,pe,pf,ph,pz,pA,pB,pC];subst hN;calc br λN hN=>?_;simp![cW,oZ,o6,o7,o8,o9,nD,nE,nG,nH,nJ,mB,mC,mD,mE,mF,lG,lH,lI,lJ,lK,o_,pb,pd,pe,pf,ph,pz,pA,pB,pC];subst hN;calc br λN hN=>?_;simp![cW,oZ,o6,o7,o8,o9,nD,nE,nG,nH,nJ,mB,mC,mD,mE,mF,lG,lH,lI,lJ,lK,o_,pb,pd,pe,pf,ph,pz,pA,pB,pC];subst hN;calc br λN hN=>?_;simp![cW,oZ,o6,o7,o8,o9,nD,nE,nG,nH,nJ,mB,mC,mD,mE,mF,lG,lH,lI,lJ,lK,o_,pb,pd,pe,pf,ph,pz,pA,pB,pC];subst hN;calc br λN hN=>?_;simp![cW,o_,pb,pd,pe,pf]
 subst hN;erw[gF,q4e,q03,q2a];calc br λN hN=>?_;simp![gF];subst hN;let⟨m,rfl⟩:∃m,n=m+1:=⟨n-1,by erw[dep] at hd;symm⟩;let Fy:bT ds<=m:=by erw[dep] at hd;symm
 let FA:iy ds=θ:=by erw[mS,q0G] at nd;exact nd.2
 let w4:↑ds<=1000:=by erw[mS,q0G,q0t] at nd;exact nd.1
 let zl:↑(c7 ds ds)<=1000:=by rw[ye];symm
 simp![zh];refine L2.km (λd=>.bl θ) zl trivial ?_ ?_
 .ext d qY acc L ha h
  let⟨a,rfl,ma⟩:=CO qY;simp!;calc⟨a,q0w (CN ma) Fy,⋯,iz FA a ma,Y,Y,?_⟩;simp!;exact⟨ha,h⟩
 .simp!
  let e1:((c7 ds ds).map λ_=>D.bl θ).any (λe=>dEq e (.bl ι))=ι:=by
   rw[q17];ext x hx;let⟨_,_,rfl⟩:=q0l.mp hx;simp[dEq]
  let e2:bT ((c7 ds ds).map λ_=>D.bl θ)<=55:=CP _;calc⟨e2,by rw[e1];calc kU k⟩
theorem gh(n:Nat):Sem 2 0 (bB n) (bp (ji bB n)):=by
 ext ys aB K'-⟨d,hd,hn,nd,rfl,rfl,k⟩
 .cases d with
  |tup ds=>exact mT hd hn nd k
  |non=>exact Wx _ k
  |bl b=>exact Wz _ b k
  |int b=>exact same_int _ b k
  |str b=>exact same_str _ b k
  |lst ds=>calc WB hd hn nd k
end LJT
namespace L2
open PySem PySem.Spec PyProof.Rows
variable[aR]
noncomputable def zj(mu:-(Option OV)):Option DV->Option DV
 |some (.p d)=>U (.p d)
 |some (.o k)=>match mu[k]? with
  |some (some (.lst ds))=>U (.p (.lst ds))
  |_=>Z
 |some (.t d k)=>match mu[k]? with
  |some (some (.lst ds))=>U (.p (.tup [d,.lst ds]))
  |_=>Z
 |some (.w a)=>U (.w a)
 |some (.u t fs)=>U (.u t fs)
 |none=>Z
noncomputable def aM.fQ(δ:aM):aM:=⟨δ.sl.map (zj δ.mu),δ.mu.map λ_=>Z⟩
def FC(t:WT):WT:=fun δ K=>t δ.fQ λb _=>K b δ
section
variable{F F' H H':Hp}{ad aN:-O}{δ δ':aM}{σ σ':St}
open Classical in
noncomputable def nR (F H:Hp) (ad:List Addr) (mu:List (Option OV)):Hp:=λa=>if ∃(k:Nat)(ds:List D),ad[k]?=some a/\mu[k]?=some (some (.lst ds)) then H a else F a
theorem WC(S:SR F ad δ σ H):aP F (nR F H ad δ.mu)/\SR (nR F H ad δ.mu) ad δ.fQ σ H:=by
 let nl:∀{a:O}{o:HO},F a=U o->¬ ∃(k:Nat)(ds:-D),ad[k]?=U a/\δ.mu[k]?=U (U (.lst ds)):=λe z=>by let⟨k,ds,e1,e2⟩:=z;rw[S.off _ ⟨k,_,e1,e2⟩] at e;cases e
 let sm:aP F (nR F H ad δ.mu):=λa o e=>by unfold nR;rw[q0c (nl e)];exact e
 let at':∀{k:Nat}{a:O}{ds:-D},ad[k]?=U a->δ.mu[k]?=U (U (.lst ds))->∃vs,nR F H ad δ.mu a=U (.lst vs)/\af (nR F H ad δ.mu) ds vs:=λ{k a ds} e1 e2=>by
  let⟨a',o,e3,e4,vs,rfl,h⟩:=S.mu k _ e2;rw[e1] at e3;cases e3;exact⟨vs,by unfold nR;rw[q0e ⟨k,ds,e1,e2⟩];calc e4,h.same sm⟩
 let no:∀(k:Nat)(ov:OV),δ.fQ.mu[k]?=U (U ov)->False:=λk ov e=>by
  unfold aM.fQ at e;dsimp only at e;rw[PB] at e;let⟨_,_,z⟩:=q0a.mp e;cases z
 refine⟨sm,λa o e=>?_,λa ⟨k,ov,_,e⟩↦(no k ov e).elim,by unfold aM.fQ;dsimp only;rw[Ba];calc S.cF,λk l a ov ow _ _ e _=>(no k ov e).elim,λk ov e=>(no k ov e).elim,λi x e=>?_,by unfold aM.fQ;dsimp only;rw[Ba];calc S.len,S.tab,S.nt.up sm λa ha=>?_⟩
 .unfold nR at e
  split at e
  .exact e
  .exact S.sub a o e
 .unfold aM.fQ at e
  dsimp only at e;rw[PB] at e;let⟨s,e1,e2⟩:=q0a.mp e
  match s,e2 with
  |none,e2=>cases e2
  |some (.p d),e2 =>
   cases(show U (DV.p d)=U x from e2)
   let⟨v,h1,h2⟩:=S.sl i _ e1;exact⟨v,h1,h2.same sm⟩
  |some (.w d),e2 =>
   cases(show U (DV.w d)=U x from e2)
   exact S.sl i _ e1
  |some (.u t d),e2 =>
   cases(show U (DV.u t d)=U x from e2)
   let⟨v,h1,h2⟩:=S.sl i _ e1;exact⟨v,h1,h2.same sm⟩
  |some (.o k),e2 =>
   unfold zj at e2;dsimp only at e2;split at e2
   .rename_i ds em
    cases e2
    let⟨v,h1,a,h2,rfl⟩:=S.sl i _ e1;let⟨vs,z1,z2⟩:=at' h2 em;calc⟨_,h1,?_⟩;show Is _ (.lst ds) _;erw[Is];exact⟨a,vs,Y,z1,z2⟩
   .cases e2
  |some (.t d k),e2 =>
   unfold zj at e2;dsimp only at e2;split at e2
   .rename_i ds em
    cases e2
    let⟨v,h1,a,b,u,rfl,h2,h3,h4⟩:=S.sl i _ e1;let⟨vs,z1,z2⟩:=at' h4 em;calc⟨_,h1,?_⟩;show Is _ (.tup [d,.lst ds]) _;erw[Is,af];exact⟨a,_,Y,sm _ _ h2,u,_,Y,h3.same sm,.ref b,_,Y,⟨b,vs,Y,z1,z2⟩,Y⟩
   .cases e2
 .unfold nR
  split
  .rename_i z
   let⟨k,ds,e1,e2⟩:=z;let⟨a',o,e3,e4,vs,rfl,_⟩:=S.mu k _ e2;rw[e1] at e3;cases e3;let⟨ps,q⟩:=aR.tb S.tab ha;rw[e4] at q;cases q
  .calc S.nt a ha
theorem WD{F1:Hp}{bt:-O}{WH:-(Option OV)}(S:SR F ad δ σ H)(E:Ext (nR F H ad δ.mu) ad δ.fQ.mu H F1 bt WH H')(tk:aR.ok H'):Ext F ad δ.mu H F ad δ.mu H'/\SR F ad δ σ H':=by
 let no:∀a,¬ Lv ad δ.fQ.mu a:=λa ⟨k,ov,_,e⟩↦by
  unfold aM.fQ at e;dsimp only at e;rw[PB] at e;let⟨_,_,z⟩:=q0a.mp e;cases z
 let kp:∀a o,H a=U o->a∉aR.ad->H' a=U o:=λa o e n=>E.keep a o e (no a) n;calc⟨⟨λ_ _ e=>e,λ_ _ e=>.inl e,λa o e _ n=>kp a o e n,λ_ _ e=>e,λ_ l=>.inl l,E.iW⟩,⟨λa o e=>kp a o (S.sub a o e) (λz=>by rw[S.nt a z] at e;cases e),S.off,S.cF,S.inj,λk ov e=>?_,S.sl,S.len,tk,S.nt⟩⟩;let⟨a,o,e1,e2,h⟩:=S.mu k ov e;calc⟨a,o,e1,kp a o e2 λz=>?_,h⟩;let⟨ps,q⟩:=aR.tb S.tab z;rw[e2] at q;calc h.kind _ (q0v q)
end
section
variable{X:Cx}{a b e:l}{es:-l}{f:WE}{fa:WA}{t:WT}{pos:y}
theorem WJ(ha:JT X a (c_ t)):JT X a (c_ (FC t)):=ha.weak fun σ H Q ⟨F,ad,δ,K,S,q,k⟩↦by
 let⟨_,S1⟩:=WC S
 exact⟨_,ad,δ.fQ,_,S1,q,λb δ1 h1 F1 bt H1 E1 S2=>by
  let⟨e,s⟩:=WD S E1 S2.tab
  calc k _ _ h1 _ _ _ e s⟩
end
end L2
namespace LJ
open PySem L2 PySem.Spec PySem.W PyProof.Rows
section
variable[aR]{X:Cx}{k j n:Nat}{x:J}{ps:-J}{p pos:y}{e:l}{es:-l}{fa:WA}{G:GD}
end
end LJ
namespace LJ
open PySem L2
variable[aR]
abbrev Fw:=LJT.bB 3
noncomputable abbrev KL:KS:=⟨λ_=>False,λx _=>x=.p (.bl θ),λ_=>False,λ_=>False⟩
theorem WK(ts:-(Option Int×Int))(h:↑ts<=1000):LJT.mS (.lst (ts.map gr))=θ:=by
 let:∀ts:-(Option Int×Int),LJT.iy (ts.map gr)=θ:=λts=>by
  induction ts with
  |nil=>rfl
  |cons n r ih =>
   erw[q0m,LJT.iy,ih,q5G];let⟨o,c⟩:=n;cases o<;>rfl
 unfold LJT.mS;rw[this,Ba,q0i h];rfl
theorem WL(ts:-(Option Int×Int)):dep (.lst (ts.map gr))<=3:=by
 let:∀ts:-(Option Int×Int),bT (ts.map gr)<=1:=λts=>by
  induction ts with
  |nil=>simp[bT]
  |cons n r ih =>
   let⟨o,c⟩:=n;cases o<;>simp[bT,dep,gr,oD]<;>symm
 let:=this ts;erw[dep];symm
theorem WM(es:-fN):bT (es.map iK)<=1:=by
 induction es with
 |nil=>simp[bT]
 |cons n r ih=>cases n<;>simp[bT,dep,iK]<;>symm
def FD(c_Night:O):WS:=(aD (fK (me (ak (dC (.int 3)) ag)) (bR 2) (aD (bo 3 (d2 (dU (ak (dC (.int 40)) (ak (dC (.int 12)) (ak (dC (.int 20)) ag)))) (aa 2) bz)) (aD (bS (dT (d2 (aE 2 gG (ak (aE 1 Cw (ak (aa 1) ag)) (ak (dC (.int 3)) ag))) (dC (.int 0)) oEq)) (bo 3 (aE 2 gG (ak (aa 1) (ak (aa 3) ag)))) dM) (aD (bo 4 (aE 3 CG (ak (aa 1) (ak (d2 (dU (ak (dC (.int 8)) (ak (dC (.int 4)) (ak (dC (.int 12)) ag)))) (aa 2) bz) (ak (dC (.int 30)) ag))))) (aD (hZ (aF ι 3 (Fu c_Night) (ak (aa 1) (ak (aa 4) (ak (aa 3) ag)))) (aZ 3 (aU (bR 5) (aU (bR 6) (aU (bR 7) aY))))) (aD (bo 8 (dN (ak (aa 5) ag) t7)) (fK (me (ak (dC (.int 2)) ag)) (bR 9) (aD (bo 10 (aF θ 2 (EU c_Night) (ak (aa 4) (ak (aa 8) ag)))) (aD (bS (FC (nr (gD (dT (aE 2 Fw (ak (aa 10) (ak (aa 6) ag))))) (dT (d2 (aa 8) (aa 5) oP)))) (aQ (dC (.bl ι))) dM) (lF (ib (aa 10) (ak (bV (ak (dC .non) (ak (dC (.int 0)) ag))) ag)))))))))))) (aQ (dC (.bl θ))))
theorem WN(C:O)(ns:-Int)(hn:↑ns<=63):FD C KL ⟨Z::U (.o 0)::q0f 9 Z,[U (jS ns 0 0)]⟩:=by
 unfold FD;calc br λN hN=>?_;simp![ah,ai,aH,toF,aI,aF,aJ,aj,aK,FV.v,ae,oo,rG,aq,aW,bf,aX,a_,bc,ba,ay,au,ar,aS,bh,bg,aw,aZ,aU,aY,rJ,tE];calc⟨by decide,?_⟩;refine oU (λi δ=>∃o,bM (10000*i) o/\δ=⟨Z::U (.o 0)::q0f 9 Z,[U o]⟩) ⟨jS ns 0 0,⟨ns,0,0,Y,hn,⋯,⋯⟩,Y⟩ ?_ ?_
 .ext j d δ L hj ⟨o,P,rfl⟩ hL
  let⟨KQ,rfl⟩:=oK hj;let KQ:j<3:=KQ;calc⟨trivial,?_⟩;erw[bR,q1m,q5y,q1b,q1c];let⟨h1,WQ,PX⟩:=Fl (a:=40) (b:=12) (c:=20) (k:=0+(j:Int)) ⟨⋯,⋯⟩;let⟨h2,WR,ZN⟩:=Fl (a:=8) (b:=4) (c:=12) (k:=0+(j:Int)) ⟨⋯,⋯⟩;calc br λM hM=>?_;simp![ah,ai,aH,toF,aI,aF,aJ,aj,aK,FV.v,ae,oo,rG,aq,aW,bf,aX,a_,bc,ba,ay,au,ar,aS,bh,bg,aw,aZ,aU,aY,rJ,tE,WQ];subst hM;calc br λM hM=>i9 λA B hA hB=>?_;simp![ah,ai,aH,toF,aI,aF,aJ,aj,aK,FV.v,ae,oo,rG,aq,aW,bf,aX,a_,bc,ba,ay,au,ar,aS,bh,bg,aw,aZ,aU,aY,rJ,tE];refine⟨10000*j,o,Y,Y,P,λo1 P1=>?_⟩
  simp![ah,ai,aH,toF,aI,aF,aJ,aj,aK,FV.v,ae,oo,rG,aq,aW,bf,aX,a_,bc,ba,ay,au,ar,aS,bh,bg,aw,aZ,aU,aY,rJ,tE];calc⟨10000*j,3,o1,Y,Y,P1,⋯,⋯,by decide,λz o2 z0 z1 P2=>?_⟩;simp![ah,ai,aH,toF,aI,aF,aJ,aj,aK,FV.v,ae,oo,rG,aq,aW,bf,aX,a_,bc,ba,ay,au,ar,aS,bh,bg,aw,aZ,aU,aY,rJ,tE]
  let go:∀(many:Int)(o:OV),0<=many->many<=60->bM (10000*j+2) o->M ⟨[Z,U (.o 0),U (.p (.int (0+(j:Int)))),U (.p (.int many)),Z,Z,Z,Z,Z,Z,Z],[U o]⟩:=by
   ext many o m0 WU P3;subst hM;calc br λM hM=>?_;simp![ah,ai,aH,toF,aI,aF,aJ,aj,aK,FV.v,ae,oo,rG,aq,aW,bf,aX,a_,bc,ba,ay,au,ar,aS,bh,bg,aw,aZ,aU,aY,rJ,tE,WR];calc⟨10000*j+2,h2,30,o,Y,Y,P3,⋯,⋯,⋯,⋯,⋯,λm ws o4 W _ _ P4=>?_⟩;simp![ah,ai,aH,toF,aI,aF,aJ,aj,aK,FV.v,ae,oo,rG,aq,aW,bf,aX,a_,bc,ba,ay,au,ar,aS,bh,bg,aw,aZ,aU,aY,rJ,tE];subst hM;calc br λM hM=>?_;simp![ah,ai,aH,toF,aI,aF,aJ,aj,aK,FV.v,ae,oo,rG,aq,aW,bf,aX,a_,bc,ba,ay,au,ar,aS,bh,bg,aw,aZ,aU,aY,rJ,tE];calc⟨[],trivial,?_⟩;simp![ah,ai,aH,toF,aI,aF,aJ,aj,aK,FV.v,ae,oo,rG,aq,aW,bf,aX,a_,bc,ba,ay,au,ar,aS,bh,bg,aw,aZ,aU,aY,rJ,tE]
   calc⟨10000*j+2+300,m,many,ws,o4,W,m0,WU,Y,Y,P4,⋯,λes o5 a b ok el P5=>?_⟩;simp![ah,ai,aH,toF,aI,aF,aJ,aj,aK,FV.v,ae,oo,rG,aq,aW,bf,aX,a_,bc,ba,ay,au,ar,aS,bh,bg,aw,aZ,aU,aY,rJ,tE];subst hM;let ZO:↑es<=60:=by symm
   let tl:=yW (m:=m) (ws:=ws) (N:=cx) (a:=es);calc br λM hM=>?_;simp![ah,ai,aH,toF,aI,aF,aJ,aj,aK,FV.v,ae,oo,rG,aq,aW,bf,aX,a_,bc,ba,ay,au,ar,aS,bh,bg,aw,aZ,aU,aY,rJ,tE];subst hM;calc sk λg' b' K2 hg hb' hK=>?_;simp![ah,ai,aH,toF,aI,aF,aJ,aj,aK,FV.v,ae,oo,rG,aq,aW,bf,aX,a_,bc,ba,ay,au,ar,aS,bh,bg,aw,aZ,aU,aY,rJ,tE];calc⟨by decide,?_⟩;subst hg hb' hK;refine oU (λi δ=>δ=⟨[Z,U (.o 0),U (.p (.int (0+(j:Int)))),U (.p (.int many)),U (.p (bq m ws)),U (.p (.lst (es.map iK))),U (.p (.lst ((jW m ws cx es).map gr))),U (.w a),U (.p (.lst (es.map iK))),Z,Z],[U o5,U (lO a b (runN m ws cx es)),U (sO b (runN m ws cx es))]⟩) Y ?_ ?_
   .ext i d δ L2 hi rfl xh
    calc⟨trivial,?_⟩;erw[bR,q1b,q1c];calc br λM hM=>?_;simp![ah,ai,aH,toF,aI,aF,aJ,aj,aK,FV.v,ae,oo,rG,aq,aW,bf,aX,a_,bc,ba,ay,au,ar,aS,bh,bg,aw,aZ,aU,aY,rJ,tE];calc⟨[],trivial,?_⟩;simp![ah,ai,aH,toF,aI,aF,aJ,aj,aK,FV.v,ae,oo,rG,aq,aW,bf,aX,a_,bc,ba,ay,au,ar,aS,bh,bg,aw,aZ,aU,aY,rJ,tE];calc⟨m,ws,es,W,ok,⋯,Y,Y,?_⟩;simp![ah,ai,aH,toF,aI,aF,aJ,aj,aK,FV.v,ae,oo,rG,aq,aW,bf,aX,a_,bc,ba,ay,au,ar,aS,bh,bg,aw,aZ,aU,aY,rJ,tE];subst hM;calc br λM hM=>i9 λA B hA hB=>?_;simp![ah,ai,aH,toF,aI,aF,aJ,aj,aK,FV.v,ae,oo,rG,aq,aW,bf,aX,a_,bc,ba,ay,au,ar,aS,bh,bg,aw,aZ,aU,aY,rJ,tE,FC,aM.fQ,zj]
    calc⟨_,WL _,by decide,WK _ ⋯,Y,Y,?_⟩;let de:=WM es;simp![ah,ai,aH,toF,aI,aF,aJ,aj,aK,FV.v,ae,oo,rG,aq,aW,bf,aX,a_,bc,ba,ay,au,ar,aS,bh,bg,aw,aZ,aU,aY,rJ,tE];calc⟨⋯,?_⟩;rw[gF];simp![ah,ai,aH,toF,aI,aF,aJ,aj,aK,FV.v,ae,oo,rG,aq,aW,bf,aX,a_,bc,ba,ay,au,ar,aS,bh,bg,aw,aZ,aU,aY,rJ,tE];subst hB;show M _;subst hM;simp![ah,ai,aH,toF,aI,aF,aJ,aj,aK,FV.v,ae,oo,rG,aq,aW,bf,aX,a_,bc,ba,ay,au,ar,aS,bh,bg,aw,aZ,aU,aY,rJ,tE];calc⟨⋯,?_⟩;exact xh _ Y
   .ext δ rfl
    calc⟨trivial,?_⟩;exact hL _ ⟨o5,P5.mono ⋯,Y⟩
  by_cases c:z=0
  .subst c
   rw[show dEq (.int 0) (.int 0)=θ from Y];simp![ah,ai,aH,toF,aI,aF,aJ,aj,aK,FV.v,ae,oo,rG,aq,aW,bf,aX,a_,bc,ba,ay,au,ar,aS,bh,bg,aw,aZ,aU,aY,rJ,tE];subst hA;simp![ah,ai,aH,toF,aI,aF,aJ,aj,aK,FV.v,ae,oo,rG,aq,aW,bf,aX,a_,bc,ba,ay,au,ar,aS,bh,bg,aw,aZ,aU,aY,rJ,tE];calc⟨10000*j+1,h1,o2,Y,Y,P2,⋯,⋯,⋯,λy o3 y0 y1 P3=>?_⟩;simp![ah,ai,aH,toF,aI,aF,aJ,aj,aK,FV.v,ae,oo,rG,aq,aW,bf,aX,a_,bc,ba,ay,au,ar,aS,bh,bg,aw,aZ,aU,aY,rJ,tE];exact go y o3 y0 ⋯ (P3.mono ⋯)
  .rw[uf,Zi c]
   simp![ah,ai,aH,toF,aI,aF,aJ,aj,aK,FV.v,ae,oo,rG,aq,aW,bf,aX,a_,bc,ba,ay,au,ar,aS,bh,bg,aw,aZ,aU,aY,rJ,tE];subst hB;show M _;exact go h1 o2 ⋯ ⋯ (P2.mono ⋯)
 .ext δ ⟨o,P,rfl⟩
  calc⟨trivial,?_⟩;show N _;subst hN;simp![ah,ai,aH,toF,aI,aF,aJ,aj,aK,FV.v,ae,oo,rG,aq,aW,bf,aX,a_,bc,ba,ay,au,ar,aS,bh,bg,aw,aZ,aU,aY,rJ,tE]
end LJ
namespace L2
open PySem PySem.Spec PyProof.Rows
noncomputable def WV:l->-J
 |.Name x _=>[x]
 |.Tuple es _ _=>es.filterMap fun
  |.Name x _=>U x
  |_=>Z
 |_=>[]
noncomputable def dw(N:-J)(cp:-(Option Nat))(tg:l):-J:=WV tg++cp.filterMap λc=>c.bind λi=>N[i]?
variable[aR]
section
variable{X:Cx}{tg iter elt:l}{ifs:-l}{scope:a}{pos:y}{w:WI}{g:WG}{t:WT}{f:WE}{cp:-(Option Nat)}
theorem WW(hi:JI X tg iter (kh w))(hg:∀d,(dw X.N cp tg).Nodup->JG (cN X scope (dw X.N cp tg) d) tg (jx g))(hf:∀d,JF (cN X scope (dw X.N cp tg) d) ifs (c_ t))(he:∀d,JE (cN X scope (dw X.N cp tg) d) elt (tD f))(hc:X.calm=θ:=by rfl)(hn:G (dw X.N cp tg).Nodup=θ:=by kernel_rfl)
  (hk:scope.kind=.function:=by rfl) (ho:l5 X.N X.env.scope scope (dw X.N cp tg) cp=θ:=by kernel_rfl) (hs:∀x,foldedSetIterable iter X.env x=pure x:=by ext _;rfl) :
  JE X (.ListComp elt [⟨tg,iter,ifs,0⟩] scope pos) (tD (dZ w cp g t f)):=vF cp _ hc hi (λd=>hg d (q0O hn)) hf he hk ho hs
theorem WX(hi:JI X tg iter (kh w))(hg:∀d,(dw X.N cp tg).Nodup->JG (cN X scope (dw X.N cp tg) d) tg (jx g))(hf:∀d,JF (cN X scope (dw X.N cp tg) d) ifs (c_ t))(he:∀d,JE (cN X scope (dw X.N cp tg) d) elt (tD f))(hc:X.calm=θ:=by rfl)(hn:G (dw X.N cp tg).Nodup=θ:=by kernel_rfl)
  (hk:scope.kind=.function:=by rfl) (ho:l5 X.N X.env.scope scope (dw X.N cp tg) cp=θ:=by kernel_rfl) (hs:∀x,foldedSetIterable iter X.env x=pure x:=by ext _;rfl) :
  JE X (.ListComp elt [⟨tg,iter,ifs,0⟩] scope pos) (tD (qq w cp g t f)):=QW cp _ hc hi (λd=>hg d (q0O hn)) hf he hk ho hs
theorem WY[kO]{i:Nat}{x:J}{pos' iU:y}(hN:X.N.Nodup)(hit:JI X tg iter (kh w))(hg:∀d,(dw X.N cp tg).Nodup->JG (cN X scope (dw X.N cp tg) d) tg (jx g))(hf:∀d,JF (cN X scope (dw X.N cp tg) d) ifs (c_ t))(he:∀d,JE (cN X scope (dw X.N cp tg) d) elt (tD f))(hi:X.N[i]?=U x:=by rfl)(hx:Loc X.env.scope x:=by trivial)(hc:X.calm=θ:=by rfl)(hn:G (dw X.N cp tg).Nodup=θ:=by kernel_rfl)
  (hk:scope.kind=.function:=by rfl) (ho:l5 X.N X.env.scope scope (dw X.N cp tg) cp=θ:=by kernel_rfl) (hs:∀x,foldedSetIterable iter X.env x=pure x:=by ext _;rfl)
  (vg:swapsWith (.ListComp elt [⟨tg,iter,ifs,0⟩] scope pos) (U (.Name x pos')) iU.line X.env=pure θ:=by rfl)
  (m9:gZ X x:=by first|exact .inl Y|exact .inr Y|assumption) :
  JS X (.Assign [.Name x pos'] (.ListComp elt [⟨tg,iter,ifs,0⟩] scope pos) iU) (dW (bo i (dZ w cp g t f))):=Iu cp _ hN hi hx hc hit (λd=>hg d (q0O hn)) hf he hk ho hs vg m9
end
end L2
namespace LJ
open PySem L2 PySem.Spec PySem.W PyProof.Rows
variable[aR]{X:Cx}{Z:Ev}{x:J}{ps:-J}{G:GD}{e:l}{es:-l}{fa:WA}{p pos:y}{j k n:Nat}
end LJ
namespace LJ
open PySem L2 PySem.Spec PySem.W PyProof.Rows
variable[aR]
def FE(V:Ev)(x:J)(d:D):Prop:=∃v u,V.mg x=U u/\RelV v u/\Is aR.cs d v
theorem WZ{X:Cx}{x:J}{d:D}{pos:y}(C:FE ⟨X.prog,X.w,X.K,X.mg,X.base⟩ x d)(hg:Gl X x:=by rfl)(hd:b9 x:=by decide):JE X (.Name x pos) (tD (dC d)) :=
 let⟨_,_,h1,r,h2⟩:=C
 (GJ hg h1 r hd).weak λ_ _ _ ⟨_,_,_,_,S,q,k⟩↦k _ _ q _ _ _ _ .refl S (Is.same S.nt.cs h2)
def zk(K:My)(x:J)(d:D):Prop:=∃v u,q1K K mainGlobals x=U (U u)/\RelV v u/\Is aR.cs d v
theorem zk.v{K:My}{h:I}{mg:J->Option L}{P:t}{w:S}{base:I}{x:J}{d:D}(c:zk K x d)(X:K.In h)(G:h.Ns mainGlobals mg):FE ⟨P,w,K,mg,base⟩ x d :=
 let⟨v,u,a,r,i⟩:=c
 ⟨v,u,q20 X G a,r,i⟩
end LJ
namespace LJ
open PySem L2
noncomputable def top(i:Nat):R:=PySem.Challenge.pw_lotjoin_k46_letters_told.main.body.getD i (.Pass ⟨0,0,0,0⟩)
section
variable[aR]{Z:Ev}
set_option hygiene false
local macro_rules | `(tactic| ac_rfl) => `(tactic| repeat' first|(show JE _ (.Name _ _) _;(first|exact dv _|exact Vd (by assumption)))|(show JE _ (.Constant _ _ _) _;(first|exact cb|exact tM|exact jw))|(show JA _ _ _;(first|exact bI|refine aV ?_ ?_|refine bW ?_ ?_|refine hU ?_ ?_|refine cU ?_ ?_|refine rR ?_ ?_|refine Bz ?_ ?_|refine jO ?_ ?_))|(show JE _ (.Call _ _ _ _) _;(first|refine cC (by assumption) hr ?_|refine Vc (by assumption) hr ?_|refine hV oR (by rfl) B.len q1Z ?_|refine hV (Rq rfl) (by rfl) B.all QH ?_|refine hV (Rr rfl) (by rfl) B.min yx ?_|refine hV (Rt rfl) (by rfl) B.max RF ?_|refine hV (J7 rfl) (by rfl) B.min yx ?_|refine hV (To hu) (by rfl) B.sorted qA ?_|refine hV yp (by rfl) B.sorted qA ?_|refine BA IV (by rfl) B.list vv ?_|refine BA Rp (by rfl) B.tuple xU ?_|refine jR Cd (by rfl) B.isinstance (by rfl) B.int Bu ?_|refine jR v8 (by rfl) B.isinstance (by rfl) B.bool vt ?_|refine jR Ce (by rfl) B.isinstance (by rfl) B.tuple xU ?_|refine Ru rfl (by rfl) B.list vv (by rfl) B.range RE ?_|refine DW rfl (by rfl) B.sorted qA (by rfl) B.set xV ?_|refine Sg rfl hu (by rfl) B.len q1Z (by rfl) B.set xV ?_|refine(m_ q0P q1j q1k qf ?_ ?_).weak sg|refine(m_ q0P q4m q4n Hu ?_ ?_).weak IZ|refine(m_ q0P PySem.F.slot_list_pop PySem.F.type_list_pop Pu ?_ ?_).weak Rz))|(show JE _ (.Subscript _ _ _) _;(first|refine eJ eN ?_ ?_ λ_ _=>rfl|refine Cp ?_ ?_ ?_))|(show JE _ (.BinOp _ _ _ _) _;(first|refine gQ (op:=.Add) oV ?_ ?_|refine gQ (op:=.Sub) vR ?_ ?_|refine gQ (op:=.Mult) B9 ?_ ?_|refine gQ (op:=.Mod) Ri ?_ ?_|refine gQ (op:=.FloorDiv) RX ?_ ?_|refine gQ (op:=.Pow) Rj ?_ ?_|refine RH ?_ ?_))|(show JE _ (.Compare _ _ _ _) _;(first|refine nk (op:=.Eq) (nB hu) ?_ ?_ (by rfl)|refine nk (op:=.NotEq) (t6 hu) ?_ ?_ (by rfl)|refine nk (op:=.Lt) (B_ hu) ?_ ?_ (by rfl)|refine nk (op:=.Gt) IG ?_ ?_ (by rfl)|refine nk (op:=.In) (sd hu) ?_ ?_ (by rfl)|refine Rn IF IF ?_ ?_ ?_))|(show JE _ _ _;(first|refine nq ?_|refine tN ?_|refine kg ?_|refine vC ?_ ?_|refine x5 ?_|refine QS ?_|refine Io ?_ ?_ ?_|refine WW ?_ (λd nd=>?_) (λd=>?_) λd=>?_|refine WX ?_ (λd nd=>?_) (λd=>?_) λd=>?_))|(show JS _ _ _;(first|refine eM ?_|refine hX ?_ ?_ ?_|refine WY nd ?_ (λd nd=>?_) (λd=>?_) λd=>?_|refine fW nd rfl (by trivial) ?_|refine oA ?_|refine(xt ?_ (Aq ?_ ?_ set_list)).weak I0|refine BC ?_ ?_|refine tV q2o rfl ?_ ?_ ?_|exact yy))|(show dO _ _ _;(first|refine cV ?_|refine bY ?_ ?_|exact hW))|(show JT _ _ _;(first|refine eK (op:=.Eq) (nB hu) ?_ ?_ (by rfl)|refine eK (op:=.Lt) (B_ hu) ?_ ?_ (by rfl)|refine eK (op:=.Gt) IG ?_ ?_ (by rfl)|refine eK (op:=.GtE) Rk ?_ ?_ (by rfl)|refine eK (op:=.In) (sd hu) ?_ ?_ (by rfl)|refine eK (op:=.NotIn) (yk hu) ?_ ?_ (by rfl)|refine eK (op:=.Is) wd ?_ ?_ (by rfl)|refine eK (op:=.IsNot) Jj ?_ ?_ (by rfl)|refine x4 ?_|refine JW.jt (qp ?_ ?_)|refine JW.jt (tQ ?_ ?_)|refine nu ?_))|(show JW _ _ _;(first|refine qp ?_ ?_|refine rT ?_|refine tQ ?_ ?_|refine vB ?_))|exact Ca|refine Cb ?_|refine yh (by rfl) B.range ?_|refine Rg (by rfl) B.range ?_|refine yg (by rfl) B.enumerate ?_|refine yf ?_|exact gR nd rfl (by trivial)|refine tU rfl ?_|exact tT|refine l9 ?_ ?_|exact BG|refine ya ?_)
noncomputable abbrev KR:R:=top 9
abbrev FF(Z:Ev):Prop:=Fx Z 1 "is_whole" ["thing"] 1 yA
theorem W0(D:Dx Z "is_whole" KR)(B:BT Z.mg):FF Z:=d7 (N:=["thing"]) D qJ λhr nd hu=>⟨CK,(by ac_rfl),Sd⟩
noncomputable abbrev KU:R:=top 10
abbrev w5(Z:Ev):Prop:=Fx Z 2 "is_within" ["thing", "least", "most"] 3 sx
theorem W5(D:Dx Z "is_within" KU)(B:BT Z.mg)(KW:FF Z):w5 Z:=d7 (N:=["thing", "least", "most"]) D jg λhr nd hu=>⟨CL,(by ac_rfl),Se⟩
noncomputable abbrev KY:R:=top 11
abbrev zm(Z:Ev):Prop:=Fx Z 1 "is_tuple_of" ["thing", "size"] 2 uc
theorem W6(D:Dx Z "is_tuple_of" KY)(B:BT Z.mg):zm Z:=d7 (N:=["thing", "size"]) D iL λhr nd hu=>⟨CM,(by ac_rfl),Sf⟩
noncomputable abbrev KZ:R:=top 12
abbrev K1(Z:Ev):Prop:=Fx Z 3 "are_ends" ["many", "one", "other"] 3 CQ
theorem W7(D:Dx Z "are_ends" KZ)(B:BT Z.mg)(zo:w5 Z):K1 Z:=d7 (N:=["many", "one", "other"]) D jg λhr nd hu=>⟨CS,(by ac_rfl),Sh⟩
noncomputable abbrev K4:R:=top 13
abbrev K5(Z:Ev):Prop:=Fx Z 4 "is_way" ["many", "thing"] 2 CT
theorem W8(D:Dx Z "is_way" K4)(B:BT Z.mg)(ZP:Ct Z "MOST_PRICE" 1000000000)(zp:zm Z)(ZQ:K1 Z)(zo:w5 Z):K5 Z:=d7 (N:=["many", "thing"]) D iL λhr nd hu=>⟨CU,(by ac_rfl),Si⟩
noncomputable abbrev K6:R:=top 14
abbrev K7(Z:Ev):Prop:=Fx Z 5 "are_ways" ["many", "thing"] 2 CV
theorem W9(D:Dx Z "are_ways" K6)(B:BT Z.mg)(ZR:Ct Z "MOST_WAYS" 30)(ZS:K5 Z):K7 Z:=d7 (N:=["many", "thing"]) D iL λhr nd hu=>⟨CW,(by ac_rfl),Sj⟩
noncomputable abbrev K8:R:=top 15
abbrev K9(Z:Ev):Prop:=Fx Z 6 "is_web" ["thing"] 1 CY
theorem W_(D:Dx Z "is_web" K8)(B:BT Z.mg)(ZT:Ct Z "MOST_HOUSES" 12)(zp:zm Z)(zo:w5 Z)(ZU:K7 Z):K9 Z:=d7 (N:=["thing"]) D qJ λhr nd hu=>⟨CZ,(by ac_rfl),Sk⟩
noncomputable abbrev K_:R:=top 16
abbrev La(Z:Ev):Prop:=Fx Z 7 "need_web" ["web"] 1 Dw
theorem Xa(D:Dx Z "need_web" K_)(B:BT Z.mg)(ZV:K9 Z):La Z:=d7 (N:=["web"]) D qJ λhr nd hu=>⟨Dy,(by ac_rfl),Tu⟩
noncomputable abbrev Lb:R:=top 17
abbrev Lc(Z:Ev):Prop:=Fx Z 1 "rank_of" ["way"] 1 Dz
theorem Xb(D:Dx Z "rank_of" Lb)(B:BT Z.mg):Lc Z:=d7 (N:=["way"]) D qJ λhr nd hu=>⟨DA,(by ac_rfl),Tv⟩
noncomputable abbrev Ld:R:=top 19
abbrev Le(Z:Ev):Prop:=Fx Z 1 "joined" ["firsts", "one", "other"] 3 C0
theorem Xc(D:Dx Z "joined" Ld)(B:BT Z.mg):Le Z:=d7 (N:=["firsts", "one", "other", "gone", "kept"]) D jg λhr nd hu=>⟨C1,(by ac_rfl),Sm⟩
noncomputable abbrev Lf:R:=top 20
abbrev Lg(Z:Ev):Prop:=Fx Z 2 "firsts_of" ["web", "ways"] 2 Em
theorem Xd(D:Dx Z "firsts_of" Lf)(B:BT Z.mg)(ZW:Le Z):Lg Z:=d7 (N:=["web", "ways", "firsts", "number", "way"]) D iL λhr nd hu=>⟨En,(by ac_rfl),Vq⟩
noncomputable abbrev Lh:R:=top 22
abbrev Li(Z:Ev):Prop:=Fx Z 5 "least_of" ["web", "ways"] 2 DQ
theorem Xe{T:O}(D:y9 Z "least_of" Lh T ⟨58,25,58,63⟩ ((("least_of" : J)++".<locals>.")++"<lambda>"))(B:BT Z.mg)(Xf:Lc Z):Li Z:=Vi (N:=["web", "ways"]) D iL λLD hc hr nd hu=>⟨DR,(cV (eM (Uj ι (mH.mk (x:="number") (Nb:=["web"]) (cp:=[U 0]) ⟨LD.env hc,LD.ng,LD.blt⟩ LD.tbl Y Y (by first|rfl|kernel_rfl) Y Y (λ_ _ _ _ _=>Y) ⟨1,hr.mono (by decide),λd hr=>(cC Xf hr (cU (eJ eN (eJ eN (dv 1) cb (λ_ _=>Y)) (dv 0) (λ_ _=>Y)) bI))⟩) hu (by rfl) B.min yx (aV (dv 1) bI)))),Us⟩
noncomputable abbrev Lj:R:=top 23
abbrev Lk(Z:Ev):Prop:=Fx Z 1 "leads_out" ["way", "houses"] 2 DM
theorem Xg(D:Dx Z "leads_out" Lj)(B:BT Z.mg):Lk Z:=d7 (N:=["way", "houses"]) D iL λhr nd hu=>⟨DN,(by ac_rfl),Uq⟩
noncomputable abbrev Ll:R:=top 24
abbrev Lm(Z:Ev):Prop:=Fx Z 2 "ways_out" ["web", "houses"] 2 DO
theorem Xh(D:Dx Z "ways_out" Ll)(B:BT Z.mg)(ZX:Lk Z):Lm Z:=d7 (N:=["web", "houses"]) D iL λhr nd hu=>⟨DP,(by ac_rfl),Ur⟩
noncomputable abbrev Ln:R:=top 25
abbrev zq(Z:Ev):Prop:=Fx Z 3 "lot_at" ["web", "ways", "house"] 3 wR
theorem Xi(D:Dx Z "lot_at" Ln)(B:BT Z.mg)(ZY:Lg Z):zq Z:=d7 (N:=["web", "ways", "house", "firsts"]) D jg λhr nd hu=>⟨Eo,(by ac_rfl),Vr⟩
noncomputable abbrev Lo:R:=top 26
abbrev FG(Z:Ev):Prop:=Fx Z 1 "ends_of" ["web", "ways"] 2 yU
theorem Xj(D:Dx Z "ends_of" Lo)(B:BT Z.mg):FG Z:=d7 (N:=["web", "ways"]) D iL λhr nd hu=>⟨DU,(by ac_rfl),Ux⟩
noncomputable abbrev Lp:R:=top 29
abbrev zr(Z:Ev):Prop:=Fx Z 1 "rising" ["numbers"] 1 wU
theorem Xk(D:Dx Z "rising" Lp)(B:BT Z.mg):zr Z:=d7 (N:=["numbers"]) D qJ λhr nd hu=>⟨Er,(by ac_rfl),Vs⟩
noncomputable abbrev Lq:R:=top 30
abbrev Lr(Z:Ev):Prop:=Fx Z 2 "letters_of_asking" ["web", "stand", "lot"] 3 Es
theorem Xl(D:Dx Z "letters_of_asking" Lq)(B:BT Z.mg)(Xm:FG Z):Lr Z:=d7 (N:=["web", "stand", "lot", "settled", "unsettled", "asking"]) D jg λhr nd hu=>⟨Et,(by ac_rfl),Vw⟩
noncomputable abbrev Ls:R:=top 31
abbrev Lu(Z:Ev):Prop:=Fx Z 1 "ways_within" ["web", "lot"] 2 Eu
theorem Xn(D:Dx Z "ways_within" Ls)(B:BT Z.mg):Lu Z:=d7 (N:=["web", "lot"]) D iL λhr nd hu=>⟨Ew,(by ac_rfl),Vx⟩
noncomputable abbrev Lw:R:=top 32
abbrev Lx(Z:Ev):Prop:=Fx Z 6 "waked" ["web", "stand", "house"] 3 Ex
theorem Xo(D:Dx Z "waked" Lw)(B:BT Z.mg)(Ly:zq Z)(ZZ:Li Z)(Z0:Lm Z)(Z1:Lu Z)(Lz:zr Z)(Z2:Lr Z):Lx Z:=d7 (N:=["web", "stand", "house", "lot", "found", "within", "behind"]) D jg λhr nd hu=>⟨Ey,(by ac_rfl),Vy⟩
noncomputable abbrev LA:R:=top 33
abbrev LB(Z:Ev):Prop:=Fx Z 4 "joined_over" ["web", "stand", "found"] 3 Ez
theorem Xp(D:Dx Z "joined_over" LA)(B:BT Z.mg)(Xm:FG Z)(Ly:zq Z)(Lz:zr Z):LB Z:=d7 (N:=["web", "stand", "found", "sizes"]) D jg λhr nd hu=>⟨EA,(by ac_rfl),Vz⟩
noncomputable abbrev LC:R:=top 34
abbrev LF(Z:Ev):Prop:=Fx Z 4 "told_whole" ["web", "stand", "house"] 3 EC
theorem Xq(D:Dx Z "told_whole" LC)(B:BT Z.mg)(Ly:zq Z)(Lz:zr Z):LF Z:=d7 (N:=["web", "stand", "house", "lot"]) D jg λhr nd hu=>⟨ED,(by ac_rfl),VA⟩
noncomputable abbrev LG:R:=top 35
abbrev LH(Z:Ev):Prop:=Fx Z 5 "ended" ["web", "stand", "house", "found"] 4 EE
theorem Xr(D:Dx Z "ended" LG)(B:BT Z.mg)(Z3:LF Z)(Z4:LB Z):LH Z:=d7 (N:=["web", "stand", "house", "found"]) D Ky λhr nd hu=>⟨EF,(by ac_rfl),VB⟩
noncomputable abbrev LI:R:=inClass (top 36) 0
abbrev LL(Z:Ev)(c_Night:O):Prop:=Fc Z c_Night 8 "Night" ["self", "web"] 2 (EG c_Night)
theorem Xs{c_Night:O}(D:Dc Z c_Night "Night" "Night.__init__" LI)(B:BT Z.mg)(gP:FE Z "FIRST_STAND" (.tup [(.tup []),(.tup []),(.tup [])]))(aA:Kx Z.K c_Night ["town", "latest", "begun", "going"])(Xt:La Z):LL Z c_Night:=Vm (N:=["self", "web"]) D Ek λhr nd hu=>⟨EH c_Night,(bY (oA (cC Xt hr (aV (dv 1) bI))) (bY (sM aA.c (aA.at "town") (dv 0) (dv 1)) (bY (sM aA.c (aA.at "latest") (dv 0) (WZ gP)) (bY (sM aA.c (aA.at "begun") (dv 0) cb) (cV (sM aA.c (aA.at "going") (dv 0) TB)))))),VE c_Night⟩
noncomputable abbrev LM:R:=inClass (top 36) 1
abbrev LN(Z:Ev)(c_Night:O):Prop:=Fk Z c_Night 7 "wake" ["self", "house"] 2 (EI c_Night)
theorem Xu{c_Night:O}(D:Dm Z c_Night "wake" "Night.wake" LM)(B:BT Z.mg)(aA:Kx Z.K c_Night ["town", "latest", "begun", "going"])(zo:w5 Z)(Xv:Lx Z):LN Z c_Night:=Kz (N:=["self", "house", "number", "waking"]) D Ek λhr nd hu=>⟨EJ c_Night,(bY (hX (x4 (nu (cC zo hr (aV (dv 1) (bW cb (jO (gQ vR (eJ eN (nN aA.c (aA.at "town") (dv 0)) cb (λ_ _=>Y)) cb) bI)))))) (cV yy) hW) (bY (fW (i:=2) nd Y (by trivial) (nN aA.c (aA.at "begun") (dv 0))) (bY (sM aA.c (aA.at "begun") (dv 0) (gQ oV (dv 2) cb)) (bY (hX (eK (sd hu) (dv 1) (eJ eN (nN aA.c (aA.at "latest") (dv 0)) cb (λ_ _=>Y)) (by rfl)) (cV (eM (kg (bW jw (bW cb bI))))) hW) (bY (fW (i:=3) nd Y (by trivial) (cC Xv hr (jO (nN aA.c (aA.at "town") (dv 0)) (jO (nN aA.c (aA.at "latest") (dv 0)) (aV (dv 1) bI))))) (bY (TJ hu (qH (nN aA.c (aA.at "going") (dv 0))) (dv 2) (kg (aV (dv 1) (cU (eJ eN (dv 3) cb (λ_ _=>Y)) bI)))) (bY (sM aA.c (aA.at "latest") (dv 0) (eJ eN (dv 3) cb (λ_ _=>Y))) (cV (eM (kg (bW jw (cU (eJ eN (dv 3) cb (λ_ _=>Y)) bI)))))))))))),VF c_Night⟩
noncomputable abbrev LO:R:=inClass (top 36) 2
abbrev LP(Z:Ev)(c_Night:O):Prop:=Fk Z c_Night 6 "end" ["self", "number"] 2 (EK c_Night)
theorem Xw{c_Night:O}(D:Dm Z c_Night "end" "Night.end" LO)(B:BT Z.mg)(aA:Kx Z.K c_Night ["town", "latest", "begun", "going"])(KW:FF Z)(Xx:LH Z):LP Z c_Night:=Kz (N:=["self", "number", "search", "ending"]) D Ek λhr nd hu=>⟨EL c_Night,(bY (hX (JW.jt (qp (x4 (nu (cC KW hr (aV (dv 1) bI)))) (rT (TH hu (dv 1) (qH (nN aA.c (aA.at "going") (dv 0))))))) (cV yy) hW) (bY (fW (i:=2) nd Y (by trivial) (UW (qH (nN aA.c (aA.at "going") (dv 0))) (dv 1))) (bY (fW (i:=3) nd Y (by trivial) (cC Xx hr (jO (nN aA.c (aA.at "town") (dv 0)) (jO (nN aA.c (aA.at "latest") (dv 0)) (cU (eJ eN (dv 2) cb (λ_ _=>Y)) (cU (eJ eN (dv 2) cb (λ_ _=>Y)) bI)))))) (bY (sM aA.c (aA.at "latest") (dv 0) (eJ eN (dv 3) cb (λ_ _=>Y))) (cV (eM (kg (cU (eJ eN (dv 3) cb (λ_ _=>Y)) (cU (eJ eN (dv 3) cb (λ_ _=>Y)) bI))))))))),VG c_Night⟩
noncomputable abbrev LQ:R:=top 37
abbrev LR(Z:Ev)(c_Night:O):Prop:=Fq Z 8 "told_of" ["night", "event"] 2 (EO c_Night)
theorem Xy{c_Night:O}(D:Dx Z "told_of" LQ)(B:BT Z.mg)(aA:Kx Z.K c_Night ["town", "latest", "begun", "going"])(zp:zm Z)(iA:LN Z c_Night)(jk:LP Z c_Night):LR Z c_Night:=nQ (N:=["night", "event"]) D iL λhr nd hu=>⟨ER c_Night,(bY (hX (JW.jt (tQ (nu (cC zp hr (aV (dv 1) (bW cb bI)))) (vB (eK (nB hu) (eJ eN (dv 1) cb (λ_ _=>Y)) vz (by rfl))))) (cV (eM (wQ ι aA.c iA hr (dv 0) (cU (eJ eN (dv 1) cb (λ_ _=>Y)) bI)))) hW) (bY (hX (JW.jt (tQ (nu (cC zp hr (aV (dv 1) (bW cb bI)))) (vB (eK (nB hu) (eJ eN (dv 1) cb (λ_ _=>Y)) vz (by rfl))))) (cV (eM (wQ ι aA.c jk hr (dv 0) (cU (eJ eN (dv 1) cb (λ_ _=>Y)) bI)))) hW) (cV yy))),VI c_Night⟩
noncomputable abbrev LU:R:=top 38
abbrev LV(Z:Ev)(c_Night:O):Prop:=Fq Z 9 "all_told" ["night", "events"] 2 (ES c_Night)
theorem Xz{c_Night:O}(D:Dx Z "all_told" LU)(B:BT Z.mg)(aA:Kx Z.K c_Night ["town", "latest", "begun", "going"])(XA:LR Z c_Night):LV Z c_Night:=nQ (N:=["night", "events", "told", "place", "event"]) D iL λhr nd hu=>⟨ET c_Night,(bY (fW (i:=2) nd Y (by trivial) (tN bI)) (bY (tV q2o Y (yg (by rfl) B.enumerate (aV (dv 1) bI)) (tU Y (l9 (gR (i:=3) nd Y (by trivial)) (l9 (gR (i:=4) nd Y (by trivial)) tT))) (cV (UU λpn=>(cV (oA ((m_ q0P q1j q1k qf (dv 2) (hU (ir ι XA hr (aV (dv 0) (aV (dv 4) bI))) bI)).weak sg)))))) (cV (eM (dv 2))))),VJ c_Night⟩
noncomputable abbrev LW:R:=top 39
abbrev LX(Z:Ev)(c_Night:O):Prop:=Fq Z 10 "letters_of" ["web", "events"] 2 (EU c_Night)
theorem XB{c_Night:O}(D:Dx Z "letters_of" LW)(B:BT Z.mg)(aA:Kx Z.K c_Night ["town", "latest", "begun", "going"])(XC:LV Z c_Night)(iB:LL Z c_Night):LX Z c_Night:=nQ (N:=["web", "events"]) D iL λhr nd hu=>⟨EV c_Night,(cV (eM (ir θ XC hr (hU (Ej iB hr (aV (dv 0) bI)) (aV (dv 1) bI))))),VL c_Night⟩
noncomputable abbrev LY:R:=top 41
abbrev LZ(Z:Ev):Prop:=Fx Z 1 "_law_spread" ["cell", "at"] 2 Cu
theorem XD(D:Dx Z "_law_spread" LY)(B:BT Z.mg):LZ Z:=d7 (N:=["cell", "at", "primes", "one", "two", "three"]) D iL λhr nd hu=>⟨Cv,(by ac_rfl),RZ⟩
noncomputable abbrev L0:R:=top 43
abbrev L1(Z:Ev):Prop:=Fx Z 1 "_law_anew" ["pen"] 1 Cw
theorem XE(D:Dx Z "_law_anew" L0)(B:BT Z.mg):L1 Z:=d7 (N:=["pen"]) D qJ λhr nd hu=>⟨Cy,(by ac_rfl),R0⟩
noncomputable abbrev L3:R:=top 44
abbrev uw(Z:Ev):Prop:=Fx Z 2 "_law_take" ["pen", "many"] 2 gG
theorem XF(D:Dx Z "_law_take" L3)(B:BT Z.mg)(Z5:LZ Z):uw Z:=d7 (N:=["pen", "many", "at", "cell", "found"]) D iL λhr nd hu=>⟨Cz,(by ac_rfl),R1⟩
noncomputable abbrev L4:R:=top 46
abbrev L5(Z:Ev):Prop:=Fx Z 3 "_law_pairs_of" ["pen", "kind", "many"] 3 CA
theorem XG(D:Dx Z "_law_pairs_of" L4)(B:BT Z.mg)(mU:uw Z):L5 Z:=d7 (N:=["pen", "kind", "many", "every", "other", "ring", "half"]) D jg λhr nd hu=>⟨CB,(by ac_rfl),R5⟩
noncomputable abbrev L6:R:=top 47
abbrev L7(Z:Ev):Prop:=Fx Z 4 "_law_web" ["pen", "houses", "most"] 3 CG
theorem XH(D:Dx Z "_law_web" L6)(B:BT Z.mg)(mU:uw Z)(Z6:L5 Z):L7 Z:=d7 (N:=["pen", "houses", "most", "kind", "prices", "many", "pairs", "ways", "k", "one", "other", "price"]) D jg λhr nd hu=>⟨CH,(by ac_rfl),R6⟩
noncomputable abbrev L8:R:=top 48
abbrev L9(Z:Ev):Prop:=Fx Z 1 "_law_key" ["web", "number"] 2 DB
theorem XI(D:Dx Z "_law_key" L8)(B:BT Z.mg):L9 Z:=d7 (N:=["web", "number", "one", "other", "price"]) D iL λhr nd hu=>⟨DC,(by ac_rfl),Tx⟩
noncomputable abbrev L_:R:=top 49
abbrev Ma(Z:Ev):Prop:=Fx Z 1 "_law_marks_by" ["web", "ways"] 2 C3
theorem XJ(D:Dx Z "_law_marks_by" L_)(B:BT Z.mg):Ma Z:=d7 (N:=["web", "ways", "found", "number", "one", "other"]) D iL λhr nd hu=>⟨yB,(by ac_rfl),Sq⟩
noncomputable abbrev Mb:R:=top 50
abbrev FH(Z:Ev):Prop:=Fx Z 2 "_law_lot_at" ["web", "ways", "house"] 3 wY
theorem XM(D:Dx Z "_law_lot_at" Mb)(B:BT Z.mg)(Z7:Ma Z):FH Z:=d7 (N:=["web", "ways", "house", "marks"]) D jg λhr nd hu=>⟨EZ,(by ac_rfl),Wf⟩
noncomputable abbrev Mc:R:=top 51
abbrev Md(Z:Ev):Prop:=Fx Z 1 "_law_leads_out" ["web", "houses", "number"] 3 EX
theorem XN(D:Dx Z "_law_leads_out" Mc)(B:BT Z.mg):Md Z:=d7 (N:=["web", "houses", "number", "one", "other"]) D jg λhr nd hu=>⟨EY,(by ac_rfl),We⟩
noncomputable abbrev Me:R:=top 52
abbrev Mf(Z:Ev):Prop:=Fx Z 2 "_law_outs" ["web", "houses", "ways"] 3 E5
theorem XO(D:Dx Z "_law_outs" Me)(B:BT Z.mg)(Z8:Md Z)(Z9:L9 Z):Mf Z:=d7 (N:=["web", "houses", "ways", "found"]) D jg λhr nd hu=>⟨E6,(by ac_rfl),Wg⟩
noncomputable abbrev Mg:R:=top 53
abbrev Mh(Z:Ev)(c_Night:O):Prop:=Fq Z 1 "_law_night" [] 0 (E7 c_Night)
theorem XQ{c_Night:O}(D:Dx Z "_law_night" Mg)(B:BT Z.mg):Mh Z c_Night:=nQ (N:=[]) D Vp λhr nd hu=>⟨E8 c_Night,(cV (eM (U0 (y8 (nq bI) (y8 (nq bI) (y8 (nq bI) (y8 (tN bI) UZ))))))),Wi c_Night⟩
noncomputable abbrev Mi:R:=top 54
abbrev Mj(Z:Ev)(c_Night:O):Prop:=Fq Z 1 "_law_under" ["night"] 1 (Fd c_Night)
theorem XR{c_Night:O}(D:Dx Z "_law_under" Mi)(B:BT Z.mg):Mj Z c_Night:=nQ (N:=["night"]) D qJ λhr nd hu=>⟨Fe c_Night,(cV (eM (vF [η,η] ["number", "search"] Y (yg (by rfl) B.enumerate (cU (qH (jB hu (dv 0))) bI)) (λd=>(tU Y (l9 (gR (i:=0) (show(["number", "search"]:-J).Nodup by decide +kernel) Y (by trivial)) (l9 (gR (i:=1) (show(["number", "search"]:-J).Nodup by decide +kernel) Y (by trivial)) tT)))) (λd=>(ya (eK Jj (dv 1) jw (by rfl)))) (λd=>(dv 0))))),Wj c_Night⟩
noncomputable abbrev Ml:R:=top 55
abbrev Mm(Z:Ev)(c_Night:O):Prop:=Fq Z 3 "_law_wake" ["web", "night", "house"] 3 (Fg c_Night)
theorem XS{c_Night:O}(D:Dx Z "_law_wake" Ml)(B:BT Z.mg)(zt:FH Z)(XT:Mf Z):Mm Z c_Night:=nQ (N:=["web", "night", "house", "lot", "gone", "asked", "one", "outs"]) D jg λhr nd hu=>⟨Fh c_Night,(bY (hX (eK (sd hu) (dv 2) (jB hu (dv 1)) (by rfl)) (bY (oA ((m_ q0P q1j q1k qf (qH (jB hu (dv 1))) (bW jw bI)).weak sg)) (cV (eM (kg (bW jw (bW cb bI)))))) hW) (bY (fW (i:=3) nd Y (by trivial) (cC zt hr (aV (dv 0) (cU (jB hu (dv 1)) (aV (dv 2) bI))))) (bY (fW (i:=4) nd Y (by trivial) (gQ oV (jB hu (dv 1)) (jB hu (dv 1)))) (bY (fW (i:=5) nd Y (by trivial) (tN bI)) (bY (tV q2o Y (yf (dv 3)) (gR (i:=6) nd Y (by trivial)) (cV (oA ((m_ q0P q4m q4n Hu (dv 5) (jO (vF [η,η,U 6,U 4] ["number", "way", "one", "gone"] Y (yg (by rfl) B.enumerate (cU (eJ eN (dv 0) cb (λ_ _=>Y)) bI)) (λd=>(tU Y (l9 (gR (i:=0) (show(["number", "way", "one", "gone"]:-J).Nodup by decide +kernel) Y (by trivial)) (l9 (gR (i:=1) (show(["number", "way", "one", "gone"]:-J).Nodup by decide +kernel) Y (by trivial)) tT)))) (λd=>(ya (JW.jt (tQ (eK (sd hu) (dv 2) (Cp (dv 1) Ca (Cb cb)) (by rfl)) (vB (eK (yk hu) (dv 0) (dv 3) (by rfl))))))) (λd=>(dv 0))) bI)).weak IZ)))) (bY (fW (i:=7) nd Y (by trivial) (cC XT hr (aV (dv 0) (aV (dv 3) (hU (DW Y (by rfl) B.sorted qA (by rfl) B.set xV (aV (dv 5) bI)) bI))))) (bY (D7 hu (dv 1) (hV yp (by rfl) B.sorted qA (jO (gQ oV (jB hu (dv 1)) (vF [η,U 7] ["number", "outs"] Y (yf (DW Y (by rfl) B.sorted qA (by rfl) B.set xV (aV (dv 5) bI))) (λd=>(gR (i:=0) (show(["number", "outs"]:-J).Nodup by decide +kernel) Y (by trivial))) (λd=>(ya (eK (yk hu) (dv 0) (dv 1) (by rfl)))) (λd=>(dv 0)))) bI))) (bY (oA ((m_ q0P q1j q1k qf (qH (jB hu (dv 1))) (rR (kg (jO (Io (eK (t6 hu) (dv 7) (nq bI) (by rfl)) (eJ eN (dv 7) cb (λ_ _=>Y)) jw) (aV (dv 2) bI))) bI)).weak sg)) (cV (eM (kg (bW jw (jO (gQ oV (gQ B9 cb (gQ vR (hV oR (by rfl) B.len q1Z (aV (dv 3) bI)) cb)) (gQ B9 cb (hV oR (by rfl) B.len q1Z (aV (dv 5) bI)))) bI))))))))))))),Wm c_Night⟩
noncomputable abbrev Mn:R:=top 56
abbrev Mo(Z:Ev)(c_Night:O):Prop:=Fq Z 3 "_law_end" ["web", "night", "number"] 3 (Fi c_Night)
theorem XU{c_Night:O}(D:Dx Z "_law_end" Mn)(B:BT Z.mg)(zt:FH Z):Mo Z c_Night:=nQ (N:=["web", "night", "number", "way", "house", "lot", "sizes"]) D jg λhr nd hu=>⟨Fj c_Night,(bY (BC (eJ eN (qH (jB hu (dv 1))) (dv 2) (λ_ _=>Y)) (tU Y (l9 (gR (i:=3) nd Y (by trivial)) (l9 (gR (i:=4) nd Y (by trivial)) tT)))) (bY ((xt jw (Aq (qH (jB hu (dv 1))) (dv 2) set_list)).weak I0) (bY (hX (JW.jt (qp (JW.jt (tQ (eK wd (dv 3) jw (by rfl)) (vB (eK (sd hu) (dv 4) (jB hu (dv 1)) (by rfl))))) (rT (eK (sd hu) (dv 3) (jB hu (dv 1)) (by rfl))))) (cV (eM (kg (bW jw (bW cb bI))))) hW) (bY (hX (eK wd (dv 3) jw (by rfl)) (bY (fW (i:=5) nd Y (by trivial) (cC zt hr (aV (dv 0) (cU (jB hu (dv 1)) (aV (dv 4) bI))))) (bY (D7 hu (dv 1) (hV yp (by rfl) B.sorted qA (jO (gQ oV (jB hu (dv 1)) (dv 5)) bI))) (cV (eM (kg (bW jw (jO (gQ vR (hV oR (by rfl) B.len q1Z (aV (dv 5) bI)) cb) bI))))))) hW) (bY (Iu [η,U 0,U 1] ["end", "web", "night"] (i:=6) nd Y (by trivial) Y (yf (Cp (eJ eN (eJ eN (dv 0) cb (λ_ _=>Y)) (dv 3) (λ_ _=>Y)) Ca (Cb cb))) (λd=>(gR (i:=0) (show(["end", "web", "night"]:-J).Nodup by decide +kernel) Y (by trivial))) (λd=>BG) (λd=>(hV oR (by rfl) B.len q1Z (hU (cC zt hr (aV (dv 1) (cU (jB hu (dv 2)) (aV (dv 0) bI)))) bI)))) (bY (D7 hu (dv 1) (hV yp (by rfl) B.sorted qA (jO (gQ oV (jB hu (dv 1)) (nq (aV (dv 3) bI))) bI))) (cV (eM (kg (aV (dv 3) (jO (gQ oV cb (hV (J7 Y) (by rfl) B.min yx (aV (dv 6) bI))) bI))))))))))),Wr c_Night⟩
noncomputable abbrev Mp:R:=top 57
abbrev Mq(Z:Ev)(c_Night:O):Prop:=Fq Z 3 "_law_event" ["pen", "web", "night", "wakes"] 4 (Fm c_Night)
theorem XW{c_Night:O}(D:Dx Z "_law_event" Mp)(B:BT Z.mg)(aA:Kx Z.K c_Night ["town", "latest", "begun", "going"])(mU:uw Z)(XX:Mj Z c_Night):Mq Z c_Night:=nQ (N:=["pen", "web", "night", "wakes", "kind", "house", "under"]) D Ky λhr nd hu=>⟨Fp c_Night,(bY (fW (i:=4) nd Y (by trivial) (cC mU hr (aV (dv 0) (bW cb bI)))) (bY (fW (i:=5) nd Y (by trivial) (cC mU hr (aV (dv 0) (cU (eJ eN (dv 1) cb (λ_ _=>Y)) bI)))) (bY (fW (i:=6) nd Y (by trivial) (ir ι XX hr (aV (dv 2) bI))) (bY (hX (JW.jt (qp (eK (nB hu) (dv 6) (nq bI) (by rfl)) (rT (eK (B_ hu) (dv 4) (dv 3) (by rfl))))) (cV (eM (kg (bW vz (aV (dv 5) bI))))) hW) (cV (eM (kg (bW vz (cU (eJ eN (dv 6) (eJ eN (nq (bW cb (jO (gQ vR (hV oR (by rfl) B.len q1Z (aV (dv 6) bI)) cb) (hU (cC mU hr (aV (dv 0) (hU (hV oR (by rfl) B.len q1Z (aV (dv 6) bI)) bI))) bI)))) (cC mU hr (aV (dv 0) (bW cb bI))) (λ_ _=>Y)) (λ_ _=>Y)) bI))))))))),Wt c_Night⟩
noncomputable abbrev Mr:R:=top 58
abbrev Ms(Z:Ev)(c_Night:O):Prop:=Fq Z 4 "_law_happen" ["web", "night", "event"] 3 (Fs c_Night)
theorem XY{c_Night:O}(D:Dx Z "_law_happen" Mr)(B:BT Z.mg)(aA:Kx Z.K c_Night ["town", "latest", "begun", "going"])(XZ:Mm Z c_Night)(X0:Mo Z c_Night):Ms Z c_Night:=nQ (N:=["web", "night", "event"]) D jg λhr nd hu=>⟨Ft c_Night,(bY (hX (eK (nB hu) (eJ eN (dv 2) cb (λ_ _=>Y)) vz (by rfl)) (cV (eM (ir ι XZ hr (aV (dv 0) (aV (dv 1) (cU (eJ eN (dv 2) cb (λ_ _=>Y)) bI)))))) hW) (cV (eM (ir ι X0 hr (aV (dv 0) (aV (dv 1) (cU (eJ eN (dv 2) cb (λ_ _=>Y)) bI))))))),Wu c_Night⟩
noncomputable abbrev Mt:R:=top 59
abbrev Mu(Z:Ev)(c_Night:O):Prop:=Fq Z 5 "_law_events" ["pen", "web", "many"] 3 (Fu c_Night)
theorem X1{c_Night:O}(D:Dx Z "_law_events" Mt)(B:BT Z.mg)(aA:Kx Z.K c_Night ["town", "latest", "begun", "going"])(mU:uw Z)(X7:Mh Z c_Night)(X8:Mq Z c_Night)(X9:Ms Z c_Night):Mu Z c_Night:=nQ (N:=["pen", "web", "many", "wakes", "night", "events", "told", "k", "event"]) D jg λhr nd hu=>⟨Fv c_Night,(bY (fW (i:=3) nd Y (by trivial) (gQ oV cb (cC mU hr (aV (dv 0) (bW cb bI))))) (bY (fW (i:=4) nd Y (by trivial) (Vo ι X7 hr)) (bY (fW (i:=5) nd Y (by trivial) (tN bI)) (bY (fW (i:=6) nd Y (by trivial) (tN bI)) (bY (tV q2o Y (yh (by rfl) B.range (aV (dv 2) bI)) (gR (i:=7) nd Y (by trivial)) (bY (fW (i:=8) nd Y (by trivial) (ir ι X8 hr (aV (dv 0) (aV (dv 1) (aV (dv 4) (aV (dv 3) bI)))))) (bY (oA ((m_ q0P q1j q1k qf (dv 5) (aV (dv 8) bI)).weak sg)) (cV (oA ((m_ q0P q1j q1k qf (dv 6) (hU (ir ι X9 hr (aV (dv 1) (aV (dv 4) (aV (dv 8) bI)))) bI)).weak sg)))))) (cV (eM (U_ (aV (dv 5) (aV (dv 6) (aV (dv 4) bI))))))))))),Wv c_Night⟩
noncomputable abbrev FI:R:=top 45
theorem FJ{x:J}{st:R}{ps:-J}{n:Nat}(D:Dx Z x st)(bd:ip x st ps):Fx Z 0 x ps n (λ_ _ _=>False) :=
 let⟨f,fd,a,F⟩:=D
 ⟨f,fd,⟨λvs H Q E h=>by let⟨_,_,_,_,_,_,_,hF,_⟩:=h;calc hF.elim,λA outer s H args us vs Q E _ _ _ _ h=>by let⟨_,_,_,_,_,_,_,hF,_⟩:=h;calc hF.elim⟩,a,F.kp,F.binds bd⟩
theorem Mv(D:Dx Z "_law_same" FI)(B:BT Z.mg)(n:Nat)(FK:Fx Z n "_law_same" ["found", "due"] 2 (LJT.ji LJT.bB n)):Fx Z (n+1) "_law_same" ["found", "due"] 2 (LJT.bB n):=d7 (N:=["found", "due"]) D iL λhr nd hu=>⟨LJT.bp (LJT.ji LJT.bB n),(bY (hX (eK wd (dv 1) jw (by rfl)) (cV (eM (nk wd (dv 0) jw (by rfl)))) hW) (bY (hX (JW.jt (qp (nu (jR v8 (by rfl) B.isinstance (by rfl) B.bool vt (dv 1))) (rT (nu (jR v8 (by rfl) B.isinstance (by rfl) B.bool vt (dv 0)))))) (cV (eM (vC (jR v8 (by rfl) B.isinstance (by rfl) B.bool vt (dv 1)) (vC (jR v8 (by rfl) B.isinstance (by rfl) B.bool vt (dv 0)) (x5 (nk (nB hu) (dv 0) (dv 1) (by rfl))))))) hW) (bY (hX (nu (jR Cd (by rfl) B.isinstance (by rfl) B.int Bu (dv 1))) (cV (eM (vC (jR Cd (by rfl) B.isinstance (by rfl) B.int Bu (dv 0)) (x5 (nk (nB hu) (dv 0) (dv 1) (by rfl)))))) hW) (bY (hX (nu (jR IW (by rfl) B.isinstance (by rfl) B.str Ib (dv 1))) (cV (eM (vC (jR IW (by rfl) B.isinstance (by rfl) B.str Ib (dv 0)) (x5 (nk (nB hu) (dv 0) (dv 1) (by rfl)))))) hW) (bY (hX (JW.jt (qp (eK (t6 hu) (jR Ce (by rfl) B.isinstance (by rfl) B.tuple xU (dv 1)) (jR Ce (by rfl) B.isinstance (by rfl) B.tuple xU (dv 0)) (by rfl)) (rT (eK (t6 hu) (jR IX (by rfl) B.isinstance (by rfl) B.list vv (dv 1)) (jR IX (by rfl) B.isinstance (by rfl) B.list vv (dv 0)) (by rfl))))) (cV (eM tM)) hW) (bY (hX (eK (t6 hu) (hV oR (by rfl) B.len q1Z (aV (dv 0) bI)) (hV oR (by rfl) B.len q1Z (aV (dv 1) bI)) (by rfl)) (cV (eM tM)) hW) (cV (eM (nk (yk hu) tM (vF [η,η] ["one", "other"] Y (V_ (by rfl) B.zip (aV (dv 0) (aV (dv 1) bI))) (λd=>(tU Y (l9 (gR (i:=0) (show(["one", "other"]:-J).Nodup by decide +kernel) Y (by trivial)) (l9 (gR (i:=1) (show(["one", "other"]:-J).Nodup by decide +kernel) Y (by trivial)) tT)))) (λd=>BG) (λd=>(cC (hj:=Nat.ble_eq_true_of_le (Hz _)) FK hr (aV (dv 0) (aV (dv 1) bI))))) (by rfl)))))))))),LJT.gh n⟩
abbrev X_(Z:Ev):Prop:=Fx Z 4 "_law_same" ["found", "due"] 2 (LJT.bB 3)
theorem Ya(D:Dx Z "_law_same" FI)(B:BT Z.mg)(n:Nat):Fx Z (n+1) "_law_same" ["found", "due"] 2 (LJT.bB n):=by
 induction n with
 |zero=>exact Mv D B 0 (FJ D iL)
 |succ m ih=>calc Mv D B (m+1) ih
noncomputable abbrev zu:R:=top 42
theorem mV:n8 ["script", "cells", "k", "cell"] ["script"] (cK zu):=fO (by decide +kernel)
theorem Yb{f:O}{fd:FuncData}(F:gj Z.K "_law_open" "_law_open" zu f fd)(h1:Z.mg "list" = η)(h2:Z.mg "enumerate" = η):cj Z.P Z.w Z.K Z.mg Z.base ft 1 f fd ["script"] (Ju Z.K):=by
 refine F.xG mV (λvs H Q E h=>?_) (λbH A outer s H vs Q E hr h=>?_)
 .let⟨a,ns,rfl,_⟩:=h
  rfl
 .let⟨a,ns,rfl,hS,hlen,fin⟩:=h
  let nd:=mV.nd
  refine⟨_,xo (Ar (i:=1) nd Y (q5c Y) (tj A1 (by rfl) h1 PyProof.Rows.boot_list (kG (AS hJ (jv 0) He (xD p_)) cZ)))
   (xo (GS q2o Y (P7 (by rfl) h2 (kG (AS hJ (jv 0) (xD p_) (xD p_)) cZ)) (Ap Y (xq (Am (i:=2) nd Y (q5c Y)) (xq (Am (i:=3) nd Y (q5c Y)) g7)))
    (Aj (xt (uW GU (Hj Hk (jv 1) (uW Az (jv 2) p_) (λ_ _=>Y)) (jv 3)) (Aq (jv 1) (uW Az (jv 2) p_) set_list))))
   (Aj (GN (AJ (kG (jv 1) (kG p_ (kG p_ cZ))))))),?_⟩
  calc⟨_,Y,_,Y,a,_,Y,hS,λl1 n1=>⟨l1,_,Y,.inl (bU.of cz),λc nc=>?_⟩⟩;let s1:aP H (upd (upd H l1 (.lst (dH (ns.map V.int) η (U 12)))) c (.lst (dH (ns.map V.int) η (U 12)))):=(ud n1).trans (ud nc);calc⟨_,Y,_,Y,_,Y,a,_,Y,s1.seq hS,λl2 n2=>⟨l2,Y,⟨_,bU.of cz⟩,?_⟩⟩;let Yc:H c=η:=(ud n1).free nc;let Yd:=n2
  let hcc:∃ms:-Int,↑ms=min 12 ↑ns/\dH (ns.map V.int) η (U 12)=ms.map V.int:=by
   calc⟨_,?_,C5 ns η (U 12)⟩;rw[q0E,q2e];let e1:HT.bP ↑ns 0 η=0:=HT.O5 _ _;let e2:HT.bP ↑ns ↑ns (U 12)=min 12 ↑ns:=HT.AQ ↑ns ↑ns 12;rw[e1,e2];symm
  let qj:↑(dH (ns.map V.int) (U 12) (U 63))=↑ns-12:=by
   rw[C5,Ba,q0E,q2e];let e1:HT.bP ↑ns 0 (U 12)=min 12 ↑ns:=HT.AQ ↑ns 0 12;let e2:HT.bP ↑ns ↑ns (U 63)=min 63 ↑ns:=HT.AQ ↑ns ↑ns 63;rw[e1,e2,Nat.min_eq_right hlen,q6k];symm
  let Mw:∀i x,(dH (ns.map V.int) (U 12) (U 63))[i]?=U x->∃n:Int,x=V.int n:=λi x e=>by
   rw[C5,PB] at e
   cases q:((ns.drop (HT.bP ↑ns 0 (U 12))).take (HT.bP ↑ns ↑ns (U 63)-HT.bP ↑ns 0 (U 12)))[i]? with
   |none=>rw[q] at e;cases e
   |some n=>rw[q] at e;exact⟨n,(q0v e).symm⟩
  generalize dH (ns.map V.int) (U 12) (U 63)=rest at qj Mw n2 ⊢;let⟨ms,Ye,Yf⟩:=hcc
  refine Qa (K:=Z.K) (a:=l2) (xs:=rest) (λi σ H2=>∃(ks:-Int)(v1 v2:Option V),σ=[U (.ref a),U (.ref c),v1,v2]/\H2 c=U (.lst (ks.map V.int))/\↑ks=min 12 ↑ns/\H2 l2=U (.lst rest)/\aP H H2)
   ⟨ms,η,η,Y,?_,Ye,cz,?_⟩ (λi σ H2 _ ⟨_,_,_,_,_,_,q,_⟩↦bU.of q) ?_ ?_
  .rw[bF (dQ cz n2),cz,Yf]
  .exact s1.trans (ud n2)
  .ext i x T σ H2 hi ⟨ks,v1,v2,rfl,hc,hk,tw,sm⟩ hT
   let⟨n,rfl⟩:=Mw i x hi;let nv:i<↑rest:=(Hy.mp hi).1;let Yg:↑ks=12:=by symm
   let cT:c≠T:=dQ hc hT;let kD:upd H2 T (.tup [.int i,.int n]) c=U (.lst (ks.map V.int)):=by rw[bF cT];exact hc
   let j0:0<=((i:Int))%12:=q1H _ (by decide);let j1:((i:Int))%12<12:=q1a _ (by decide);let⟨m,em⟩:=Sr (ns:=ks) j0 ⋯
   let ix:jI ↑(ks.map V.int) ((i:Int)%12)=U ((i:Int)%12).toNat:=by
    unfold jI;rw[q0e j0,q0e (by rw[Ba];symm)]
   calc⟨T,_,Y,b8.of cz,Y,_,_,Y,_,_,Y,Y,?_⟩;calc⟨_,Y,_,Y,_,_,Y,Y,(show(0:Int)<12 by decide),_,_,_,_,Y,Y,bU.of kD,em,_,Y,_,_,Y,Y,_,Y,_,Y,_,_,Y,Y,(show(0:Int)<12 by decide),_,_,_,_,Y,Y,kD,ix,?_⟩;refine⟨ks.set ((i:Int)%12).toNat (m+n),_,_,Y,?_,by rw[q1v];calc hk,?_,?_⟩
   .rw[cz,q8D]
   .let Yh:l2≠c:=by
     ext z;subst z;exact absurd Yd (by rw[cz];ext y;cases y)
    rw[bF Yh,bF (dQ tw hT)];exact tw
   .ext b o e
    rw[bF (dQ e Yc)];exact ud hT b o (sm b o e)
  .ext σ H2 ⟨ks,v1,v2,rfl,hc,hk,tw,sm⟩
   calc⟨_,Y,(by show 3<=sizeLine;decide),λp np=>?_⟩;let Yi:H p=η:=sm.free np;calc fin p c _ (sm.trans (ud np)) Yi ⟨cz,⟨ks,by rw[bF (dQ hc np)];calc hc,⋯⟩,q6N 0⟩
noncomputable abbrev ux:R:=top 60
theorem Yj{c_Night:O}{f sS:O}{fd pN:FuncData}(F:gj Z.K "law" "law" ux f fd)(B:BT Z.mg)(GO:Fn Z.P Z.w Z.K Z.mg Z.base 1 "_law_open" ["script"] (Ju Z.K) sS pN)(aA:Kx Z.K c_Night ["town", "latest", "begun", "going"])(mU:uw Z)(Yk:L1 Z)(Yl:L7 Z)(Ym:Mu Z c_Night)(Yn:LX Z c_Night)(FK:X_ Z):cj Z.P Z.w Z.K Z.mg Z.base ft 21 f fd ["script"] (yD Z.K):=by
 let sc:n8 ["script", "pen", "turn", "many", "web", "events", "told", "night", "handed", "again", "found"] ["script"] (cK ux):=fO (by decide +kernel);refine F.xG (k:=20) sc (λvs H Q E h=>?_) (λbH A outer s H vs Q E hr h=>?_)
 .let⟨a,ns,rfl,_⟩:=h
  rfl
 let⟨a,ns,rfl,hS,hlen,hT,fin⟩:=h;let nd:=sc.nd;let hu:=hr.units;let rest:dO (fm ft Z.P Z.w Z.K Z.mg Z.base ["script", "pen", "turn", "many", "web", "events", "told", "night", "handed", "again", "found"] "law" (cK ux) f bH A outer s H E).lj ((f_ ux).drop 1) (dW (FD c_Night)):=(bY (tV q2o Y (yh (by rfl) B.range (bW cb bI)) (gR (i:=2) nd Y (by trivial)) (bY (fW (i:=3) nd Y (by trivial) (eJ eN (nq (bW cb (bW cb (bW cb bI)))) (dv 2) (λ_ _=>Y))) (bY (hX (eK (nB hu) (cC mU hr (hU (cC Yk hr (aV (dv 1) bI)) (bW cb bI))) cb (by rfl)) (cV (fW (i:=3) nd Y (by trivial) (cC mU hr (aV (dv 1) (aV (dv 3) bI))))) hW) (bY (fW (i:=4) nd Y (by trivial) (cC Yl hr (aV (dv 1) (cU (eJ eN (nq (bW cb (bW cb (bW cb bI)))) (dv 2) (λ_ _=>Y)) (bW cb bI))))) (bY (BC (ir ι Ym hr (aV (dv 1) (aV (dv 4) (aV (dv 3) bI)))) (Vb Y (Ef (gR (i:=5) nd Y (by trivial)) (Ef (gR (i:=6) nd Y (by trivial)) (Ef (gR (i:=7) nd Y (by trivial)) Va))))) (bY (fW (i:=8) nd Y (by trivial) (BA IV (by rfl) B.list vv (aV (dv 5) bI))) (cV (tV q2o Y (yh (by rfl) B.range (bW cb bI)) (gR (i:=9) nd Y (by trivial)) (bY (fW (i:=10) nd Y (by trivial) (ir θ Yn hr (aV (dv 4) (aV (dv 8) bI)))) (bY (hX (WJ (JW.jt (qp (x4 (nu (cC FK hr (aV (dv 10) (aV (dv 6) bI))))) (rT (eK (t6 hu) (dv 8) (dv 5) (by rfl)))))) (cV (eM tM)) hW) (cV (oA ((m_ q0P q1j q1k qf (dv 10) (rR (kg (bW jw (bW cb bI))) bI)).weak sg))))))))))))) (cV (eM tM)))
 calc⟨_,xo (Ar (i:=1) nd Y (by trivial) (xB GO.ok (hr.mono (by decide)) (by rfl) GO.vq GO.kp GO.bd .nil rK (rM (jv 0) cZ))) rest,?_⟩;calc⟨_,Y,a,ns,Y,hS,hlen,λp c H1 sm hp N1=>?_⟩;let⟨F',ms,hm,S⟩:=Ss (a:=a) (n:=9) (aR.same hT sm) N1;calc Su S (WN c_Night ms hm) fin
end
end LJ
namespace LJ
open PySem L2 PySem.Spec PySem.W PyProof.Rows
noncomputable def pO(cl:-(O×-V)):Hp:=λb=>(cl.lookup b).map HO.tup
theorem FL{cl:-(O×-V)}{a:O}{o:HO}(e:pO cl a=U o):∃xs,o=.tup xs/\cl.lookup a=U xs:=by
 unfold pO at e
 cases q:cl.lookup a with
 |none=>rw[q] at e;cases e
 |some xs=>rw[q] at e;cases e;calc⟨xs,Y,Y⟩
noncomputable def FN(cl:-(O×-V)):CC:=⟨pO cl,λe=>let⟨xs,h,_⟩:=FL e;⟨xs,h⟩⟩
inductive cy (K:My):-(O×-V)->Prop
 |nil:cy K []
 |cons {a:O} {xs:-V} {az:Array L} {n:Nat} {od:Option O} {sl:Array (Option L)} {r:-(O×-V)} (hl:K.lookup a=U ⟨.type "tuple",od,.seq az n,sl⟩) (hv:Vals xs az.toList) (hn:↑xs<=1000) (h:cy K r):cy K ((a,xs)::r)
theorem cy.at{K:My}{h:I}(X:K.In h):∀{cl:-(O×-V)},cy K cl->∀{b:O}{xs:-V},cl.lookup b=U xs->↑xs<=sizeLine/\∃az:-L,Vals xs az/\IsTup h b az.toArray
 |_,.nil,b,xs,q=>nomatch q
 |_,.cons (a:=a) hl hv hn t,b,xs,q=>by
  rw[q0q] at q;split at q
  .rename_i c
   let c:=q1w c;subst c;cases q
   exact⟨q0w hn (by decide),_,hv,_,X _ _ hl,Y,_,Y⟩
  .calc cy.at X t q
theorem cy.cs{K:My}{h:I}{P:ψ}{w:S}{cl:-(O×-V)}(t:cy K cl)(X:K.In h):Cs P w (pO cl) h :=
 ⟨λe=>let⟨xs,h,_⟩:=FL e;⟨xs,h⟩,λe=>by
  let⟨ys,e1,e2⟩:=FL e;cases e1
  calc cy.at X t e2⟩
end LJ
namespace LJ
open PySem L2
noncomputable def c9:-mG:=[⟨152,⟨58,25,58,63⟩,(("least_of" : J)++".<locals>.")++"<lambda>"⟩]
noncomputable def FO:-(J×R×O):=[("least_of",Lh,152)]
noncomputable abbrev dp(x:J)(s:R):J×R:=(x,s)
noncomputable def Mx:-(J×R):=[dp "is_whole" KR,dp "is_within" KU,dp "is_tuple_of" KY,dp "are_ends" KZ,dp "is_way" K4,dp "are_ways" K6,dp "is_web" K8,dp "need_web" K_,dp "rank_of" Lb,dp "joined" Ld,dp "firsts_of" Lf,dp "leads_out" Lj,dp "ways_out" Ll,dp "lot_at" Ln,dp "ends_of" Lo,dp "rising" Lp,dp "letters_of_asking" Lq,dp "ways_within" Ls,dp "waked" Lw,dp "joined_over" LA,dp "told_whole" LC,dp "ended" LG,dp "told_of" LQ,dp "all_told" LU,dp "letters_of" LW,dp "_law_spread" LY,dp "_law_open" zu,dp "_law_anew" L0,dp "_law_take" L3,dp "_law_same" FI,dp "_law_pairs_of" L4,dp "_law_web" L6,dp "_law_key" L8,dp "_law_marks_by" L_,dp "_law_lot_at" Mb,dp "_law_leads_out" Mc,dp "_law_outs" Me,dp "_law_night" Mg,dp "_law_under" Mi,dp "_law_wake" Ml,dp "_law_end" Mn,dp "_law_event" Mp,dp "_law_happen" Mr,dp "_law_events" Mt,dp "law" ux]
noncomputable def Yo:-(J×J×R):=[("wake", "Night.wake",LM),("end", "Night.end",LO)]
noncomputable def Yp:-(O×-V):=[(183,[.ref 180,.ref 181,.ref 182]),(180,[]),(181,[]),(182,[])]
noncomputable def w6:CC:=FN Yp
theorem Yq{K:My}(a:q1K K mainGlobals "FIRST_STAND" = U (U (.ref 183))):@zk (gg c9 w6) K "FIRST_STAND" (.tup [(.tup []),(.tup []),(.tup [])]):=⟨.ref 183,.ref 183,a,Y,by erw[Is];calc⟨183,_,Y,Y,.cons (by erw[Is];calc⟨180,_,Y,Y,.nil⟩) (.cons (by erw[Is];calc⟨181,_,Y,Y,.nil⟩) (.cons (by erw[Is];calc⟨182,_,Y,Y,.nil⟩) (.nil)))⟩⟩
theorem Yr{c_Night iC:O}{jl:FuncData}{l:q62}{w:S}{K:My}{h:I}{mg:J->Option L}{fa:O}(X:K.In h)(G:h.Ns mainGlobals mg)(Ys:mg "law" = U (.ref fa))(DS:iq K Mx)(LS:fA K FO)(N:∀x∈Ei,q1K K mainGlobals x=U η)(pP:q1K K mainGlobals "Night" = U (U (.ref c_Night)))(aA:Kx K c_Night ["town", "latest", "begun", "going"])(kB:iu K c_Night Yo)(pQ:Mk K c_Night iC)(pR:gj K "__init__" "Night.__init__" LI iC jl)(iD:Ck K "MOST_HOUSES" 12)(jZ:Ck K "MOST_WAYS" 30)(jm:Ck K "MOST_PRICE" 1000000000)(iE:@zk (gg c9 w6) K "FIRST_STAND" (.tup [(.tup []),(.tup []),(.tup [])]))
  : ∃fd:FuncData,(∀(s:ο)(v:L),BindsTo s fd ⟨[v],[]⟩ [("script",v)])/\∀base:I,K.In base->base.Ns mainGlobals mg->(∀t∈c9,base.BuiltinsAt mg t.T)->cj l.prog w K mg base ft 21 fa fd ["script"] (@yD (gg c9 w6) K):=by
 let⟨f,fd,a,F⟩:=DS.at (x:="law") (st:=ux) 44 Y;cases Ys.symm.trans (q20 X G a)
 letI:aR:=gg c9 w6;let B:=Vl X G N;calc⟨fd,λs v=>by let⟨_,_,_,_,_,_,_,_,_,rfl,_⟩:=F.ex;calc .of_eq Y,λbase KB _ hB=>?_⟩;let D:∀(i:Nat){x:J}{st:R},Mx[i]?=U (x,st)->Dx ⟨l.prog,w,K,mg,base⟩ x st:=λi _ _ e=>(DS.at i e).v X G;let M:∀(i:Nat){x:J}{st:R}{T:O}{lp:y}{q:J},FO[i]?=U (x,st,T)->c9[i]?=U ⟨T,lp,q⟩->y9 ⟨l.prog,w,K,mg,base⟩ x st T lp q:=λi _ _ _ _ _ e e2=>(LS.at i e).v X G KB hB (by decide) (by decide) (q0S e2);let Mz:=W0 (D 0 Y) B;let zv:=W5 (D 1 Y) B Mz;let FP:=W6 (D 2 Y) B;let Yt:=W7 (D 3 Y) B zv;let Yu:=W8 (D 4 Y) B (jm.v X G) FP Yt zv
 let Yv:=W9 (D 5 Y) B (jZ.v X G) Yu;let Yw:=W_ (D 6 Y) B (iD.v X G) FP zv Yv;let Yx:=Xa (D 7 Y) B Yw;let Yy:=Xb (D 8 Y) B;let Yz:=Xc (D 9 Y) B;let YA:=Xd (D 10 Y) B Yz;let YB:=Xe (M 0 Y Y) B Yy;let YC:=Xg (D 11 Y) B;let YD:=Xh (D 12 Y) B YC;let FQ:=Xi (D 13 Y) B YA;let MA:=Xj (D 14 Y) B;let FR:=Xk (D 15 Y) B;let YE:=Xl (D 16 Y) B MA;let YF:=Xn (D 17 Y) B;let YG:=Xo (D 18 Y) B FQ YB YD YF FR YE;let YH:=Xp (D 19 Y) B MA FQ FR;let YI:=Xq (D 20 Y) B FQ FR;let YJ:=Xr (D 21 Y) B YI YH;let jn:=Xs (Z:=⟨l.prog,w,K,mg,base⟩) ⟨iC,jl,⟨q20 X G pP,pQ⟩,pR⟩ B (iE.v X G) aA Yx
 let jo:=Xu (Z:=⟨l.prog,w,K,mg,base⟩) (kB.at 0 Y) B aA zv YG;let j2:=Xw (Z:=⟨l.prog,w,K,mg,base⟩) (kB.at 1 Y) B aA Mz YJ;let YK:=Xy (c_Night:=c_Night) (D 22 Y) B aA FP jo j2;let YL:=Xz (c_Night:=c_Night) (D 23 Y) B aA YK;let YM:=XB (c_Night:=c_Night) (D 24 Y) B aA YL jn;let YN:=XD (D 25 Y) B;let YO:=XE (D 27 Y) B;let w9:=XF (D 28 Y) B YN;let YQ:=Ya (D 29 Y) B 3;let YR:=XG (D 30 Y) B w9;let YS:=XH (D 31 Y) B w9 YR;let YT:=XI (D 32 Y) B;let YU:=XJ (D 33 Y) B;let MB:=XM (D 34 Y) B YU;let YV:=XN (D 35 Y) B;let YW:=XO (D 36 Y) B YV YT;let YX:=XQ (c_Night:=c_Night) (D 37 Y) B
 let YY:=XR (c_Night:=c_Night) (D 38 Y) B;let YZ:=XS (c_Night:=c_Night) (D 39 Y) B MB YW;let Y0:=XU (c_Night:=c_Night) (D 40 Y) B MB;let Y1:=XW (c_Night:=c_Night) (D 41 Y) B aA w9 YY;let Y2:=XY (c_Night:=c_Night) (D 42 Y) B aA YZ Y0;let Y3:=X1 (c_Night:=c_Night) (D 43 Y) B aA w9 YX Y1 Y2;let⟨fo,Z_,ao,Fo⟩:=D 26 (x:="_law_open") (st:=zu) Y;calc Yj (Z:=⟨l.prog,w,K,mg,base⟩) F B ⟨Yb Fo B.list B.enumerate,ao,Fo.kp,Fo.binds qJ⟩ aA w9 YO YS Y3 YM YQ
theorem Y4{K:My}{h:I}(X:K.In h)(LS:fA K FO):∀t∈c9,∃cc,q7s h cc t.T:=λt ht=>LS.code X t.T (show t.T∈c9.map (·.T) from q2V ht)
end LJ
open PySem PySem.W PyProof.Rows
end
open LJ L2
inductive PySem.W.Fast:Prop|tw6293775691166039899|tw15006336927659190964|tw14567974276611985609|tw6902852164662467065|tw13693887362134069862|tw1231713789033322761|tw368349426131693806|tw5738460561076910620|tw3721368121249229743|tw5506667350397792450|tw10042924651086197710|tw14829004535318108326|tw6037884296748326318|tw7002190247388522130|tw13589710620637137180|tw9644448957792723227|tw17186940419687426601|tw3921677427038717099|tw535734257980540361|tw5166968618083611069|tw16384953506889859165|tw1732582734854982905|tw642225432419717276|tw11756523581774696794|tw439635549629680076|tw2313364231150179953|tw6488330212144979837|tw17111008362306679702|tw8645702173347550180|tw8320287378835807919|tw8479556384516140258|tw15386561942053481421|tw2110119547536058187|tw13429762523419486478|tw15285962848448867004|tw17910204053162370434|tw10456233628536289426|tw15498027679523749825|tw18432304442452229952|tw16517237838010417450|tw15728675963842913658|tw8437814239768207787|tw323577461165819750|tw2480522305182002397|tw16188660845118721321|tw8917950064690979110|tw6817514167089110775|tw8476154840548709659|tw7064773534262912383|tw14400326570843654361|tw5989532358877197909|tw16536219324111074094|tw17390236795659255401|tw2919938254821542481|tw14968416536261716149|tw14817212973157390098|tw8019314353952573969|tw418398704311121123|tw5722369344948201417|tw3785451239871631285|tw13596596652488072345|tw3884488268614389619|tw7579150917338208526|tw11001724220785073545|tw3271958862936785000|tw18045900808851319794|tw5776769409667303540|tw15765307815909480863|tw18428360348823555752|tw15190993804742956756|tw11728275901384354604|tw11397034861024459758|tw1665134797657388981|tw15037610896554446878|tw17988495660401255630|tw10009583506696037780|tw13892958906173208773|tw16500930215920171171|tw9203983786603337629|tw2925366659553780820|tw14256747408143897960|tw14817252609086309183|tw15935598358020478624|tw11990686956131323503|tw9380332144564617218|tw8972992362105686390|tw7086351916731358235|tw3588027763090114479|tw1344119995227021983|tw16560100969314547445|tw17613032837571379125|tw16705004926499981834|tw3445067200202601282|tw7665234457745173204|tw14844714365952211750|tw8696489829172248134|tw14641244593564435861|tw11286917795832851504|tw13569099542469355856|tw7267599808137078968|tw8196588949905768448|tw12259934752510228073|tw11550653843566349547|tw6534996093649835619|tw3158960359166703177|tw17286946595797484691|tw263832339606169993|tw8117950699650920297|tw1522859253722886090|tw12370642535297514351|tw1709492568337735768|tw2396825435714559519|tw2839700973955021109|tw17425613757628697591|tw13107124811888652227|tw4099682828051071301|tw7496450345852767921|tw9107509199618464564|tw10038952835176988292|tw2674808318866503603|tw16237494588659260273|tw1368975040236715028|tw5156113048144853748|tw13225763867759922353|tw1009321188160242949|tw9919298998265961480|tw8980941198127376739|tw9913704814159418344|tw14919158208373460040|tw6862731097622368578|tw5435066343563267912|tw17718946034707529772|tw4318825070715613500|tw11644196478835492944|tw18443001277081256612|tw7203659295438121009|tw9649594433657806829|tw6571332400800997600|tw14804485425879916927|tw5786454978356708792|tw12294368207971741750|tw6933060943103903328|tw6193194991251178026|tw9080738367900522800|tw10036825656011626406|tw4218028657631612753|tw3038557066379262613|tw12535949051904042548|tw1913117055398089752|tw203809848127146505|tw12947558155540420335|tw6565842600769857914|tw1580904390654401945|tw13667409857094473032|tw11712326775180942047|tw9086096463064632624|tw8282865342768137458|tw2894411207830286069|tw8892823498391130043|tw3876276668015420207|tw10398423888756512487|tw17577545673718564960|tw14095969876588442247|tw17064592960304239433|tw10163851397529229811|tw14466443450391079221|tw11613831696343987877|tw2822010978368191140|tw2039924421942942456|tw13300929430275377473|tw10875319185529069211|tw3378374331285535651|tw4029571216546751169|tw6685769384961279088|tw4087379894070780508|tw133333374018604710|tw17138421124280497380|tw4567040782029765542|tw298165163887576767|tw11573806983640845488|tw10896120883247813905|tw17743428829060030591|tw8527687623524122997|tw6924612272740463049|tw2123134906651825867|tw3947034230045568151|tw16386222303727403155|tw14323386313218206425|tw10196215772846047817|tw16395655128672099808|tw849609820311372761|tw6181822328299296400|tw8107152274195143899|tw2405360259680312134|tw6658329923308008652|tw169610848021722724|tw693544372840435101|tw5021642500214592452|tw17607190741804016969|tw18067374505172757694|tw11296642719666606902|tw8917609505410328044|tw13760223224837878836|tw8598417171684926858|tw490494327734591628|tw2531464112810052056|tw10284519227490801054|tw7719264234436412442|tw11673978867093341471|tw1006423617950702678|tw11972386753957478305|tw8131262110122998114|tw5664684690086633450|tw16184406667591021001|tw2598878734840875073|tw616433380490482433|tw12492955733396111359|tw1955177963434233580|tw9782500066952941464|tw14166354161191021730|tw17432288934822355402|tw18199425191687781451|tw4065162752535009137|tw9393830670985236779|tw8661157650381885515|tw8430785001499147464|tw9709803450180526603|tw18249695251056593851|tw4862925373704318340|tw6712010575105959488|tw4370895843168286468|tw12518749662775365045|tw3117075895460974780|tw14873482640086379884|tw15925385432544559584|tw9639352687215465781|tw805662234229665642|tw10021063115471484977|tw7021707746506273446|tw468859121733208687|tw17333954533352010310|tw15833282787615625857|tw7920468318828670674|tw17096208180442913664|tw297645920221353541|tw16549764101255171738|tw4286989240090731574|tw2405061557393789940|tw14459937778477708079|tw5195527274583661969|tw18031616835503851663|tw15848456532053592213|tw8005209283272215732|tw10585105770715791230|tw3840909332242973187
set_option maxRecDepth 100000 in
set_option maxHeartbeats 0 in
theorem PySem.Challenge.cw_lotjoin_k46_letters_told_holds : PySem.Challenge.rw_lotjoin_k46_letters_told.Holds := by
 w_on;o_law;k_head;(case hw=>w_witness2)
 k_fill
 refine LJ.Tq (l:=PySem.Challenge.rw_lotjoin_k46_letters_told) (kk:=21) LJ.c9 LJ.w6 rfl rfl rfl ⟨rfl,by decide,by decide,rfl⟩ ?S ?C (λP=>by kernel_rfl) ?F
 case S =>
  intro w h KX;refine LJ.cy.cs ?_ KX
  repeat' first|exact LJ.cy.nil|refine LJ.cy.cons (by k_is) (by repeat' first|exact .nil|refine .cons rfl ?_) (by decide) ?_
 case C =>
  intro w h KX;refine LJ.Y4 KX ?_
  repeat' first|exact LJ.fA.nil|refine LJ.wO (by k_is) (by k_is) (by k_is) (by k_is) (by kernel_rfl) ?_
 case F =>
  intro w mg fa h KX G om;refine' LJ.Yr KX G om ?dD ?dL ?dN ?aNight ?kNight ?mNight ?iNight ?fNight ⟨_,by k_is,_,rfl⟩ ⟨_,by k_is,_,rfl⟩ ⟨_,by k_is,_,rfl⟩ (LJ.Yq (by k_is))
  (case dD=>repeat' first|exact LJ.iq.nil|refine LJ.Eh (by k_is) (by k_is) (by k_is) (by k_is) ?_)
  (case dL=>repeat' first|exact LJ.fA.nil|refine LJ.wO (by k_is) (by k_is) (by k_is) (by k_is) (by kernel_rfl) ?_)
  (case dN=>repeat' first|exact q5B _|refine LJ.Vj (by k_is) ?_)
  (case aNight=>k_is)
  (case kNight=>exact⟨⟨by k_is,by k_is,by k_is,by k_is⟩,by repeat' first|exact q5B _|refine List.forall_mem_cons.mpr ⟨(by k_is:q1s _ _ _=_),?_⟩⟩)
  (case mNight=>repeat' first|exact LJ.iu.nil|refine LJ.allM (by k_is) (by k_is) (by k_is) (by k_is) (by k_is) ?_)
  (case iNight=>exact⟨by k_is,by k_is,by k_is,by k_is⟩)
  (case fNight=>exact L2.xH (by k_is) (by k_is) (by k_is))
