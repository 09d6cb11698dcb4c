import PyProof.Rows.All
import Wide.All
import OpenK.AllK
import Wide.FinOn
import Lean
import PyProof.Rows.SetFrom
import PyProof.TupleKey
import PyProof.SetRoads
import PySem.SetOps
import PyProof.EqAt
import PyProof.EqKinds
import PyProof.TupleCall
import KE.KDictList
import KE.KDictLaws
import PyProof.NeKinds
import PyProof.Draws
import KE.KSortTup
import KE.KLam
import PyProof.ListRange
import PyProof.TupleOfSeq
import KE.KNestM
import KE.KMinKey
import PyProof.MinMaxWalk
import KE.KDictSum
import PySem.Challenge.RW_lotjoin_k51_whole_searches_in_any_order
set_option bootstrap.genMatcherCode false
set_option compiler.extract_closed false
set_option compiler.reuse false
open List renaming append_nil->dV,foldl_cons->mq,foldl_nil->nV,length_map->nW,getElem?_eq_some_iff->pa,length_append->qG,getElem?_eq_getElem->tG,length_cons->wq,getElem?_map->B_,size_toArray->KD,getD_eq_getElem?_getD->KG,getElem?_append_left->KH,getElem?_append_right->My,mem_cons->Uw,mem_cons_self->Ux,mem_cons_of_mem->Uy,map_cons->Uz,set_cons_zero->Vz,set_cons_succ->VA,replicate->VF,mem_map->VH,mem_iff_getElem?->VJ,getElem?_cons_succ->VL,replicate_succ->VM,getElem?_cons_zero->VN,length_nil->VO,map_append->VQ,take_succ_cons->VS,replicate_zero->VT,map_map->VU,take_length->VW,mem_append->VY,mem_append_right->V6,map_nil->V8,cons_append->V9,getElem?_nil->Wa,mem_filter->Wb,nil_append->Wc,any_cons->We,lookup_cons->Wk,take_zero->Wl,mem_singleton->Wm,range->Wo,length_take->Wv,not_mem_nil->Ww,mem_range->Wx,length_singleton->WH,take_nil->WK,mem_of_getElem?->WR,any_nil->WX,length_filter_le->WZ,getElem?_take_of_lt->W0,map_congr_left->W6,take_of_length_le->Xb,getElem?_set_self->Xf,getElem?_set_ne->Xi,length_range->Xp,mem_iff_getElem->Xq,nodup_append->Xr,pairwise_cons->Xt,filter_cons->XA,mem_append_left->XC,pairwise_map->XN,length_eq_zero_iff->XQ,length_set->XU,exists_cons_of_length_eq_add_one->XY,append_assoc->X0,filter_map->Yd,all_eq_true->Yf,getElem_mem->Yh,getElem_map->Yk,pairwise_lt_range->Yr,flatten_cons->Yv,getElem?_range->Yw,nodup_cons->Yx,getElem?_eq_none->YA,getElem?_toArray->YC,zip_cons_cons->YD,length_drop->YJ,nodup_nil->YK,filter_append->YO,drop_eq_getElem_cons->YR,any_eq_false->YT,toArray->YU,Perm.refl->Y0,getElem_inj->Y2,take_succ->Y3,filter_cons_of_pos->Y4,filter_cons_of_neg->Y5,lookup->Y6,find?_cons->Za,length_replicate->Zb,ext_getElem?->Zc,zip_nil_left->Zd,range_eq_range'->Zh,pairwise_iff_getElem->Zm,mem_map_of_mem->Zp,eq_of_mem_replicate->Zq,range_succ->Zu,mem_filterMap->Zx,getElem?_replicate->ZE,find?_cons_of_pos->ZV,find?_cons_of_neg->ZW,length_filterMap_eq_countP->ZX,Perm.append_left->ZZ,countP_cons->Z2,mem_of_mem_drop->Z9,find?_some->q0c,filterMap_cons->q0j,length_pos_iff->q0m,find?_eq_none->q0r,length_eraseIdx_of_lt->q0t,Perm.swap->q0u,zip_nil_right->q0B,mem_or_eq_of_mem_set->q0J,extract_eq_take_drop->q0K,mem_of_find?_eq_some->q0M,getElem?_eq_none_iff->q0N,map_id->q0W,foldl_append->q0X,range'->q0Y,cons.inj->q05,nodup_range->q09,any_eq_true->q1k,drop_of_length_le->q1x,length_eq_one_iff->q1y,filter_eq_nil_iff->q1z,of_mem_zip->q1D,contains_iff_mem->q1J,countP_eq_length->q1K,mem_of_mem_take->q1S,drop_zero->q1T,Perm.cons->q1U,filter_eq_self->q2b,filter_sublist->q2c,map_eq_nil_iff->q2d,forall_mem_nil->q2f,filterMap_map->q2o,ne_nil_of_mem->q2w,getElem?_drop->q2x,take_sublist->q2A,Pairwise.nil->q2B,Sublist.refl->q2Z,flatMap_cons->q22,mem_flatMap->q28,mem_flatten->q3c,range'_succ->q3d,drop_length->q3h,filter_nil->q3C,foldl->q3Q,sum_cons->q4n,Perm->q4q,any_map->q42,map_set->q4_,length->q5O,filter->q6j,drop->q7x
open Nat renaming reduceBEq->kb,le_refl->B8,ne_of_lt->VE,zero_add->VI,lt_of_lt_of_le->VR,zero_le->VX,reduceLeDiff->Wf,reduceEqDiff->Wi,le_trans->Wq,reduceAdd->Wr,reduceSub->WM,lt_succ_of_lt->WQ,max_self->WU,max_zero->WV,zero_max->WW,reduceLT->WY,lt_succ_self->W_,le_of_lt->Xc,sub_self->Xg,le_of_ble_eq_true->X7,lt_irrefl->X8,ne_of_gt->Yb,succ.inj->YH,le_add_right->Y1,lt_of_le_of_lt->Zy,add_sub_cancel_left->ZI,le_of_lt_succ->ZJ,le_of_not_lt->Z3,succ_le_succ->Z5,le_succ->q0b,succ_ne_self->q1j,lt_trans->q1m,min_eq_left->q1I,ble->q17,le_of_eq->q2G,le_of_succ_le->q2R,lt_of_succ_le->q2S,min_self->q2V,le_succ_of_le->q21,zero_lt_one->q3y,mul_le_mul->q33,succ_add->q4D,succ_pos->q4E,mul_comm->q4F,sub_zero->q4G,succ_mul->q4N,add_zero->q49,mod_lt->q6P,not_lt->q63
open PySem renaming wpAny_bind->nX,Heap.get?_push_of_some->B7,wpAny_pure->B9,W.Frag->KC,Heap.get?_push_size->UB,Heap.lt_size->Vy,Spec->V_,Value.none->Wz,wpAny_holding->WJ,Value.ref->WN,F.called_set->W5,F.plainAttrs_list->W8,Heap.SameBut.update->Xa,codeAny_builtin->Xd,Around.under_plainId->Xh,Heap.get?_update_self->Xk,Value.int->Xl,PassesOwn.never->Xo,W.fnOf->Xs,Obj.mapSeq->Xu,F.slot_list_append->Xv,F.type_list_append->Xw,Str.ofString->Xy,W.keepIn->Xz,Heap.get?_update_other->XE,Heap.size_push->XF,wpAny_loadPart'->XG,wpAny_call_entry->XI,mem_of_lookup->XJ,wpAny_newObj_type->XO,Value.type->XR,W.findIn->XS,W.kia_one->XT,wpAny_mono->XZ,W.emptyDict->X1,W.kitOne->X9,NameKind.cell->X_,W.nsIn->Ye,sizeLine_eq->Yg,wpAny_callSpecial?_slot->Yj,plainId_quiet->Yn,NameKind.free->Yo,wpAny_setState_of->Yq,wpAny_pyIter_list->Ys,wpAny_truthy_bool->Yt,codeAny_mono->YE,wpAny_pyIter_enum->YF,W.instObj->YG,SetTable.layClean.free->YI,Obj.data_mapFields->YL,wpAny_Call_Name_kw->YM,F.slot_tuple_iterator_next->YN,boot_len->YP,Builtin.Slice.slicePlaces->YQ,wpAny_passesOwn->YS,SetTable.fill->YV,Builtin.Tuple.tupleExact->YW,Builtin.List.listTooLong->YX,SetTable->YZ,Obj.putSet->Y7,Value.bool->Y8,wpAny_pyIter_tuple->Y9,Builtin.Frozenset.updateFrom->Y_,wpAny_runValue->Ze,W.codeIn->Zg,Heap.SameBut->Zj,wpAny_askSetting->Zk,Builtin.Slice.sliceAdjust->Zn,Calls.call_function_entry->Zo,wpAny_standAt->Zr,F.args_tuple_add_2->Zs,W.mg_of->Zt,wpAny_updateSeq->Zv,wpAny_execs_nil->Zw,intKind_is->Zz,Walks.list->ZA,tupleKind_room_in1->ZC,Around.in1_handled->ZD,F.entry_tuple_add->ZF,wpAny_field->ZG,F.plainAttrs_dict->ZH,SetTable.probe.go->ZK,wpAny_storeSet_of->ZN,wpAny_seqItems->ZP,wpAny_setField->ZQ,W.cellsFrom_some->ZR,F.slot_tuple_add->ZS,Calls.callWith_builtin->ZT,Builtin.Tuple.tupleCompareSizes->ZY,weight_type_call_type->Z0,Obj.isFreed_of_fields->Z1,W.plainGet->Z4,SetTable.fits->Z7,wpAny_newList->Z8,codeAny_call_builtin->Z_,F.sub_list_frozenset->q0a,wpAny_specialOf->q0d,codeAny_of_tree->q0e,F.slot_dict_setdefault->q0g,F.args_tuple_iterator_next_1->q0h,wpAny_setEntries_of->q0i,W.plainGet_of->q0k,wpAny_typeOf->q0n,F.entry_tuple_iterator_next->q0o,wpAny_call->q0v,Code.quiet_builtin->q0w,Around.under_plain->q0x,Calls.Name_function_global->q0y,W.lookIn->q0z,W.callWith_K->q0A,Builtin.Slice.sliceApplied->q0C,Builtin.Tuple.tupleItemsOf->q0D,wpAny_letOwnedTupleGo_enum->q0F,wpAny_tryCatch->q0H,Builtin.SmallTypes.nextOf->q0L,Value.isInt_shape->q0O,F.entry_type_call->q0P,Obj.cls_mapFields->q0R,W.methodObj->q0T,W.hasDictIn->q0U,Builtin.List.listSameRef->q01,AutoSeq1.sub_tuple_tuple->q03,F.slot_dict_values->q04,F.slot_list_extend->q07,F.type_list_extend->q08,putSet_of->q1a,wpAny_forIn_list->q1b,F.typeCall_set_1->q1c,F.entry_set_init->q1d,check_set_init_1->q1e,Value.str->q1f,wpAny_eqBool_int->q1g,Builtin.Range.rangeSize->q1h,noFill_tuple_add->q1i,F.plain_list_iadd->q1l,wpAny_rule->q1o,wpAny_load->q1q,SeqAt.EqAt->q1r,W.isFn->q1s,richCompare_meets_room->q1u,call_meets->q1w,wpAny_ite_split->q1B,W.takerIn->q1C,SeqAt.EqAt.same->q1E,builtinLookup_eq_fast->q1L,wpAny_isTrue_Compare1->q1M,W.methodCall_KW->q1N,F.slot_dict_pop->q1O,F.sub_list_set->q1V,wpAny_of_eq->q1W,isSubtype_type->q1X,Around.frames_deeper->q1Z,Value.notImplemented->q10,Calls.evalArgs_plain->q11,wpAny_letGo->q14,W.callWith_K0->q19,call_enumerate_list->q2a,W.codeHd_of_K->q2e,Shared.TypeIs->q2h,Paired.length->q2i,seq_tuple_add->q2j,PlainL.isList->q2l,SeqAt.EqAt.int_str->q2q,SeqAt.EqAt.str_int->q2r,Calls.spliced_cons->q2s,SeqAt.EqAt.int_int->q2t,SeqAt.EqAt.of_refs->q2v,wpAny_pyIter_slot->q2C,Within->q2D,wpAny_assign_Name->q2E,W.plainOver->q2F,W.kitx_list->q2H,W.kitx_dict->q2I,Around.under->q2J,Code.isFrame->q2K,Calls.spliced_nil->q2L,concat_meets->q2M,wpAny_sequenceKey->q2N,seqIndex_neg->q2O,slot_list_getitem->q2P,call_meetsIn->q2T,wpAny_collect_seq->q20,wpAny_isInstance->q23,wpAny_execs_cons->q24,W.handedIn->q25,W.codeHdIn->q3f,Moved.trans->q3i,Value.float->q3j,seqIndex_of->q3k,F.plain_set_new->q3p,typeLookup_type->q3q,F.slot_set_iter->q3r,W.makesIn->q3s,F.slot_int_rmul->q3u,pushCells_keeps->q3v,W.OpenLaw->q3B,SetTable.grown->q3I,entryFor_alias->q3L,wpAny_Name->q3M,typeIs_int->q3P,fitsIndex_both->q3S,call->q3U,SeqAt.RcAt->q3W,W.CodeHd->q32,wpAny_attempt->q38,Obj.mapFields->q39,wpAny_handled->q3_,Value.isStrOf->q4b,rangeSize_one->q4c,intBits_le_64->q4d,evalPart_none->q4f,call_list_seq->q4g,Sem->q7O
open Option renaming map_eq_some_iff->KI,join_some->Wg,join_none->Wh,some.inj->WC,isSome_some->q0E,isSome_map->q0V,isSome_iff_exists->q02,getD_none->q0_,map_some->q1A,isSome->q2g,none->q5Q,map->q6R
open Array renaming length_toList->UA,getElem?_eq_getElem->Wj,getElem?_toList->Ws,getD_eq_getD_getElem?->Xe,getElem?_eq_none->XX,toList_setIfInBounds->Yp,toList_replicate->ZL,toList_push->ZM,size_map->ZO,getElem?_eq_some_iff->q0q,perm_iff_toList_perm->q0G,getElem_mem_toList->q0Z,size_setIfInBounds->q00,toList_filterMap->q1n,toList_extract->q1R,toList_append->q18,foldl_toList->q2m,size_extract->q2n,getD->q2p,size_append->q2z,replicate->q3n,size_push->q3o,Perm.refl->q3x,toList->q4K
open Bool renaming false_eq_true->VP,true_eq_false->V0,false_ne_true->Wn,not_false->Wt,or_false->Wu,not_true->WB,and_true->WD,and_self->WL,and_eq_true->Xn,not_eq_true'->ZU,or_eq_true->q0f,false_and->q1Y,true_and->q2k,not_eq_true->q2_,and_false->q3R,false_bne->q31,true_or->q4O
open Int renaming toNat_natCast->V7,emod_lt_of_pos->XD,emod_nonneg->Ya,eq_ofNat_of_zero_le->Yl,cast_ofNat_Int->q0I,natCast_add->q1H,le_refl->q15,toNat->q16,zero_add->q2U,ofNat->q27,max_eq_right->q3a,min_eq_right->q3b,min_eq_left->q3z,max_eq_left->q3A,ofNat.inj->q4h,mul_one->q5L
open PyProof renaming Rows.F.plain_set_update_loop->Xm,Rows.slot_tuple_getitem->Xx,Rows.F.entry_set_update_loop->Yi,Rows.callWith_type1->Ym,Rows.lt_int->q0l,Rows.subscriptTail_builtinR->q1v,Rows.entry_list_sort->q1F,Rows.get?_update_seq->q1G,Rows.slot_list_sort->q12,Rows.args_list_sort->q13,Rows.entry_tuple_getitem->q1_,Rows.args_tuple_getitem->q2u,Rows.plain_sorted->q2W,Rows.entry_sorted->q2X,Rows.args_sorted1->q2Y,Rows.kind_sorted->q3m
open False renaming elim->XM
open LawfulBEq renaming eq_of_beq->XW
open ForInStep renaming yield->Yc
open True renaming intro->Yu
open Ne renaming symm->Yy
open Sum renaming inl->Yz,inl.inj->Zf,inr->q0S
open Classical renaming byContradiction->Zl,choose_spec->q1P,choose->q7N
open Or renaming inl->q0p,inr->q1Q
open Function renaming comp->q4l
open Prod renaming fst->q5S
set_option Elab.async false
set_option linter.all false
set_option maxRecDepth 100000
abbrev bt:=PySem.Value->PySem.Shared->Prop
local macro_rules | `(tactic| trivial) => `(tactic| first|exact q0p rfl|exact q1Q rfl)
abbrev VB:=@if_neg
abbrev VC:=@decide_eq_false
abbrev VD:=@if_pos
abbrev VG:=@decide_eq_true
abbrev VZ:=@decide_eq_true_eq
abbrev Wd:=@beq_self_eq_true
abbrev W7:=@if_false
abbrev W9:=@of_decide_eq_true
abbrev Xj:=@if_true
abbrev XB:=@true_and
abbrev XH:=@and_true
abbrev XP:=@and_self
abbrev YB:=@or_false
abbrev YY:=@beq_eq_false_iff_ne
abbrev Zi:=@or_congr_right
abbrev q0s:=@of_decide_eq_false
abbrev q0Q:=@bne_self_eq_false
abbrev q06:=@not_not_intro
abbrev q1p:=@not_or
abbrev q1t:=@beq_iff_eq
theorem el7{α β γ ε:Type}{A B C:α→β→γ→ε→Prop}{R:Prop}(h:∃F ad δ K, A F ad δ K∧B F ad δ K∧C F ad δ K)(k:∀F ad δ K, A F ad δ K→B F ad δ K→C F ad δ K→R): R:=h.elim λF h=>h.elim λa h=>h.elim λd h=>h.elim λK h=>k F a d K h.1 h.2.1 h.2.2
theorem el5{α β:Type}{A B C:α→β→Prop}{R:Prop}(h:∃F ad, A F ad∧B F ad∧C F ad)(k:∀F ad, A F ad→B F ad→C F ad→R): R:=h.elim λF h=>h.elim λa h=>k F a h.1 h.2.1 h.2.2
theorem el3{α:Type}{A B:α→Prop}{R:Prop}(h:∃F, A F∧B F)(k:∀F, A F→B F→R): R:=h.elim λF h=>k F h.1 h.2
set_option compiler.extract_closed false
local macro_rules | `(tactic| symm) => `(tactic| first|lia|omega (config:={}))
local macro_rules | `(⋯) => `(by symm)
abbrev Jh:=PySem.Value->PySem.Shared->Prop
open Option renaming some->ζ,none->η
open Bool renaming true->θ,false->ι
open Decidable renaming decide->S,decide->μ
open PySem renaming Value->M,Value->ν,Addr->U,Addr->ξ,Shared->L,Shared->ο,Str->R,Str->π,wpAny->G,wpAny->ρ,model->B,model->ς,Expr->J,Expr->υ,Stmt->y,Stmt->χ,Program->X,Program->ψ,World->l,World->ω,Heap->Q,Heap->Α,Around->t,Around->Β,Obj->Γ,Scope->o,Scope->Δ,Pos->I,Pos->Ε,Env->u,Env->Ζ
theorem Y{α:Sort u}{a:α}:a=a:=rfl
theorem qzr (_:True:=by first|rfl|(intros;rfl)):True:=trivial
theorem qzd (_:True:=by decide):True:=trivial
theorem qz0 (_:True:=by kernel_rfl):True:=trivial
theorem qz1 (_:True:=by first|exact .inl Y|exact .inr Y|assumption):True:=trivial
theorem qz2 (_:True:=by first|rfl|kernel_rfl):True:=trivial
theorem qz3 (_:True:=by decide +kernel):True:=trivial
theorem qz4 (_:True:=by first|exact .inl rfl|exact .inr rfl|assumption):True:=trivial
theorem qz6 (_:True:=by with_unfolding_all rfl):True:=trivial
theorem qz8 (_:True:=by trivial):True:=trivial
section
open Lean in
local macro_rules
 |`(‹$x›)=>if x.raw.isOfKind `Lean.Parser.Term.hole then Macro.throwUnsupported else `(autoParam $x qzr._auto_1)
 |`(~~~$x)=>`(autoParam $x qzd._auto_1)
open Lean in
def qzp(s:Syntax):Syntax:=
 let n:=λs a=>mkNode (`Lean.Parser.Tactic++s) a
 s.rewriteBottomUp λs=>if s.isIdent then n `rcasesPat.one #[s] else if s.isOfKind `Lean.Parser.Term.hole then n `rcasesPat.ignore #[mkAtom "_"] else if s.isOfKind `Lean.Parser.Term.anonymousCtor then n `rcasesPat.tuple #[mkAtom "⟨",mkNullNode (s[1].getArgs.map λx=>if x.isAtom then x else n `rcasesPatLo #[n `rcasesPatMed #[mkNullNode #[x]],mkNullNode]),mkAtom "⟩"] else s
open Lean in
local macro_rules
 |`(tactic|let $d:letDecl)=>do
  let d:=d.raw[0]
  pure (if d.isOfKind `Lean.Parser.Term.letPatDecl then mkNode `Lean.Parser.Tactic.obtain #[mkAtom "obtain",mkNullNode #[mkNode `Lean.Parser.Tactic.rcasesPatMed #[mkNullNode #[qzp d[0]]]],mkNullNode (if d[2].getNumArgs==0 then #[] else #[mkAtom ":",d[2][0][1]]),mkNullNode #[mkAtom ":=",mkNullNode #[d[4]]]] else mkNode `Lean.Parser.Tactic.tacticHave__ #[mkAtom "have",mkNode `Lean.Parser.Term.letConfig #[mkNullNode],mkNode `Lean.Parser.Term.letDecl #[d]])
open Lean in
local macro_rules
 |`(fun $bs* => $e)=>do
  if (← getRef)[1][2].getAtomVal != "↦" then Macro.throwUnsupported
  let p:=bs.map λs=>⟨mkNode `Lean.Parser.Tactic.rintroPat.one #[qzp s]⟩
  `(by rintro $p*;exact $e)
local macro_rules |`(tactic|calc $e:term)=>`(tactic|refine $e)
local macro_rules |`(tactic|ext $p*)=>`(tactic|rintro $p*)
local macro_rules |`(↑$x)=>`(($x).length)
local macro_rules |`(⇑$x)=>`(($x).heap.objs.size)
local macro_rules |`($x⁻¹)=>`(by simpa using $x)
open Lean in
local macro_rules
 |`(-$x)=>if x.raw.getKind==`Lean.Parser.Term.typeAscription||x.raw.isOfKind `num||(x.raw.isOfKind `Lean.Parser.Term.paren&&!x.raw[1].isOfKind `Lean.Parser.Term.app&&!x.raw[1].isOfKind `«term-_»&&!x.raw[1].isOfKind `«term_×_»&&!x.raw[1].isOfKind `Lean.Parser.Term.arrow) then Macro.throwUnsupported else `(List $x)
open Lean in
local macro_rules
 |`(tactic|erw[$ls,*] $[$l:location]?)=>do
  let a←ls.getElems.mapM fun r=>do
   let t:Term:=⟨r.raw[1]⟩
   if r.raw[0].getNumArgs==0 then `(Parser.Tactic.simpLemma|$t:term) else `(Parser.Tactic.simpLemma|←$t:term)
  `(tactic|simp only[$a,*] $[$l]?)
namespace LJS
open PySem PySem.SetTable
noncomputable def nx(m i:Nat):Nat:=(i*5+1)%(m+1)
noncomputable def l9(m:Nat):Nat->Nat->Nat
 |0,i=>i
 |n+1,i=>l9 m n (nx m i)
theorem sR(m:Nat):∀a b i,l9 m (a+b) i=l9 m b (l9 m a i)
 |0,b,i=>by rw[VI];rfl
 |a+1,b,i=>by rw[q4D];calc sR m a b (nx m i)
noncomputable def vg(m:Nat):Nat->Nat->-Nat
 |0,_=>[]
 |n+1,i=>i::vg m n (nx m i)
theorem AW(m:Nat):∀{n i e:Nat},e∈vg m n i->∃k,k<n/\l9 m k i=e
 |0,_,_,h=>nomatch h
 |n+1,i,e,h=>by
  rcases Uw.mp h with rfl|h
  .exact⟨0,q4E _,Y⟩
  .let⟨k,a,e⟩:=AW m h
   calc⟨k+1,Nat.succ_lt_succ a,e⟩
def Mk(m:Nat):Prop:=m=7\/m=31\/m=127
noncomputable def pZ(m:Nat):Bool:=(Wo (m+1)).all λe=>(vg m (m+1) 0).contains e
theorem AX(h:Mk m):pZ m=θ/\l9 m (m+1) 0=0:=by
 rcases h with rfl|rfl|rfl<;>calc⟨by decide +kernel,by decide +kernel⟩
theorem mW(h:Mk m)(he:e<=m):∃k,k<=m/\l9 m k 0=e:=by
 let:=Yf.mp (AX h).1 e (Wx.mpr (Nat.lt_succ_of_le he));let⟨k,a,q⟩:=AW m (q1J.mp this);calc⟨k,ZJ a,q⟩
theorem Hs(h:Mk m)(c:i<=m)(he:e<=m):∃n,n<=m/\l9 m n i=e:=by
 let⟨a,f,rfl⟩:=mW h c;let⟨b,g,rfl⟩:=mW h he
 by_cases d:a<=b
 .refine⟨b-a,⋯,?_⟩
  rw[<-sR];congr 1;symm
 .refine⟨m+1-a+b,⋯,?_⟩
  rw[<-sR,show a+(m+1-a+b)=(m+1)+b by symm,sR,(AX h).2]
noncomputable def lp(m:Nat):Nat->Nat->Nat->Nat×Nat
 |0,i,p=>(i,p)
 |n+1,i,p=>lp m n (leap m i p).1 (leap m i p).2
theorem vh(m:Nat):∀a b i p,lp m (a+b) i p=lp m b (lp m a i p).1 (lp m a i p).2
 |0,b,i,p=>by rw[VI];rfl
 |a+1,b,i,p=>by rw[q4D];calc vh m a b _ _
theorem AY(m:Nat):∀n i,lp m n i 0=(l9 m n i,0)
 |0,i=>Y
 |n+1,i=>by
  show lp m n (leap m i 0).1 (leap m i 0).2=_;let e:leap m i 0=(nx m i,0):=by unfold leap nx;simp
  rw[e];calc AY m n _
theorem Ht(m i p:Nat):(leap m i p).1<=m:=ZJ (q6P _ (q4E _))
theorem AZ(m:Nat):∀n i p,(lp m n i p).2=p / 32 ^ n
 |0,i,p=>by simp[lp]
 |n+1,i,p=>by
  show(lp m n (leap m i p).1 (leap m i p).2).2=_;rw[AZ m n];show p / 32 / 32 ^ n=_;rw[Nat.div_div_eq_div_mul,Nat.pow_succ,q4F]
theorem reach(h:Mk m)(a:p<2 ^ 64)(he:e<=m):∃n,n<=13+m/\(lp m n i p).1=e:=by
 let z:(lp m 13 i p).2=0:=by
  rw[AZ];exact Nat.div_eq_of_lt (q1m a (by decide))
 let q:(lp m 13 i p).1<=m:=by
  rw[vh m 12 1];exact Ht _ _ _
 let⟨n,c,b⟩:=Hs h q he;calc⟨13+n,⋯,?_⟩;rw[vh,z,AY];calc b
theorem A0(j:Nat):has #[] j=ι:=by unfold has;simp
theorem vi{t:SetTable}(hd:t.dummies = #[])(j:Nat):t.slot j=.empty\/∃i,t.slot j=.live i/\i<t.place.size/\j∈t.place.toList:=by
 unfold slot;rw[hd,A0];dsimp only
 by_cases c:(t.place[below t.place j]?==ζ j)=θ
 .right
  rw[VD c];let e:=XW c;let⟨a,b⟩:=q0q.mp e;exact⟨_,Y,a,by rw[<-b];calc q0Z a⟩
 .left
  rw[VB c];rfl
theorem Hu{t:SetTable}(hd:t.dummies = #[])(hj:j∉t.place.toList):t.slot j=.empty:=by
 rcases vi hd j with h|⟨_,_,_,h⟩
 .exact h
 .calc absurd h hj
theorem A1:∀{l l':-Nat},l.Nodup->(∀x∈l,x∈l')->↑l<=↑l'
 |[],_,_,_=>VX _
 |a::l,l',f,c=>by
  let d:a∈l':=c a (Ux ..);let b:=Yx.mp f;let g:=A1 (l:=l) (l':=l'.erase a) b.2 λx e=>(List.mem_erase_of_ne (λz=>b.1 (by rw[<-z];calc e))).mpr (c x (Uy _ e));rw[List.length_erase_of_mem d] at g;let:=List.length_pos_of_mem d;rw[wq];symm
theorem Hv{l:-Nat}(h:↑l<=m):∃e,e<=m/\e∉l:=by
 calc Zl λb=>?_;let a:∀e,e∈Wo (m+1)->e∈l:=λe c=>Zl λz=>b ⟨e,ZJ (Wx.mp c),z⟩;let:↑(Wo (m+1))<=↑l:=A1 q09 a;rw[Xp] at this;symm
noncomputable def stateOf(t:SetTable)(i p:Nat):Probe:=⟨i,runEnd t.mask i-i,i,p,η⟩
theorem Hw(m i:Nat):runEnd m i-i<=9:=by unfold runEnd;split<;>symm
section
variable{t:SetTable}{f:Nat->Int}{h:Int}
theorem sS(F:Nat)(p:Probe):ZK t f h (F+1) p=(match t.slot p.j with
  |.empty=>ζ (.empty p.j p.dummy)
  |.dummy=>ZK t f h F (t.advance {p with dummy:=ζ p.j})
  |.live i=>if f i==h then ζ (.candidate p.j i (t.advance p)) else ZK t f h F (t.advance p)):=rfl
theorem A2(hd:t.dummies = #[])(b:∀i,i<t.place.size->f i≠h):∀(k F:Nat)(p:Probe),p.more=k->p.dummy=η →
  (∃j,ZK t f h (F+k+1) p=ζ (.empty j η))\/ZK t f h (F+k+1) p=ZK t f h F (stateOf t (leap t.mask p.i p.perturb).1 (leap t.mask p.i p.perturb).2)
 |0,F,p,d,a=>by
  show(∃j,ZK t f h (F+1) p=_)\/ZK t f h (F+1) p=_;rw[sS];rcases vi hd p.j with e|⟨i,e,c,_⟩
  .left;rw[e];exact⟨p.j,by rw[a]⟩
  .right
   rw[e];show(if(f i==h)=θ then _ else _)=_;rw[VB (by ext z;calc b i c (XW z))];unfold advance;rw[d,VB ⋯,a];rfl
 |k+1,F,p,d,a=>by
  let g:=A2 hd b k F {p with j:=p.j+1,more:=p.more-1} (by show p.more-1=k;symm) a;rw[show F+(k+1)+1=(F+k+1)+1 by symm,sS];rcases vi hd p.j with e|⟨i,e,c,_⟩
  .left;rw[e];exact⟨p.j,by rw[a]⟩
  .rw[e]
   show(∃j,(if(f i==h)=θ then _ else _)=_)\/(if(f i==h)=θ then _ else _)=_;rw[VB (by ext z;calc b i c (XW z))];let l:t.advance p={p with j:=p.j+1,more:=p.more-1}:=by unfold advance;rw[VD ⋯]
   rw[l];calc g
theorem A3(hd:t.dummies = #[])(c:∀i,i<t.place.size->f i≠h):∀(n F i p:Nat),10*(n+1)<=F->t.slot (lp t.mask n i p).1=.empty->∃j,ZK t f h F (stateOf t i p)=ζ (.empty j η)
 |0,F,i,p,d,a=>by
  let⟨G,rfl⟩:∃G,F=G+1:=⟨F-1,⋯⟩;rw[sS];let e:t.slot (stateOf t i p).j=.empty:=a;rw[e];exact⟨i,Y⟩
 |n+1,F,i,p,d,a=>by
  let k:=Hw t.mask i;let⟨G,g⟩:∃G,F=G+(runEnd t.mask i-i)+1:=⟨F-(runEnd t.mask i-i)-1,⋯⟩;let:=A2 (f:=f) (h:=h) hd c (runEnd t.mask i-i) G (stateOf t i p) Y Y;rw[<-g] at this;rcases this with b|b
  .exact b
  .rw[b]
   calc A3 hd c n G _ _ ⋯ a
theorem vj(h:Int):bits h<2 ^ 64:=by
 unfold bits;let:=XD h (show(0:Int)<2 ^ 64 by decide);let:=Ya h (show(2 ^ 64:Int)≠0 by decide);symm
theorem A4(hd:t.dummies = #[])(a:Mk t.mask)(hz:t.place.size<=t.mask)(b:∀i,i<t.place.size->f i≠h):∃j,t.probe f h (t.probeStart h)=ζ (.empty j η):=by
 let⟨e,c,d⟩:=Hv (l:=t.place.toList) (m:=t.mask) (by rw[UA];calc hz);let⟨n,k,g⟩:=reach a (i:=bits h%(t.mask+1)) (vj h) c;calc A3 hd b n _ _ _ (by unfold turns;symm) (by rw[g];calc Hu hd d)
end
section
variable{m:Nat}{owner:Array (Option Nat)}
theorem A5(F i p:Nat):YI m owner (F+1) i p=(match(Wo (runEnd m i+1-i)).find? λk=>(owner.getD (i+k) (ζ 0)).isNone with
   |some k=>ζ (i+k)
   |none=>YI m owner F (leap m i p).1 (leap m i p).2):=rfl
theorem vk:∀(n F i p:Nat),n+1<=F->(owner.getD (lp m n i p).1 (ζ 0)).isNone=θ->∃j,YI m owner F i p=ζ j/\(owner.getD j (ζ 0)).isNone=θ
 |0,F,i,p,c,b=>by
  let⟨G,rfl⟩:∃G,F=G+1:=⟨F-1,⋯⟩;rw[A5]
  cases a:(Wo (runEnd m i+1-i)).find? λk=>(owner.getD (i+k) (ζ 0)).isNone with
  |some k =>
   let:=q0c a;exact⟨i+k,Y,this⟩
  |none =>
   let:=q0r.mp a 0 (Wx.mpr (by unfold runEnd;split<;>symm));exact absurd b this
 |n+1,F,i,p,c,b=>by
  let⟨G,rfl⟩:∃G,F=G+1:=⟨F-1,⋯⟩;rw[A5]
  cases a:(Wo (runEnd m i+1-i)).find? λk=>(owner.getD (i+k) (ζ 0)).isNone with
  |some k =>
   let:=q0c a;exact⟨i+k,Y,this⟩
  |none=>calc vk n G _ _ ⋯ b
end
structure Ow(m:Nat)(owner:Array (Option Nat))(k:Nat):Prop where
 size:owner.size=m+1
 cnt:owner.toList.countP q2g=k
 lt:∀x,ζ x∈owner.toList->x<k
theorem vl:∀{l:-(Option Nat)}{j k:Nat},l[j]?=ζ η->(l.set j (ζ k)).countP q2g=l.countP q2g+1
 |[],j,k,h=>by simp at h
 |x::l,0,k,h=>by
  simp at h;subst h;rw[Vz,Z2,Z2];rfl
 |x::l,j+1,k,h=>by
  simp at h;rw[VA,Z2,Z2,vl h];symm
theorem getD_none{owner:Array (Option Nat)}(h:(owner.getD j (ζ 0)).isNone=θ):owner.toList[j]?=ζ η:=by
 rw[Xe] at h;rw[Ws]
 cases e:owner[j]? with
 |none=>rw[e] at h;cases h
 |some x =>
  rw[e] at h
  cases x with
  |none=>rfl
  |some y=>cases h
theorem A6{owner:Array (Option Nat)}(O:Ow m owner k)(g:k<=m):∃e,e<=m/\(owner.getD e (ζ 0)).isNone=θ:=by
 refine Zl λd=>?_
 let a:∀x∈owner.toList,x.isSome=θ:=by
  ext x f;let⟨e,b⟩:=VJ.mp f
  cases x with
  |some y=>rfl
  |none =>
   let c:=(pa.mp b).1;rw[UA,O.size] at c;calc absurd ⟨e,ZJ c,?_⟩ d;rw[Xe,<-Ws,b];rfl
 let:=q1K.mpr a;rw[O.cnt,UA,O.size] at this;symm
theorem Hx{owner:Array (Option Nat)}(b:Mk m)(O:Ow m owner k)(c:k<=m)(h:Int):∃j,YI m owner (turns m) (bits h%(m+1)) (bits h)=ζ j/\Ow m (owner.setIfInBounds j (ζ k)) (k+1):=by
 let⟨e,d,f⟩:=A6 O c;let⟨n,g,l⟩:=reach b (i:=bits h%(m+1)) (vj h) d;let⟨j,o,p⟩:=vk (m:=m) (owner:=owner) n (turns m) (bits h%(m+1)) (bits h) (by unfold turns;symm) (by rw[l];calc f);refine⟨j,o,by rw[q00];calc O.size,?_,λx a=>?_⟩
 .rw[Yp,vl (getD_none p),O.cnt]
 .rw[Yp] at a
  rcases q0J a with h|h
  .exact WQ (O.lt x h)
  .cases h;calc W_ _
theorem A7(e:Mk m):∀(hs:-Int)(owner:Array (Option Nat))(k:Nat),Ow m owner k->k+↑hs<=m+1 →
  ∃b,(hs.foldl (init:=ζ (owner,k)) λd h=>do
   let(owner,k) <- d
   let j <- YI m owner (turns m) (bits h%(m+1)) (bits h)
   pure (owner.setIfInBounds j (ζ k),k+1))=ζ (b,k+↑hs)/\Ow m b (k+↑hs)
 |[],a,k,O,_=>⟨a,Y,O⟩
 |h::c,a,k,O,f=>by
  rw[wq] at f ⊢;let⟨j,g,i⟩:=Hx e O ⋯ h;let⟨l,n,o⟩:=A7 e c _ (k+1) i ⋯;calc⟨l,?_,by rw[show k+(↑c+1)=k+1+↑c by symm];calc o⟩;rw[mq,show k+(↑c+1)=k+1+↑c by symm,<-n];congr 1;show(do let j <- YI m a (turns m) (bits h%(m+1)) (bits h);pure (a.setIfInBounds j (ζ k),k+1))=_;rw[g];rfl
theorem A8(m:Nat):Ow m (q3n (m+1) η) 0:=by
 refine⟨by simp,?_,λx a=>?_⟩
 .rw[ZL]
  exact List.countP_eq_zero.mpr λx a=>by rw[Zq a];decide
 .rw[ZL] at a
  cases Zq a
theorem Hy(a:Mk m)(hs:Array Int)(hz:hs.size<=m+1):∃owner,layClean m hs=ζ owner/\Ow m owner hs.size:=by
 let⟨o,e,O⟩:=A7 a hs.toList _ 0 (A8 m) (by rw[UA];symm);rw[VI,UA] at O;calc⟨o,?_,O⟩;unfold layClean;rw[<-q2m,e];rfl
noncomputable def kO(m:Nat)(owner:Array (Option Nat)):-(Nat×Nat):=(Wo (m+1)).filterMap λj=>(owner.getD j η).map (j,·)
theorem vm(O:Ow m owner k):↑(kO m owner)=k:=by
 unfold kO;rw[ZX,<-O.cnt]
 let e:owner.toList=(Wo (m+1)).map λj=>owner.getD j η:=by
  calc Zc λi=>?_;rw[Ws,B_]
  by_cases a:i<m+1
  .rw[Yw a,q1A,Wj (by rw[O.size];calc a),Xe,Wj (by rw[O.size];calc a)];rfl
  .rw[XX (by rw[O.size];symm),YA (by rw[Xp];symm)];rfl
 rw[e,List.countP_map];calc List.countP_congr λj _=>?_;simp
theorem Hz(O:Ow m owner k)(hz:z∈kO m owner):z.2<k:=by
 unfold kO at hz;let⟨j,b,e⟩:=Zx.mp hz;let⟨x,a,rfl⟩:=KI.mp e;calc O.lt x ?_;rw[Xe] at a
 cases q:owner[j]? with
 |none=>rw[q] at a;cases a
 |some y =>
  rw[q] at a;cases(show y=ζ x from a)
  calc VJ.mpr ⟨j,by rw[Ws];calc q⟩
theorem HA(c:Mk m)(t:SetTable)(hs:Array Int)(a:Nat)(d:sizeAbove a-1=m)(hz:hs.size<=m+1):
  ∃t' order,t.relaid hs a=ζ (t',order)/\t'.mask=m/\t'.dummies = #[]/\t'.place.size=hs.size/\t'.led=t.led/\t'.plain=t.plain/\order.size=hs.size/\∀k∈order.toList,k<hs.size:=by
 let⟨b,e,O⟩:=Hy c hs hz;refine⟨{mask:=m,place:=((kO m b).map (·.1)).toArray,dummies := #[],finger:=t.finger,led:=t.led,moves:=t.movedTo m,plain:=t.plain},((kO m b).map (·.2)).toArray,?_,Y,Y,?_,Y,Y,?_,λk g=>?_⟩
 .unfold relaid laid
  rw[d,e];rfl
 .rw[KD,nW,vm O]
 .rw[KD,nW,vm O]
 .let⟨z,f,rfl⟩:=VH.mp g
  calc Hz O f
theorem A9{b:Type}{es:Array b}{order:Array Nat}(h:∀k∈order.toList,k<es.size):(order.filterMap (es[·]?)).size=order.size/\∀e∈(order.filterMap (es[·]?)).toList,e∈es.toList:=by
 constructor
 .rw[<-UA,q1n,ZX,q1K.mpr λk c=>?_,UA]
  rw[Wj (h k c)];rfl
 .ext e a
  rw[q1n] at a;let⟨k,_,q⟩:=Zx.mp a;calc VJ.mpr ⟨k,by rw[Ws];calc q⟩
theorem vn(t:SetTable)(hd:t.dummies = #[])(j:Nat):(t.put j).1.dummies = #[]/\(t.put j).1.mask=t.mask/\(t.put j).1.place.size=t.place.size+1/\(t.put j).1.led=t.led/\(t.put j).1.plain=t.plain/\(t.put j).1.moves=t.moves/\(t.put j).1.finger=t.finger:=by
 unfold put;dsimp only;rw[hd,A0];calc⟨Y,Y,?_,Y,Y,Y,Y⟩;unfold insertAt;erw[q2z,q3o,q2n];symm
theorem HB{a:Type}{xs:Array a}{p:Nat}{x e:a}(h:e∈(insertAt xs p x).toList):e=x\/e∈xs.toList:=by
 unfold insertAt at h;erw[q18,ZM,VY,Wm,q1R] at h;erw[q0K] at h;rcases h with(h|h)|h
 .right;exact Z9 (q1S h)
 .exact .inl h
 .right;calc Z9 (q1S h)
theorem vo{a:Type}(xs:Array a)(p:Nat)(x:a):(insertAt xs p x).size=xs.size+1:=by
 unfold insertAt;erw[q2z,q3o,q2n];symm
end LJS
namespace LJS
open PySem PySem.SetTable PyProof.Rows
structure hW(t:SetTable)(es:Array (Int×M))(hs:-Int):Prop where
 mX:t.dummies = #[]
 l_:Mk t.mask
 jU:t.place.size=es.size
 num:es.size=↑hs
 iT:t.tooFull=ι
 ins:∀e∈es.toList,e.1∈hs
def g4(h:Q)(S:U)(hs:-Int):Prop:=∃o a b t,h.get? S=ζ o/\o.ExactSet/\o.data=.set a b t/\hW t a hs
section
variable{t:SetTable}{es:Array (Int×M)}{hs:-Int}
theorem hW.fill(T:hW t es hs):t.fill=es.size:=by
 unfold YV;rw[T.jU,T.mX];rfl
theorem hW.lt(T:hW t es hs):es.size*5<t.mask*3:=by
 let:=T.iT;unfold tooFull at this;rw[T.fill] at this;let:=q0s this;symm
theorem hW.fits(T:hW t es hs):t.fits es.size=θ:=by
 let:=T.lt;unfold Z7;rw[T.fill,T.jU];simp;symm
theorem hW.vp(T:hW t es hs):t.gaveWay=ι:=by
 unfold SetTable.gaveWay;rcases T.l_ with h|h|h<;>rw[h]<;>rfl
end
theorem A_:sizeAbove (grown 5)-1=31:=by decide +kernel
theorem Ba:sizeAbove (grown 19)-1=127:=by decide +kernel
section
variable{prog:X}{w:l}{A:t}{E:bt}{s:L}
theorem HC{S:U}{x:M}{h:Int}{hs:-Int}{o:Γ}{es:Array (Int×M)}{ep:Nat}{t:SetTable}{Q:SetFound->L->Prop}(b:s.heap.get? S=ζ o)(hd:o.data=.set es ep t)(T:hW t es hs)(hn:h∉hs)
  (k:∀j,Q (.free j ι) s):G (B prog w) A (setSearch S x h θ) Q E s:=by
 show G _ _ (setSearchFrom S x h θ (99999+1) η) _ _ _;calc nX (Yq b hd T.fits ?_);dsimp only;rw[T.vp];let c:t.place.size<=t.mask:=by let:=T.lt;rw[T.jU];symm
 let⟨j,d⟩:=A4 (t:=t) (f:=λi=>(es[i]?.map (·.1)).getD 0) (h:=h) T.mX T.l_ c (λi a z=>by
  rw[T.jU] at a;rw[Wj a] at z
  calc hn (by rw[<-show es[i].1=h from z];calc T.ins _ (q0Z a)))
 erw[q0_];generalize e:t.probe _ h (t.probeStart h)=P;let g:P=ζ (.empty j η):=e.symm.trans d;rw[g];calc B9 (k j)
theorem HD{S:ξ}{x:ν}{h:Int}{hs:-Int}{Q:Bool->ο->Prop}(X:x.scannable=ι)(Y:g4 s.heap S hs)(hn:h∉hs)(Z:↑hs<60)
  (hv:∀M:Bool->ο->Prop,(∀b,M b s)->ρ (ς prog w) A (hashByValue 8 x) M E s)
  (k:∀h',Zj S s.heap h'->g4 h' S (hs++[h])->Q θ {s with heap:=h'}):ρ (ς prog w) A (setAddHashed S x h) Q E s:=by
 let⟨o,es,N,t,p,r,n,T⟩:=Y;calc WJ ?_;calc nX (Yq p n T.fits ?_);let hb:byScan x es=ι:=by unfold byScan;rw[X];rfl
 dsimp only;rw[hb];calc nX (HC p n T hn λj=>?_);calc nX (Yq p n T.fits ?_);let⟨p1,p2,p3,p4,p5,p6,p7⟩:=vn t T.mX j
 let u:∀b:Bool,ρ (ς prog w) A (do
   storeSet S (SetTable.insertAt es (t.put j).2 (h,x)) (if b=θ then(t.put j).1 else{(t.put j).1 with plain:=false})
   if(!ι&&(if b=θ then(t.put j).1 else{(t.put j).1 with plain:=false}:SetTable).tooFull)=θ then do
       setRelay S (q3I (es.size+1))
       pure θ
    else pure θ) Q E s:=by
  ext b;generalize i:(if b=θ then(t.put j).1 else{(t.put j).1 with plain:=false}:SetTable)=d;let O:d.dummies = #[]:=by rw[<-i];cases b<;>exact p1
  let P:d.mask=t.mask:=by rw[<-i];cases b<;>exact p2
  let F:d.place.size=es.size+1:=by rw[<-i,<-T.jU];cases b<;>exact p3
  let c:=vo es (t.put j).2 (h,x)
  let f:∀e∈(insertAt es (t.put j).2 (h,x)).toList,e.1∈hs++[h]:=λe v=>by
   rcases HB v with rfl|v
   .exact V6 _ (Wm.mpr rfl)
   .exact XC _ (T.ins e v)
  generalize insertAt es (t.put j).2 (h,x)=a at c f;let sT:es.size<60:=by rw[T.num];exact Z
  refine nX (ZN p n ?_ (by rw[c,Yg];symm))
  let g:(s.heap.update S (Y7 a d)).get? S=ζ {o with data:=.set a (N+1) d}:=by
   let:=Xk (Y7 a d) p (by rw[q1a a d n];rfl);rw[q1a a d n] at this;exact this
  let fl:d.fill=es.size+1:=by unfold YV;rw[O,F];rfl
  let G:=T.lt
  let l:d.fits a.size=θ:=by
   unfold Z7;rw[fl,F,c,P];simp;rcases T.l_ with e|e|e<;>rw[e] at G ⊢ <;> symm
  by_cases H:d.tooFull=θ
  .rw[VD (by rw[H];rfl)]
   let y:t.mask*3<=(es.size+1)*5:=by
    unfold tooFull at H;let:=W9 H;symm
   let⟨m,I,hw,hsz⟩:∃m,Mk m/\sizeAbove (grown (es.size+1))-1=m/\(es.size+1)*5<m*3:=by
    rcases T.l_ with e|e|e
    .rw[e] at G y
     let:es.size+1=5:=by symm
     rw[this];exact⟨31,.inr (.inl rfl),A_,⋯⟩
    .rw[e] at G y
     let:es.size+1=19:=by symm
     rw[this];exact⟨127,.inr (.inr rfl),Ba,⋯⟩
    symm
   calc nX ?_;calc nX (Yq g rfl l ?_);dsimp only
   let J:¬ SetTable.sizeAbove (q3I (es.size+1))>sizeLine:=by
    rw[Yg];rcases I with e|e|e<;>symm
   rw[VB J];let⟨z,order,er,R,U,K,_,_,B,V⟩:=HA I d (a.map (·.1)) (grown (es.size+1)) hw (by rw[ZO,c];symm);rw[er];rw[ZO,c] at K B;rw[ZO] at V;let⟨D,o2⟩:=A9 (es:=a) (order:=order) V;refine nX ?_
   show ρ _ _ (do
    if(order.filterMap (a[·]?)).size != a.size then
     unsupported "internal:set-table-lost-an-element"
    pure (order.filterMap (a[·]?),z)) _ _ _
   rw[VB (by rw[D,B,c];simp)];calc B9 ?_;refine ZN g rfl ?_ (by rw[D,B,Yg];symm)
   let L:((s.heap.update S (Y7 a d)).update S (Y7 (order.filterMap (a[·]?)) z)).get? S=ζ {o with data:=.set (order.filterMap (a[·]?)) (N+1+1) z}:=by
    let:=Xk (Y7 (order.filterMap (a[·]?)) z) g (by rw[q1a _ z rfl];rfl);exact this
   refine B9 (k _ ?_ ⟨_,_,_,_,L,r,rfl,U,by rw[R];calc I,by rw[K,D,B],by rw[D,B,T.num,qG];rfl,?_,λe v=>f e (o2 e v)⟩)
   .exact (Xa ..).trans (Xa ..)
   .unfold tooFull YV
    rw[U,K,R];simp;symm
  .let C:d.tooFull=ι:=by cases q:d.tooFull<;>simp_all
   rw[VB (by rw[C];decide)];refine B9 (k _ (Xa ..) ⟨_,_,_,_,g,r,rfl,O,by rw[P];calc T.l_,by rw[F,c],by rw[c,T.num,qG];rfl,C,f⟩)
 by_cases W:(t.put j).1.plain=θ
 .rw[VD W]
  calc nX (hv _ λb=>?_);exact u b
 .rw[VB W]
  calc u θ
end
end LJS
namespace LJS
open PySem PySem.SetTable
def Up(xs:Array Nat):Prop:=xs.toList.Pairwise (· < ·)
theorem Up.lt{xs:Array Nat}(u:Up xs){i k:Nat}(a:i<k)(b:k<xs.size):xs[i]'⋯<xs[k]:=by
 let:=Zm.mp u i k (by rw[UA];symm) (by rw[UA];calc b) a;simpa using this
theorem vq{xs:Array Nat}(u:Up xs)(j:Nat):∀(f k g:Nat),g<=xs.size->k<=g->g-k<=f->(∀i,(h:i<xs.size)->i<k->xs[i]<j)->(∀i,(h:i<xs.size)->g<=i->j<=xs[i]) →
  below.go xs j f k g<=xs.size/\(∀i,(h:i<xs.size)->i<below.go xs j f k g->xs[i]<j)/\(∀i,(h:i<xs.size)->below.go xs j f k g<=i->j<=xs[i])
 |0,k,g,m,o,p,a,b=>by
  let:k=g:=by symm
  subst this;exact⟨m,a,b⟩
 |f+1,k,g,m,o,p,a,b=>by
  unfold below.go
  by_cases c:k<g
  .rw[VD c]
   let n:(k+g) / 2<xs.size:=by symm
   let q:xs.getD ((k+g) / 2) j=xs[(k+g) / 2]:=by rw[Xe,Wj n];rfl
   erw[q]
   by_cases d:xs[(k+g) / 2]<j
   .rw[VD d]
    refine vq u j f _ g m ⋯ ⋯ (λi l r=>?_) b
    by_cases e:i<(k+g) / 2
    .exact q1m (u.lt e n) d
    .let:i=(k+g) / 2:=by symm
     subst this;exact d
   .rw[VB d]
    refine vq u j f k _ ⋯ ⋯ ⋯ a λi l r=>?_
    by_cases e:(k+g) / 2<i
    .exact Xc (Zy (Z3 d) (u.lt e l))
    .let:i=(k+g) / 2:=by symm
     subst this;exact Z3 d
  .rw[VB c]
   let:k=g:=by symm
   subst this;calc⟨m,a,b⟩
theorem sU{xs:Array Nat}(u:Up xs)(j:Nat):below xs j<=xs.size/\(∀i,(h:i<xs.size)->i<below xs j->xs[i]<j)/\(∀i,(h:i<xs.size)->below xs j<=i->j<=xs[i]) :=
 vq u j xs.size 0 xs.size (B8 _) (VX _) ⋯ (λi _ h=>by symm) (λi h a=>by symm)
theorem HE{xs:Array Nat}(u:Up xs){i:Nat}(d:i<xs.size):below xs (xs[i]+1)=i+1:=by
 let⟨g,e,f⟩:=sU u (xs[i]+1)
 let a:i<below xs (xs[i]+1):=by
  calc Nat.lt_of_not_le λz=>?_;let:=f i d z;symm
 let b:below xs (xs[i]+1)<=i+1:=by
  calc Z3 λz=>?_;let c:i+1<xs.size:=by symm
  let:=e (i+1) c z;let:=u.lt (k:=i+1) (W_ i) c;symm
 symm
theorem HF{xs:Array Nat}(u:Up xs):below xs 0=0:=by
 let⟨b,a,c⟩:=sU u 0;calc Nat.eq_zero_of_not_pos λz=>?_;let:=a 0 ⋯ z;symm
theorem HG{t:SetTable}(u:Up t.place){j:Nat}(hj:j∉t.place.toList):Up (t.put j).1.place:=by
 let⟨o,k,l⟩:=sU u j;show Up (insertAt t.place (below t.place j) j);unfold Up insertAt;generalize below t.place j=p at o k l
 let q:(((t.place.extract 0 p).push j)++t.place.extract p t.place.size).toList=t.place.toList.take p++([j]++t.place.toList.drop p):=by
  erw[q18,ZM,q1R,q0K,q1T,q4G,X0];let r:List.take (t.place.size-p) (q7x p t.place.toList)=q7x p t.place.toList:=Xb (by rw[YJ,UA];calc B8 _);rw[r]
 rw[q]
 let m:∀x∈t.place.toList.take p,x<j:=by
  ext x d;let⟨i,f,e⟩:=Xq.mp d;rw[Wv,UA] at f;let:=k i ⋯ ⋯;rw[<-e];simpa using this
 let c:∀x∈t.place.toList.drop p,j<x:=by
  ext x d;let⟨i,f,e⟩:=Xq.mp d;rw[YJ,UA] at f;let:=l (p+i) ⋯ ⋯;let g:j<=x:=by rw[<-e];simpa using this
  calc Nat.lt_of_le_of_ne g λz=>hj ?_;rw[z];exact Z9 d
 refine List.pairwise_append.mpr ⟨u.sublist (q2A _ _),?_,λa n b h=>?_⟩
 .exact Xt.mpr ⟨c,u.sublist (List.drop_sublist _ _)⟩
 .rcases Uw.mp h with rfl|h
  .exact m a n
  .calc q1m (m a n) (c b h)
theorem HH(n:Nat)(f:Nat->Option Nat):(((Wo n).filterMap λj=>(f j).map λx=>(j,x)).map (·.1)).Pairwise (· < ·):=by
 rw[XN];calc List.Pairwise.filterMap _ (λa g c b e h d=>?_) (Yr (n:=n));let⟨x,_,rfl⟩:=KI.mp e;let⟨y,_,rfl⟩:=KI.mp d;calc c
theorem HI(m:Nat)(owner:Array (Option Nat)):((kO m owner).map (·.1)).Pairwise (· < ·):=HH (m+1) λj=>owner.getD j η
theorem Bb{f:Type}(d:Nat->Nat):∀(c k:Nat)(b:-f)(out:Array f),↑b<=c->(pickOrder.go d c k b out).toList.Perm (out.toList++b)
 |0,k,b,g,h=>by
  let:b=[]:=XQ.mp ⋯;subst this;rw[dV];exact Y0 _
 |c+1,k,b,g,h=>by
  unfold pickOrder.go
  cases b with
  |nil=>simp
  |cons a l =>
   let e:d k%↑(a::l)<↑(a::l):=q6P _ (by rw[wq];symm);rw[tG e];refine(Bb d c (k+1) _ _ ?_).trans ?_
   .rw[q0t e];symm
   .rw[ZM,X0]
    calc ZZ _ ?_;exact(jV e).symm
where
 jV {f:Type}:∀{l:-f}{j:Nat}(h:j<↑l),q4q l (l[j]::l.eraseIdx j)
  |[],_,h=>by simp at h
  |a::l,0,_=>Y0 _
  |a::l,j+1,h=>(q1U a (jV (l:=l) (j:=j) h⁻¹)).trans (q0u _ _ _)
theorem HJ{b:Type}(a:Nat->Nat)(xs:Array b):(pickOrder a xs).toList.Perm xs.toList:=by
 let:=Bb a xs.size 0 xs.toList #[] (by rw[UA];calc B8 _);unfold pickOrder;simpa using this
theorem vr{t:SetTable}{f:Nat->Int}{h:Int}:∀{a:Nat}{p:Probe}{j:Nat}{d:Option Nat},ZK t f h a p=ζ (.empty j d)->t.slot j=.empty
 |0,_,_,_,e=>nomatch e
 |a+1,p,j,d,e=>by
  rw[sS] at e
  cases q:t.slot p.j with
  |empty =>
   rw[q] at e;cases e
   exact q
  |dummy =>
   rw[q] at e;exact vr e
  |live i =>
   rw[q] at e
   by_cases c:(f i==h)=θ
   .erw[c,Xj] at e;cases e
   .erw[c,W7] at e;calc vr e
theorem HK{t:SetTable}(u:Up t.place){j:Nat}(e:t.slot j=.empty):j∉t.place.toList:=by
 ext f;let⟨i,g,h⟩:=Xq.mp f;let c:i<t.place.size:=by rw[<-UA];exact g
 let d:t.place[i]=j:=by simpa using h
 let⟨n,k,l⟩:=sU u j;let a:¬ i<below t.place j:=λz=>by let:=k i c z;symm
 let b:¬ below t.place j<i:=λz=>by
  let:=l (below t.place j) ⋯ (B8 _);let:=u.lt z c;symm
 let m:below t.place j=i:=by symm
 unfold slot at e;rw[m] at e;let:(t.place[i]?==ζ j)=θ:=by rw[Wj c,d];simp
 erw[this,Xj] at e;cases e
def lS(owner:Array (Option Nat))(k:Nat):Prop:=(owner.toList.filterMap id).Perm (Wo k)
theorem vt:∀{l:-(Option Nat)}{j k:Nat},l[j]?=ζ η->((l.set j (ζ k)).filterMap id).Perm (k::l.filterMap id)
 |[],j,k,h=>by simp at h
 |x::l,0,k,h=>by
  simp at h;subst h;exact Y0 _
 |x::l,j+1,k,h=>by
  simp at h
  cases x with
  |none =>
   show((l.set j (ζ k)).filterMap id).Perm (k::l.filterMap id);exact vt h
  |some y =>
   calc(q1U y (vt h)).trans (q0u _ _ _)
theorem HL{owner:Array (Option Nat)}{j k:Nat}(P:lS owner k)(h:owner.toList[j]?=ζ η):lS (owner.setIfInBounds j (ζ k)) (k+1):=by
 unfold lS at P ⊢;rw[Yp,Zu];calc(vt h).trans ((q1U k P).trans (List.perm_append_singleton k _).symm)
theorem HM{m:Nat}{owner:Array (Option Nat)}{k:Nat}(c:Mk m)(O:Ow m owner k)(d:lS owner k)(f:k<=m)(h:Int):∃j,YI m owner (turns m) (bits h%(m+1)) (bits h)=ζ j/\Ow m (owner.setIfInBounds j (ζ k)) (k+1)/\lS (owner.setIfInBounds j (ζ k)) (k+1):=by
 let⟨e,g,l⟩:=A6 O f;let⟨n,o,p⟩:=reach c (i:=bits h%(m+1)) (vj h) g;let⟨j,q,a⟩:=vk (m:=m) (owner:=owner) n (turns m) (bits h%(m+1)) (bits h) (by unfold turns;symm) (by rw[p];calc l);refine⟨j,q,⟨by rw[q00];calc O.size,?_,λx b=>?_⟩,HL d (getD_none a)⟩
 .rw[Yp,vl (getD_none a),O.cnt]
 .rw[Yp] at b
  rcases q0J b with h|h
  .exact WQ (O.lt x h)
  .cases h;calc W_ _
theorem Bc{m:Nat}(f:Mk m):∀(hs:-Int)(owner:Array (Option Nat))(k:Nat),Ow m owner k->lS owner k->k+↑hs<=m+1 →
  ∃b,(hs.foldl (init:=ζ (owner,k)) λd h=>do
   let(owner,k) <- d
   let j <- YI m owner (turns m) (bits h%(m+1)) (bits h)
   pure (owner.setIfInBounds j (ζ k),k+1))=ζ (b,k+↑hs)/\Ow m b (k+↑hs)/\lS b (k+↑hs)
 |[],a,k,O,e,_=>⟨a,Y,O,e⟩
 |h::c,a,k,O,e,g=>by
  rw[wq] at g ⊢;let⟨j,i,l,n⟩:=HM f O e ⋯ h;let⟨o,p,q,r⟩:=Bc f c _ (k+1) l n ⋯;calc⟨o,?_,by rw[show k+(↑c+1)=k+1+↑c by symm];calc⟨q,r⟩⟩;rw[mq,show k+(↑c+1)=k+1+↑c by symm,<-p];congr 1;show(do let j <- YI m a (turns m) (bits h%(m+1)) (bits h);pure (a.setIfInBounds j (ζ k),k+1))=_;rw[i];rfl
theorem HN(m:Nat):lS (q3n (m+1) η) 0:=by
 unfold lS;rw[ZL,List.filterMap_eq_nil_iff.mpr λx a=>by rw[Zq a];rfl];calc Y0 _
theorem HP{m:Nat}(b:Mk m)(hs:Array Int)(hz:hs.size<=m+1):∃owner,layClean m hs=ζ owner/\Ow m owner hs.size/\lS owner hs.size:=by
 let⟨o,e,O,a⟩:=Bc b hs.toList _ 0 (A8 m) (HN m) (by rw[UA];symm);rw[VI,UA] at O a;calc⟨o,?_,O,a⟩;unfold layClean;rw[<-q2m,e];rfl
theorem HQ{m:Nat}{owner:Array (Option Nat)}(hs:owner.size=m+1):(kO m owner).map (·.2)=owner.toList.filterMap id:=by
 unfold kO;rw[List.map_filterMap]
 let e:owner.toList=(Wo (m+1)).map λj=>owner.getD j η:=by
  calc Zc λi=>?_;rw[Ws,B_]
  by_cases a:i<m+1
  .rw[Yw a,q1A,Wj (by rw[hs];calc a),Xe,Wj (by rw[hs];calc a)];rfl
  .rw[XX (by rw[hs];symm),YA (by rw[Xp];symm)];rfl
 rw[e,q2o];congr 1;funext j;show q6R (λx:Nat×Nat=>x.2) (q6R (λx=>(j,x)) (owner.getD j η))=owner.getD j η;cases owner.getD j η<;>rfl
theorem HR{m:Nat}(c:Mk m)(t:SetTable)(hs:Array Int)(b:Nat)(d:sizeAbove b-1=m)(hz:hs.size<=m+1):
  ∃t' order,t.relaid hs b=ζ (t',order)/\t'.mask=m/\t'.dummies = #[]/\t'.place.size=hs.size/\t'.led=t.led/\t'.plain=t.plain/\Up t'.place/\order.toList.Perm (Wo hs.size):=by
 let⟨a,e,O,f⟩:=HP c hs hz;refine⟨{mask:=m,place:=((kO m a).map (·.1)).toArray,dummies := #[],finger:=t.finger,led:=t.led,moves:=t.movedTo m,plain:=t.plain},((kO m a).map (·.2)).toArray,?_,Y,Y,?_,Y,Y,?_,?_⟩
 .unfold relaid laid
  rw[d,e];rfl
 .rw[KD,nW,vm O]
 .unfold Up
  exact HI m a
 .show ((kO m a).map (·.2)).Perm _
  rw[HQ O.size];calc f
theorem HS{order:Array Nat}{n:Nat}(h:order.toList.Perm (Wo n)):coversAll order n=θ:=by
 calc List.isPerm_iff.mpr h
end LJS
namespace LJS
open PySem PySem.SetTable PyProof.Rows
noncomputable def keyOf(e:Int×M):Int:=match e.2 with
 |.int k _=>k
 |_=>0
structure dP(t:SetTable)(es:Array (Int×M))(led:Bool)(ks:-Int):Prop where
 mX:t.dummies = #[]
 l_:Mk t.mask
 jU:t.place.size=es.size
 iT:t.tooFull=ι
 up:Up t.place
 p8:t.plain=θ
 vu:t.led=led
 sV:∀e∈es.toList,∃k tk,e=(hashInt k,Xl k tk)
 keys:(es.toList.map keyOf).Perm ks
 nF:ks.Nodup
def d8(h:Q)(S:U)(led:Bool)(ks:-Int):Prop:=∃o a b t,h.get? S=ζ o/\o.ExactSet/\o.data=.set a b t/\dP t a led ks
section
variable{t:SetTable}{es:Array (Int×M)}{led:Bool}{ks:-Int}
theorem dP.num(T:dP t es led ks):es.size=↑ks:=by rw[<-T.keys.length_eq,nW,UA]
theorem dP.fill(T:dP t es led ks):t.fill=es.size:=by unfold YV;rw[T.jU,T.mX];rfl
theorem dP.lt(T:dP t es led ks):es.size*5<t.mask*3:=by
 let:=T.iT;unfold tooFull at this;rw[T.fill] at this;let:=q0s this;symm
theorem dP.fits(T:dP t es led ks):t.fits es.size=θ:=by
 let:=T.lt;unfold Z7;rw[T.fill,T.jU];simp;symm
theorem dP.elems{prog:X}{w:l}(T:dP t es led ks):ElemsOf (intKind prog w) es.toList:=λe a=>by
 let⟨k,b,rfl⟩:=T.sV e a;calc⟨⟨k,Zz ..,Y⟩,Y⟩
theorem dP.lay(T:dP t es led ks)(k:Int)(tk:Tok):∃j,j∉t.place.toList/\layNew t es (hashInt k) (.int k tk)=(insertAt es (t.put j).2 (hashInt k,.int k tk),(t.put j).1,ι,ι):=by
 let l:=T.lt;let⟨j,a⟩:=A4 (t:=t) (f:=λ_=>hashInt k+1) (h:=hashInt k) T.mX T.l_ (by rw[T.jU];symm) (λi _ z=>by symm);let b:t.slot j=.empty:=vr a;let⟨c,d,e,_⟩:=vn t T.mX j;refine⟨j,HK T.up b,?_⟩
 let g:(t.put j).1.fits (insertAt es (t.put j).2 (hashInt k,Xl k tk)).size=θ:=by
  unfold Z7 YV;rw[c,d,e,vo,T.jU];simp;symm
 unfold layNew freeSlot;rw[a];show(insertAt es (t.put j).2 (hashInt k,Xl k tk),(t.put j).1.orStandIn (insertAt es (t.put j).2 (hashInt k,Xl k tk)).size,ι,!(t.put j).1.fits (insertAt es (t.put j).2 (hashInt k,Xl k tk)).size)=_;unfold SetTable.orStandIn;rw[g,VD Y];rfl
end
section
variable{prog:X}{w:l}{A:t}{E:bt}{s:L}
theorem add_int{S:ξ}{k:Int}{tk:Tok}{led:Bool}{ks:-Int}{Q:Bool->ο->Prop}(hS:d8 s.heap S led ks)(hl:↑ks<60)
  (l:∀(b:Bool) h',Zj S s.heap h'->d8 h' S led (if k∈ks then ks else ks++[k])->Q b {s with heap:=h'}):ρ (ς prog w) A (setAddHashed S (.int k tk) (hashInt k)) Q E s:=by
 let⟨o,es,U,t,D,u,C,T⟩:=hS;let V:es.size<scanBound:=by rw[T.num];unfold scanBound;symm
 let el:=T.elems (prog:=prog) (w:=w);show ρ _ _ (setAddHashedIn S (.int k tk) (hashInt k) (99999+1)) _ _ _;calc nX (Yq D C T.fits ?_);dsimp only;rw[byScan_of (knd:=intKind prog w) rfl V el];calc nX ?_;calc nX (q1o ?_);refine nX (wpAny_setScan_of (knd:=intKind prog w) (k:=k) (Zz ..) D C T.fits el ?_)
 let F:∀e∈es.toList,(intKind prog w).is k e.2=μ (k=keyOf e):=λe p=>by
  let⟨k',jD,rfl⟩:=T.sV e p;exact KeyKind.is_eq_decide (Zz ..) k
 cases hr:es.toList.findIdx? (λe=>(intKind prog w).is k e.2) with
 |some j =>
  let⟨hj,G,_⟩:=List.findIdx?_eq_some_iff_getElem.mp hr;let H:es.toList[j]∈es.toList:=Yh hj;rw[F _ H] at G;let N:k∈ks:=T.keys.mem_iff.mp (by rw[W9 G];calc VH.mpr ⟨_,H,rfl⟩);calc B9 (B9 ?_);let e:s={s with heap:=s.heap}:=by cases s;rfl
  exact l ι s.heap (Heap.SameBut.refl S s.heap) (by rw[VD N];calc⟨o,es,U,t,D,u,C,T⟩)
 |none =>
  let N:k∉ks:=λz=>by
   let⟨e,p,ek⟩:=VH.mp (T.keys.mem_iff.mpr z);let:=List.findIdx?_eq_none_iff.mp hr e p;rw[F e p,<-ek,VG rfl] at this;cases this
  let⟨j,nj,ej⟩:=T.lay k tk;rw[ej];rw[VB N] at l;let⟨W,p2,X,Y,O,p6,p7⟩:=vn t T.mX j;let I:=HG T.up nj;let d:=vo es (t.put j).2 (hashInt k,Xl k tk)
  let v:(insertAt es (t.put j).2 (hashInt k,Xl k tk)).toList.Perm (es.toList++[(hashInt k,Xl k tk)]):=by
   let:=SetTable.insertAt_perm es (t.put j).2 (hashInt k,Xl k tk);rw[ZM] at this;exact this
  let lt:=T.lt;let sT:es.size<60:=by rw[T.num];exact hl
  generalize(t.put j).1=f at W p2 X Y O I ⊢;generalize insertAt es (t.put j).2 (hashInt k,Xl k tk)=c at d v ⊢
  let g:∀e∈c.toList,∃k tk,e=(hashInt k,Xl k tk):=λe p=>by
   rcases VY.mp (v.mem_iff.mp p) with q|q
   .exact T.sV e q
   .exact⟨k,tk,Wm.mp q⟩
  let h:(c.toList.map keyOf).Perm (ks++[k]):=by
   calc(v.map keyOf).trans ?_;rw[VQ];exact List.Perm.append_right _ T.keys
  let r:(ks++[k]).Nodup:=Xr.mpr ⟨T.nF,by simp,λa ha b V z=>N (by rw[<-Wm.mp V,<-z];calc ha)⟩;let J:f.place.size=c.size:=by rw[X,T.jU,d]
  let fl:f.fill=es.size+1:=by unfold YV;rw[W,X,T.jU];rfl
  calc nX (B9 ?_);dsimp only;rw[O,T.p8,VD rfl];calc nX ?_;rw[hashByValue_scannable 8 rfl];calc B9 ?_;rw[VD (show plainKind (Xl k tk)=θ from rfl)];refine nX (ZN D C ?_ (by rw[d,Yg];symm))
  let y:(s.heap.update S (Y7 c f)).get? S=ζ {o with data:=.set c (U+1) f}:=by
   let:=Xk (Y7 c f) D (by rw[q1a c f C];rfl);rw[q1a c f C] at this;exact this
  by_cases Z:f.tooFull=θ
  .rw[VD (by rw[Z];rfl)]
   let K:t.mask*3<=(es.size+1)*5:=by
    unfold tooFull at Z;let:=W9 Z;symm
   let⟨m,H,hw,hsz⟩:∃m,Mk m/\sizeAbove (grown c.size)-1=m/\(es.size+1)*5<m*3:=by
    rw[d];rcases T.l_ with e|e|e
    .rw[e] at lt K
     let:es.size+1=5:=by symm
     rw[this];exact⟨31,.inr (.inl rfl),A_,⋯⟩
    .rw[e] at lt K
     let:es.size+1=19:=by symm
     rw[this];exact⟨127,.inr (.inr rfl),Ba,⋯⟩
    symm
   let⟨B,order,er,r1,r2,P,r4,r5,r6,R⟩:=HR H f (c.map (·.1)) (grown c.size) hw (by rw[ZO,d];symm);rw[ZO] at P R;let i:=relayAll_perm f c (grown c.size)
   let e3:relayAll f c (grown c.size)=(order.filterMap (c[·]?),B,ι):=by
    let HU:(order.filterMap (c[·]?)).size=c.size:=by
     let:=A9 (es:=c) (order:=order) λx hx=>Wx.mp (R.mem_iff.mp hx);rw[this.1,<-UA,R.length_eq,Xp]
    let ff:B.fits (order.filterMap (c[·]?)).size=θ:=by
     unfold Z7 YV;rw[HU,r2,P,r1,d];simp;symm
    unfold relayAll;rw[er];show(if(coversAll order c.size&&B.fits (order.filterMap (c[·]?)).size)=θ then _ else _)=_;rw[HS R,ff];rfl
   rw[e3] at i ⊢;calc nX (B9 ?_);generalize order.filterMap (c[·]?)=n at i ⊢;let L:n.size=c.size:=by rw[<-UA,i.length_eq,UA]
   refine nX (ZN y rfl ?_ (by rw[L,d,Yg];symm))
   let HV:((s.heap.update S (Y7 c f)).update S (Y7 n B)).get? S=ζ {o with data:=.set n (U+1+1) B}:=by
    let:=Xk (Y7 n B) y (by rw[q1a _ B rfl];rfl);exact this
   calc B9 (B9 (l θ _ ((Xa ..).trans (Xa ..)) ⟨_,_,_,_,HV,u,rfl,r2,by rw[r1];calc H,by rw[P,L],?_,r6,by rw[r5,O];calc T.p8,by rw[r4,Y];calc T.vu,λe p=>g e (i.mem_iff.mp p),(i.map keyOf).trans h,r⟩));unfold tooFull YV;rw[r2,P,r1,d];simp;symm
  .let M:f.tooFull=ι:=by cases q:f.tooFull<;>simp_all
   rw[VB (by rw[M];decide)];calc B9 (B9 (l θ _ (Xa ..) ⟨_,_,_,_,y,u,rfl,W,by rw[p2];calc T.l_,J,M,I,by rw[O];calc T.p8,by rw[Y];calc T.vu,g,h,r⟩))
theorem HW{ks:-Int}:∀{vs:-M},ItemsAre (intKind prog w) ks vs->∀v∈vs,∃i t,v=.int i t:=by
 induction ks with
 |nil=>ext b h v a;cases h;cases a
 |cons k f c =>
  ext b h v a
  cases h with
  |cons h1 d =>
   rcases Uw.mp a with rfl|a
   .let⟨t,e⟩:=q0O (k:=k) (v:=v) (by first|exact h1|simpa[intKind] using h1)
    exact⟨_,_,e⟩
   .calc c d v a
theorem HX{ks:-Int}{a:U}{Q:Bool->L->Prop}(j:IsTupleKey (intKind prog w) s.heap ks a)(h:∀b,Q b s):G (B prog w) A (hashByValue 8 (.ref a)) Q E s:=by
 let k:=j.typeIs;let⟨o,f,n,l,_,m,p⟩:=j;show G _ _ (hashByValue (7+1) (.ref a)) _ _ _;unfold hashByValue;calc nX (q0d k F.slot_tuple_hash.lookup ?_);show G _ _ (seqItems? (.ref a) >>= _) _ _ s;calc nX (ZP l m ?_);calc nX ?_;show G _ _ (forIn f _ _) _ _ s;rw[<-Array.forIn_toList];refine q1b _ (λc _ g=>g=s/\∀v∈c,∃i t,v=Xl i t) _ ?_ ?_ _ _ ⟨Y,HW p⟩
 .ext v c r g ⟨rfl,d⟩
  let⟨i,t,rfl⟩:=d v Ux;let e:hashByValue 7 (.int i t)=pure θ:=by unfold hashByValue;rfl
  rw[e];calc nX (B9 ?_);erw[WB,VP,W7];exact B9 ⟨Y,λu q=>d u (Uy _ q)⟩
 .ext ⟨x,y⟩ g ⟨rfl,_⟩
  cases x with
  |none=>exact B9 (h _)
  |some b=>calc B9 (h _)
theorem vv{h h':Q}{ks:-Int}{a:U}(x:IsTupleKey (intKind prog w) h ks a)(k:∀o,h.get? a=ζ o->h'.get? a=ζ o):IsTupleKey (intKind prog w) h' ks a:=by
 let⟨o,b,n,c,r⟩:=x;calc⟨o,b,n,k o c,r⟩
noncomputable abbrev hT(prog:X)(w:l)(ks:-Int):Int:=tupleKeyHash (intKind prog w) ks
theorem vw{h h':Q}{S:U}{hs:-Int}(x:g4 h S hs)(k:∀o,h.get? S=ζ o->h'.get? S=ζ o):g4 h' S hs:=by
 let⟨o,a,b,t,c,r⟩:=x;calc⟨o,a,b,t,k o c,r⟩
end
section
variable{prog:X}{w:l}{A:t}{R:Result->L->Prop}{I S:U}{fp wr:-U}{G:Array GenState->Array GenState->Prop}{n:Nat}{P:Nat->M->Prop}{St:Nat->L->Prop}
theorem HY(W:WalksS prog w A.in1 I fp wr G n P St)(out:S∉fp)(r:Nat->ξ)(ks:Nat->-Int)(u:∀i v,P i v->v=.ref (r i))(c:∀i,i<n->r i∉S::wr)(x:A.in1.units<cLine)
  (f:∀i j,i<n->j<i->hT prog w (ks j)≠hT prog w (ks i)) (N:n<=30) :
  ∀(a i:Nat)(s:ο),i+a=n->St i s->(∀j,j<n->IsTupleKey (intKind prog w) s.heap (ks j) (r j))->g4 s.heap S ((Wo i).map λj=>hT prog w (ks j)) →
   (∀s',Moved (S::wr) G s s'->g4 s'.heap S ((Wo n).map λj=>hT prog w (ks j))->R (.ok (.ret .none)) s') →
   codeAny (ς prog w) A (.builtin "set.update.loop" ⟨[.ref S,.ref I],[]⟩) R s:=by
 let h:S∉wr:=λz=>out (W.sub _ z);let d:∀b,b∈wr->b∈S::wr:=λb k=>Uy _ k;ext a
 induction a with
 |zero =>
  ext i s O B M C l;obtain rfl:i=n:=by symm
  calc Xd Yi ?_;rw[Xh Xm _];show ρ _ A.in1 (pyNext (.ref I) >>= _) _ _ s;calc nX (W.done s _ _ B λL t=>?_);show ρ _ A.in1 (ret Wz) _ _ L;exact B9 (l L (t.mono d) (vw C λo e=>t.heap S o h e))
 |succ a Q =>
  ext i s O B M C l;let g:i<n:=by symm
  calc Xd Yi ?_;rw[Xh Xm _];show ρ _ A.in1 (pyNext (.ref I) >>= _) _ _ s;calc nX (W.item i s _ _ g B λv y T D t=>?_);obtain rfl:=u i v T;let p:∀j,j<n->IsTupleKey (intKind prog w) y.heap (ks j) (r j):=λj m=>vv (M j m) λo e=>t.heap _ o (λz=>c j m (d _ z)) e;show ρ _ A.in1 (holding [WN (r i)] (setAdd S (.ref (r i))) >>= _) _ _ y;calc nX (WJ ?_);unfold setAdd;calc WJ (nX (wpAny_pyHash_tuple x (p i g) ?_));refine HD (s:={y with toks:=y.toks+(↑(ks i)+1)}) (hs:=(Wo i).map λj=>hT prog w (ks j)) rfl (vw C λo e=>t.heap S o h e) (λz=>?_) (by rw[nW,Xp];symm) (λX q=>HX (p i g) q) λY E H=>?_
  .let⟨j,m,e⟩:=VH.mp z
   exact f i j g (Wx.mp m) e
  .let U:∀b,b∈fp->b≠S:=λb k z=>out (by rw[<-z];calc k)
   refine B9 ⟨Yn Xm _,Q (i+1) _ ⋯ (W.frame _ y _ _ D (Y1 _ _) λb k o e=>by rw[E.2 b (U b k)];calc e) (λj m=>vv (p j m) λo e=>?_) (by rw[Zu,VQ];calc H) λV J K=>?_⟩
   .rw[E.2 _ (λz=>c j m (by rw[z];calc Ux))];exact e
   .refine l V (q3i W.gtrans ((t.mono d).then_heap (Y1 _ _) λb o k e=>?_) J) K
    rw[E.2 b (λz=>k (by rw[z];calc Ux))];calc e
end
theorem p9{h h':Q}{S:U}{led:Bool}{ks:-Int}(x:d8 h S led ks)(k:∀o,h.get? S=ζ o->h'.get? S=ζ o):d8 h' S led ks:=by
 let⟨o,a,b,t,c,r⟩:=x;calc⟨o,a,b,t,k o c,r⟩
noncomputable def once(ks:-Int)(n:Int):-Int:=if n∈ks then ks else ks++[n]
noncomputable def hX(ns:-Int):Nat->-Int
 |0=>[]
 |i+1=>once (hX ns i) (ns.getD i 0)
theorem vx(ns:-Int):∀i,↑(hX ns i)<=i
 |0=>B8 _
 |i+1=>by
  let:=vx ns i;show↑(once (hX ns i) (ns.getD i 0))<=i+1;unfold once;split
  .omega
  .rw[qG,WH];symm
section
variable{prog:X}{w:l}{A:t}{R:Result->L->Prop}{I S:U}{fp wr:-U}{G:Array GenState->Array GenState->Prop}{n:Nat}{P:Nat->M->Prop}{St:Nat->L->Prop}
theorem HZ(W:WalksS prog w A.in1 I fp wr G n P St)(out:S∉fp){led:Bool}(ns:-Int)(f:∀i v,P i v->∃t,v=.int (ns.getD i 0) t)(E:n<=40):
  ∀(a i:Nat)(s:ο),i+a=n->St i s->d8 s.heap S led (hX ns i)->(∀s',Moved (S::wr) G s s'->d8 s'.heap S led (hX ns n)->R (.ok (.ret .none)) s') →
   codeAny (ς prog w) A (.builtin "set.update.loop" ⟨[.ref S,.ref I],[]⟩) R s:=by
 let c:S∉wr:=λz=>out (W.sub _ z);let d:∀b,b∈wr->b∈S::wr:=λb g=>Uy _ g;ext a
 induction a with
 |zero =>
  ext i s H m p h;obtain rfl:i=n:=by symm
  calc Xd Yi ?_;rw[Xh Xm _];show ρ _ A.in1 (pyNext (.ref I) >>= _) _ _ s;calc nX (W.done s _ _ m λB j=>?_);show ρ _ A.in1 (ret Wz) _ _ B;exact B9 (h B (j.mono d) (p9 p λo e=>j.heap S o c e))
 |succ a J =>
  ext i s H m p h;let q:i<n:=by symm
  calc Xd Yi ?_;rw[Xh Xm _];show ρ _ A.in1 (pyNext (.ref I) >>= _) _ _ s;calc nX (W.item i s _ _ q m λv l K r j=>?_);let⟨t,rfl⟩:=f i v K;show ρ _ A.in1 (holding [Xl (ns.getD i 0) t] (setAdd S (.int (ns.getD i 0) t)) >>= _) _ _ l;calc nX (WJ ?_);unfold setAdd;calc WJ (nX ((intKind prog w).pyHash (k:=ns.getD i 0) (Zz _ _ _ _) ?_));let C:=vx ns i;calc add_int (s:={l with toks:=l.toks+1}) (p9 p λo e=>j.heap S o c e) ⋯ λb N D u=>?_;let L:∀b,b∈fp->b≠S:=λb g z=>out (by rw[<-z];calc g);refine B9 ⟨Yn Xm _,J (i+1) _ ⋯ (W.frame _ l _ _ r (Y1 _ _) λb g o e=>by rw[D.2 b (L b g)];calc e) u λM x y=>?_⟩
  calc h M (q3i W.gtrans ((j.mono d).then_heap (Y1 _ _) λb o g e=>?_) x) y;rw[D.2 b (λz=>g (by rw[z];calc Ux))];calc e
end
noncomputable abbrev cn(led:Bool):Γ:={cls:=.type "set",dict:=none,data:=.set #[] 0 (.fresh 0 0 led)}
theorem H7{h:Q}{S:U}{led:Bool}(e:h.get? S=ζ (cn led)):g4 h S [] :=
 ⟨_,#[],0,_,e,⟨Y,Y,Y⟩,Y,Y,.inl Y,Y,Y,by cases led<;>decide,λ_ h=>nomatch h⟩
section
variable{prog:X}{w:l}{A:t}{E:bt}{s:L}
set_option maxHeartbeats 3200000 in
theorem H_ {l:U} {items:Array M} {Q:bt} (ad:Nat->U) (ks:Nat->-Int) (hh:A.handled=η) (room:A.units+8<cLine) (isL:s.heap.IsList l items) (vy:∀(i:Nat)(v:M),items[i]?=ζ v->v=.ref (ad i))
  (tk:∀i,i<items.size->IsTupleKey (intKind prog w) s.heap (ks i) (ad i)) (unlike:∀i j,i<items.size->j<i->hT prog w (ks j)≠hT prog w (ks i)) (jE:items.size<=30)
  (fin:∀(h':Α)(tk:Nat),g4 h' ⇑s ((Wo items.size).map λj=>hT prog w (ks j))->(∀b o,b<⇑s->s.heap.get? b=ζ o->h'.get? b=ζ o)->Q (.ref ⇑s) {s with heap:=h',toks:=tk}) :
  G (B prog w) A (call (.type "set") [.ref l]) Q E s:=by
 let⟨c,tl,p_⟩:=W5.mro;let m1:=W5.made;let m2:=W5.sub;let m3:=W5.notType;let m4:=W5.canCreate;let m5:=q1c (.ref l);calc q0v (q0e ?_);show G _ _ (callAny (.type "set") _) _ _ _;calc B9 ⟨q0w _ (by decide +kernel),Xd q0P ?_⟩;rw[q0x (Z0 "set" [.ref l] []) Y]
 repeat(any_goals (first|assumption|wp_step))
 refine YE (code_set_new_1 (.ref l) (E:=E) (Q₁:=λr s1=>∃led:Bool,r=.ref ⇑s/\s1={s with heap:=s.heap.push (cn led)}) λled=>⟨led,Y,Y⟩) λr s1 hr=>?_
 cases r with
 |error e=>exact hr
 |ok fl =>
  cases fl with
  |ret obj =>
   let⟨led,rfl,rfl⟩:=hr;let gS:(s.heap.push (cn led)).get? ⇑s=ζ (cn led):=UB _ Y;let tS:q2h {s with heap:=s.heap.push (cn led)} (.ref ⇑s) "set" := ⟨_,gS,Y⟩;let m6:=W5.init.lookup;let m7:=W5.init.bind (.ref ⇑s)
   repeat(any_goals (first|assumption|wp_step))
   refine YE (Z_ (R:=wants (λr s2=>r=.none/\∃h' tk,s2={s with heap:=h',toks:=tk}/\g4 h' ⇑s ((Wo items.size).map λj=>hT prog w (ks j)) ∧
     ∀b o,b<⇑s->s.heap.get? b=ζ o->h'.get? b=ζ o) E) W5.init.plain q1d (q1e tS ?_)) λr2 s2 iU=>?_
   .let⟨ol,gl,cl,nl,dl⟩:=isL
    let⟨c0,d0,vz,nG⟩:=ol;simp only at cl dl;subst cl;subst dl;let nH:(s.heap.push (cn led)).get? l=ζ {cls:=.type "list",dict:=d0,data:=.seq items nl,slots:=nG}:=B7 _ gl;let x1:=q1V;let x2:=q0a;let x3:(XR "list" == XR "dict")=ι:=by decide
    let g5:(s.heap.push (cn led)).IsList l items:=⟨_,nH,Y,nl,Y⟩;let ll:l<⇑s:=Vy gl;unfold Builtin.«set.__init__» noKeywords Y_;generalize oZ:pyIter=PI
    wp_walk
    subst oZ;calc Ys g5 (nX (Ze ?_));let h3:A.in1.in1.in1.handled=η:=by simp[hh]
    let ez:(s.heap.push (cn led)).objs.size=⇑s+1:=XF ..;let nI:l≠(s.heap.push (cn led)).objs.size:=by rw[ez];exact VE (WQ ll)
    let lt:∀i,i<items.size->ad i<⇑s:=λi hi=>by
     let⟨o,_,_,e,_⟩:=tk i hi;exact Vy e
    refine HY ((ZA h3 _ l nI items).toS) (S:=s.heap.objs.size) ?out ad ks (λi v hv=>vy i v hv) ?apart ?room unlike jE items.size 0 _ (VI _)
     ⟨⟨_,UB _ Y,Y,Y⟩,g5.push _⟩ ?tk ?fresh ?fin
    case out =>
     erw[Uw,Ww,YB,q1p,ez];exact⟨VE (W_ _),Yb ll⟩
    case apart =>
     ext i hi;let:=lt i hi;erw[Uw,Ww,YB,q1p,ez];exact⟨VE this,VE (WQ this)⟩
    case room =>
     show A.units+1+1+1<cLine;exact Zy (Nat.add_le_add_left (by decide:3<=8) _) room
    case tk =>
     ext j hj;exact vv (tk j hj) λo e=>B7 _ (B7 _ e)
    case fresh =>
     exact H7 (led:=led) (B7 _ gS)
    case fin =>
     ext s' mv se;let⟨h',g',d',jD,nJ⟩:=s';obtain rfl:g'=s.gens:=mv.gens;obtain rfl:d'=s.drawn:=mv.drawn;obtain rfl:nJ=s.os:=mv.os;show G _ _ _ _ _ _;calc B9 ?_;show G _ _ (ret Wz) _ _ _;calc B9 ⟨Y,h',jD,Y,se,λb o hb e=>?_⟩;calc mv.heap b o ?_ (B7 _ (B7 _ e));erw[Uw,Ww,YB,q1p,ez];exact⟨VE hb,VE (WQ hb)⟩
   .cases r2 with
    |error e=>exact iU
    |ok qa =>
     cases qa with
     |ret r =>
      let⟨rfl,h',jD,rfl,se,kp⟩:=iU
      repeat(any_goals (first|assumption|wp_step))
      exact fin _ _ se kp
     |next=>exact iU
     |brk=>exact iU
     |cont=>exact iU
  |next=>exact hr
  |brk=>exact hr
  |cont=>calc hr
end
noncomputable abbrev gI(w:l):Bool := !w.params.followText "set-order"
theorem vA{h:Q}{S:U}{led:Bool}(e:h.get? S=ζ (cn led)):d8 h S led [] :=
 ⟨_,#[],0,_,e,⟨Y,Y,Y⟩,Y,Y,.inl Y,Y,by cases led<;>decide,q2B,Y,Y,(λ_ h=>nomatch h),Y0 _,YK⟩
section
variable{prog:X}{w:l}{A:t}{E:bt}{s:L}
theorem Bd(a:M){Q₁:bt}(h:Q₁ (.ref ⇑s) {s with heap:=s.heap.push (cn (gI w))}):
  codeAny (B prog w) A (.call (.builtin "set.__new__") ⟨[.type "set",a],[]⟩) (wants Q₁ E) s:=by
 calc q0e ?_;show G _ A.in1 (checkBuiltinCall "set.__new__" ⟨[.type "set",a],[]⟩ >>= λ_=>again (.builtin "set.__new__" ⟨[.type "set",a],[]⟩)) _ _ s;calc nX (q1W (F.newCall_set_1 a) (B9 ⟨Yn q3p _,?_⟩));calc Xd F.entry_set_new ?_;rw[Xh q3p _];let b:=sub_set_self;unfold Builtin.«set.__new__» Builtin.Frozenset.newClass newSet setsByText;let⟨c,g,d,e,f⟩:=s;dsimp only
 wp_walk
 calc Zk (B9 ?_);dsimp only;erw[newObj];exact nX (wpAny_alloc (B9 (B9 h)))
set_option maxHeartbeats 3200000 in
theorem Ia {l:U} {items:Array M} {Q:bt} (ns:-Int) (hh:A.handled=η) (isL:s.heap.IsList l items) (isInt:∀(i:Nat)(v:M),items[i]?=ζ v->∃t,v=.int (ns.getD i 0) t) (Ib:items.size<=40)
  (fin:∀(h':Α)(tk:Nat),d8 h' ⇑s (gI w) (hX ns items.size)->(∀b o,b<⇑s->s.heap.get? b=ζ o->h'.get? b=ζ o)->Q (.ref ⇑s) {s with heap:=h',toks:=tk}) :
  G (B prog w) A (call (.type "set") [.ref l]) Q E s:=by
 let⟨c,tl,p_⟩:=W5.mro;let m1:=W5.made;let m2:=W5.sub;let m3:=W5.notType;let m4:=W5.canCreate;let m5:=q1c (.ref l);calc q0v (q0e ?_);show G _ _ (callAny (.type "set") _) _ _ _;calc B9 ⟨q0w _ (by decide +kernel),Xd q0P ?_⟩;rw[q0x (Z0 "set" [.ref l] []) Y]
 repeat(any_goals (first|assumption|wp_step))
 refine YE (Bd (.ref l) (E:=E) (Q₁:=λr s1=>r=.ref ⇑s/\s1={s with heap:=s.heap.push (cn (gI w))}) ⟨Y,Y⟩) λr s1 hr=>?_
 cases r with
 |error e=>exact hr
 |ok fl =>
  cases fl with
  |ret obj =>
   let⟨rfl,rfl⟩:=hr;generalize vB:gI w=led at fin ⊢;let gS:(s.heap.push (cn led)).get? ⇑s=ζ (cn led):=UB _ Y;let tS:q2h {s with heap:=s.heap.push (cn led)} (.ref ⇑s) "set" := ⟨_,gS,Y⟩;let m6:=W5.init.lookup;let m7:=W5.init.bind (.ref ⇑s)
   repeat(any_goals (first|assumption|wp_step))
   refine YE (Z_ (R:=wants (λr s2=>r=.none/\∃h' tk,s2={s with heap:=h',toks:=tk}/\d8 h' ⇑s led (hX ns items.size) ∧
     ∀b o,b<⇑s->s.heap.get? b=ζ o->h'.get? b=ζ o) E) W5.init.plain q1d (q1e tS ?_)) λr2 s2 iU=>?_
   .let⟨ol,gl,cl,nl,dl⟩:=isL
    let⟨c0,d0,vz,nG⟩:=ol;simp only at cl dl;subst cl;subst dl;let nH:(s.heap.push (cn led)).get? l=ζ {cls:=.type "list",dict:=d0,data:=.seq items nl,slots:=nG}:=B7 _ gl;let x1:=q1V;let x2:=q0a;let x3:(XR "list" == XR "dict")=ι:=by decide
    let g5:(s.heap.push (cn led)).IsList l items:=⟨_,nH,Y,nl,Y⟩;let ll:l<⇑s:=Vy gl;unfold Builtin.«set.__init__» noKeywords Y_;generalize oZ:pyIter=PI
    wp_walk
    subst oZ;calc Ys g5 (nX (Ze ?_));let h3:A.in1.in1.in1.handled=η:=by simp[hh]
    let ez:(s.heap.push (cn led)).objs.size=⇑s+1:=XF ..;let nI:l≠(s.heap.push (cn led)).objs.size:=by rw[ez];exact VE (WQ ll)
    refine HZ ((ZA h3 _ l nI items).toS) (S:=s.heap.objs.size) ?out (led:=led) ns (λi v hv=>isInt i v hv) Ib items.size 0 _ (VI _)
     ⟨⟨_,UB _ Y,Y,Y⟩,g5.push _⟩ ?fresh ?fin
    case out =>
     erw[Uw,Ww,YB,q1p,ez];exact⟨VE (W_ _),Yb ll⟩
    case fresh =>
     exact vA (led:=led) (B7 _ gS)
    case fin =>
     ext s' mv se;let⟨h',g',d',jD,nJ⟩:=s';obtain rfl:g'=s.gens:=mv.gens;obtain rfl:d'=s.drawn:=mv.drawn;obtain rfl:nJ=s.os:=mv.os;show G _ _ _ _ _ _;calc B9 ?_;show G _ _ (ret Wz) _ _ _;calc B9 ⟨Y,h',jD,Y,se,λb o hb e=>?_⟩;calc mv.heap b o ?_ (B7 _ (B7 _ e));erw[Uw,Ww,YB,q1p,ez];exact⟨VE hb,VE (WQ hb)⟩
   .cases r2 with
    |error e=>exact iU
    |ok qa =>
     cases qa with
     |ret r =>
      let⟨rfl,h',jD,rfl,se,kp⟩:=iU
      repeat(any_goals (first|assumption|wp_step))
      exact fin _ _ se kp
     |next=>exact iU
     |brk=>exact iU
     |cont=>exact iU
  |next=>exact hr
  |brk=>exact hr
  |cont=>calc hr
end
theorem bD:Slot "set_iterator" "__next__" "set_iterator.__next__" :=
 .of (owner:="set_iterator") (n:="__next__") (by rw[q3q,q1L];kernel_rfl) (by decide +kernel) (by decide +kernel) (by decide +kernel)
  (by first|exact .inl (by decide +kernel)|calc .inr (by decide +kernel)) (by rw[q1X];kernel_rfl)
theorem Be:Slot "set_iterator" "__iter__" "set_iterator.__iter__" :=
 .of (owner:="set_iterator") (n:="__iter__") (by rw[q3q,q1L];kernel_rfl) (by decide +kernel) (by decide +kernel) (by decide +kernel)
  (by first|exact .inl (by decide +kernel)|calc .inr (by decide +kernel)) (by rw[q1X];kernel_rfl)
theorem Bf:entryFor table "set_iterator.__next__" = ζ Builtin.«set_iterator.__next__» := entryFor_of_fast (by kernel_rfl)
theorem Ic:entryFor table "set_iterator.__iter__" = ζ Builtin.«dict_keyiterator.__iter__» :=
 q3L (id':="dict_keyiterator.__iter__") (by kernel_rfl) Y (by decide +kernel) (by kernel_rfl)
theorem Ie:entryFor table "set.__iter__" = ζ Builtin.«frozenset.__iter__» :=
 q3L (id':="frozenset.__iter__") (by kernel_rfl) Y (by decide +kernel) (by kernel_rfl)
theorem Bg(a:M):argsOk "set_iterator.__next__" ⟨[a],[]⟩:=by unfold argsOk;kernel_rfl
theorem Ig(a:M):argsOk "set_iterator.__iter__" ⟨[a],[]⟩:=by unfold argsOk;kernel_rfl
def dk(h:Q)(I S:U)(first:M)(i n ep:Nat):Prop:=∃o,h.get? I=ζ o/\o.cls=.type "set_iterator" /\ o.data=.fields #[first,.int i 0,.ref S,.int n 0,.int ep 0]
theorem dk.typeIs{s:L}{I S:U}{f:M}{i n ep:Nat}(x:dk s.heap I S f i n ep):s.TypeIs (.ref I) "set_iterator" := let⟨o,a,b,_⟩:=x;⟨o,a,b⟩
theorem dk.at{h h':Q}{I S:U}{f:M}{i n ep:Nat}(x:dk h I S f i n ep)(e:∀o,h.get? I=ζ o->h'.get? I=ζ o):dk h' I S f i n ep:=let⟨o,a,r⟩:=x;⟨o,e _ a,r⟩
noncomputable def iO(w:l)(S:U)(ep:Nat)(es:Array (Int×M)):Array (Int×M):=if w.params.followText "set-order" = θ then pickOrder (w.params.setOrder S ep) es else es
theorem vC(w:l)(S:U)(ep:Nat)(es:Array (Int×M)):(iO w S ep es).toList.Perm es.toList:=by
 unfold iO;split
 .exact HJ _ _
 .calc Y0 _
theorem sW(w:l)(S:U)(ep:Nat)(es:Array (Int×M)):(iO w S ep es).size=es.size:=by
 let:=(vC w S ep es).length_eq;simpa using this
noncomputable def slotAt(t:SetTable)(i:Nat):Nat:=if i=0 then 0 else t.place.getD (i-1) 0+1
structure vD(w:l)(I S:U)(o:Γ)(es:Array (Int×M))(ep:Nat)(t:SetTable)(i:Nat)(h:Q):Prop where
 set:h.get? S=ζ o
 it:∃slot:Nat,dk h I S (.int slot 0) i es.size ep/\(w.params.followText "set-order" = ι->slot=slotAt t i)
section
variable{prog:X}{w:l}{A:Β}{I S:U}{o:Γ}{es:Array (Int×M)}{ep:Nat}{t:SetTable}{ks:-Int}
theorem Ih(T:dP t es (gI w) ks){i:Nat}(b:i<=es.size):below t.place (slotAt t i)=i:=by
 unfold slotAt;split
 .rename_i h;subst h;exact HF T.up
 .rename_i h
  let a:i-1<t.place.size:=by rw[T.jU];symm
  let e:t.place.getD (i-1) 0=t.place[i-1]:=by simp[q2p,a]
  rw[e,HE T.up a];symm
theorem Bh{E:bt}{s:L}{Q:Option (M×Nat)->L->Prop}(j:s.heap.get? S=ζ o)(hd:o.data=.set es ep t)(T:dP t es (gI w) ks){slot i:Nat}(m:i<=es.size)(hs:w.params.followText "set-order" = ι->slot=slotAt t i)
  (k:∀b:Nat,(w.params.followText "set-order" = ι->i<es.size->b=slotAt t (i+1))->Q (((iO w S ep es)[i]?).map λe=>(e.2,b)) s):G (B prog w) A (setNext S slot i ep) Q E s:=by
 calc nX (Yq j hd T.fits ?_);calc nX ?_;calc nX (Zk (B9 ?_));let d:(B prog w).w=w:=Y
 cases q:w.params.followText "set-order" with
 |true =>
  rw[d,q];erw[q0Q,VP,W7,Xj];calc nX ?_;calc nX (Yq j hd T.fits ?_);calc nX ?_;calc nX (Zk (B9 ?_));rw[d,q,VD Y];calc nX (Zk (B9 ?_));calc B9 ?_;let:=k slot λz=>by rw[q] at z;cases z
  unfold iO at this;rw[VD q] at this;exact this
 |false =>
  rw[d,q,VB (by decide)];let f:=hs q;subst f;let n:=Ih T m;rw[n];calc q1B (λh=>absurd (show(!t.plain&&μ (es.size>1))=θ from h) (by rw[T.p8];simp)) (λ_=>?_);calc nX ?_;calc q1B (c:=(!t.led && !es.isEmpty)=θ) (λh=>absurd h (by rw[T.vu];unfold gI;rw[q];simp)) (λ_=>?_);calc B9 (B9 ?_);let a:=k (slotAt t (i+1)) λ_ _=>Y;unfold iO at a;rw[VB (by rw[q];decide)] at a
  by_cases g:i<es.size
  .let l:i<t.place.size:=by rw[T.jU];exact g
   rw[Wj g] at a;rw[Wj g,Wj l]
   let e:slotAt t (i+1)=t.place[i]+1:=by
    unfold slotAt;simp[q2p,l]
   rw[e] at a;exact a
  .rw[XX ⋯] at a
   rw[XX ⋯];calc a
theorem Bi{E:bt}{s:L}{a:U}{b:Γ}{vs:Array M}{Q:Array M->L->Prop}(c:s.heap.get? a=ζ b)(hd:b.data=.fields vs)(h:Q vs s):G (B prog w) A (fieldsOf (.ref a)) Q E s:=by
 calc nX (q1q c ?_);rw[hd];calc B9 h
theorem Ii(L:A.handled=η)(p:S≠I)(M:o.ExactSet)(hd:o.data=.set es ep t)(T:dP t es (gI w) ks):
  Walks prog w A I [I,S] [I] es.size (λi v=>∃e,(iO w S ep es)[i]?=ζ e/\v=e.2) (vD w I S o es ep t) where
 sub:=λb n=>by simp at n;simp[n]
 frame:=λi h O f D=>⟨D S (by simp) _ f.set,let⟨slot,x,y⟩:=f.it;⟨slot,x.at λo e=>D I (by simp) o e,y⟩⟩
 item:=λi s Q E F f q=>by
  let⟨slot,c,u⟩:=f.it;let⟨N,g,G,d⟩:=id c
  refine nX (q38 (Yj (name:=Xy "__next__") c.typeIs bD
   (XI bD c.typeIs Bf ?_ (Bg _))))
  calc nX (m:=slotArgs _ _ _) (B9 ?_);calc nX (Bi g d ?_);calc nX (q0i f.set hd T.fits ?_);rw[VB (by simp)];calc nX (Bh f.set hd T (slot:=slot) (i:=i) ⋯ u λj H=>?_);let J:(iO w S ep es)[i]?=ζ ((iO w S ep es)[i]'(by rw[sW];calc F)):=Wj _;rw[J];calc nX (ZQ g d (by simp) ?_);let r:=Xk (q39 (·.setIfInBounds 0 (rawInt j))) g (Z1 (YL d _));let l:=YL d (·.setIfInBounds 0 (rawInt (j:Int)));calc nX (ZQ r l (by simp) ?_);let B:=Xk (q39 (·.setIfInBounds 1 (rawInt ((i:Int)+1)))) r (Z1 (YL l _));let C:=YL l (·.setIfInBounds 1 (rawInt ((i:Int)+1)));refine B9 ⟨_,Y,B9 (q _ _ s.toks ⟨_,J,Y⟩ ⟨?_,j,⟨_,B,?_,?_⟩,λz=>H z F⟩ λb K n e=>?_)⟩
  .rw[XE _ _ (Yy p),XE _ _ (Yy p)];exact f.set
  .exact (q0R ..).trans ((q0R ..).trans G)
  .rw[C];simp[rawInt]
  .let k:I≠b:=λz=>n (by simp[z])
   rw[XE _ _ k,XE _ _ k];exact e
 done:=λs Q E f q=>by
  let⟨slot,c,u⟩:=f.it;let⟨N,g,G,d⟩:=id c
  refine nX (q38 (Yj (name:=Xy "__next__") c.typeIs bD
   (XI bD c.typeIs Bf ?_ (Bg _))))
  calc nX (m:=slotArgs _ _ _) (B9 ?_);calc nX (Bi g d ?_);calc nX (q0i f.set hd T.fits ?_);rw[VB (by simp)];calc nX (Bh f.set hd T (slot:=slot) (i:=es.size) (B8 _) u λj H=>?_);rw[XX (by rw[sW];calc B8 _)];calc nX (ZQ g d (by simp) ?_);calc nX ?_;calc nX (m:=firstArgMember _ _) (q1W (a:=Wz) (by first|rfl|(erw[firstArgMember];rfl)) ?_);calc XO ?_ (by size_fits);calc nX (q3_ ?_);rw[show A.in1.handled=η from L];calc nX (B9 (wpAny_throw ?_));calc nX (q23 (T:="StopIteration") (b:=true) ⟨_,UB _ Y,Y⟩ isSubtype_stop ?_);refine B9 (q _ s.toks λb K n e=>?_)
  let k:b≠I:=λz=>n (by simp[z]);exact(((Xa ..).extBut.push _).push _) b K k e
 self:=λi s Q E f q=>by
  let⟨slot,c,_⟩:=f.it;calc q2C c.typeIs Be (XI Be c.typeIs Ic ?_ (Ig _));calc B9 ⟨_,Y, "set_iterator",_,c.typeIs,bD.lookup,q⟩
theorem Ij{E:bt}{s:L}{Q:Bool->L->Prop}(a:s.heap.get? S=ζ o)(hd:o.data=.set es ep t)(T:dP t es (gI w) ks)(k:Q ι s):G (B prog w) A (setDrawn S) Q E s:=by
 calc nX (Yq a hd T.fits ?_);calc nX ?_;calc nX (Zk (B9 ?_));calc B9 ?_;let e:(!(B prog w).w.params.followText "set-order" && (!t.plain&&μ (es.size>1)))=ι:=by rw[T.p8];simp
 calc e▸k
theorem Ik{E:bt}{s:L}{Q:bt}(a:s.heap.get? S=ζ o)(c:o.ExactSet)(hd:o.data=.set es ep t)(T:dP t es (gI w) ks)
  (k:∀h',(∀b d,s.heap.get? b=ζ d->h'.get? b=ζ d)->vD w ⇑s S o es ep t 0 h'->Q (.ref ⇑s) {s with heap:=h'}):G (B prog w) A (pyIter (.ref S)) Q E s:=by
 let f:s.TypeIs (.ref S) "set" := ⟨o,a,c.1⟩;calc q2C f q3r (XI q3r f Ie ?_ (F.args_set_iter_1 _));calc nX (m:=Builtin.Frozenset.sizeOf _) ?_;calc nX (q0i a hd T.fits (B9 ?_));calc nX (Ij a hd T ?_);calc nX (B9 ?_);calc nX (wpAny_setEpoch_of a hd T.fits ?_);calc nX (m:=newFields _ _) (XO (B9 ⟨_,Y, "set_iterator",_,⟨_,UB _ Y,Y⟩,bD.lookup,?_⟩));calc k _ (λb d e=>B7 _ e) ⟨B7 _ a,0,⟨_,UB _ Y,Y,Y⟩,λ_=>Y⟩
end
section
variable{prog:X}{w:l}{A:Β}{S:U}{o:Γ}{es:Array (Int×M)}{ep:Nat}{t:SetTable}{ks:-Int}
theorem Il{E:bt}{s:L}{Q:Bool->L->Prop}(a:s.TypeIs (.ref S) "set")(k:Q ι s):G (B prog w) A (Builtin.List.listLengthHint (.ref S)) Q E s:=by
 calc nX (q0d a F.slot_set_len.lookup ?_);generalize c:("set.__len__" : String)=e
 wp_delta
 subst c;calc nX (q23 (T:="set") (b:=true) a (by rw[q1X];kernel_rfl) ?_);calc q1B (λd=>absurd d (by decide)) (λ_=>?_);calc nX (q0n a ?_);calc B9 k
theorem Im{E:bt}{s:ο}{Q:-ν->ο->Prop}(V:A.handled=η)(U:s.heap.get? S=ζ o)(l:o.ExactSet)(hd:o.data=.set es ep t)(T:dP t es (gI w) ks)(hn:es.size<=1000)
  (h:∀(h':Α)(tk:Nat),(∀b d,s.heap.get? b=ζ d->h'.get? b=ζ d)->⇑s<=h'.objs.size->Q ((iO w S ep es).toList.map (·.2)) {s with heap:=h',toks:=tk}):ρ (ς prog w) A (collect (.ref S)) Q E s:=by
 let J:S<⇑s:=Vy U;calc nX (Ze (Xd F.entry_proto_collect ?_));calc nX (XO ?_);calc B9 ⟨Yn F.plain_list_iadd _,Xd F.entry_list_iadd ?_⟩;generalize m:({s with heap:=s.heap.push {cls:=.type "list",data:=.seq ([]:-ν).toArray}}:ο)=f;let p:f.heap.get? S=ζ o:=by rw[<-m];exact B7 _ U
 let X:f.heap.get? ⇑s=ζ {cls:=.type "list",data:=.seq ([]:-ν).toArray}:=by rw[<-m];exact UB _ rfl
 let M:⇑f=⇑s+1:=by rw[<-m];exact XF ..
 show ρ _ A.in1 (Builtin.List.listExtendWith (.ref ⇑s) (.ref S) (.ref ⇑s)) _ _ _;calc nX (q0n (T:="set") ⟨o,p,l.1⟩ ?_);let Y:q01 (.ref ⇑s) (.ref S)=ι:=by simp[q01];exact Yb J
 let Z:(XR "set" == XR "list")=ι:=by decide
 let h3:(XR "set" == XR "tuple")=ι:=by decide
 erw[Y,Z,h3,Wu,VP,W7];calc nX (Ik p l hd T λq u B=>?_);calc nX (WJ (Il ⟨o,u _ _ p,l.1⟩ ?_));let N:S≠⇑f:=by rw[M];exact VE (WQ J)
 let W:=(Ii (prog:=prog) (A:=A.in1) (I:=f.heap.objs.size) (by simp[V]) N l hd T).toS
 let O:⇑s∉[⇑f,S]:=by
  erw[Uw,Ww,YB,q1p,M];exact⟨VE (W_ _),Yb J⟩
 let P:∀(g:Α)(c:Nat),vD w ⇑f S o es ep t 0 g->g.get? ⇑s=ζ {cls:=.type "list",data:=.seq #[] c}->(∀b d,b≠⇑s->q.get? b=ζ d->g.get? b=ζ d) →
   codeAny (ς prog w) A (.builtin "list.extend.loop" ⟨[.ref ⇑s,.ref ⇑f,.ref ⇑s],[]⟩) (λr K=>match r with
    |.ok (.ret v)=>ρ (ς prog w) A (match v with
     |.ref a=>do match(<- load a).data with
      |.seq xs _=>pure xs.toList
      |_=>unsupported "internal:collect"
     |_=>unsupported "internal:collect") Q E K
    |.ok _=>False
    |.error e=>E e K) {f with heap:=g}:=by
  ext g c st hL kp;calc codeAny_extend_loopS W (by rw[Yg];symm) _ O _ es.size 0 _ #[] c rfl (VX _) st hL (ItemsOf.nil _) λK n c' L C j=>?_;refine nX (q1q C (B9 ?_))
  let ea:n.toList=(iO w S ep es).toList.map (·.2):=by
   calc Zc λi=>?_;rw[B_]
   by_cases hi:i<es.size
   .let D:i<n.size:=by rw[j.1];exact hi
    let⟨e,he,hv⟩:=j.2 i _ (Wj D);rw[Ws,Wj D,Ws,he,hv];rfl
   .rw[Ws,XX (by rw[j.1];symm),Ws,XX (by rw[sW];symm)];rfl
  rw[ea];let⟨Uq,g3,d3,Ur,R⟩:=K;obtain rfl:g3=f.gens:=L.gens;obtain rfl:d3=f.drawn:=L.drawn;obtain rfl:R=f.os:=L.os;subst m;calc h _ _ (λb d e=>?_) (Xc (Vy C));let z:b<⇑s:=Vy e;calc L.heap b d ?_ (kp b d (VE z) (u b d (B7 _ e)));erw[Uw,Ww,YB,q1p];exact⟨VE z,by show b≠(s.heap.push _).objs.size;rw[XF];calc VE (WQ z)⟩
 let G:=u _ _ X;calc nX (q1o ?_);calc nX ?_;calc nX (Zv G rfl ?_);let k:=Xk (Xu (·.push Wz)) G rfl;calc Zv (hz:=by seq_fits) k rfl ?_;let x:=Xk (Xu (·.pop)) k rfl
 let y:∀b d,b≠⇑s->q.get? b=ζ d->((q.update ⇑s (Xu (·.push Wz))).update ⇑s (Xu (·.pop))).get? b=ζ d :=
  λb d z e=>(XE _ _ (Yy z)).trans ((XE _ _ (Yy z)).trans e)
 calc B9 ⟨Yn F.plain_extend_loop _,P _ _ ?_ x y⟩;let⟨H,it,sl⟩:=B.it;calc⟨y _ _ (VE J) B.set,H,it.at λd e=>y _ _ (by rw[M];calc Yb (W_ _)) e,sl⟩
end
end LJS
namespace L2
open PySem PySem.Spec PyProof.Rows
abbrev Key:=Sum Int R
noncomputable def o5:Key->M->Bool
 |.inl k,v=>Value.isInt k v
 |.inr x,v=>q4b x v
noncomputable def vE(w:l):Key->Int
 |.inl k=>hashInt k
 |.inr x=>hashStr w x
theorem ma:∀{k:Key}{v:M},o5 k v=θ->(∃i t,k=Yz i/\v=Xl i t)\/(∃x t,k=q0S x/\v=q1f x t)
 |.inl i,v,h=>by
  let⟨t,e⟩:=q0O (k:=i) (v:=v) h;exact .inl ⟨i,t,Y,e⟩
 |.inr x,v,h=>by
  let⟨t,e⟩:=Value.isStrOf_shape (x:=x) (v:=v) h;calc .inr ⟨x,t,Y,e⟩
theorem Io(i:Int)(t:Tok):o5 (.inl i) (.int i t)=θ:=by simp[o5,Value.isInt]
theorem Ip(x:R)(t:Tok):o5 (.inr x) (.str x t)=θ:=by simp[o5,q4b]
theorem Iq(a b:Int):S ((Yz a:Key)=Yz b)=(a==b):=by
 by_cases e:a=b
 .subst e;simp
 .let h:¬ (Yz a:Key)=Yz b:=λq=>e (Zf q)
  rw[VC h];calc(YY.mpr e).symm
theorem Ir(a b:R):S ((q0S a:Key)=q0S b)=S (a=b):=by
 by_cases e:a=b
 .subst e;simp
 .let h:¬ (q0S a:Key)=q0S b:=λq=>e (Sum.inr.inj q)
  rw[VC h,VC e]
theorem Iu(a:Int)(b:R):S ((Yz a:Key)=q0S b)=ι:=VC (λq=>nomatch q)
theorem Iv(a:R)(b:Int):S ((q0S a:Key)=Yz b)=ι:=VC (λq=>nomatch q)
noncomputable def gJ(prog:X)(w:l):PySem.KeyKind prog w Key where
 is:=o5
 hash:=vE w
 inj:=λv a b f d=>by
  rcases ma f with⟨i,t,rfl,rfl⟩|⟨x,t,rfl,rfl⟩
  .rcases ma d with⟨j,u,rfl,e⟩|⟨y,u,rfl,e⟩
   .injection e with e1 _;rw[e1]
   .exact nomatch e
  .rcases ma d with⟨j,u,rfl,e⟩|⟨y,u,rfl,e⟩
   .exact nomatch e
   .injection e with e1 _;rw[e1]
 byValue:=λk v h=>by
  rcases ma h with⟨i,t,rfl,rfl⟩|⟨x,t,rfl,rfl⟩<;>rfl
 pyHash:=λc h=>by
  rcases ma c with⟨i,t,rfl,rfl⟩|⟨x,t,rfl,rfl⟩
  .exact wpAny_pyHash_int h
  .exact wpAny_pyHash_str h
 eqBool:=λg c h=>by
  rcases ma g with⟨i,t,rfl,rfl⟩|⟨x,t,rfl,rfl⟩
  .rcases ma c with⟨j,u,rfl,rfl⟩|⟨y,u,rfl,rfl⟩
   .rw[Iq] at h;exact q1g h
   .rw[Iu] at h;exact q2q i t y u _ _ _ _ h
  .rcases ma c with⟨j,u,rfl,rfl⟩|⟨y,u,rfl,rfl⟩
   .rw[Iv] at h;exact q2r x t j u _ _ _ _ h
   .rw[Ir] at h;exact wpAny_eqBool_str h
 «strs» := λk x t v h=>by
  rcases ma h with⟨i,u,rfl,e⟩|⟨y,u,rfl,e⟩
  .exact nomatch e
  .injection e with e1 _
   subst e1;cases v<;>rfl
theorem Iw(prog:X)(w:l)(i:Int)(t:Tok):(gJ prog w).is (.inl i) (.int i t)=θ:=Io i t
theorem Iy(prog:X)(w:l)(x:R)(t:Tok):(gJ prog w).is (.inr x) (.str x t)=θ:=Ip x t
inductive V where
 |non|bl (b:Bool)|int (i:Int)|str (x:R)|byt (b:Array UInt8)|flt (b:UInt64)|ref (a:U)|ty (n:String)
 deriving DecidableEq
def RelV:V->M->Prop
 |.non,u=>u=Wz
 |.bl b,u=>u=Y8 b
 |.int i,u=>∃t,u=Xl i t
 |.str x,u=>∃t,u=q1f x t
 |.byt b,u=>∃t,u=Value.bytes b t
 |.flt b,u=>∃t,u=q3j b t
 |.ref a,u=>u=WN a
 |.ty n,u=>u=XR n
abbrev Vals:-V->-M->Prop:=Paired RelV
theorem Vals.length{xs:-V}{us:-M}(r:Vals xs us):↑xs=↑us:=q2i r
theorem Vals.get:∀{xs:-V}{us:-M}{i:Nat}{x:V},Vals xs us->xs[i]?=ζ x->∃u,us[i]?=ζ u/\RelV x u
 |_,_,_,_,.nil,e=>by simp at e
 |_,_,0,_,.cons r _,e=>by simp at e;subst e;exact⟨_,Y,r⟩
 |_,_,i+1,x,.cons _ t,e=>by
  let⟨u,a,b⟩:=Vals.get (i:=i) (x:=x) t e⁻¹;calc⟨u,by simpa using a,b⟩
theorem Vals.set{x:V}{u:M}(r:RelV x u):∀{xs:-V}{us:-M}(i:Nat),Vals xs us->Vals (xs.set i x) (us.set i u)
 |_,_,_,.nil=>.nil
 |_,_,0,.cons _ t=>.cons r t
 |_,_,i+1,.cons q t=>.cons q (Vals.set r i t)
theorem Vals.append:∀{xs ys:-V}{us ws:-M},Vals xs us->Vals ys ws->Vals (xs++ys) (us++ws)
 |_,_,_,_,.nil,s=>s
 |_,_,_,_,.cons r t,s=>.cons r (Vals.append t s)
theorem Vals.take:∀{xs:-V}{us:-M}(n:Nat),Vals xs us->Vals (xs.take n) (us.take n)
 |_,_,0,_=>.nil
 |_,_,_+1,.nil=>.nil
 |_,_,n+1,.cons r t=>.cons r (Vals.take n t)
theorem Vals.drop:∀{xs:-V}{us:-M}(n:Nat),Vals xs us->Vals (xs.drop n) (us.drop n)
 |_,_,0,r=>r
 |_,_,_+1,.nil=>.nil
 |_,_,n+1,.cons _ t=>Vals.drop n t
def eC:Option V->Option M->Prop
 |some v,some u=>RelV v u
 |none,none=>True
 |_,_=>False
def KV{κ:Type}:-(κ×V)->-(κ×M)->Prop:=Paired λ(p:κ×V) (q:κ×Value)=>p.1=q.1/\RelV p.2 q.2
noncomputable def kV:Key->V
 |.inl i=>.int i
 |.inr x=>.str x
inductive HO where
 |lst (xs:-V)
 |tup (xs:-V)
 |dK (kvs:-(Key×V))|dT (kvs:-(-Key×V))
 |set (S:Int->Bool) (n:Nat)
 |ins (C dx:U) (fs:-(R×V))
 |own (x:U)
 |xd (fs:-(R×V))
 |met (f x:U)
 |rng (lo hi:Int)
 |frz (o:Γ) (u:HO)
 |tbl (ps:Array M)
 |ext (φ:Q->Prop)
abbrev Hp:=U->Option HO
noncomputable def upd(H:Hp)(a:U)(o:HO):Hp:=λb=>if b=a then ζ o else H b
theorem cw{H:Hp}{a:U}{o:HO}:upd H a o a=ζ o:=by unfold upd;rw[VD Y]
theorem bu{H:Hp}{a b:U}{o:HO}(h:b≠a):upd H a o b=H b:=by unfold upd;rw[VB h]
theorem Iz{H:Hp}{a b:U}{o u:HO}(h:H a=ζ o)(h':H b=ζ u)(d:o≠u):a≠b:=by
 ext e;subst e;rw[h] at h';calc d (WC h')
theorem ed{H:Hp}{a b:U}{o:HO}(h:H a=ζ o)(h':H b=η):a≠b:=by
 ext e;subst e;rw[h] at h';cases h'
section
variable(P:X)(w:l)
def bq(H:Hp)(h:Q)(a:U):HO->Prop
 |.lst d=>↑d<=sizeLine/\∃(b:-M)(n:Nat),Vals d b/\h.get? a=ζ {cls:=.type "list",data:=.seq b.toArray n}
 |.tup d=>↑d<=sizeLine/\∃b:-M,Vals d b/\IsTup h a b.toArray
 |.dK c=>↑c<=sizeLine/\(a==sysModules)=ι/\∃k,KV c k/\h.DictOf (gJ P w) a k
 |.dT c=>↑c<=sizeLine/\(a==sysModules)=ι/\∃d:-(-Key×U×M),
   Paired (λ(p:-Key×V) (q:-Key×Addr×Value)=>p.1=q.1/\H q.2.1=ζ (.tup (p.1.map kV))/\RelV p.2 q.2.2) c d ∧
   ∃o l s,h.get? a=ζ o/\o.ExactDict/\o.data=.dict l s/\l.toList=d.map (entryOfKey (tupleKind (gJ P w)))/\(d.map (·.1)).Nodup
 |.set S n=>h.SetOf (intKind P w) a S n
 |.ins C i g=>H i=ζ (.own a)/\↑g<=1000/\i≠a/\h.get? a=ζ (YG C i) ∧
   ∃e,h.Ns1 i e/\(∀f,eC (g.lookup f) (e f))/\q2D e (g.map (·.1))
 |.own _=>∃o,h.get? a=ζ o
 |.xd g=>∃e,h.Ns1 a e/\∀f,eC (g.lookup f) (e f)
 |.rng y z=>∃t u v,h.get? a=ζ {cls:=.type "range",data:=.fields #[.int y t,.int z u,.int 1 v]}
 |.frz o u=>h.get? a=ζ o/\bq H h a u
 |.tbl A=>h.get? a=ζ {cls:=.none,data:=.fields A}
 |.met f x=>h.get? a=ζ (q0T (.ref f) (.ref x))
 |.ext j=>j h/\(∃o,h.get? a=ζ o)/\∀m r:Q,j m->(∀o,m.get? a=ζ o->r.get? a=ζ o)->j r
def fz(H:Hp)(h:Q):Prop:=∀a o,H a=ζ o->bq P w H h a o
end
section
variable{P:X}{w:l}{H H':Hp}{h h':Q}{a:U}{o:HO}
theorem bq.lt(x:bq P w H h a o):a<h.objs.size:=by
 cases o with
 |lst c=>let⟨_,_,_,_,e⟩:=x;exact Vy e
 |tup c=>let⟨_,_,_,p⟩:=x;exact p.lt
 |dK b=>let⟨_,_,_,_,o,_,_,e,_⟩:=x;exact Vy e
 |dT b=>let⟨_,_,_,_,o,_,_,e,_⟩:=x;exact Vy e
 |set S n=>let⟨o,_,_,_,e,_⟩:=x;exact Vy e
 |ins C g d=>let⟨_,_,_,e,_⟩:=x;exact Vy e
 |own y=>let⟨_,e⟩:=x;exact Vy e
 |xd d=>let⟨_,⟨_,_,_,e,_⟩,_⟩:=x;exact Vy e
 |rng i j=>let⟨_,_,_,e⟩:=x;exact Vy e
 |frz k u=>let⟨e,_⟩:=x;exact Vy e
 |tbl l=>exact Vy (show h.get? a=ζ _ from x)
 |met f y=>exact Vy (show h.get? a=ζ _ from x)
 |ext m=>let⟨_,⟨_,e⟩,_⟩:=x;calc Vy e
theorem Paired.nK{c d:Type}{F G:c->d->Prop}:∀{l₁:-c}{l₂:-d},Paired F l₁ l₂->(∀a b,F a b->G a b)->Paired G l₁ l₂
 |_,_,.nil,_=>.nil
 |_,_,.cons r t,f=>.cons (f _ _ r) (Paired.nK t f)
theorem bq.iV(x:bq P w H h a o)(k:∀b u,(b=a\/H b=ζ (.own a))->h.get? b=ζ u->h'.get? b=ζ u)
  (F:∀b,H b=ζ (.own a)->H' b=ζ (.own a)) (G:∀b xs,H b=ζ (.tup xs)->H' b=ζ (.tup xs)):bq P w H' h' a o:=by
 induction o with
 |lst m=>let⟨z,l,n,r,e⟩:=x;exact⟨z,l,n,r,k _ _ (.inl Y) e⟩
 |tup m=>let⟨z,l,r,g,e,c⟩:=x;exact⟨z,l,r,g,k _ _ (.inl Y) e,c⟩
 |dK s=>let⟨z,y,I,r,g,i,j,e,c⟩:=x;exact⟨z,y,I,r,g,i,j,k _ _ (.inl Y) e,c⟩
 |dT s =>
  let⟨z,y,m,r,g,i,j,e,c⟩:=x;exact⟨z,y,m,Paired.nK r λp q z=>⟨z.1,G _ _ z.2.1,z.2.2⟩,g,i,j,k _ _ (.inl Y) e,c⟩
 |set S n=>let⟨g,i,j,t,e,c⟩:=x;exact⟨g,i,j,t,k _ _ (.inl Y) e,c⟩
 |ins C N J =>
  let⟨d,z,K,e,A,⟨B,i,j,L,c⟩,r⟩:=x;exact⟨F _ d,z,K,k _ _ (.inl Y) e,A,⟨B,i,j,k _ _ (.inr d) L,c⟩,r⟩
 |own y=>let⟨g,e⟩:=x;exact⟨g,k _ _ (.inl Y) e⟩
 |xd J=>let⟨A,⟨B,i,j,e,c⟩,r⟩:=x;exact⟨A,⟨B,i,j,k _ _ (.inl Y) e,c⟩,r⟩
 |rng O Q=>let⟨t,u,v,e⟩:=x;exact⟨t,u,v,k _ _ (.inl Y) e⟩
 |frz g u M=>let⟨e,q⟩:=x;exact⟨k _ _ (.inl Y) e,M q⟩
 |tbl D =>
  let e:h.get? a=ζ {cls:=.none,data:=.fields D}:=x;show h'.get? a=ζ {cls:=.none,data:=.fields D};exact k a _ (.inl Y) e
 |met f y =>
  let e:h.get? a=ζ (q0T (.ref f) (.ref y)):=x;show h'.get? a=ζ (q0T (.ref f) (.ref y));exact k a _ (.inl Y) e
 |ext R=>let⟨p,⟨o,e⟩,E⟩:=x;calc⟨E _ _ p λo q=>k _ _ (.inl Y) q,⟨o,k _ _ (.inl Y) e⟩,E⟩
theorem fz.lt(x:fz P w H h)(e:H a=ζ o):a<h.objs.size:=(x a o e).lt
theorem fz.fresh(x:fz P w H h)(e:h.objs.size<=a):H a=η:=by
 cases q:H a with
 |none=>rfl
 |some u=>calc absurd (VR (x.lt q) e) (X8 _)
theorem fz.kept(x:fz P w H h)(k:∀b u,h.get? b=ζ u->h'.get? b=ζ u):fz P w H h':=λa o e =>
 (x a o e).iV (λb u _ q=>k b u q) (λ_ q=>q) λ_ _ q=>q
theorem fz.laid(x:fz P w H h)(k:∀b u,h.get? b=ζ u->h'.get? b=ζ u)(i:h.objs.size<=a)(d:bq P w (upd H a o) h' a o):fz P w (upd H a o) h':=λb u e=>by
 let f:=x.fresh i
 by_cases g:b=a
 .subst g;rw[cw] at e;cases e;exact d
 .rw[bu g] at e
  calc(x b u e).iV (λc v _ q=>k c v q) (λc q=>by rw[bu (ed q f)];calc q) λc j q=>by rw[bu (ed q f)];calc q
end
def Rd(H:Hp)(a:U)(u:HO):Prop:=H a=ζ u\/∃o,H a=ζ (.frz o u)
theorem Rd.ok{P:X}{w:l}{H:Hp}{h:Q}{a:U}{u:HO}(r:Rd H a u)(x:fz P w H h):bq P w H h a u:=by
 rcases r with r|⟨o,r⟩
 .exact x a u r
 .let⟨_,q⟩:=x a _ r
  calc q
def qb:Option HO->Prop
 |some (.lst _)=>True
 |some (.dK _)=>True
 |some (.dT _)=>True
 |some (.set _ _)=>True
 |some (.ins _ _ _)=>True
 |some (.ext _)=>True
 |_=>False
section
variable{P:X}{w:l}{H:Hp}{h h':Q}{x e:U}{o':HO}
theorem fz.write(o:fz P w H h)(mu:qb (H x))(he:e=x\/H e=ζ (.own x))(k:∀b u,b≠e->h.get? b=ζ u->h'.get? b=ζ u)(l:∃u,h'.get? e=ζ u)
  (m:bq P w (upd H x o') h' x o'):fz P w (upd H x o') h':=λb u q=>by
 let d:∀c y,H c=ζ (.own y)->c≠x:=λc y r z=>by subst z;rw[r] at mu;exact mu
 let f:∀c g,H c=ζ (.tup g)->c≠x:=λc g r z=>by subst z;rw[r] at mu;exact mu
 by_cases i:b=x
 .subst i;rw[cw] at q;cases q;exact m
 .rw[bu i] at q
  by_cases a:b=e
  .let n:H b=ζ (.own x):=by
    rcases he with z|z
    .exact absurd (a.trans z) i
    .rw[a];exact z
   rw[q] at n;cases n;let⟨v,p⟩:=l;exact⟨v,by rw[a];calc p⟩
  .refine (o b u q).iV (λc v j r=>k c v ?_ r) (λc r=>by rw[bu (d c b r)];calc r) λc g r=>by rw[bu (f c g r)];exact r
   rcases j with rfl|j
   .exact a
   .ext rfl
    rcases he with z|z
    .exact d c b j z
    .rw[j] at z;cases z;calc i Y
end
structure Un(fs ex:-U)(H H':Hp)(h h':Q):Prop where
 keep:∀b o,h.get? b=ζ o->H b=η->b∉fs->b∉ex->h'.get? b=ζ o
 slot:∀b o,h.get? b=ζ o->H b=η->b∈fs->b∉ex->∃sl,h'.get? b=ζ {o with slots:=sl}
 free:∀b o,h.get? b=ζ o->H b=η->b∉ex->H' b=η
 there:∀b o,h.get? b=ζ o->b∉ex->∃o',h'.get? b=ζ o'
 ig:∀b xs,H b=ζ (.tup xs)->H' b=ζ (.tup xs)
 iW:∀b o u,H b=ζ (.frz o u)->H' b=ζ (.frz o u)
 iX:∀b ps,H b=ζ (.tbl ps)->∃more,H' b=ζ (.tbl (ps++more))
 ij:∀b xs o,H b=ζ (.tup xs)->h.get? b=ζ o->b∉ex->h'.get? b=ζ o
section
variable{fs IA ex Us:-U}{H H1 H2:Hp}{h h1 h2 h':Q}{a x e:U}{o:HO}
theorem Un.any(u:Un fs ex H H1 h h1){b:U}{a:Γ}(q:h.get? b=ζ a)(n:H b=η)(c:b∉ex):∃sl,h1.get? b=ζ {a with slots:=sl}:=by
 by_cases d:b∈fs
 .exact u.slot b a q n d c
 .calc⟨a.slots,u.keep b a q n d c⟩
theorem Un.kept(k:∀b u,h.get? b=ζ u->h'.get? b=ζ u):Un fs ex H H h h' :=
 ⟨λb a q _ _ _=>k b a q,λb a q _ _ _=>⟨a.slots,k b a q⟩,λ_ _ _ n _=>n,λb a q _=>⟨a,k b a q⟩,λ_ _ q=>q,λ_ _ _ q=>q,λ_ c q=>⟨#[],by rw[q];simp⟩,λb _ u _ q _=>k b u q⟩
theorem Un.refl:Un fs ex H H h h:=Un.kept λ_ _ q=>q
theorem Un.laid(k:∀b u,h.get? b=ζ u->h'.get? b=ζ u)(c:h.objs.size<=a)(hn:H a=η):Un fs ex H (upd H a o) h h' where
 keep:=λb u q _ _ _=>k b u q
 slot:=λb u q _ _ _=>⟨u.slots,k b u q⟩
 free:=λb u q n _=>by rw[bu (VE (VR (Vy q) c))];exact n
 there:=λb u q _=>⟨u,k b u q⟩
 ig:=λb d q=>by rw[bu (ed q hn)];exact q
 iW:=λb u d q=>by rw[bu (ed q hn)];exact q
 iX:=λb e q=>⟨#[],by rw[bu (ed q hn),q];simp⟩
 ij:=λb _ u _ q _=>k b u q
theorem Un.write(mu:qb (H x))(he:e=x\/H e=ζ (.own x))(k:∀b u,b≠e->h.get? b=ζ u->h'.get? b=ζ u)(d:∃u,h'.get? e=ζ u):Un fs ex H (upd H x o) h h':=by
 let f:∀b,H b=η->b≠x:=λb n z=>by subst z;rw[n] at mu;exact mu
 let g:∀b,H b=η->b≠e:=λb n z=>by
  subst z;rcases he with r|r
  .exact f b n r
  .rw[n] at r;cases r
 let c:∀b u,H b=ζ u->¬ qb (ζ u)->b≠x:=λb u q j z=>by subst z;rw[q] at mu;exact j mu
 refine⟨λb u q n _ _=>k b u (g b n) q,λb u q n _ _=>⟨u.slots,k b u (g b n) q⟩,λb u q n _=>by rw[bu (f b n)];calc n,λb u q _=>?_,
  λb i q=>by rw[bu (c b _ q λz=>z)];calc q,λb u i q=>by rw[bu (c b _ q λz=>z)];calc q,λb l q=>⟨#[],by rw[bu (c b _ q λz=>z),q];simp⟩,λb i u q e _=>k b u (λz=>by
   subst z;rcases he with r|r
   .exact c b _ q (λz=>z) r
   .rw[q] at r;cases r) e⟩
 by_cases a:b=e
 .subst a;exact d
 .calc⟨u,k b u a q⟩
end
noncomputable def sX(h:Q)(H:Hp):-U:=(Wo h.objs.size).filter λa=>(H a).isSome
noncomputable def hY(h:Q)(H:Hp):Q:=PySem.W.hideAll h (sX h H)
theorem IB(h:Q)(H:Hp):(hY h H).objs.size=h.objs.size:=PySem.W.hideAll_size _ _
theorem IC{h:Q}{H:Hp}{b:U}{o:Γ}(e:h.get? b=ζ o)(n:H b=η):(hY h H).get? b=ζ o :=
 PySem.W.hideAll_get _ e λa=>by
  let q:(H b).isSome=θ:=(Wb.mp a).2;rw[n] at q;simp at q
theorem Bj{h:Q}{H:Hp}{b:U}{o:Γ}(e:(hY h H).get? b=ζ o):h.get? b=ζ o/\H b=η:=by
 let a:h.get? b=ζ o:=PySem.W.of_hideAll (sX h H) e;refine⟨a,?_⟩
 cases q:H b with
 |none=>rfl
 |some x =>
  let c:b∈sX h H:=Wb.mpr ⟨Wx.mpr (Vy a),by simp[q]⟩;let z:(hY h H).get? b=η:=PySem.W.hideAll_none (sX h H) c;rw[z] at e;cases e
structure Mod(K:KC)(mg:R->Option M)(base:Q):Prop where
 ju:K.In base
 glob:base.Ns mainGlobals mg
 blt:∃mb,base.Ns builtinsNs mb/\∀x:R,x≠"__name__" -> mb x=bootBuiltins x
 nolimit:base.NoLimit
structure Cx where
 prog:X
 w:l
 K:KC
 mg:R->Option M
 base:Q
 A:t
 N:-R
 s₀:L
 H₀:Hp
 env:u
 outer:-u
 stack:-u
 ex:-U
 fn:R->Bool
 calm:Bool
 pn:-(U×Γ)
 xe:M->L->Prop
noncomputable def kP(l:-u):-U:=l.filterMap (·.frame)
noncomputable abbrev Cx.fs(X:Cx):-U:=kP X.outer
def qc(a:o)(x:R):Prop:=a.names.lookup x=ζ .local\/a.names.lookup x=ζ .cell\/a.names.lookup x=ζ .free
def Loc(a:o)(x:R):Prop:=a.names.lookup x=ζ .local\/a.names.lookup x=ζ .cell
abbrev cy(x:R):Prop:=(x==("__debug__" : R))=ι
abbrev ik(X:Cx)(x:R):Prop:=X.fn x=θ\/X.env.scope.names.lookup x=ζ .local
abbrev dE(X:Cx)(e:J)(es:-J):Prop:=starEach (e::es) X.env=(ι,eval e X.env)::starEach es X.env
abbrev dQ(X:Cx)(p:I)(es:-J):Prop:=(backTo p (starEach es X.env)).any (·.1)=ι
abbrev a6:=-(U×Γ)
def Look(env:Ζ)(h:Q)(m:R->Option M)(x:R)(u:M):Prop :=
 (env.kindOf x=ζ .local/\m x=ζ u)\/((env.kindOf x=ζ .cell\/env.kindOf x=ζ .free)/\∃c,env.cells.lookup x=ζ c/\h.IsCell c (ζ u))
structure Cx.Ok(X:Cx):Prop where
 mod:Mod X.K X.mg X.base
 kind:X.env.scope.kind=.function
 glob:X.env.globals=mainGlobals
 blt:X.env.builtins=builtinsNs
 above:⇑X.s₀<=X.env.locals
 inj:∀x y c,X.env.cells.lookup x=ζ c->X.env.cells.lookup y=ζ c->x=y
 has:∀x,(X.env.kindOf x=ζ .cell\/X.env.kindOf x=ζ .free)->∃c,X.env.cells.lookup x=ζ c
 mY:∀x c,X.fn x=θ->X.env.cells.lookup x=ζ c->⇑X.s₀<=c
 hd:X.calm=θ->X.A.handled=η
 frames:X.A.frames=ζ X.stack
 o6:X.stack=X.outer\/(X.stack=X.env::X.outer/\X.env.frame=ζ X.env.locals)
 sY:∀b∈X.ex,b≠X.env.locals/\∀x c,X.env.cells.lookup x=ζ c->c≠b
 bs:∀b o,X.base.get? b=ζ o->X.s₀.heap.get? b=ζ o/\(X.H₀ b=η\/∃xs,X.H₀ b=ζ (.tup xs))
 k_:X.base.objs.size<=⇑X.s₀
 iY:∀b o,X.base.get? b=ζ o->b∉X.ex
 kh:∀b∈X.ex,b∉X.fs
 fj:X.s₀.heap.FunFrames X.base X.outer
 lT:∀b∈X.fs,X.H₀ b=η
structure Inv(X:Cx)(pins:a6)(σ:-(Option V))(H:Hp)(s:L):Prop where
 ok:X.Ok
 os:s.os=X.s₀.os
 bare:AllBare s.gens
 base:Un X.fs X.ex X.H₀ H X.s₀.heap s.heap
 loc:∃m,s.heap.Ns X.env.locals m/\∀(i:Nat)(x:R)(v:V),X.N[i]?=ζ x->σ[i]?=ζ (ζ v)->qc X.env.scope x->∃u,RelV v u/\Look X.env s.heap m x u
 cell:∀x c,X.env.cells.lookup x=ζ c->∃v,s.heap.IsCell c v
 free:H X.env.locals=η
 dB:∀x c,X.env.cells.lookup x=ζ c->H c=η
 pin:∀p∈X.pn++pins,s.heap.get? p.1=ζ p.2/\H p.1=η/\p.1≠X.env.locals/\p.1∉X.fs/\∀v,p.2.data≠.cell v
 bg:fz X.prog X.w H s.heap
 len:↑σ=↑X.N
section
variable{X:Cx}{pins:a6}{σ:-(Option V)}{H H':Hp}{s:L}{h':Q}
theorem Cx.Ok.vF(a:X.Ok){b:U}{o:Γ}(e:X.base.get? b=ζ o):b∉X.fs:=λc=>by
 let:=(a.fj.mem c).1;rw[e] at this;cases this
theorem Inv.bs(I:Inv X pins σ H s):∀b o,X.base.get? b=ζ o->s.heap.get? b=ζ o/\(H b=η\/∃xs,H b=ζ (.tup xs)):=λb o e=>by
 obtain⟨d,a|⟨c,a⟩⟩:=I.ok.bs b o e
 .exact⟨I.base.keep b o d a (I.ok.vF e) (I.ok.iY b o e),.inl (I.base.free b o d a (I.ok.iY b o e))⟩
 .calc⟨I.base.ij b c o a d (I.ok.iY b o e),.inr ⟨c,I.base.ig b c a⟩⟩
theorem Inv.bk(I:Inv X pins σ H s):∀b o,X.base.get? b=ζ o->s.heap.get? b=ζ o:=λb o e=>(I.bs b o e).1
theorem Inv.mod(I:Inv X pins σ H s):Mod X.K X.mg X.base:=I.ok.mod
theorem Inv.gB(I:Inv X pins σ H s):X.K.In s.heap:=I.ok.mod.ju.keeps I.bk
theorem Inv.nolimit(I:Inv X pins σ H s):s.heap.NoLimit:=I.ok.mod.nolimit.keeps I.bk
theorem Inv.lt(I:Inv X pins σ H s):X.env.locals<⇑s:=let⟨_,a,_⟩:=I.loc;a.lt
theorem Inv.sz(I:Inv X pins σ H s):⇑X.s₀<=⇑s:=Wq I.ok.above (Xc I.lt)
theorem Inv.vG(I:Inv X pins σ H s){a:U}(h:⇑s<=a):a∉X.fs:=λb=>by
 let⟨_,o,c,_⟩:=I.ok.fj.mem b;calc absurd (VR (Vy c) (Wq I.sz h)) (X8 _)
theorem Inv.vH(I:Inv X pins σ H s):∀x c,X.env.cells.lookup x=ζ c->c≠X.env.locals:=λx c e z=>by
 let⟨v,o,d,f⟩:=I.cell x c e;let⟨m,⟨o',g,h,a,b,_⟩,_⟩:=I.loc;rw[z,a] at d;cases d;rw[b] at f;cases f
theorem Inv.fj(I:Inv X pins σ H s):s.heap.FunFrames X.base X.outer:=by
 let a:∀(l:-u),(∀b∈kP l,b∈X.fs)->X.s₀.heap.FunFrames X.base l->s.heap.FunFrames X.base l:=by
  ext l
  induction l with
  |nil=>ext _ _;trivial
  |cons h r i =>
   ext g j;let⟨k,⟨L,o,c,m,n,p⟩,q⟩:=j;let d:L∈X.fs:=g L (by unfold kP;rw[q0j,c];calc Ux);let⟨t,e⟩:=I.base.slot L o n (I.ok.lT L d) d λz=>I.ok.kh L z d;exact⟨k,⟨L,_,c,m,e,p⟩,i (λb f=>g b (by unfold kP;rw[q0j,c];calc Uy _ f)) q⟩
 calc a X.outer (λ_ f=>f) I.ok.fj
theorem Inv.stack(I:Inv X pins σ H s):s.heap.FunFrames X.base X.stack:=by
 rcases I.ok.o6 with e|⟨e,a⟩
 .rw[e];exact I.fj
 .rw[e]
  let⟨m,b,_⟩:=I.loc;calc .cons (by rw[I.ok.kind];decide) a b ?_ I.fj;calc Heap.get?_none_of_le (Wq I.ok.k_ I.ok.above)
theorem Inv.ip(I:Inv X pins σ H s):∀b∈kP X.stack,b∈X.env.locals::X.fs:=λb a=>by
 rcases I.ok.o6 with e|⟨e,c⟩
 .rw[e] at a;exact Uy _ a
 .rw[e] at a
  unfold kP at a;rw[q0j,c] at a;calc a
theorem Inv.jW(I:Inv X pins σ H s):∀b∈kP X.stack,H b=η:=λb a=>by
 rcases Uw.mp (I.ip b a) with e|a
 .rw[e];exact I.free
 .let⟨_,o,c,_⟩:=I.ok.fj.mem a
  calc I.base.free b o c (I.ok.lT b a) λz=>I.ok.kh b z a
theorem Inv.step{g':Array GenState}{t':Nat}{d':Drawn}{ch:-ξ}(I:Inv X pins σ H s)
  (h:∀b∈ch,(b∈X.ex\/⇑X.s₀<=b)/\b≠X.env.locals/\(∀x c,X.env.cells.lookup x=ζ c->c≠b)/\∀p∈X.pn++pins,p.1≠b)
  (j:∀b o,b≠X.env.locals->b∉X.fs->b∉ch->s.heap.get? b=ζ o->H b=η->h'.get? b=ζ o)
  (slot:∀b o,b≠X.env.locals->b∈X.fs->b∉ch->s.heap.get? b=ζ o->H b=η->∃sl,h'.get? b=ζ {o with slots:=sl}) (f:∀b o,b∉ch->s.heap.get? b=ζ o->H b=η->H' b=η)
  (D:∀b o,b∉ch->s.heap.get? b=ζ o->∃o',h'.get? b=ζ o')
  (G:∀b xs,H b=ζ (.tup xs)->H' b=ζ (.tup xs)) (J:∀b o u,H b=ζ (.frz o u)->H' b=ζ (.frz o u)) (K:∀b ps,H b=ζ (.tbl ps)->∃more,H' b=ζ (.tbl (ps++more)))
  (L:∀b xs o,H b=ζ (.tup xs)->s.heap.get? b=ζ o->b∉ch->h'.get? b=ζ o)
  (ns:∀m,s.heap.Ns X.env.locals m->h'.Ns X.env.locals m) (O:fz X.prog X.w H' h') (Y:AllBare g') :
  Inv X pins σ H' {s with heap:=h',gens:=g',drawn:=d',toks:=t'}:=by
 let M:∀b o,X.s₀.heap.get? b=ζ o->b≠X.env.locals:=λb o e=>VE (VR (Vy e) I.ok.above)
 let t:∀b o,X.s₀.heap.get? b=ζ o->b∉X.ex->b∉ch:=λb o e a E=>by
  rcases(h b E).1 with z|z
  .exact a z
  .exact absurd (VR (Vy e) z) (X8 _)
 let A:∀x c,X.env.cells.lookup x=ζ c->∀v,s.heap.IsCell c v->h'.IsCell c v:=λx c e v ⟨o,F,P⟩↦by
  let y:c∉ch:=λz=>(h c z).2.2.1 x c e rfl
  by_cases R:c∈X.fs
  .let⟨V,q⟩:=slot c o (I.vH x c e) R y F (I.dB x c e)
   exact⟨_,q,P⟩
  .exact⟨o,j c o (I.vH x c e) R y F (I.dB x c e),P⟩
 refine⟨I.ok,I.os,Y,⟨λb o e n E a=>?_,λb o e n E a=>?_,λb o e n a=>?_,λb o e a=>?_,λb B e=>G b B (I.base.ig b B e),λb o B e=>J b o B (I.base.iW b o B e),λb W e=>?_,λb B o g C a=>L b B o (I.base.ig b B g) (I.base.ij b B o g C a) (t b o C a)⟩,?_,λx c e=>?_,?_,λx c e=>?_,λp S=>?_,O,I.len⟩
 .exact j b o (M b o e) E (t b o e a) (I.base.keep b o e n E a) (I.base.free b o e n a)
 .let⟨V,g⟩:=I.base.slot b o e n E a
  let⟨Q,C⟩:=slot b _ (M b o e) E (t b o e a) g (I.base.free b o e n a);exact⟨Q,C⟩
 .let⟨N,g⟩:=I.base.there b o e a
  exact f b N (t b o e a) g (I.base.free b o e n a)
 .let⟨N,g⟩:=I.base.there b o e a
  exact D b N (t b o e a) g
 .let⟨Z,g⟩:=I.base.iX b W e
  let⟨m2,C⟩:=K b _ g;exact⟨Z++m2,by rw[C,Array.append_assoc]⟩
 .let⟨m,hn,hl⟩:=I.loc
  calc⟨m,ns m hn,λi x v g C e3=>?_⟩;let⟨u,r,l⟩:=hl i x v g C e3;calc⟨u,r,?_⟩;rcases l with l|⟨k,c,e,z⟩
  .exact .inl l
  .exact .inr ⟨k,c,e,A x c e _ z⟩
 .let⟨v,z⟩:=I.cell x c e
  exact⟨v,A x c e v z⟩
 .let⟨m,⟨o,_,_,F,_⟩,_⟩:=I.loc
  exact f _ o (λz=>(h _ z).2.1 rfl) F I.free
 .let⟨v,o,F,P⟩:=I.cell x c e
  exact f c o (λz=>(h c z).2.2.1 x c e rfl) F (I.dB x c e)
 .let⟨e,n,T,U,d⟩:=I.pin p S
  let y:p.1∉ch:=λz=>(h p.1 z).2.2.2 p S rfl;calc⟨j p.1 p.2 T U y e n,f p.1 p.2 y e n,T,U,d⟩
theorem Inv.un{t':Nat}(I:Inv X pins σ H s)(u:Un X.fs [] H H' s.heap h')(c:fz X.prog X.w H' h'):Inv X pins σ H' {s with heap:=h',toks:=t'}:=by
 let⟨m,⟨o,p,t,h,r⟩,_⟩:=id I.loc;let⟨v,i⟩:=u.any h I.free (by simp)
 exact I.step (g':=s.gens) (d':=s.drawn) (ch:=[]) (λ_ z=>nomatch z) (λb o _ d _ e n=>u.keep b o e n d (by simp)) (λb o _ d _ e n=>u.slot b o e n d (by simp)) (λb o _ e n=>u.free b o e n (by simp)) (λb o _ e=>u.there b o e (by simp)) u.ig u.iW u.iX (λb j o q e _=>u.ij b j o q e (by simp)) (λx k=>by
  let⟨o',f,g,a,l⟩:=k;rw[h] at a;cases a
  calc⟨_,f,g,i,l⟩) c I.bare
theorem Inv.call{g':Array GenState}{t':Nat}{d':Drawn}{ch:-U}(I:Inv X pins σ H s)(u:Un (kP X.stack) ch H H' s.heap h')(g:fz X.prog X.w H' h')(l:AllBare g')
  (d:∀b∈ch,(b∈X.ex\/⇑X.s₀<=b)/\b≠X.env.locals/\(∀x c,X.env.cells.lookup x=ζ c->c≠b)/\∀p∈X.pn++pins,p.1≠b) :
  Inv X pins σ H' {s with heap:=h',gens:=g',drawn:=d',toks:=t'}:=by
 let⟨m,⟨o,B,C,k,r⟩,_⟩:=id I.loc;let⟨D,h⟩:=u.any k I.free λz=>(d _ z).2.1 Y
 exact I.step (ch:=ch) d (λb o h t a e n=>u.keep b o e n (λz=>(Uw.mp (I.ip b z)).elim h t) a) (λb o _ _ a e n=>u.any e n a) (λb o a e n=>u.free b o e n a) (λb o a e=>u.there b o e a) u.ig u.iW u.iX (λb v o q e a=>u.ij b v o q e a) (λE y=>by
  let⟨o',i,j,f,A⟩:=y;rw[k] at f;cases f
  calc⟨_,i,j,h,A⟩) g l
theorem Inv.turned{t':Nat}{a:U}(I:Inv X pins σ H s)(k:∀b o,b≠a->s.heap.get? b=ζ o->h'.get? b=ζ o)(hn:H a=η)(g:a≠X.env.locals)
  (h:a∈X.ex\/⇑X.s₀<=a) (i:∀x c,X.env.cells.lookup x=ζ c->c≠a) (j:∀p∈X.pn++pins,p.1≠a):Inv X pins σ H {s with heap:=h',toks:=t'}:=by
 let f:∀b u,H b=ζ u->b≠a:=λb u e z=>by rw[z,hn] at e;cases e
 refine I.step (g':=s.gens) (d':=s.drawn) (ch:=[a]) (λb l=>?_) (λb o _ _ d e _=>k b o (λz=>d (by simp[z])) e) (λb o _ _ d e _=>⟨o.slots,k b o (λz=>d (by simp[z])) e⟩) (λ_ _ _ _ n=>n)
  (λb o d e=>⟨o,k b o (λz=>d (by simp[z])) e⟩) (λ_ _ e=>e) (λ_ _ _ e=>e) (λb B e=>⟨#[],by rw[e];simp⟩) (λb _ o _ e d=>k b o (λz=>d (by simp[z])) e) (λm t=>?_) (λb u e=>?_) I.bare
 .let e:b=a:=by simpa using l
  subst e;exact⟨h,g,i,j⟩
 .let⟨o,w,y,A,r⟩:=t
  exact⟨o,w,y,k _ o (Yy g) A,r⟩
 .refine (I.bg b u e).iV (λc v d q=>k c v ?_ q) (λ_ q=>q) λ_ _ q=>q
  rcases d with z|z
  .rw[z];exact f b u e
  .calc f c _ z
theorem Inv.tok(I:Inv X pins σ H s)(t:Nat):Inv X pins σ H {s with toks:=t}:=I.un (h':=s.heap) (t':=t) Un.refl I.bg
theorem Inv.kept{t':Nat}(I:Inv X pins σ H s)(k:∀b u,s.heap.get? b=ζ u->h'.get? b=ζ u):Inv X pins σ H {s with heap:=h',toks:=t'}:=I.un (Un.kept k) (I.bg.kept k)
theorem Inv.laid{a:U}{o:HO}{t':Nat}(I:Inv X pins σ H s)(k:∀b u,s.heap.get? b=ζ u->h'.get? b=ζ u)(c:⇑s<=a)(d:bq X.prog X.w (upd H a o) h' a o):
  Inv X pins σ (upd H a o) {s with heap:=h',toks:=t'}:=I.un (Un.laid k c (I.bg.fresh c)) (I.bg.laid k c d)
theorem Inv.write{x e:U}{o:HO}{t':Nat}(I:Inv X pins σ H s)(mu:qb (H x))(he:e=x\/H e=ζ (.own x))(k:∀b u,b≠e->s.heap.get? b=ζ u->h'.get? b=ζ u)(a:∃u,h'.get? e=ζ u)
  (c:bq X.prog X.w (upd H x o) h' x o):Inv X pins σ (upd H x o) {s with heap:=h',toks:=t'}:=I.un (Un.write mu he k a) (I.bg.write mu he k a c)
theorem Inv.gX{a:a6}(I:Inv X pins σ H s)(h:∀p∈a,s.heap.get? p.1=ζ p.2/\H p.1=η/\p.1≠X.env.locals/\p.1∉X.fs/\∀v,p.2.data≠.cell v):Inv X a σ H s :=
 ⟨I.ok,I.os,I.bare,I.base,I.loc,I.cell,I.free,I.dB,λp b=>(VY.mp b).elim (λz=>I.pin p (XC _ z)) (h p),I.bg,I.len⟩
theorem Bk{N:-R}(c:N.Nodup){i j:Nat}{x:R}(a:N[i]?=ζ x)(b:N[j]?=ζ x):i=j:=by
 let⟨f,d⟩:=pa.mp a;let⟨g,e⟩:=pa.mp b;calc(Y2 c).mp (d.trans e.symm)
theorem Bl{M:Model}{A:Β}{E:bt}{i:Nat}{x:π}{v:V}{u:ν}{Q:Unit->ο->Prop}(I:Inv X pins σ H s)(hN:X.N.Nodup)(R:X.N[i]?=ζ x)(l:Loc X.env.scope x)(r:RelV v u)
  (h:∀s',Inv X pins (σ.set i (ζ v)) H s'->(∃a,Zj a s.heap s'.heap/\(a=X.env.locals\/X.env.cells.lookup x=ζ a))->Q () s') (hf:autoParam (ik X x) qz4._auto_1):ρ M A (storeName X.env x u) Q E s:=by
 let⟨m,hn,hl⟩:=id I.loc;let S:(X.env.scope.kind==.class||(X.env.scope.kind==.module&&X.env.locals != X.env.globals))=ι:=by rw[I.ok.kind];rfl
 let G:i<↑σ:=by rw[I.len];exact(pa.mp R).1
 let K:=I.vH
 let t:∀{a:ξ}{P:Α},(∃o,s.heap.get? a=ζ o/\H a=η)->Zj a s.heap P->fz X.prog X.w H P:=λ{a P} ha f b ob e=>by
  let⟨_,_,C⟩:=ha;calc(I.bg b ob e).iV (λc Z B q=>(f.2 c ?_).trans q) (λ_ q=>q) λ_ _ q=>q;ext rfl;rcases B with rfl|B
  .rw[C] at e;cases e
  .rw[C] at B;cases B
 rcases l with J|J
 .refine wpAny_storeName_local J hn (λP ID f=>?_) S
  let⟨oL,_,_,IE,_⟩:=id hn;refine h _ ⟨I.ok,I.os,I.bare,⟨λb o e n L l=>?_,λb o e n L l=>?_,I.base.free,λb o e l=>?_,I.base.ig,I.base.iW,I.base.iX,λb xs o g e l=>(f.2 b (VE (VR (Vy e) I.ok.above))).trans (I.base.ij b xs o g e l)⟩,⟨_,ID,λj y v' g D e3=>?_⟩,λy c e=>?_,I.free,I.dB,λp hp=>?_,t ⟨oL,IE,I.free⟩ f,by simpa using I.len⟩ ⟨_,f,.inl rfl⟩
  .exact (f.2 b (VE (VR (Vy e) I.ok.above))).trans (I.base.keep b o e n L l)
  .let⟨sl,g⟩:=I.base.slot b o e n L l
   exact⟨sl,(f.2 b (VE (VR (Vy e) I.ok.above))).trans g⟩
  .let⟨o',g⟩:=I.base.there b o e l
   exact⟨o',(f.2 b (VE (VR (Vy e) I.ok.above))).trans g⟩
  .by_cases O:j=i
   .subst O
    rw[R] at g;cases g;rw[Xf G] at D;cases D
    exact⟨u,r,.inl ⟨J,by simp⟩⟩
   .rw[Xi (Yy O)] at D
    let⟨u',r',q⟩:=hl j y v' g D e3;calc⟨u',r',?_⟩;rcases q with⟨k,e⟩|⟨k,c,e,z⟩
    .refine .inl ⟨k,?_⟩
     let:y≠x:=λe=>O (Bk hN g (e▸R));simp[this,e]
    .exact .inr ⟨k,c,e,z.sameBut f (K y c e)⟩
  .let⟨Z,z⟩:=I.cell y c e
   exact⟨Z,z.sameBut f (K y c e)⟩
  .let⟨e,n,ne,nf,d⟩:=I.pin p hp
   exact⟨(f.2 p.1 ne).trans e,n,ne,nf,d⟩
 .let F:X.fn x=θ:=by
   rcases hf with z|z
   .exact z
   .rw[z] at J;cases J
  let⟨c,B⟩:=I.ok.has x (.inl J);let⟨Z,z⟩:=I.cell x c B;calc wpAny_storeName_cell I.ok.kind J B z (λP T f=>?_);let⟨oc,U,W⟩:=id z;refine h {s with heap:=P} ⟨I.ok,I.os,I.bare,⟨λb o e n L l=>?_,λb o e n L l=>?_,I.base.free,λb o e l=>?_,I.base.ig,I.base.iW,I.base.iX,λb xs o g e l=>(f.2 b (VE (VR (Vy e) (I.ok.mY x c F B)))).trans (I.base.ij b xs o g e l)⟩,⟨m,hn.sameBut f (Yy (K x c B)),λj y v' g D e3=>?_⟩,λy c' e=>?_,I.free,I.dB,λp hp=>?_,t ⟨oc,U,I.dB x c B⟩ f,by simpa using I.len⟩ ⟨c,f,.inr B⟩
  .exact (f.2 b (VE (VR (Vy e) (I.ok.mY x c F B)))).trans (I.base.keep b o e n L l)
  .let⟨sl,g⟩:=I.base.slot b o e n L l
   exact⟨sl,(f.2 b (VE (VR (Vy e) (I.ok.mY x c F B)))).trans g⟩
  .let⟨o',g⟩:=I.base.there b o e l
   exact⟨o',(f.2 b (VE (VR (Vy e) (I.ok.mY x c F B)))).trans g⟩
  .by_cases O:j=i
   .subst O
    rw[R] at g;cases g;rw[Xf G] at D;cases D
    exact⟨u,r,.inr ⟨.inl J,c,B,T⟩⟩
   .rw[Xi (Yy O)] at D
    let⟨u',r',q⟩:=hl j y v' g D e3;calc⟨u',r',?_⟩;rcases q with q|⟨k,c',e,z'⟩
    .exact .inl q
    .refine .inr ⟨k,c',e,z'.sameBut f ?_⟩
     ext rfl;exact O (Bk hN g (I.ok.inj _ _ _ e B▸R))
  .by_cases Y:c'=c
   .subst Y;exact⟨_,T⟩
   .let⟨w2,z2⟩:=I.cell y c' e
    exact⟨w2,z2.sameBut f Y⟩
  .let⟨e,n,ne,nf,d⟩:=I.pin p hp
   calc⟨(f.2 p.1 ?_).trans e,n,ne,nf,d⟩;ext q;rw[q,U] at e;let q':oc=p.2:=WC e;calc d Z (by rw[<-q'];calc W)
theorem Bm{M:Model}{A:t}{E:bt}{i:Nat}{x:R}{v:V}{u:ν}{Q:Unit->L->Prop}(I:Inv X pins σ H s)(a:X.N.Nodup)(b:X.N[i]?=ζ x)(c:Loc X.env.scope x)(r:RelV v u)
  (h:∀s',Inv X pins (σ.set i (ζ v)) H s'->Q () s') (e:autoParam (ik X x) qz1._auto_1):G M A (storeName X.env x u) Q E s :=
 Bl I a b c r (λd f _=>h d f) e
theorem Inv.qd{s':L}{ch:-U}(I:Inv X pins σ H s)(f:s'.os=s.os)(u:Un (kP X.stack) ch H H' s.heap s'.heap)(a:fz X.prog X.w H' s'.heap)(g:AllBare s'.gens)
  (d:∀b∈ch,(b∈X.ex\/⇑X.s₀<=b)/\b≠X.env.locals/\(∀x c,X.env.cells.lookup x=ζ c->c≠b)/\∀p∈X.pn++pins,p.1≠b):Inv X pins σ H' s':=by
 let⟨i,g',d',t',h⟩:=s';let e:h=s.os:=f;subst e;calc I.call (g':=g') (t':=t') (d':=d') u a g d
end
abbrev XK:=M->Option U->Hp->Prop
abbrev St:=-(Option V)
abbrev VK:=V->Hp->Prop
abbrev TE:=St->Hp->VK->Prop
abbrev TT:=St->Hp->(Bool->Hp->Prop)->Prop
abbrev TA:=St->Hp->(-V->Hp->Prop)->Prop
structure Ends where
 nx:St->Hp->Prop
 rt:VK
 bk:St->Hp->Prop:=λ_ _=>False
 ct:St->Hp->Prop:=λ_ _=>False
abbrev TS:=Ends->St->Hp->Prop
inductive EP (X:Cx) (pins:a6) (σ:St) (Q:VK) (u:M) (s':L):Prop
 |mk (v:V) (H':Hp) (I:Inv X pins σ H' s') (r:RelV v u) (q:Q v H')
def TP(X:Cx)(a:a6)(d:St)(Q:Bool->Hp->Prop)(b:Bool)(s':L):Prop:=∃c,Inv X a d c s'/\Q b c
inductive AP (X:Cx) (pins:a6) (σ:St) (Q:-V->Hp->Prop) (us:-M) (s':L):Prop
 |mk (vs:-V) (H':Hp) (I:Inv X pins σ H' s') (r:Vals vs us) (q:Q vs H')
def SP(X:Cx)(b:a6)(D:Ends)(f:Flow)(s':L):Prop :=
 match f with
 |.next=>∃a c,Inv X b a c s'/\D.nx a c
 |.brk=>∃a c,Inv X b a c s'/\D.bk a c
 |.cont=>∃a c,Inv X b a c s'/\D.ct a c
 |.ret u=>∃v a c,Inv X b a c s'/\RelV v u/\D.rt v c
structure JE(X:Cx)(e:J)(t:TE):Prop where
 out:∀(pins:a6)(s:L)(σ:St)(H:Hp)(Q:VK),Inv X pins σ H s->t σ H Q->G (B X.prog X.w) X.A (eval e X.env) (EP X pins σ Q) X.xe s
instance {X:Cx} {e:J} {t:TE}:CoeFun (JE X e t) (λ_=>∀(pins:a6)(s:L)(σ:St)(H:Hp)(Q:VK),Inv X pins σ H s->t σ H Q->G (B X.prog X.w) X.A (eval e X.env) (EP X pins σ Q) X.xe s):=⟨JE.out⟩
structure JT(X:Cx)(e:J)(t:TT):Prop where
 out:∀(pins:a6)(s:L)(σ:St)(H:Hp)(Q:Bool->Hp->Prop),Inv X pins σ H s->t σ H Q->G (B X.prog X.w) X.A (isTrue e X.env (eval e X.env)) (TP X pins σ Q) X.xe s
instance {X:Cx} {e:J} {t:TT}:CoeFun (JT X e t) (λ_=>∀(pins:a6)(s:L)(σ:St)(H:Hp)(Q:Bool->Hp->Prop),Inv X pins σ H s->t σ H Q->G (B X.prog X.w) X.A (isTrue e X.env (eval e X.env)) (TP X pins σ Q) X.xe s):=⟨JT.out⟩
structure JW(X:Cx)(e:J)(t:TT):Prop where
 out:∀(whole:Sem M)(pins:a6)(s:L)(σ:St)(H:Hp)(Q:Bool->Hp->Prop),Inv X pins σ H s->t σ H Q->G (B X.prog X.w) X.A (isTrue e X.env whole) (TP X pins σ Q) X.xe s
instance {X:Cx} {e:J} {t:TT}:CoeFun (JW X e t) (λ_=>∀(whole:Sem M)(pins:a6)(s:L)(σ:St)(H:Hp)(Q:Bool->Hp->Prop),Inv X pins σ H s->t σ H Q->G (B X.prog X.w) X.A (isTrue e X.env whole) (TP X pins σ Q) X.xe s):=⟨JW.out⟩
theorem JW.jt{X:Cx}{e:J}{t:TT}(h:JW X e t):JT X e t:=⟨h.out _⟩
structure JA(X:Cx)(es:-J)(t:TA):Prop where
 out:∀(pos:I)(pins:a6)(s:L)(σ:St)(H:Hp)(Q:-V->Hp->Prop),Inv X pins σ H s->t σ H Q->G (B X.prog X.w) X.A (spliced (backTo pos (starEach es X.env))) (AP X pins σ Q) X.xe s
instance {X:Cx} {es:-J} {t:TA}:CoeFun (JA X es t) (λ_=>∀(pos:I)(pins:a6)(s:L)(σ:St)(H:Hp)(Q:-V->Hp->Prop),Inv X pins σ H s->t σ H Q->G (B X.prog X.w) X.A (spliced (backTo pos (starEach es X.env))) (AP X pins σ Q) X.xe s):=⟨JA.out⟩
structure JS(X:Cx)(st:y)(t:TS):Prop where
 out:∀(pins:a6)(s:L)(σ:St)(H:Hp)(D:Ends),Inv X pins σ H s->t D σ H->G (B X.prog X.w) X.A (exec st X.env) (SP X pins D) X.xe s
instance {X:Cx} {st:y} {t:TS}:CoeFun (JS X st t) (λ_=>∀(pins:a6)(s:L)(σ:St)(H:Hp)(D:Ends),Inv X pins σ H s->t D σ H->G (B X.prog X.w) X.A (exec st X.env) (SP X pins D) X.xe s):=⟨JS.out⟩
structure ee(X:Cx)(st:-y)(t:TS):Prop where
 out:∀(pins:a6)(s:L)(σ:St)(H:Hp)(D:Ends),Inv X pins σ H s->t D σ H->G (B X.prog X.w) X.A (execs st X.env) (SP X pins D) X.xe s
instance {X:Cx} {st:-y} {t:TS}:CoeFun (ee X st t) (λ_=>∀(pins:a6)(s:L)(σ:St)(H:Hp)(D:Ends),Inv X pins σ H s->t D σ H->G (B X.prog X.w) X.A (execs st X.env) (SP X pins D) X.xe s):=⟨ee.out⟩
theorem bF{b:Type}{t:Sem b}{Q c:b->L->Prop}{M:Model}{A:Β}{E:bt}{s:L}(h:G M A t Q E s)(d:∀a s,Q a s->c a s):G M A t c E s:=XZ h d λ_ _ x=>x
section
variable{X:Cx}
def iZ(i:Nat):TE:=λa H Q=>∃v,a[i]?=ζ (ζ v)/\Q v H
def tC(v:V):TE:=λ_ H Q=>Q v H
theorem Bn{i:Nat}{x:R}{pos:Ε}(k:X.N[i]?=ζ x)(n:qc X.env.scope x)(hd: ~~~(cy x))(g: ~~~((x==("__classdict__" : R))=ι)):JE X (.Name x pos) (iZ i):=by
 calc⟨?_⟩;ext f s o H Q I h;let⟨v,e,h⟩:=h;let⟨m,p,q⟩:=I.loc;let⟨u,r,l⟩:=q i x v k e n;let b:EP X f o Q u s:=⟨v,H,I,r,h⟩;rcases l with⟨d,t⟩|⟨d,c,j,a⟩
 .exact q3M (wpAny_loadName_local I.ok.kind d p t b) hd
 .rcases d with d|d
  .exact q3M (wpAny_loadName_cell I.ok.kind d j a b) hd
  .calc q3M (wpAny_loadName_free I.ok.kind d j a b g) hd
theorem mZ{i j pos}:JE X (.Constant (.int i) j pos) (tC (.int i)):=⟨λ_ _ _ H _ I h=>wpAny_Constant_int ⟨.int i,H,I.tok _,⟨_,Y⟩,h⟩⟩
theorem IF{b j pos}:JE X (.Constant (.bool b) j pos) (tC (.bl b)):=⟨λ_ _ _ H _ I h=>Constant_bool ⟨.bl b,H,I,Y,h⟩⟩
theorem IG{j pos}:JE X (.Constant .none j pos) (tC .non):=⟨λ_ _ _ H _ I h=>Constant_none ⟨.non,H,I,Y,h⟩⟩
theorem sZ{x j pos}:JE X (.Constant (.str x) j pos) (tC (.str x)):=⟨λ_ _ _ H _ I h=>Calls.Constant_str ⟨.str x,H,I.tok _,⟨_,Y⟩,h⟩
⟩
def Gl(X:Cx)(x:R):Prop:=X.env.kindOf x=ζ .globalImplicit
theorem s_{E:bt}{a:a6}{s:L}{b:St}{H:Hp}{x:R}{u:M}{pos:Ε}{Q:bt}(I:Inv X a b H s)(c:Gl X x)(d:X.mg x=ζ u)(h:Q u s)
  (hd: ~~~(cy x)):G (B X.prog X.w) X.A (eval (.Name x pos) X.env) Q E s :=
 q0y I.ok.kind c (Calls.loadGlobal_global (by rw[I.ok.glob];calc I.mod.glob.keeps I.bk) d h) hd
theorem m8{E:bt}{a:a6}{s:L}{b:St}{H:Hp}{x:R}{u:M}{pos:Ε}{Q:bt}(I:Inv X a b H s)(c:Gl X x)(d:X.mg x=η)(e:bootBuiltins x=ζ u)(h:Q u s)
  (hn:x≠"__name__" := by decide) (hd: ~~~(cy x)):G (B X.prog X.w) X.A (eval (.Name x pos) X.env) Q E s:=by
 let⟨i,f,g⟩:=I.mod.blt;calc q0y I.ok.kind c (Calls.loadGlobal_builtin (by rw[I.ok.glob];calc I.mod.glob.keeps I.bk) d (by rw[I.ok.blt];calc f.keeps I.bk) ((g x hn).trans e) h) hd
theorem Bo{x:R}{v:V}{u:M}{pos:Ε}(a:Gl X x)(b:X.mg x=ζ u)(r:RelV v u)(hd: ~~~(cy x)):JE X (.Name x pos) (tC v):=⟨λ_ _ _ H _ I h=>s_ I a b ⟨v,H,I,r,h⟩ hd⟩
theorem IH{x:R}{v:V}{u:M}{pos:Ε}(a:Gl X x)(b:X.mg x=η)(c:bootBuiltins x=ζ u)(r:RelV v u)(hn:x≠"__name__" := by decide)(hd: ~~~(cy x)):JE X (.Name x pos) (tC v):=⟨λ_ _ _ H _ I h=>m8 I a b c ⟨v,H,I,r,h⟩ hn hd
⟩
variable{a b:J}{ta tb:TE}{pos:I}
structure JC(X:Cx)(op:CmpOp)(a b:J)(t:TE):Prop where
 out:∀(pins:a6)(s:L)(σ:St)(H:Hp)(Q:VK),Inv X pins σ H s->t σ H Q →
  G (B X.prog X.w) X.A (eval a X.env) (λv s₁=>G (B X.prog X.w) X.A (eval b X.env) (λu s₂=>G (B X.prog X.w) X.A (compareOp op v u) (EP X pins σ Q) X.xe s₂) X.xe s₁) X.xe s
instance {X:Cx} {op:CmpOp} {a b:J} {t:TE}:CoeFun (JC X op a b t) (λ_=>∀(pins:a6)(s:L)(σ:St)(H:Hp)(Q:VK),Inv X pins σ H s->t σ H Q->G (B X.prog X.w) X.A (eval a X.env) (λv s₁=>G (B X.prog X.w) X.A (eval b X.env) (λu s₂=>G (B X.prog X.w) X.A (compareOp op v u) (EP X pins σ Q) X.xe s₂) X.xe s₁) X.xe s):=⟨JC.out⟩
def tB(t:TE):TT:=λa H Q=>t a H λx b=>∃c,x=.bl c/\Q c b
theorem Bp{op:CmpOp}{t:TE}(h:JC X op a b t)(f:behindInMarks op b=ι:=by first|exact Ut _ (by decide) (by decide)|rfl):JT X (.Compare a [op] [b] pos) (tB t):=by
 calc⟨?_⟩;ext e s g H Q I i;calc q1M (bF (h e s g H _ I i) λv o f=>bF f λu p j=>bF j λc r ⟨x,k,l,m,n⟩=>?_) f;let⟨d,rfl,q⟩:=n;cases m
 calc Yt ⟨k,l,q⟩
theorem II{e:J}{t:TE}(h:JE X e t)(he:‹∀a,isTrue e X.env a=(do let v <- a;standAt e.pos;holding [v] (truthy v))›):JT X e (tB t):=by
 calc⟨?_⟩;ext b s c H Q I f;calc isTrue_plain (bF (h b s c H _ I f) λv l ⟨x,g,i,j,k⟩=>?_) (he _);let⟨d,rfl,q⟩:=k;cases j
 calc Yt ⟨g,i,q⟩
variable{tA ti:TT}{rest:-J}
def qe(t u:TT):TT:=λa H Q=>t a H λc b=>if c=θ then u a b Q else Q ι b
def Bq(t u:TT):TT:=λa H Q=>t a H λc b=>if c=θ then Q θ b else u a b Q
def vI(t:TT):TT:=λa H Q=>t a H λc b=>Q (!c) b
theorem IJ(d:JT X a tA):JW X (.BoolOp .And [a] pos) tA:=by
 calc⟨?_⟩;ext g b s f H Q I h;refine isTrue_and (bF (d b s f H Q I h) λc i e=>?_)
 cases c with
 |true=>exact isTrue_and_nil e
 |false=>calc e
theorem IK(d:JT X a tA):JW X (.BoolOp .Or [a] pos) tA:=by
 calc⟨?_⟩;ext g b s f H Q I h;refine isTrue_or (bF (d b s f H Q I h) λc i e=>?_)
 cases c with
 |false=>exact isTrue_or_nil e
 |true=>calc e
theorem IL(j:JT X a tA)(k:JW X (.BoolOp .And (b::rest) pos) ti):JW X (.BoolOp .And (a::b::rest) pos) (qe tA ti):=by
 calc⟨?_⟩;ext l d s e H Q I h;refine isTrue_and (bF (j d s e H _ I h) ?_);ext c m ⟨f,g,i⟩
 cases c with
 |true=>exact k l d m e f Q g i
 |false=>calc⟨f,g,i⟩
theorem IM(j:JT X a tA)(k:JW X (.BoolOp .Or (b::rest) pos) ti):JW X (.BoolOp .Or (a::b::rest) pos) (Bq tA ti):=by
 calc⟨?_⟩;ext l d s e H Q I h;refine isTrue_or (bF (j d s e H _ I h) ?_);ext c m ⟨f,g,i⟩
 cases c with
 |true=>exact⟨f,g,i⟩
 |false=>calc k l d m e f Q g i
theorem IP(d:JT X a tA):JT X (.UnaryOp .Not a pos) (vI tA):=by
 calc⟨?_⟩;ext b s e H Q I h;calc isTrue_not (d b s e H (λc f=>Q (!c) f) I h)
def IQ(ta tb:TE):TE:=λa H Q=>ta a H λx b=>∃c,x=.bl c/\if c=θ then tb a b Q else Q (.bl ι) b
def IS(ta:TE):TE:=λa H Q=>ta a H λx b=>∃c,x=.bl c/\Q (.bl (!c)) b
theorem IT{op}{t:TE}(h:JE X a t):JE X (.BoolOp op [a] pos) t:=⟨λb s c H Q I d=>BoolOp_one (h b s c H Q I d)⟩
theorem IU(j:JE X a ta)(k:JE X (.BoolOp .And (b::rest) pos) tb):JE X (.BoolOp .And (a::b::rest) pos) (IQ ta tb):=by
 calc⟨?_⟩;ext d s f H Q I h;calc BoolOp_and (bF (j d s f H _ I h) ?_);ext v l ⟨x,g,i,m,e⟩;let⟨c,rfl,e⟩:=e;cases m
 refine Yt ?_
 cases c with
 |true=>exact k d l f g Q i e
 |false=>calc⟨.bl ι,g,i,Y,e⟩
theorem IV(e:JE X a ta):JE X (.UnaryOp .Not a pos) (IS ta):=by
 calc⟨?_⟩;ext b s f H Q I h;calc UnaryOp_ (bF (e b s f H _ I h) ?_);ext v k ⟨x,g,i,j,d⟩;let⟨c,rfl,d⟩:=d;cases j
 calc not_of (Yt ⟨.bl (!c),g,i,Y,d⟩)
def IW(t:TT)(ta tb:TE):TE:=λa H Q=>t a H λc b=>if c=θ then ta a b Q else tb a b Q
theorem IX{c:J}(l:JT X c tA)(m:JE X a ta)(n:JE X b tb):JE X (.IfExp c a b pos) (IW tA ta tb):=by
 calc⟨?_⟩;ext e s f H Q I h;refine wpAny_IfExp (bF (l e s f H _ I h) ?_);ext d g ⟨i,j,k⟩
 cases d with
 |true=>exact m e g f i Q j k
 |false=>calc n e g f i Q j k
end
def bS(K:KC)(H:Hp)(a:U)(xs:-V):Prop :=
 Rd H a (.lst xs) ∨
  ∃(o:Γ)(b:Array M)(n:Nat),K.lookup a=ζ o/\o.cls=.type "list" /\ o.dict=η/\o.data=.seq b n/\b.size<=sizeLine/\Vals xs b.toList
def cF(K:KC)(H:Hp)(a:U)(xs:-V):Prop :=
 Rd H a (.tup xs) ∨
  ∃(o:Γ)(b:Array M)(n:Nat),K.lookup a=ζ o/\o.cls=.type "tuple" /\ o.data=.seq b n/\b.size<=sizeLine/\Vals xs b.toList
noncomputable def vJ:M->Option V
 |.none=>ζ .non
 |.bool b=>ζ (.bl b)
 |.int i _=>ζ (.int i)
 |.str x _=>ζ (.str x)
 |.bytes b _=>ζ (.byt b)
 |.float b _=>ζ (.flt b)
 |.ref a=>ζ (.ref a)
 |.type n=>ζ (.ty n)
 |_=>η
theorem RelV.abs{x:V}{u:M}(r:RelV x u):vJ u=ζ x:=by
 cases x with
 |non=>cases r;rfl
 |bl _=>cases r;rfl
 |int _=>let⟨t,rfl⟩:=r;rfl
 |str _=>let⟨t,rfl⟩:=r;rfl
 |byt _=>let⟨t,rfl⟩:=r;rfl
 |flt _=>let⟨t,rfl⟩:=r;rfl
 |ref _=>cases r;rfl
 |ty _=>cases r;rfl
theorem RelV.inj{x y:V}{u:M}(r:RelV x u)(q:RelV y u):x=y:=WC (r.abs.symm.trans q.abs)
theorem Vals.inj:∀{xs ys:-V}{us:-M},Vals xs us->Vals ys us->xs=ys
 |_,_,_,.nil,.nil=>Y
 |_,_,_,.cons r t,.cons a b=>by rw[r.inj a,Vals.inj t b]
section
variable{X:Cx}{pins:a6}{σ:St}{H:Hp}{s:L}{a:U}{xs ys:-V}
theorem bS.of{K:KC}(h:H a=ζ (.lst xs)):bS K H a xs:=.inl (.inl h)
theorem cF.of{K:KC}(h:H a=ζ (.tup xs)):cF K H a xs:=.inl (.inl h)
theorem Inv.list(I:Inv X pins σ H s)(h:bS X.K H a xs):∃b:-M,Vals xs b/\PlainL s.heap a b.toArray/\↑xs<=sizeLine:=by
 rcases h with h|⟨o,b,n,c,d,f,g,i,r⟩
 .let⟨z,b,n,r,e⟩:=h.ok I.bg
  exact⟨b,r,⟨_,n,e,Y,Y,Y⟩,z⟩
 .refine⟨b.toList,r,⟨o,n,I.gB a o c,d,f,by simpa using g⟩,?_⟩
  let e:=↑r;erw[UA] at e;symm
theorem Inv.tuple(I:Inv X pins σ H s)(h:cF X.K H a xs):∃b:-M,Vals xs b/\IsTup s.heap a b.toArray/\↑xs<=sizeLine:=by
 rcases h with h|⟨o,b,n,c,d,f,g,r⟩
 .let⟨z,b,r,p⟩:=h.ok I.bg
  exact⟨b,r,p,z⟩
 .refine⟨b.toList,r,⟨o,I.gB a o c,d,n,by simpa using f⟩,?_⟩
  let e:=↑r;erw[UA] at e;symm
theorem Inv.i5(I:Inv X pins σ H s)(h:bS X.K H a xs)(h':bS X.K H a ys):xs=ys:=by
 let⟨c,r,⟨o,n,e,_,_,d⟩,_⟩:=I.list h;let⟨b,i,⟨o',j,f,_,_,g⟩,_⟩:=I.list h';rw[e] at f;cases f;rw[d] at g;injection g with d1 _;let:c=b:=by simpa using congrArg q4K d1
 subst this;calc r.inj i
theorem Inv.ib(I:Inv X pins σ H s)(h:cF X.K H a xs)(h':cF X.K H a ys):xs=ys:=by
 let⟨c,r,⟨o,e,_,n,d⟩,_⟩:=I.tuple h;let⟨b,i,⟨o',f,_,j,g⟩,_⟩:=I.tuple h';rw[e] at f;cases f;rw[d] at g;injection g with d1 _;let:c=b:=by simpa using congrArg q4K d1
 subst this;calc r.inj i
end
noncomputable abbrev Cx.hZ(X:Cx)(E:bt):Cx:={X with xe:=E}
noncomputable abbrev Cx.kQ(X:Cx):Cx:=X.hZ λ_ _=>False
theorem Cx.Ok.hZ{X:Cx}(a:X.Ok)(E:bt):(X.hZ E).Ok :=
 ⟨a.mod,a.kind,a.glob,a.blt,a.above,a.inj,a.has,a.mY,a.hd,a.frames,a.o6,a.sY,a.bs,a.k_,a.iY,a.kh,a.fj,a.lT⟩
theorem Cx.Ok.eE{X:Cx}{E:bt}(a:(X.hZ E).Ok):X.Ok :=
 ⟨a.mod,a.kind,a.glob,a.blt,a.above,a.inj,a.has,a.mY,a.hd,a.frames,a.o6,a.sY,a.bs,a.k_,a.iY,a.kh,a.fj,a.lT⟩
section
variable{X:Cx}{pins:a6}{σ:St}{H:Hp}{s:L}{E:bt}
theorem Inv.hZ(I:Inv X pins σ H s)(E:bt):Inv (X.hZ E) pins σ H s:=⟨I.ok.hZ E,I.os,I.bare,I.base,I.loc,I.cell,I.free,I.dB,I.pin,I.bg,I.len⟩
theorem Inv.eE(I:Inv (X.hZ E) pins σ H s):Inv X pins σ H s:=⟨I.ok.eE,I.os,I.bare,I.base,I.loc,I.cell,I.free,I.dB,I.pin,I.bg,I.len⟩
theorem SP.eE{D:Ends}{f:Flow}{s':L}(h:SP (X.hZ E) pins D f s'):SP X pins D f s':=by
 cases f with
 |next=>let⟨a,b,I,q⟩:=h;exact⟨a,b,I.eE,q⟩
 |brk=>let⟨a,b,I,q⟩:=h;exact⟨a,b,I.eE,q⟩
 |cont=>let⟨a,b,I,q⟩:=h;exact⟨a,b,I.eE,q⟩
 |ret u=>let⟨v,a,b,I,r,q⟩:=h;calc⟨v,a,b,I.eE,r,q⟩
theorem ee.kQ{st:-y}{t:TS}(h:ee X.kQ st t):ee X st t:=⟨λa s b H D I c =>
 XZ (h a s b H D (I.hZ _) c) (λ_ _ q=>q.eE) λ_ _ z=>XM z⟩
end
section
variable{X:Cx}{st:y}{rest:-y}{t u:TS}{e:J}{te:TE}{pos:I}
def IY:TS:=λD a H=>D.nx a H
def me(t u:TS):TS:=λD a H=>t {D with nx:=u D} a H
theorem mf:ee X [] IY:=⟨λ_ _ a H _ I h=>Zw ⟨a,H,I,h⟩⟩
theorem nL(c:JS X st t)(d:ee X rest u):ee X (st::rest) (me t u):=by
 calc⟨?_⟩;ext a s e H D I h;refine q24 (bF (c a s e H {D with nx:=u D} I h) λf g q=>?_)
 cases f with
 |next =>
  let⟨b,i,j,q⟩:=q;exact d a g b i D j q
 |ret v=>exact q
 |brk=>exact q
 |cont=>calc q
theorem qf(b:JS X st t):ee X [st] t:=by
 calc⟨?_⟩;ext a s c H D I h;refine q24 (bF (b a s c H D I h) λf d q=>?_)
 cases f with
 |next=>exact Zw q
 |ret v=>exact q
 |brk=>exact q
 |cont=>calc q
theorem Inv.quiet{a:a6}{b:St}{H:Hp}{s:L}(I:Inv X a b H s):interactive X.env=ι:=by simp[interactive,I.ok.kind]
def Br(b:TE):TS:=λD a H=>b a H λ_ c=>D.nx a c
theorem Bs(he:JE X e te)(hs:‹swapsWith e η pos.line X.env=pure ι›):JS X (.Expr e pos) (Br te):=by
 calc⟨?_⟩;ext a s b H D I h;calc wpAny_Expr_any (bF (he a s b H _ I h) λv g ⟨x,c,d,i,f⟩↦⟨b,c,d,f⟩) I.quiet hs
def qg(a:TE):TS:=λD b H=>a b H D.rt
theorem vK(he:JE X e te):JS X (.Return (ζ e) pos) (qg te):=by
 calc⟨?_⟩;ext a s b H D I h;calc wpAny_Return_some (bF (he a s b H _ I h) λv i ⟨x,c,d,f,g⟩↦⟨x,b,c,d,f,g⟩)
def vL(c:TT)(t u:TS):TS:=λD a H=>c a H λb d=>if b=θ then t D a d else u D a d
theorem IZ{c:J}{a b:-y}{g:TT}(m:JT X c g)(n:ee X a t)(o:ee X b u):JS X (.If c a b pos) (vL g t u):=by
 calc⟨?_⟩;ext e s f H D I h;refine wpAny_If (bF (m e s f H _ I h) ?_);ext d i ⟨j,k,l⟩
 cases d with
 |true=>exact n e i f j D k l
 |false=>calc o e i f j D k l
end
abbrev TG:=V->St->Hp->(St->Hp->Prop)->Prop
abbrev kR:=-V->St->Hp->(St->Hp->Prop)->Prop
structure JG(X:Cx)(target:J)(t:TG):Prop where
 out:∀(pins:a6)(s:L)(σ:St)(H:Hp)(v:V)(u:M)(Q:St->Hp->Prop),Inv X pins σ H s->RelV v u->t v σ H Q →
  G (B X.prog X.w) X.A (assign target X.env u) (λ_ s'=>∃σ' H',Inv X pins σ' H' s'/\Q σ' H') X.xe s
instance {X:Cx} {target:J} {t:TG}:CoeFun (JG X target t) (λ_=>∀(pins:a6)(s:L)(σ:St)(H:Hp)(v:V)(u:M)(Q:St->Hp->Prop),Inv X pins σ H s->RelV v u->t v σ H Q->G (B X.prog X.w) X.A (assign target X.env u) (λ_ s'=>∃σ' H',Inv X pins σ' H' s'/\Q σ' H') X.xe s):=⟨JG.out⟩
structure jX(X:Cx)(ts:-J)(t:kR):Prop where
 out:∀(pins:a6)(s:L)(σ:St)(H:Hp)(vs:-V)(us:-M)(Q:St->Hp->Prop),Inv X pins σ H s->Vals vs us->t vs σ H Q →
  G (B X.prog X.w) X.A (assignInOrder ((assignEach ts X.env).map (·.2)) us) (λ_ s'=>∃σ' H',Inv X pins σ' H' s'/\Q σ' H') X.xe s
instance {X:Cx} {ts:-J} {t:kR}:CoeFun (jX X ts t) (λ_=>∀(pins:a6)(s:L)(σ:St)(H:Hp)(vs:-V)(us:-M)(Q:St->Hp->Prop),Inv X pins σ H s->Vals vs us->t vs σ H Q->G (B X.prog X.w) X.A (assignInOrder ((assignEach ts X.env).map (·.2)) us) (λ_ s'=>∃σ' H',Inv X pins σ' H' s'/\Q σ' H') X.xe s):=⟨jX.out⟩
abbrev nM:=V->V->V->Hp->(Hp->Prop)->Prop
def qh(X:Cx)(t:nM):Prop :=
 ∀(a:a6)(s:L)(b:St)(H:Hp)(o i v:V)(c d u:M)(Q:Hp->Prop),Inv X a b H s->RelV o c->RelV i d->RelV v u->t o i v H Q →
  G (B X.prog X.w) X.A (setItem c d u) (λ_ f=>∃e,Inv X a b e f/\Q e) X.xe s
section
variable{X:Cx}{pos:I}
def nN(i:Nat):TG:=λv a H Q=>Q (a.set i (ζ v)) H
theorem qi{i:Nat}{x:R}(b:X.N.Nodup)(c:X.N[i]?=ζ x)(d:Loc X.env.scope x)(e:autoParam (ik X x) qz1._auto_1):JG X (.Name x pos) (nN i):=by
 calc⟨?_⟩;ext a s g H v u Q I r h;calc q2E (Bm I b c d r (λj f=>⟨_,H,f,h⟩) e)
def qj:kR:=λa b H Q=>a=[]/\Q b H
def vM(t:TG)(u:kR):kR:=λb c H Q=>∃v r,b=v::r/\t v c H λa d=>u r a d Q
theorem iq:jX X [] qj:=by
 calc⟨?_⟩;ext a s b H c d Q I r h;let⟨e,h⟩:=h;subst e;cases r
 calc assignInOrder_nil ⟨b,H,I,h⟩
theorem qk{e:J}{es:-J}{t:TG}{u:kR}(c:JG X e t)(d:jX X es u)
  (hs:‹(assignEach (e::es) X.env).map (·.2)=assign e X.env::(assignEach es X.env).map (·.2)›):jX X (e::es) (vM t u):=by
 calc⟨?_⟩;ext a s f H n o Q I r h;let⟨v,p,g,h⟩:=h;subst g
 cases r with
 |cons r i =>
  rw[hs];calc assignInOrder_cons (bF (c a s f H _ _ _ I r h) ?_);ext _ j ⟨b,k,l,m⟩;calc d a j b k _ _ Q l i m
def qm(K:KC)(n:Nat)(t:kR):TG:=λv c H Q=>∃a b,v=.ref a/\cF K H a b/\↑b=n/\t b c H Q
theorem vN{es:-J}{k:Nat}{t:kR}{n:Nat}(j:X.calm=θ)(h:jX X es t)
  (hn:‹↑(assignEach es X.env)=n›) (d:‹(assignEach es X.env).findIdx? (·.1)=η›):JG X (.Tuple es k pos) (qm X.K n t):=by
 calc⟨?_⟩;ext c s g H v u Q I r f;let⟨a,l,m,p,q,f⟩:=f;subst m;cases r
 let⟨w,i,x,B⟩:=I.tuple p;calc assign_Tuple_tuple (I.ok.hd j) x (by simp[hn,<-q,i.length]) d λy z=>?_;let A:Inv X c g H {s with heap:=y}:=I.kept (t':=s.toks) λb o e=>z b o (VE (Vy e)) e;calc h c _ g H l _ Q A i⁻¹ f
def qo(b c:TE)(t:nM):TG:=λv a H Q=>b a H λo d=>c a d λi e=>t o i v e λf=>Q a f
theorem vO{o i:J}{d e:TE}{t:nM}(f:JE X o d)(g:JE X i e)(hs:qh X t)
  (k:‹∀v,assign (.Subscript o i pos) X.env v=(do
   let ov <- holding [v] (eval o X.env)
   let b <- holding [v,ov] (eval i X.env)
   standAt pos
   holding [v,ov,b] (setItem ov b v)
   release [v,ov,b] [])›):JG X (.Subscript o i pos) (qo d e t):=by
 calc⟨?_⟩;ext a s c H v u Q I r h;rw[k];calc nX (WJ (bF (f a s c H _ I h) ?_));ext j l ⟨x,m,n,p,q⟩;calc nX (WJ (bF (g a l c m _ n q) ?_));ext b w ⟨y,z,A,B,C⟩;calc nX (Zr (nX (WJ (bF (hs a w c z x y v j b u _ A p B r C) ?_))));ext _ G ⟨D,E,F⟩;calc wpAny_release ⟨c,D,E,F⟩
def ki(b:TE)(g:TG):TS:=λD a H=>b a H λx c=>g x a c D.nx
theorem tj{b e:J}{c:TE}{g:TG}(he:JE X e c)(f:JG X b g)(hs:‹swapsWithSole [b] e pos.line X.env=pure ι›)(i:‹swappedStores [b] e X.env=pure η›)
  (j:‹(assignEach [b] X.env).map (·.2)=[assign b X.env]›):JS X (.Assign [b] e pos) (ki c g):=by
 calc⟨?_⟩;ext a s d H D I h;calc wpAny_Assign_stores (bF (he a s d H _ I h) λv k ⟨x,l,m,n,o⟩=>?_) hs i;rw[j];calc bF (f a k d l x v _ m n o) λ_ p q=>q
theorem tm{i:Nat}{x:R}{e:J}{c:TE}{a:Ε}(d:X.N.Nodup)(f:X.N[i]?=ζ x)(g:Loc X.env.scope x)(he:JE X e c)(hs:‹swapsWith e (ζ (.Name x a)) pos.line X.env=pure ι›)(j:autoParam (ik X x) qz1._auto_1):
  JS X (.Assign [.Name x a] e pos) (ki c (nN i)):=by
 calc⟨?_⟩;ext b s k H D I h;calc wpAny_Assign_Name (bF (he b s k H _ I h) λv q ⟨y,l,m,n,o⟩=>?_) hs;calc Bm m d f g n (λr p=>⟨_,l,p,o⟩) j
def I0(c:TT)(tb:TS):TS:=λD a H=>∃W:Nat->St->Hp->Prop,(∃m,W m a H)/\∀m a H,W m a H →
 c a H λb e=>if b=θ then ∃N:St->Hp->Prop,(∀d f,N d f->∃g,g<m/\W g d f)/\tb {D with nx:=N,ct:=N,bk:=D.nx} a e else D.nx a e
theorem I7{c:υ}{g:-χ}{u:TT}{tb:TS}(x:PassesOwn (ς X.prog X.w) X.A X.env X.xe)(F:JT X c u)(G:ee X g tb):JS X (.While c g [] pos) (I0 u tb):=by
 calc⟨?_⟩;ext a s J H D I h;let⟨W,⟨K,L⟩,i⟩:=h;calc wpAny_While (codeAny_whileLoop (λn M=>∃j y,Inv X a j y M/\W n j y) ?_ K ⟨J,H,I,L⟩);ext n O ⟨e,z,P,Q⟩;refine YS x (bF (F a O e z _ P (i n e z Q)) ?_);ext b R ⟨B,C,l⟩
 cases b with
 |true =>
  let⟨N,E,l⟩:=l;rw[VD Y];refine YS x (bF (G a R e B _ C l) λf S m=>?_)
  cases f with
  |next =>
   let⟨d,k,o,p⟩:=m;let⟨q,r,t⟩:=E d k p;exact⟨q,r,d,k,o,t⟩
  |cont =>
   let⟨d,k,o,p⟩:=m;let⟨q,r,t⟩:=E d k p;exact⟨q,r,d,k,o,t⟩
  |brk=>exact m
  |ret v=>exact m
 |false =>
  rw[VB Wn];calc Zw ⟨e,B,C,l⟩
end
structure It where
 go:Nat->Hp->Prop
 o7:Nat->Hp->V->Hp->Prop
 stop:Nat->Hp->Prop
def cz(X:Cx)(a:a6)(H:Hp)(b:U):Prop :=
 H b=η/\b≠X.env.locals/\b∉X.fs/\(b∈X.ex\/⇑X.s₀<=b)/\(∀x c,X.env.cells.lookup x=ζ c->c≠b)/\∀p∈X.pn++a,p.1≠b
theorem Inv.i7{X:Cx}{a:a6}{f:St}{H H':Hp}{s:L}{b:U}(I:Inv X a f H s)(d:⇑s<=b)(hn:H' b=η):cz X a H' b:=by
 refine⟨hn,Yb (VR I.lt d),I.vG d,.inr (Wq I.sz d),λx c e z=>?_,λp g z=>?_⟩
 .let⟨v,q⟩:=I.cell x c e
  exact absurd (VR q.lt (by rw[z];calc d)) (X8 _)
 .calc absurd (VR (Vy (I.pin p g).1) (by rw[z];calc d)) (X8 _)
structure Turn(P:ψ)(w:l)(K:KC)(tg:υ)(J:It)(fp:-U)(it:U)(tn:Nat->Α->Prop):Prop where
 mem:it∈fp
 obj:∀i h,tn i h->∀b∈fp,∃o,h.get? b=ζ o/\∀v,o.data≠.cell v
 keep:∀i h h',tn i h->(∀b∈fp,∀o,h.get? b=ζ o->h'.get? b=ζ o)->tn i h'
 item:∀(X:Cx),X.prog=P->X.w=w->X.K=K->X.calm=θ->∀(i:Nat)(pins:a6)(s:L)(σ:St)(H:Hp)(E:bt),Inv X pins σ H s->(∀b∈fp,cz X pins H b)->tn i s.heap->J.go i H →
  G (B P w) X.A (pyNext (.ref it)) (λr s1=>∃u,r=ζ u ∧
   G (B P w) X.A (letOwnedTupleGo tg (.ref it) u) (λ_ s2=>∃x H',Inv X pins σ H' s2/\RelV x u/\J.o7 i H x H'/\tn (i+1) s2.heap/\∀b∈fp,H' b=η) E s1) E s
 done:∀(X:Cx),X.prog=P->X.w=w->X.K=K->X.calm=θ->∀(i:Nat)(pins:a6)(s:L)(σ:St)(H:Hp)(E:bt),Inv X pins σ H s->(∀b∈fp,cz X pins H b)->tn i s.heap->J.stop i H →
  G (B P w) X.A (pyNext (.ref it)) (λr s1=>r=η/\Inv X pins σ H s1) E s
 self:∀(A:t)(i:Nat)(s:L)(Q:bt)(E:bt),tn i s.heap->Q (.ref it) s->G (B P w) A (pyIter (.ref it)) Q E s
abbrev TI:=St->Hp->(It->Hp->Prop)->Prop
def vP(X:Cx)(a:a6)(i:St)(j:υ)(R:It->Hp->Prop)(c:M)(e:L):Prop :=
 ∃(f:U)(g:-U)(h:Nat->Q->Prop)(J:It)(d:Hp),c=.ref f/\Inv X a i d e/\Turn X.prog X.w X.K j J g f h/\h 0 e.heap/\(∀b∈g,cz X a d b)/\R J d
structure JI(X:Cx)(tg iter:J)(wi:TI):Prop where
 out:∀(pins:a6)(s:L)(σ:St)(H:Hp)(R:It->Hp->Prop),Inv X pins σ H s->wi σ H R →
  G (B X.prog X.w) X.A (eval iter X.env) (λv s1=>G (B X.prog X.w) X.A (pyIter v) (vP X pins σ tg R) X.xe s1) X.xe s
instance {X:Cx} {tg iter:J} {wi:TI}:CoeFun (JI X tg iter wi) (λ_=>∀(pins:a6)(s:L)(σ:St)(H:Hp)(R:It->Hp->Prop),Inv X pins σ H s->wi σ H R->G (B X.prog X.w) X.A (eval iter X.env) (λv s1=>G (B X.prog X.w) X.A (pyIter v) (vP X pins σ tg R) X.xe s1) X.xe s):=⟨JI.out⟩
theorem vQ {M:Model} {A:t} {E:bt} {s:L} {b:J} {c:U} {u:ν} {o:Γ} {n:String} {vs:Array ν} {Q:Unit->L->Prop} (d:s.heap.get? c=ζ o) (e:o.cls = .type n) (hd:o.data = .fields vs)
  (hn:["enumerate", "zip", "dict_itemiterator", "dict_reverseitemiterator", "odict_iterator", "itertools.zip_longest", "itertools.pairwise"].contains n=ι) (a:Q () s):G M A (letOwnedTupleGo b (.ref c) u) Q E s:=by
 unfold letOwnedTupleGo
 cases b<;>first
  | exact B9 a
  | (cases u<;>first
    | exact B9 a
    | (refine nX (q1q d ?_)
       rw[e,hd];show G M A (if (["enumerate", "zip", "dict_itemiterator", "dict_reverseitemiterator", "odict_iterator", "itertools.zip_longest", "itertools.pairwise"].contains n && vs[0]? == ζ (rawInt _))=θ then _ else _) Q E s;rw[VB (by ext h;rw[hn,q1Y] at h;cases h)]
       calc B9 a))
noncomputable def Bt(K:KC)(a:U):It :=
 ⟨λi H=>∃b x,bS K H a b/\b[i]?=ζ x,λi H x c=>c=H/\∀b,bS K H a b->b[i]?=ζ x,λi H=>∃b,bS K H a b/\↑b<=i⟩
noncomputable def Bu(K:KC)(a:U):It :=
 ⟨λi H=>∃b x,cF K H a b/\b[i]?=ζ x,λi H x c=>c=H/\∀b,cF K H a b->b[i]?=ζ x,λi H=>∃b,cF K H a b/\↑b<=i⟩
noncomputable def qp(a:Int)(n:Nat):It:=⟨λi _=>i<n,λi H x b=>b=H/\x=.int (a+i),λi _=>n<=i⟩
theorem I_{P:ψ}{w:ω}{K:KC}{R:υ}(a j:ξ):Turn P w K R (Bt K a) [j] j (λi h=>h.IsListIter j a i) where
 mem:=by simp
 obj:=λi h f b l=>by
  let e:b=j:=by simpa using l
  subst e;let⟨o,e,c,d⟩:=f;exact⟨o,e,λv z=>by rw[d] at z;cases z⟩
 keep:=λi h n f k=>f.at λo e=>k j (by simp) o e
 item:=by
  ext X t y A O i g s Q H E I q f B;subst t y A;let⟨S,x,r,C⟩:=B;let⟨D,F,p,T⟩:=I.list r;let⟨u,U,V⟩:=F.get C;let⟨G,J,Y,L,M,N⟩:=q j (by simp);calc wpAny_pyNext_list_item f p.isList (x:=u) U⁻¹ λn m Z=>?_;let I1:Inv X g Q H {s with heap:=n}:=I.turned (t':=s.toks) (λb o l e=>(Z.2 b l).trans e) G J L M N;let⟨o,e,c,d⟩:=id m;exact⟨u,rfl,vQ (s:={s with heap:=n}) e c d (by decide) ⟨x,H,I1,V,⟨rfl,λys hy=>by rw[I.i5 hy r];calc C⟩,m,λb l=>(q b l).1⟩⟩
 done:=by
  ext X t y A O i g s Q H E I q f B;subst t y A;let⟨S,r,C⟩:=B;let⟨D,F,p,T⟩:=I.list r;let⟨G,J,Y,L,M,N⟩:=q j (by simp);let hl:=↑F;exact wpAny_pyNext_list_end (I.ok.hd O) f p.isList (by simp;symm) λn eb=>⟨rfl,I.turned (t':=s.toks) (λb o l e=>eb b o l e) G J L M N⟩
 self:=λ_ _ _ _ _ f h=>wpAny_pyIter_listiter f h
theorem Ja{P:ψ}{w:ω}{K:KC}{R:υ}(a j:ξ):Turn P w K R (Bu K a) [j] j (λi h=>h.IsTupleIter j a i) where
 mem:=by simp
 obj:=λi h f b l=>by
  let e:b=j:=by simpa using l
  subst e;let⟨o,e,c,d⟩:=f;exact⟨o,e,λv z=>by rw[d] at z;cases z⟩
 keep:=λi h q f k=>f.at λo e=>k j (by simp) o e
 item:=by
  ext X y A B O i g s Q H E I r f C;subst y A B;let⟨S,x,t,D⟩:=C;let⟨m,F,p,T⟩:=I.tuple t;let⟨u,U,V⟩:=F.get D;let⟨G,J,Y,L,M,N⟩:=r j (by simp);calc wpAny_pyNext_tuple_item f (show s.heap.IsTuple a m.toArray from p) (x:=u) U⁻¹ λq n Z=>?_;let I1:Inv X g Q H {s with heap:=q}:=I.turned (t':=s.toks) (λb o l e=>(Z.2 b l).trans e) G J L M N;let⟨o,e,c,d⟩:=id n;exact⟨u,rfl,vQ (s:={s with heap:=q}) e c d (by decide) ⟨x,H,I1,V,⟨rfl,λys hy=>by rw[I.ib hy t];calc D⟩,n,λb l=>(r b l).1⟩⟩
 done:=by
  ext X y A B O i g s Q H E I r f C;subst y A B;let⟨S,t,D⟩:=C;let⟨m,F,p,T⟩:=I.tuple t;let⟨G,J,Y,L,M,N⟩:=r j (by simp);let hl:=↑F;exact wpAny_pyNext_tuple_end (I.ok.hd O) f (show s.heap.IsTuple a m.toArray from p) (by simp;symm) λq eb=>⟨rfl,I.turned (t':=s.toks) (λb o l e=>eb b o l e) G J L M N⟩
 self:=λ_ _ _ _ _ f h=>wpAny_pyIter_tupleiter f h
theorem Jb{P:ψ}{w:ω}{K:KC}{J:υ}(c:U)(j:Int)(n:Nat):Turn P w K J (qp j n) [c] c (λi h=>IsRangeIter h c (j+(i:Nat)*1) ((n:Int)-(i:Nat)) 1) where
 mem:=by simp
 obj:=λi h a b f=>by
  let e:b=c:=by simpa using f
  subst e
  exact⟨_,a,λv z=>by
   let L:Data.fields _=Data.cell v:=z
   cases L⟩
 keep:=λi h l a k=>k c (by simp) _ a
 item:=by
  ext X p q r u i d s F H E I m a x;subst p q r;let⟨y,A,M,B,C,D⟩:=m c (by simp);let W:=Walks.range (prog:=X.prog) (w:=X.w) (I.ok.hd u) c j 1 n;calc W.item i s _ _ x a λv l G N g O=>?_;let⟨t,rfl⟩:=N;let Q:Inv X d F H {s with heap:=l,toks:=G}:=I.turned (λb o f e=>O b o f⁻¹ e) y A B C D;calc⟨_,Y,vQ (s:={s with heap:=l,toks:=G}) (n:="range_iterator") g Y Y (by decide) ⟨.int (j+i),H,Q,⟨t,?_⟩,⟨Y,Y⟩,g,λb f=>(m b f).1⟩⟩;rw[q5L]
 done:=by
  ext X p q r u i d s F H E I m a x;subst p q r;let⟨y,A,M,B,C,D⟩:=m c (by simp);exact wpAny_pyNext_range_end (I.ok.hd u) a (by let:n<=i:=x;symm) λl R=>⟨Y,I.turned (t':=s.toks) (λb o f e=>R b o f e) y A B C D⟩
 self:=λ_ _ _ _ _ a h=>wpAny_pyIter_rangeiter a h
section
variable{X:Cx}{tg:J}
theorem Bv{d:a6}{f:St}{H:Hp}{s:L}{R:It->Hp->Prop}{E:bt}{a c:Int}{t u v:Tok}{tk:Nat}(I:Inv X d f H s)(h : -(2 ^ 62)<=a)(i:a<2 ^ 62)(j : -(2 ^ 62)<=c)(k:c<2 ^ 62)
  (q:R (qp a (c-a).toNat) H):G (B X.prog X.w) X.A (pyIter (.ref ⇑s)) (vP X d f tg R) E {s with heap:=s.heap.push {cls:=.type "range",data:=.fields #[.int a t,.int c u,.int 1 v]},toks:=tk}:=by
 calc wpAny_pyIter_range (IsRange.new ..) (small_one h i j k) ?_;let g:Inv X d f H {s with heap:=s.heap.push {cls:=.type "range",data:=.fields #[.int a t,.int c u,.int 1 v]},toks:=tk}:=I.kept λb o e=>B7 _ e
 refine⟨(s.heap.push {cls:=.type "range",data:=.fields #[.int a t,.int c u,.int 1 v]}).objs.size,[(s.heap.push {cls:=.type "range",data:=.fields #[.int a t,.int c u,.int 1 v]}).objs.size],_,_,H,Y,
  g.kept (t':=tk) λb o e=>B7 _ e,Jb _ a (c-a).toNat,?_,λb l=>?_,q⟩
 .let m:a+((0:Nat):Int)*1=a:=by simp
  let n:(((c-a).toNat:Nat):Int)-((0:Nat):Int)=q1h a c 1:=by rw[q4c];split<;>symm
  show IsRangeIter _ _ (a+((0:Nat):Int)*1) ((((c-a).toNat:Nat):Int)-((0:Nat):Int)) 1;rw[m,n];exact UB _ Y
 .let e:b=(s.heap.push {cls:=.type "range",data:=.fields #[.int a t,.int c u,.int 1 v]}).objs.size:=by simpa using l
  subst e;calc g.i7 (B8 _) (g.bg.fresh (B8 _))
def Jc(ta:TA):TI:=λa H R=>ta a H λb c=>∃j:Int,b=[.int j] /\ -(2 ^ 62)<=j/\j<2 ^ 62/\R (qp 0 j.toNat) c
def Jd(ta:TA):TI:=λa H R=>ta a H λb c=>∃i j:Int,b=[.int i,.int j]/\(-(2 ^ 62)<=i/\i<2 ^ 62 /\ -(2 ^ 62)<=j/\j<2 ^ 62)/\R (qp i (j-i).toNat) c
theorem Je{a:J}{ta:TA}{p pos:Ε}(d:Gl X "range")(f:X.mg "range" = η)(g:JA X [a] ta)(hs:‹starEach [a] X.env=[(ι,eval a X.env)]›):JI X tg (.Call (.Name "range" p) [a] [] pos) (Jc ta):=by
 calc⟨?_⟩;ext b s i H R I h;calc Call_ (m8 I d f boot_range (Ym (bF (g pos b s i H _ I h) λo u ⟨v,w,k,l,c⟩=>?_) hs Y));let⟨j,e,c,m,q⟩:=c;subst e
 cases l with
 |cons r n =>
  cases n
  let⟨t,rfl⟩:=r;calc call_range_1 (Bv k ⋯ ⋯ c m q⁻¹)
theorem Jf{a b:J}{ta:TA}{p pos:Ε}(k:Gl X "range")(l:X.mg "range" = η)(m:JA X [a,b] ta)(hs:‹starEach [a,b] X.env=[(ι,eval a X.env),(ι,eval b X.env)]›)(c:‹starEach [b] X.env=[(ι,eval b X.env)]›):
  JI X tg (.Call (.Name "range" p) [a,b] [] pos) (Jd ta):=by
 calc⟨?_⟩;ext d s n H R I h;calc Call_ (m8 I k l boot_range (Ym (bF (m pos d s n H _ I h) λz A ⟨B,C,o,u,f⟩=>?_) (by rw[hs,c]) (by rw[c];rfl)));let⟨i,j,e,⟨f,v,w,x⟩,q⟩:=f;subst e
 cases u with
 |cons r g =>
  cases g with
  |cons y g =>
   cases g
   let⟨t,rfl⟩:=r;let⟨D,rfl⟩:=y;calc call_range_2 (Bv o f v w x q)
def qq(f:TI)(g:TG)(tb:TS):TS:=λD a H=>f a H λJ h=>∃W:Nat->Nat->St->Hp->Prop,(∃m,W 0 m a h)/\∀i m a H,W i m a H →
 (J.stop i H/\D.nx a H)\/(J.go i H/\∃N:St->Hp->Prop,(∀b c,N b c->∃e,e<m/\W (i+1) e b c)/\∀x c,J.o7 i H x c->g x a c λd j=>tb {D with nx:=N,ct:=N,bk:=D.nx} d j)
noncomputable def qr(fp:-U)(h:Q):-(U×Γ):=fp.filterMap λb=>(h.get? b).map λo=>(b,o)
theorem tq{fp:-U}{h:Q}{b:U}{o:Γ}(a:b∈fp)(e:h.get? b=ζ o):(b,o)∈qr fp h:=Zx.mpr ⟨b,a,by rw[e];rfl⟩
theorem Jg{fp:-U}{h:Q}{p:U×Γ}(a:p∈qr fp h):p.1∈fp/\h.get? p.1=ζ p.2:=by
 let⟨b,c,e⟩:=Zx.mp a
 cases q:h.get? b with
 |none=>rw[q] at e;cases e
 |some o =>
  rw[q] at e;let d:(b,o)=p:=WC e;subst d;calc⟨c,q⟩
theorem Inv.pinned{a:a6}{c:St}{H:Hp}{s:L}{fp:-U}(I:Inv X a c H s)(h:∀b∈fp,cz X a H b)(i:∀b∈fp,∃o,s.heap.get? b=ζ o/\∀v,o.data≠.cell v):Inv X (a++qr fp s.heap) c H s :=
 I.gX λp j=>(VY.mp j).elim (λz=>I.pin p (V6 _ z)) λz=>by
  let⟨f,e⟩:=Jg z;let⟨k,l,m,_⟩:=h p.1 f;let⟨o,g,d⟩:=i p.1 f;rw[e] at g;cases g;calc⟨e,k,l,m,d⟩
theorem Inv.fG{a pl:a6}{b:St}{H:Hp}{s:L}(I:Inv X (a++pl) b H s):Inv X a b H s:=I.gX λp c=>I.pin p (V6 _ (XC _ c))
theorem vR{j:υ}{C:-χ}{wi:TI}{g:TG}{tb:TS}{pos:Ε}(G:PassesOwn (ς X.prog X.w) X.A X.env X.xe)(hc:X.calm=θ)(hi:JI X tg j wi)(hg:JG X tg g)(k:ee X C tb)
  (hs:‹∀x,foldedSetIterable j X.env x=pure x›):JS X (.For tg j C [] pos) (qq wi g tb):=by
 calc⟨?_⟩;ext a s σ H D I h;calc wpAny_For (bF (hi a s σ H _ I h) λv s1 h1=>bF h1 λJh s2 h2=>?_) hs;let⟨it,K,tn,J,H2,e,I2,T,U,f2,W,⟨m0,w0⟩,L⟩:=h2;subst e;let l:∀{B:Hp},(∀b∈K,B b=η)->∀b∈K,cz X a B b:=λhn b k=>⟨hn b k,(f2 b k).2⟩;calc codeAny_forLoop_any (λn s'=>∃i p B,Inv X a p B s'/\tn i s'.heap/\(∀b∈K,B b=η)/\W i n p B) ?_ m0 ⟨0,σ,H2,I2,U,λb k=>(f2 b k).1,w0⟩;ext n s3 ⟨i,q,S,I3,M,O,w3⟩;rcases L i n q S w3 with⟨P,qn⟩|⟨go,N,hN,Q⟩
 .refine YS G (bF (T.done X rfl rfl rfl hc i a s3 q S X.xe I3 (l O) M P) ?_);ext r s4 ⟨V,I4⟩
  subst V;exact Zw ⟨q,S,I4,qn⟩
 .refine YS G (bF (T.item X rfl rfl rfl hc i a s3 q S X.xe I3 (l O) M go) ?_);ext r s4 ⟨u,V,h4⟩
  subst V;calc YS G (bF h4 ?_);ext _ s5 ⟨x,H5,I5,r5,y5,F,Y⟩;let Z:=I5.pinned (l Y) (T.obj _ _ F);calc YS G (bF (hg _ s5 q H5 x u _ Z r5 (Q x H5 y5)) ?_);ext _ s6 ⟨σ6,H6,I6,q6⟩;refine YS G (bF (k _ s6 σ6 H6 _ I6 q6) λf s7 E=>?_)
  let z:∀{c:St}{t:Hp},Inv X (a++qr K s5.heap) c t s7->N c t->∃m,m<n/\∃i p B,Inv X a p B s7/\tn i s7.heap/\(∀b∈K,B b=η)/\W i m p B:=λ{c t} y R=>by
   let⟨m',hm,w7⟩:=hN c t R;calc⟨m',hm,i+1,c,t,y.fG,T.keep _ _ _ F λb k o e=>(y.pin (b,o) (V6 _ (V6 _ (tq k e)))).1,λb k=>?_,w7⟩;let⟨o,e,d⟩:=T.obj _ _ F b k;exact(y.pin (b,o) (V6 _ (V6 _ (tq k e)))).2.1
  cases f with
  |next=>let⟨c,t,y,R⟩:=E;exact z y R
  |cont=>let⟨c,t,y,R⟩:=E;exact z y R
  |brk=>let⟨c,t,y,E⟩:=E;exact⟨c,t,y.fG,E⟩
  |ret v=>let⟨x7,c,t,y,r7,E⟩:=E;calc⟨x7,c,t,y.fG,r7,E⟩
end
abbrev R2:=V->V->Hp->VK->Prop
def fA(X:Cx)(f:M->M->Sem M)(r:R2):Prop :=
 ∀(a:a6)(s:L)(b:St)(H:Hp)(x y:V)(v u:M)(Q:VK),Inv X a b H s->RelV x v->RelV y u->r x y H Q →
  G (B X.prog X.w) X.A (f v u) (EP X a b Q) X.xe s
def g6(X:Cx)(f:M)(r:-V->Hp->VK->Prop):Prop :=
 ∀(a:a6)(s:L)(b:St)(H:Hp)(c:-V)(d:-M)(Q:VK),Inv X a b H s->Vals c d->r c H Q →
  G (B X.prog X.w) X.A (call f d) (EP X a b Q) X.xe s
def qt(r:R2)(ta tb:TE):TE:=λa H Q=>ta a H λx b=>tb a b λy c=>r x y c Q
def rI(C:Int->Int->Prop)(g:Int->Int->V):R2:=λx y H Q=>∃i j,x=.int i/\y=.int j/\C i j/\Q (g i j) H
def mi(g:Int->Int->V):R2:=λx y H Q=>∃i j,x=.int i/\y=.int j/\Q (g i j) H
section
variable{X:Cx}{a b c:J}{ta tb tc:TE}{pos:I}
theorem nP(k:JE X a ta)(l:JE X b tb){c:a6}{s:L}{d:St}{H:Hp}{R:V->V->Hp->Prop}(I:Inv X c d H s)
  (h:ta d H λx j=>tb d j λy H2=>R x y H2) {Q:bt} {f:M->M->Sem M}
  (n:∀v u i x y H2,Inv X c d H2 i->RelV x v->RelV y u->R x y H2->G (ς X.prog X.w) X.A (f v u) Q X.xe i) :
  G (ς X.prog X.w) X.A (eval a X.env) (λv e=>G (ς X.prog X.w) X.A (eval b X.env) (λu g=>G (ς X.prog X.w) X.A (f v u) Q X.xe g) X.xe e) X.xe s:=by
 calc bF (k c s d H _ I h) ?_;ext v o ⟨x,j,p,q,r⟩;calc bF (l c o d j _ p r) ?_;ext u i ⟨y,m,t,z,B⟩;calc n v u i x y m t q z B
theorem qu{op:Operator}{r:R2}(d:fA X (binaryOp op) r)(e:JE X a ta)(f:JE X b tb):JE X (.BinOp a op b pos) (qt r ta tb):=by
 calc⟨?_⟩;ext c s g H Q I h;calc wpAny_BinOp (nP e f I h λv u i x y j k l m q=>d c i g j x y v u Q k l m q)
theorem tr{f:M->M->Sem M}{C:Int->Int->Prop}{g:Int->Int->Int}
  (a:∀(i j:Int)(t u:Tok)(s:L)(Q:bt)(E:bt),C i j->Q (.int (g i j) s.toks) {s with toks:=s.toks+1}->G (B X.prog X.w) X.A (f (.int i t) (.int j u)) Q E s) :
  fA X f (rI C λi j=>.int (g i j)):=by
 ext b s l H x y v u Q I c d h;let⟨i,j,rfl,rfl,e,q⟩:=h;let⟨t,rfl⟩:=c;let⟨k,rfl⟩:=d;calc a i j t k s _ _ e ⟨.int (g i j),H,I.tok _,⟨_,Y⟩,q⟩
theorem qv{f:M->M->Sem M}{g:Int->Int->Int}
  (a:∀(i j:Int)(t u:Tok)(s:L)(Q:bt)(E:bt),Q (.int (g i j) s.toks) {s with toks:=s.toks+1}->G (B X.prog X.w) X.A (f (.int i t) (.int j u)) Q E s) :
  fA X f (mi λi j=>.int (g i j)):=by
 ext b s k H x y v u Q I c d h;let⟨i,j,rfl,rfl,q⟩:=h;let⟨t,rfl⟩:=c;let⟨e,rfl⟩:=d;calc a i j t e s _ _ ⟨.int (g i j),H,I.tok _,⟨_,Y⟩,q⟩
theorem mj{f:M->M->Sem M}{g:Int->Int->Bool}
  (a:∀(i j:Int)(t u:Tok)(s:L)(Q:bt)(E:bt),Q (.bool (g i j)) s->G (B X.prog X.w) X.A (f (.int i t) (.int j u)) Q E s) :
  fA X f (mi λi j=>.bl (g i j)):=by
 ext b s k H x y v u Q I c d h;let⟨i,j,rfl,rfl,q⟩:=h;let⟨t,rfl⟩:=c;let⟨e,rfl⟩:=d;calc a i j t e s _ _ ⟨.bl (g i j),H,I,Y,q⟩
def ir(i j:Int):Prop:=0<=j/\j<=1000000/\i.natAbs<2 ^ 64
def kj(i j:Int):Prop:=(-(2 ^ 64)<i/\i<2 ^ 64)\/(-(2 ^ 64)<j/\j<2 ^ 64)
theorem kj.ok{i j:Int}(h:kj i j):IntMulOk i j:=by
 rcases h with⟨a,b⟩|⟨a,b⟩
 .exact .of_left (q4d a b)
 .calc .of_right (q4d a b)
theorem Bw:fA X (binaryOp .Add) (mi λi j=>.int (i+j)):=qv λ_ _ _ _ _ _ _ q=>add_int q
theorem Ji:fA X (binaryOp .Sub) (mi λi j=>.int (i-j)):=qv λ_ _ _ _ _ _ _ q=>sub_int q
theorem Jj:fA X (binaryOp .Mult) (rI kj λi j=>.int (i*j)):=tr λ_ _ _ _ _ _ _ a q=>mul_int q a.ok
theorem vS:fA X (binaryOp .Mod) (rI (λ_ j=>0<j) λi j=>.int (i%j)):=tr λi j _ _ _ _ _ a q=>by
 let b:(0:Int)<j:=a;calc mod_int' ⋯ (by rw[Int.fmod_eq_emod_of_nonneg i ⋯];calc q)
theorem Jk:fA X (binaryOp .Pow) (rI ir λi j=>.int (i ^ j.toNat)):=tr λ_ _ _ _ _ _ _ a q=>pow_int_small a.1 a.2.1 a.2.2 q
theorem Bx{a:a6}{b:St}{H:Hp}{s:L}{Q:VK}{k c:Bool}(I:Inv X a b H s)(q:Q (.bl k) H)(e:k=c):EP X a b Q (.bool c) s:=by
 subst e;calc⟨.bl k,H,I,Y,q⟩
theorem Jl:fA X (compareOp .Lt) (mi λi j=>.bl (S (i<j))):=mj λ_ _ _ _ _ _ _ q=>lt_int q
theorem Jo:fA X (compareOp .LtE) (mi λi j=>.bl (S (i<=j))):=mj λ_ _ _ _ _ _ _ q=>le_int q
theorem Jp:fA X (compareOp .Gt) (mi λi j=>.bl (S (j<i))):=mj λ_ _ _ _ _ _ _ q=>gt_int q
theorem Jq:fA X (compareOp .GtE) (mi λi j=>.bl (S (j<=i))):=mj λ_ _ _ _ _ _ _ q=>ge_int q
theorem Jr:fA X (compareOp .Is) (λx y H Q=>y=.non/\Q (.bl (S (x=.non))) H):=by
 ext a s d H x y v u Q I b c h;let⟨rfl,q⟩:=h;cases c
 refine is_none_gen (Bx I q ?_)
 cases x<;>first
  |(cases b;rfl)
  |(let⟨t,rfl⟩:=b;rfl)
theorem Js:fA X (compareOp .IsNot) (λx y H Q=>y=.non/\Q (.bl (!S (x=.non))) H):=by
 ext a s d H x y v u Q I b c h;let⟨rfl,q⟩:=h;cases c
 refine isnot_none_gen (Bx I q ?_)
 cases x<;>first
  |(cases b;rfl)
  |(let⟨t,rfl⟩:=b;rfl)
theorem vT(b:J){op:CmpOp}(h: ~~~(op≠.In))(a: ~~~(op≠.NotIn)):behindInMarks op b=ι:=by
 let c:(op==CmpOp.In)=ι:=by cases op<;>first|rfl|exact absurd Y h
 let d:(op==CmpOp.NotIn)=ι:=by cases op<;>first|rfl|exact absurd Y a
 cases b<;>simp[behindInMarks,c,d]
theorem Jt{op:CmpOp}{r:R2}(d:fA X (compareOp op) r)(e:JE X a ta)(f:JE X b tb)(g:behindInMarks op b=ι):JE X (.Compare a [op] [b] pos) (qt r ta tb):=by
 calc⟨?_⟩;ext c s i H Q I h;calc wpAny_Compare1 (nP e f I h λv u j x y k l m n q=>d c j i k x y v u Q l m n q) g
def Ju(t:TE):TT:=λa H Q=>t a H λx b=>∃k,x=.bl k/\Q k b
theorem Jv{op:CmpOp}{r:R2}(g:fA X (compareOp op) r)(i:JE X a ta)(j:JE X b tb)(l:behindInMarks op b=ι):JT X (.Compare a [op] [b] pos) (Ju (qt r ta tb)):=by
 calc⟨?_⟩;ext d s f H Q I h
 refine q1M (bF (i d s f H _ I h) λv m ⟨x,n,o,p,q⟩=>bF (j d m f n _ o q) λu t ⟨y,w,A,B,C⟩ =>
  bF (g d t f w x y v u _ A p B C) λc J ⟨z,D,E,F,k,e,G⟩=>?_) l
 subst e;cases F
 calc Yt ⟨D,E,G⟩
def Jw(r c:R2)(ta tb d:TE):TE:=λa H Q=>ta a H λx e=>tb a e λy f=>r x y f λz b=>∃k,z=.bl k ∧
 (if k=θ then d a b λg h=>c y g h Q else Q (.bl ι) b)
theorem Jx{op g:CmpOp}{r l:R2}(q:fA X (compareOp op) r)(j:fA X (compareOp g) l)(t:JE X a ta)(w:JE X b tb)(A:JE X c tc)
  (B:autoParam (lastMarks [op,g] [b,c]=ι) qz6._auto_1):JE X (.Compare a [op,g] [b,c] pos) (Jw r l ta tb tc):=by
 calc⟨?_⟩;ext f s i H Q I h
 refine Compare_chain (bF (t f s i H _ I h) λv C ⟨x,D,E,F,G⟩=>chain_link (bF (w f C i D _ E G) λu J ⟨y,K,L,m,M⟩ =>
  bF (q f J i K x y v u _ L F m M) λd N ⟨z,n,o,O,k,e,p⟩=>?_)) B
 subst e;cases O
 refine Yt ?_
 cases k with
 |false=>exact ite_ff ⟨.bl ι,n,o,Y,p⟩
 |true=>calc ite_tt (chain_last (bF (A f N i n _ o p) λP R ⟨S,T,U,V,W⟩↦j f R i T y S u P Q U m V W))
theorem o8:(sizeLine:Nat)<2 ^ 63:=by rw[Yg];decide
theorem Jy:fA X (binaryOp .Add) (λx y H Q=>∃i j,x=.str i/\y=.str j/\↑i+↑j<=sizeLine/\Q (.str (i++j)) H):=by
 ext a s f H x y v u Q I b c h;let⟨i,j,rfl,rfl,d,q⟩:=h;let⟨t,rfl⟩:=b;let⟨e,rfl⟩:=c;calc add_str (λe g=>⟨.str (i++j),H,I.tok _,⟨_,Y⟩,q⟩) d
theorem vals1{x:V}{us:-M}(r:Vals [x] us):∃u,us=[u]/\RelV x u:=by
 cases r with
 |cons a b=>cases b;calc⟨_,Y,a⟩
theorem vals2{x y:V}{us:-M}(r:Vals [x,y] us):∃u a,us=[u,a]/\RelV x u/\RelV y a:=by
 cases r with
 |cons b c =>
  cases c with
  |cons d e=>cases e;calc⟨_,_,Y,b,d⟩
theorem Jz(c:X.calm=θ):g6 X (.builtin "max") (λxs H Q=>∃i j,xs=[.int i,.int j]/\Q (.int (if j>i then j else i)) H):=by
 ext b s e H d f Q I r h;let⟨i,j,rfl,q⟩:=h;let⟨u,g,rfl,⟨t,rfl⟩,⟨l,rfl⟩⟩:=vals2 r;refine max_two_ints (I.ok.hd c) λm n k=>⟨_,H,I.kept k,?_,q⟩
 by_cases a:j>i
 .rw[VD a,VD a];exact⟨_,Y⟩
 .rw[VB a,VB a];calc⟨_,Y⟩
theorem JB(c:X.calm=θ):g6 X (.builtin "min") (λxs H Q=>∃i j,xs=[.int i,.int j]/\Q (.int (if j<i then j else i)) H):=by
 ext b s e H d f Q I r h;let⟨i,j,rfl,q⟩:=h;let⟨u,g,rfl,⟨t,rfl⟩,⟨l,rfl⟩⟩:=vals2 r;refine min_two_ints (I.ok.hd c) λm n k=>⟨_,H,I.kept k,?_,q⟩
 by_cases a:j<i
 .rw[VD a,VD a];exact⟨_,Y⟩
 .rw[VB a,VB a];calc⟨_,Y⟩
end
structure jF(h:Q)(x dx C:U)(mA:R->Option M):Prop where
 obj:h.get? x=ζ (YG C dx)
 ns:h.Ns1 dx mA
 ne:dx≠x
theorem JD{h:Q}{d:U}{f:R->Option M}(n:h.Ns1 d f):∃od,h.get? d=ζ od/\∀name,q0z name od=ζ (f name):=by
 let⟨o,g,r,i,j,k,_,l⟩:=n;calc⟨o,i,λb=>?_⟩;let e:=l b;unfold nsFind findBy at e;rw[<-Array.find?_toList] at e;unfold q0z;rw[j];dsimp only;split
 .rename_i y q
  rw[q] at e;exact congrArg ζ e
 .rename_i q
  rw[q] at e
  let a:g.toList.any (·.refKey)=ι:=by
   rw[YT];ext y m;let⟨z,t,c⟩:=k y (Array.mem_toList_iff.mp m);simp[DictEntry.refKey,c]
  let p:¬ g.toList.any (·.refKey)=θ:=by rw[a];exact Wn
  rw[VB p];calc congrArg ζ e
theorem jF.look{h:Q}{x a C:U}{b:R->Option M}(I:jF h x a C b):∃od,PySem.W.InstAt h x (YG C a) C (ζ od)/\∀name,q0z name od=ζ (b name) :=
 let⟨c,d,e⟩:=JD I.ns
 ⟨c,⟨I.obj,Y,Y,d⟩,e⟩
section
variable{prog:X}{w:l}{A:t}{E:bt}{s:L}{K:KC}{x dx C f:U}{mA:R->Option M}{name:R}{v:M}
theorem JH{a:Bool}{Q:bt}(X:K.In s.heap)(I:jF s.heap x dx C mA)(c:Z4 K C name=θ)(d:q0U K C=θ)
  (e:XS K (.ref C) name=ζ η) (f:mA name=ζ v) (b:q25 v=θ) (h:Q v {s with toks:=s.toks+1}) :
  G (B prog w) A (getAttr (.ref x) name a) Q E s:=by
 let⟨i,J,g⟩:=I.look;calc PySem.W.get_value X J (q0k c).1 (PySem.W.findObj_own d e Y (by rw[g,f])) b h
theorem JJ{pl:Sem Bool}{Q:M×-M->L->Prop}(X:K.In s.heap)(I:jF s.heap x dx C mA)(a:Z4 K C name=θ)
  (b:XS K (.ref C) name=ζ (ζ (.ref f))) (c:q1s K (.ref f)=θ) (d:mA name=η) (h:Q (.ref f,[.ref x]) s) :
  G (B prog w) A (getMethod (.ref x) name pl) Q E s:=by
 let⟨e,J,g⟩:=I.look;calc PySem.W.method_fn X J (q0k a).1 (q0k a).2 b (q1t.mp c) (by show(q0z name e).map (·.isSome)=ζ ι;rw[g,d];rfl) h
theorem JK{ns:-R}{Q:Unit->L->Prop}(X:K.In s.heap)(I:jF s.heap x dx C mA)
  (hs:XS K (.ref C) "__setattr__" = ζ (ζ (.builtin "object.__setattr__"))) (j:q2F K C=θ) (k:q1C K C name=ζ η) (l:q0U K C=θ)
  (m:q2D mA ns) (hsz:↑ns<=sizeLine)
  (h:∀h',jF h' x dx C (λy=>if y=name then ζ v else mA y)->Zj dx s.heap h'->Q () {s with heap:=h',toks:=s.toks+2}) :
  G (ς prog w) A (setAttr (.ref x) name v) Q E s:=by
 let⟨u,J,z⟩:=I.look;calc PySem.W.set_plain X J hs (PySem.W.osa_open (s:={s with toks:=s.toks+1}) (r:=none) X J j k λb=>?_);let⟨B,n,e⟩:=PySem.W.any_some l;let o:s.heap.get? x=ζ ⟨.ref C,ζ dx,.plain,#[]⟩:=I.obj;calc nX (B9 (nX (nX (wpAny_loadPart o (nX (PySem.W.Looks.here (s:={s with toks:=s.toks+1}) (PySem.W.looks_clsIn X n) ?_))))));rw[e];calc B9 (a:=ζ dx) (nX (B9 (nX ?_)));calc wpAny_nsSet1 (s:={s with toks:=s.toks+1}) I.ns λt c d=>?_;let⟨D,p,q,f,g,i⟩:=c.count (PySem.Within.cons name v m);refine nX (wpAny_lookBehind f (by rw[g];calc pastItsLine_dict (Wq i (by rw[wq];symm))) ?_)
 calc B9 (h _ ⟨(d.2 _ (Yy I.ne)).trans I.obj,c,I.ne⟩ d)
theorem JL{R:Result->L->Prop}{vs:-M}{kw:-(π×M)}(X:K.In s.heap)(b:q3s K C=θ)
  (c:XS K (.ref C) "__init__" = ζ (ζ (.ref f))) (e:PySem.W.typeIn K (.ref f)=ζ (.type "function"))
  (h:codeAny (B prog w) (A.under (.builtin "type.__call__" ⟨.ref C::vs,kw⟩)) (.call (.ref f) ⟨.ref (⇑s+1)::vs,kw⟩) (PySem.W.InitBack (⇑s+1) R)
   {s with heap:=(s.heap.push X1).push (YG C ⇑s)}) :
  codeAny (B prog w) A (.call (.ref C) ⟨vs,kw⟩) R s:=by
 let⟨i,g,d,t,j⟩:=s;calc PySem.W.make_core (PySem.W.makes_of X b) (PySem.W.looks_findIn X c) (λa=>PySem.W.bind_fn X a e) (.inl Y) h
end
noncomputable def dR(f:R)(v:V):-(R×V)->-(R×V)
 |[]=>[(f,v)]
 |(g,x)::r=>if g=f then(g,v)::r else(g,x)::dR f v r
theorem By(f g:R)(v:V):∀fs:-(R×V),(dR f v fs).lookup g=if g=f then ζ v else fs.lookup g
 |[]=>by
  show Y6 g [(f,v)]=_
  by_cases h:g=f
  .let a:(g==f)=θ:=q1t.mpr h
   erw[Y6,a,VD h]
  .let a:(g==f)=ι:=YY.mpr h
   erw[Y6,a,VB h]
 |(k,x)::r=>by
  let c:=By f g v r;rw[show dR f v ((k,x)::r)=(if k=f then(k,v)::r else(k,x)::dR f v r) from Y]
  by_cases b:k=f
  .rw[VD b]
   by_cases h:g=k
   .let a:(g==k)=θ:=q1t.mpr h
    erw[Y6,a,VD (h.trans b)]
   .let a:(g==k)=ι:=YY.mpr h
    erw[Y6,a,VB (λe:g=f=>h (e.trans b.symm))]
  .rw[VB b]
   by_cases h:g=k
   .let a:(g==k)=θ:=q1t.mpr h
    erw[Y6,a,VB (λe:g=f=>b (h.symm.trans e))]
   .let a:(g==k)=ι:=YY.mpr h
    erw[Y6,a];calc c
theorem vU(f:R)(v:V):∀fs:-(R×V),f∈(dR f v fs).map (·.1)/\∀g,g∈fs.map (·.1)->g∈(dR f v fs).map (·.1)
 |[]=>⟨by simp[dR],λg h=>by simp at h⟩
 |(k,x)::r=>by
  let⟨b,c⟩:=vU f v r;rw[show dR f v ((k,x)::r)=(if k=f then(k,v)::r else(k,x)::dR f v r) from Y]
  by_cases a:k=f
  .rw[VD a]
   subst a;exact⟨by simp,λg h=>by simpa using h⟩
  .rw[VB a]
   refine⟨?_,λg h=>?_⟩
   .rw[Uz]
    exact Uy _ b
   .rw[Uz] at h ⊢
    rcases Uw.mp h with e|e
    .exact Uw.mpr (.inl e)
    .calc Uy _ (c g e)
theorem Bz(f:R)(v:V):∀fs:-(R×V),↑(dR f v fs)<=fs.length+1
 |[]=>by simp[dR]
 |(k,x)::r=>by
  let b:=Bz f v r;rw[show dR f v ((k,x)::r)=(if k=f then(k,v)::r else(k,x)::dR f v r) from Y]
  by_cases a:k=f
  .rw[VD a,wq,wq];symm
  .rw[VB a,wq,wq];symm
theorem eC.some_of{v:V}{o:Option M}(r:eC (ζ v) o):∃u,o=ζ u/\RelV v u:=by
 cases o with
 |none=>exact(show False from r).elim
 |some u=>calc⟨u,Y,r⟩
theorem eC.none_of{o:Option M}(r:eC η o):o=η:=by
 cases o with
 |none=>rfl
 |some u=>calc(show False from r).elim
theorem JM{v:V}{u:M}(r:RelV v u):q25 u=θ:=by
 cases v with
 |non=>cases(show u=Wz from r);rfl
 |bl b=>cases(show u=Y8 b from r);rfl
 |int i=>let⟨t,e⟩:=(show ∃t,u=Xl i t from r);cases e;rfl
 |str x=>let⟨t,e⟩:=(show ∃t,u=q1f x t from r);cases e;rfl
 |byt b=>let⟨t,e⟩:=(show ∃t,u=Value.bytes b t from r);cases e;rfl
 |flt b=>let⟨t,e⟩:=(show ∃t,u=q3j b t from r);cases e;rfl
 |ref a=>cases(show u=WN a from r);rfl
 |ty n=>cases(show u=XR n from r);rfl
section
variable{P:X}{w:l}{H H':Hp}{h h':Q}{a C dx:U}{fs IA:-(R×V)}
theorem tu(c:fz P w H h)(e:H a=ζ (.ins C dx fs)):∃b,jF h a dx C b/\(∀f,eC (fs.lookup f) (b f))/\q2D b (fs.map (·.1))/\fs.length<=1000/\H dx=ζ (.own a):=by
 let⟨d,z,g,i,b,n,r,q⟩:=(show bq P w H h a (.ins C dx fs) from c a _ e);calc⟨b,⟨i,n,g⟩,r,q,z,d⟩
end
structure i8(K:KC)(C:U):Prop where
 pg:Z4 K C Str.empty=θ
 hd:q0U K C=θ
 po:q2F K C=θ
 sa:XS K (.ref C) "__setattr__" = ζ (ζ (.builtin "object.__setattr__"))
theorem i8.get{K:KC}{C:U}(c:i8 K C)(f:R):Z4 K C f=θ:=c.pg
def dF(K:KC)(C:U)(f:R):Prop:=XS K (.ref C) f=ζ η
theorem dF.qw{K:KC}{C:U}{f:R}(n:dF K C f):q1C K C f=ζ η:=by
 unfold q1C;rw[show XS K (.ref C) f=ζ η from n];rfl
structure Meth(K:KC)(C:U)(m:R)(f:U):Prop where
 at_:XS K (.ref C) m=ζ (ζ (.ref f))
 fn:q1s K (.ref f)=θ
 kp:Xz K (.ref f)=θ
section
variable{X:Cx}{pins:a6}{σ:St}{H:Hp}{s:L}{a C dx:U}{fs:-(R×V)}{f:R}{v:V}{A:t}{E:bt}
theorem JN{b:Bool}{Q:bt}(I:Inv X pins σ H s)(e:H a=ζ (.ins C dx fs))(c:i8 X.K C)(n:dF X.K C f)(l:fs.lookup f=ζ v)
  (h:∀u s',Inv X pins σ H s'->RelV v u->Q u s'):G (B X.prog X.w) A (getAttr (.ref a) f b) Q E s:=by
 let⟨g,O,r,_,_,_⟩:=tu I.bg e;let⟨u,i,d⟩:=eC.some_of (v:=v) (o:=g f) (by rw[<-l];calc r f);calc JH I.gB O (c.get f) c.hd n i (JM d) (h u _ (I.tok _) d)
theorem BA{m:R}{g:U}{pl:Sem Bool}{Q:M×-M->L->Prop}(I:Inv X pins σ H s)(e:H a=ζ (.ins C dx fs))(c:i8 X.K C)(k:Meth X.K C m g)(l:fs.lookup m=η)
  (h:Q (.ref g,[.ref a]) s):G (B X.prog X.w) A (getMethod (.ref a) m pl) Q E s:=by
 let⟨b,O,r,_,_,_⟩:=tu I.bg e;let d:b m=η:=eC.none_of (by rw[<-l];calc r m);calc JJ I.gB O (c.get m) k.at_ k.fn d h
theorem JO{y:V}{u:M}{Q:Unit->L->Prop}(I:Inv X pins σ H s)(e:H a=ζ (.ins C dx fs))(c:i8 X.K C)(n:dF X.K C f)(G:fs.length<1000)(l:RelV y u)
  (h:∀s',Inv X pins σ (upd H a (.ins C dx (dR f y fs))) s'->Q () s'):ρ (ς X.prog X.w) A (setAttr (.ref a) f u) Q E s:=by
 let⟨i,O,r,j,_,k⟩:=tu I.bg e;let m:↑(fs.map (·.1))<=sizeLine:=by rw[nW,Yg];symm
 calc JK I.gB O c.sa c.po n.qw c.hd j m λp d t=>h _ ?_;let B:∃o,p.get? dx=ζ o:=let⟨o,_,_,v,_⟩:=d.ns;⟨o,v⟩;calc I.write (x:=a) (e:=dx) (by rw[e];calc Yu) (.inr k) (λb q D z=>(t.2 b D).trans z) B ?_;refine⟨by rw[bu O.ne];calc k,?_,O.ne,d.obj,_,d.ns,λg=>?_,λg F=>?_⟩
 .let:=Bz f y fs;symm
 .show eC ((dR f y fs).lookup g) (if g=f then ζ u else i g)
  rw[By]
  by_cases q:g=f
  .rw[VD q,VD q];exact l
  .rw[VB q,VB q];exact r g
 .by_cases q:g=f
  .rw[q];exact(vU f y fs).1
  .refine (vU f y fs).2 g (j g λz=>F ?_)
   show(if g=f then ζ u else i g)=η;rw[VB q];calc z
theorem Inv.made(I:Inv X pins σ H s):Inv X pins σ (upd (upd H ⇑s (.own (⇑s+1))) (⇑s+1) (.ins C ⇑s []))
  {s with heap:=(s.heap.push X1).push (YG C ⇑s)}:=by
 let c:(s.heap.push X1).get? ⇑s=ζ X1:=UB s.heap Y
 let f:((s.heap.push X1).push (YG C ⇑s)).get? (⇑s+1)=ζ (YG C ⇑s):=by
  let:=UB (s.heap.push X1) (o:=YG C ⇑s) Y
  rwa [XF] at this
 let h:(s.heap.push X1).Ns ⇑s (λ_=>η):=⟨X1,#[],_,c,Y,(λe g=>absurd g (by simp)),λ_=>Y⟩;let i:=I.laid (a:=s.heap.objs.size) (o:=.own (⇑s+1)) (h':=s.heap.push X1) (t':=s.toks) (λb u q=>B7 _ q) (B8 _) ⟨_,c⟩;calc i.laid (a:=⇑s+1) (o:=.ins C ⇑s []) (t':=s.toks) (λb u q=>B7 _ q) (q2G (XF _ _)) ?_;let d:⇑s≠⇑s+1:=VE (W_ _);calc⟨by rw[bu d,cw],VX _,d,f,λ_=>η,(Heap.Ns1.of_empty h).at λo q=>B7 _ q,λ_=>Yu,λy j=>absurd Y j⟩
theorem JP{prog:ψ}{w:l}{env:u}{e:J}{f:R}{pos:I}{s:L}{Q:bt}(b:attributeBase e f env (eval e env)=eval e env)
  (h:G (B prog w) A (eval e env) (λo a=>G (B prog w) A (getAttr o f θ) Q E a) E s):G (B prog w) A (eval (.Attribute e f pos) env) Q E s :=
 Attribute_any_ h (by rw[arm_eval_Attribute,b])
end
def vV(K:KC)(ta:TE)(f:R):TE:=λd H Q=>ta d H λx b=>∃a C e c v,x=.ref a/\b a=ζ (.ins C e c)/\i8 K C/\dF K C f/\c.lookup f=ζ v/\Q v b
def vW(K:KC)(ta g:TE)(f:R):TS:=λD b H=>g b H λy h=>ta b h λx d=>∃a C e c,x=.ref a/\d a=ζ (.ins C e c)/\i8 K C/\dF K C f/\↑c<1000 ∧
 D.nx b (upd d a (.ins C e (dR f y c)))
section
variable{X:Cx}{o e value:J}{f:R}{pos pos' vX:I}{ta tv:TE}
theorem JQ(he:JE X e ta)(d:attributeBase e f X.env (eval e X.env)=eval e X.env):JE X (.Attribute e f pos) (vV X.K ta f):=by
 calc⟨?_⟩;ext b s g H Q I h;calc JP d (bF (he b s g H _ I h) ?_);ext u t ⟨x,i,j,k,a,C,w,y,v,m,o,c,n,l,q⟩;subst m;obtain rfl:u=WN a:=k;calc JN j o c n l λz A p r=>⟨v,i,p,r,q⟩
theorem JR(e:JE X o ta)(g:JE X value tv)(hs:swapsWith value (ζ (.Attribute o f pos')) pos.line X.env=pure ι):JS X (.Assign [.Attribute o f pos'] value pos) (vW X.K ta tv f):=by
 calc⟨?_⟩;ext b s d H D I h;calc plainObj_wpAny_Assign_Attribute (bF (g b s d H _ I h) λu i ⟨y,j,k,m,q⟩=>bF (e b i d j _ k q) λp B ⟨x,E,r,t,a,C,F,G,v,w,c,n,l,z⟩=>?_) hs;subst v;obtain rfl:p=WN a:=t;calc JO r w c n l m λJ A=>⟨d,_,A,z⟩
end
section
variable{X:Cx}{pins:a6}{σ:St}{H:Hp}{s:L}{A:t}{E:bt}{Q:bt}{c:M}{b:Bool}
inductive fH (K:KC) (H:Hp):V->M->Prop where
 |non:fH K H .non (.type "NoneType")
 |bl (x:Bool):fH K H (.bl x) (.type "bool")
 |int (i:Int):fH K H (.int i) (.type "int")
 |str (x:R):fH K H (.str x) (.type "str")
 |flt (x:UInt64):fH K H (.flt x) (.type "float")
 |lst {a:U} {xs:-V} (e:H a=ζ (.lst xs)):fH K H (.ref a) (.type "list")
 |frz {a:U} {o:Γ} {xs:-V} (e:H a=ζ (.frz o (.lst xs))):fH K H (.ref a) (.type "list")
 |tup {a:U} {xs:-V} (e:H a=ζ (.tup xs)):fH K H (.ref a) (.type "tuple")
 |dK {a:U} {kvs:-(Key×V)} (e:H a=ζ (.dK kvs)):fH K H (.ref a) (.type "dict")
 |dT {a:U} {kvs:-(-Key×V)} (e:H a=ζ (.dT kvs)):fH K H (.ref a) (.type "dict")
 |ins {a C dx:U} {fs:-(R×V)} (e:H a=ζ (.ins C dx fs)) (cl:i8 K C) (ha:XS K (.ref C) "__class__" = ζ (ζ (.builtin "object.__class__")))
   (hn:PySem.W.specialIn K (.builtin "object.__class__") "__get__" = ζ (ζ (.builtin "getset_descriptor.__get__"))) (Uu:PySem.W.takesIn K (.builtin "object.__class__")=ζ θ)
   (hm:PySem.W.mroIn K C (.type "object")=ζ θ):fH K H (.ref a) (.ref C)
theorem JU{x:V}{u t:ν}(I:Inv X pins σ H s)(d:RelV x u)(v:fH X.K H x t)(e:X9 X.K t c=ζ b)(h:∀tk,Q (.bool b) {s with toks:=tk}):
  ρ (ς X.prog X.w) A (call (.builtin "isinstance") [u,c]) Q E s:=by
 cases v with
 |non=>cases(show u=Wz from d);exact XT PySem.W.kitx_none I.gB Yu e (λz=>nomatch z) h
 |bl y=>cases(show u=Y8 y from d);exact XT PySem.W.kitx_bool I.gB Yu e (λz=>nomatch z) h
 |int i=>let⟨t,q⟩:=(show ∃t,u=Xl i t from d);cases q;exact XT PySem.W.kitx_int I.gB Yu e (λz=>nomatch z) h
 |str y=>let⟨t,q⟩:=(show ∃t,u=q1f y t from d);cases q;exact XT PySem.W.kitx_str I.gB Yu e (λz=>nomatch z) h
 |flt y=>let⟨t,q⟩:=(show ∃t,u=q3j y t from d);cases q;exact XT PySem.W.kitx_float I.gB Yu e (λz=>nomatch z) h
 | @lst a k f =>
  cases(show u=WN a from d)
  let⟨_,_,n,_,g⟩:=(show bq X.prog X.w H s.heap a (.lst k) from I.bg a _ f);exact XT q2H I.gB ⟨_,g,Y⟩ e (λz=>nomatch z) h
 | @frz a B k f =>
  cases(show u=WN a from d)
  let⟨_,_,_,n,_,g⟩:=(show bq X.prog X.w H s.heap a (.frz B (.lst k)) from I.bg a _ f);exact XT q2H I.gB ⟨_,g,Y⟩ e (λz=>nomatch z) h
 | @tup a k f =>
  cases(show u=WN a from d)
  let⟨_,_,_,p⟩:=(show bq X.prog X.w H s.heap a (.tup k) from I.bg a _ f);let⟨o,g,l,_⟩:=p;exact XT PySem.W.kitx_tuple I.gB ⟨o,g,l⟩ e (λz=>nomatch z) h
 | @dK a j f =>
  cases(show u=WN a from d)
  let⟨_,_,N,_,p⟩:=(show bq X.prog X.w H s.heap a (.dK j) from I.bg a _ f);let⟨o,D,F,g,l,_⟩:=p;exact XT q2I I.gB ⟨o,g,l.1⟩ e (λz=>nomatch z) h
 | @dT a j f =>
  cases(show u=WN a from d)
  let⟨_,_,k,_,o,D,F,g,l,_⟩:=(show bq X.prog X.w H s.heap a (.dT j) from I.bg a _ f);exact XT q2I I.gB ⟨o,g,l.1⟩ e (λz=>nomatch z) h
 | @ins a C P R f r G L m M =>
  cases(show u=WN a from d)
  let⟨S,O,_⟩:=tu I.bg f;let⟨T,J,_⟩:=O.look;calc XT (PySem.W.kitx_own (r.get _) r.hd G L m M) I.gB J e (λz=>nomatch z) h
end
structure bz(k:Nat)(A:t):Prop where
 hd:A.handled=η
 dp:A.depth+3*k+5<recursionLimit
 un:A.units+16*k+200<cLine
 gd:A.guards=ζ []
theorem bz.mono{j k:Nat}{A:t}(r:bz k A)(h:j<=k):bz j A:=⟨r.hd,by let:=r.dp;symm,by let:=r.un;symm,r.gd⟩
theorem bz.deeper{k:Nat}{A:t}(r:bz (k+1) A)(env:u):bz k (A.deeper env) :=
 ⟨r.hd,by let:=r.dp;show A.depth+1+3*k+5<_;symm,by let:=r.un;show A.units+3+16*k+200<_;symm,r.gd⟩
theorem bz.in1{k:Nat}{A:t}(r:bz (k+1) A):bz k A.in1 :=
 ⟨r.hd,by let:=r.dp;show A.depth+3*k+5<_;symm,by let:=r.un;show A.units+1+16*k+200<_;symm,r.gd⟩
theorem JV{A:t}{C:U}{us:-M}{kw:-(R×M)}:(A.under (.builtin "type.__call__" ⟨.ref C::us,kw⟩)).depth=A.depth+1:=by
 first|rfl|simp[q2J,Code.weight,Code.isCreation,Code.isGuard,Code.isCaller,Code.frames,q2K,guardIds]
theorem JX{A:t}{C:U}{us:-M}{kw:-(R×M)}:(A.under (.builtin "type.__call__" ⟨.ref C::us,kw⟩)).units=A.units+1:=by
 first|rfl|simp[q2J,Code.cUnits,Code.frames,q2K]
theorem bz.make{k:Nat}{A:t}(r:bz (k+1) A)(C:U)(us:-M)(kw:-(R×M)):bz k (A.under (.builtin "type.__call__" ⟨.ref C::us,kw⟩)) :=
 ⟨r.hd,by let:=r.dp;rw[JV];symm,by let:=r.un;rw[JX];symm,r.gd⟩
theorem bz.depth{k:Nat}{A:t}(r:bz k A):A.depth<recursionLimit:=by let:=r.dp;symm
theorem bz.units{k:Nat}{A:t}(r:bz k A):A.units+64<cLine:=by let:=r.un;symm
def iv:TA:=λ_ H Q=>Q [] H
def jG(ta:TE)(b:TA):TA:=λa H Q=>ta a H λx c=>b a c λd e=>Q (x::d) e
section
variable{X:Cx}{e:J}{es:-J}{te:TE}{t:TA}{pos:I}
theorem bY:JA X [] iv:=⟨λ_ _ _ _ H Q I h=>q2L ⟨[],H,I,.nil,h⟩⟩
theorem km(d:JE X e te)(f:JA X es t)(hs:‹dE X e es›):JA X (e::es) (jG te t):=by
 calc⟨?_⟩;ext b a s c H Q I h;rw[hs];show G _ _ (spliced ((ι,eval e X.env)::backTo b (starEach es X.env))) _ _ s;calc q2s (bF (d a s c H _ I h) ?_);ext u g ⟨x,i,j,k,l⟩;calc bF (f b a g c i _ j l) λr v ⟨m,n,o,p,q⟩↦⟨x::m,n,o,.cons k p,q⟩
def vY(t:TA):TE:=λc H Q=>t c H λa b=>↑a<=sizeLine/\∀p,b p=η->Q (.ref p) (upd b p (.tup a))
def qx(t:TA):TE:=λc H Q=>t c H λa b=>↑a<=sizeLine/\∀p,b p=η->Q (.ref p) (upd b p (.lst a))
theorem BB{g}(h:JA X es t):JE X (.Tuple es g pos) (vY t):=by
 calc⟨?_⟩;ext a s i H Q I j;calc wpAny_Tuple_spliced (bF (h pos a s i H _ I j) λk c ⟨l,d,f,r,z,q⟩=>⟨by rw[<-↑r];calc z,?_⟩);let m:d ⇑c=η:=f.bg.fresh (B8 _);calc⟨.ref ⇑c,upd d ⇑c (.tup l),f.laid (t':=c.toks) (λb u e=>B7 _ e) (B8 _) ?_,Y,q _ m⟩;calc⟨z,k,r,⟨_,UB _ Y,Y,_,Y⟩⟩
theorem tw(h:JA X es t):JE X (.List es pos) (qx t):=by
 calc⟨?_⟩;ext a s g H Q I i;calc wpAny_List_spliced (bF (h pos a s g H _ I i) λj c ⟨k,d,f,r,z,q⟩=>⟨by rw[<-↑r];calc z,?_⟩);let l:d ⇑c=η:=f.bg.fresh (B8 _);calc⟨.ref ⇑c,upd d ⇑c (.lst k),f.laid (t':=c.toks) (λb u e=>B7 _ e) (B8 _) ?_,Y,q _ l⟩;calc⟨z,j,0,r,UB _ Y⟩
end
abbrev Sp:=-V->Hp->VK->XK->Prop
abbrev kS:=-u->Hp->L->XK->M->L->Prop
structure jH(P:X)(w:l)(K:KC)(mg:R->Option M)(base:Q)(A:t)(outer:-u)(s:L)(H:Hp):Prop where
 frames:A.frames=ζ outer
 mod:Mod K mg base
 bs:∀b o,base.get? b=ζ o->s.heap.get? b=ζ o/\(H b=η\/∃xs,H b=ζ (.tup xs))
 k_:base.objs.size<=⇑s
 fj:s.heap.FunFrames base outer
 lT:∀b∈kP outer,H b=η
 bg:fz P w H s.heap
 bare:AllBare s.gens
def CE(outer:-Ζ)(P:X)(w:l)(H:Hp)(s:L)(Q:VK)(u:M)(s':L):Prop :=
 ∃v a,s'.os=s.os/\AllBare s'.gens/\Un (kP outer) [] H a s.heap s'.heap/\fz P w a s'.heap/\RelV v u/\Q v a
def CR(CX:kS)(outer:-Ζ)(P:X)(w:l)(H:Hp)(s:L)(Q:VK)(E:XK)(r:Result)(s':L):Prop :=
 match r with
 |.ok (.ret u)=>CE outer P w H s Q u s'
 |.ok _=>False
 |.error e=>CX outer H s E e s'
structure cG(P:X)(w:l)(K:KC)(mg:R->Option M)(base:Α)(CX:kS)(k:Nat)(f:U)(fd:FuncData)(ps:-R)(sp:Sp):Prop where
 len:∀vs H Q E,sp vs H Q E->↑vs=↑ps
 run:∀(A:t)(outer:-u)(s:L)(H:Hp)(args:Args)(us:-M)(vs:-V)(Q:VK)(E:XK),bz k A->jH P w K mg base A outer s H->BindsTo s fd args (ps.zip us)->Vals vs us->sp vs H Q E →
  codeAny (B P w) A (.call (.ref f) args) (CR CX outer P w H s Q E) s
theorem jH.make{P:X}{w:l}{K:KC}{a:R->Option M}{base:Q}{A:t}{outer:-u}{s:L}{H:Hp}(e:jH P w K a base A outer s H)(C:U)(us:-M)(kw:-(R×M)):
  jH P w K a base (A.under (.builtin "type.__call__" ⟨.ref C::us,kw⟩)) outer s H:=⟨by first|exact e.frames|(simpa[q2J,Code.envs,q2K,pushEnvs] using e.frames),e.mod,e.bs,e.k_,e.fj,e.lT,e.bg,e.bare⟩
section
variable{X:Cx}{pins:a6}{σ:St}{H:Hp}{s s':L}
theorem Inv.nQ(I:Inv X pins σ H s):jH X.prog X.w X.K X.mg X.base X.A X.stack s H :=
 ⟨I.ok.frames,I.ok.mod,I.bs,Wq I.ok.k_ I.sz,I.stack,I.jW,I.bg,I.bare⟩
theorem Inv.after{Q:VK}{u:M}(I:Inv X pins σ H s)(h:CE X.stack X.prog X.w H s Q u s'):EP X pins σ Q u s':=by
 let⟨v,f,i,a,j,c,r,q⟩:=h;let⟨k,g,d,t,e⟩:=s';obtain rfl:e=s.os:=i;calc⟨v,f,I.call (h':=k) (g':=g) (d':=d) (t':=t) (ch:=[]) j c a (λb z=>absurd z (by simp)),r,q⟩
end
def qy(sp:Sp)(a:-V)(E:XK)(t:TA):TE:=λb H Q=>t b H λc d=>sp (c++a) d Q E
def vZ(C:U)(m:R)(sp:Sp)(b:-V)(E:XK)(ta:TE)(t:TA):TE:=λc H Q=>ta c H λx d=>∃a f e,x=.ref a/\d a=ζ (.ins C f e)/\e.lookup m=η ∧
 t c d λg h=>sp (x::(g++b)) h Q E
def JY(C:U)(sp:Sp)(b:-V)(E:XK)(t:TA):TE:=λd H Q=>t d H λe c=>∀x a,c x=η->c a=η->a≠x →
 sp (.ref x::(e++b)) (upd (upd c a (.own x)) x (.ins C a [])) (λv f=>v=.non/\Q (.ref x) f) E
def Binds(K:KC)(b:FuncData)(ps:-R)(ds:-M):Prop :=
 ∀(s:L)(a:-M),K.In s.heap->↑(a++ds)=↑ps->BindsTo s b ⟨a,[]⟩ (ps.zip (a++ds))
theorem Binds.all{K:KC}{a:FuncData}{ps:-R}(h:∀us:-M,↑us=↑ps->bindArgs a ⟨us,[]⟩=pure (ps.zip us)):Binds K a ps []:=λs c _ b=>by
 rw[dV] at b ⊢;calc .of_eq (h c b)
def m9(CX:kS)(X:Cx)(E:XK):Prop:=∀(a:a6)(c:St)(H:Hp)(s:L)(e:M)(b:L),Inv X a c H s->CX X.stack H s E e b->X.xe e b
section
variable{X:Cx}{CX:kS}{k:Nat}{f C:U}{fd:FuncData}{ps:-R}{sp:Sp}{i9:-V}{ds:-M}{E:XK}{x m:R}{p pos apos:I}{e o:J}{es:-J}{ta:TE}{t:TA}
theorem tE{a:a6}{c:St}{H:Hp}{s:L}{Q:VK}{us:-M}{vs:-V}(F:cG X.prog X.w X.K X.mg X.base CX k f fd ps sp)(g:bz k X.A)(i:Binds X.K fd ps ds)(hd:Vals i9 ds)(j:m9 CX X E)
  (I:Inv X a c H s) (r:Vals vs us) (h:sp (vs++i9) H Q E):G (B X.prog X.w) X.A (call (.ref f) us) (EP X a c Q) X.xe s:=by
 let d:Vals (vs++i9) (us++ds):=r.append hd;let l:↑(us++ds)=↑ps:=by rw[<-↑d];exact F.len _ _ _ _ h
 refine q0v (YE (F.run X.A X.stack s H ⟨us,[]⟩ (us++ds) (vs++i9) Q E g I.nQ (i s us I.gB l) d h) λr m b=>?_)
 cases r with
 |error e=>exact j a c H s e m I b
 |ok n =>
  cases n with
  |ret u=>exact I.after b
  |next=>exact XM b
  |brk=>exact XM b
  |cont=>calc XM b
theorem qz(F:cG X.prog X.w X.K X.mg X.base CX k f fd ps sp)(g:bz k X.A)(i:Gl X x)(j:X.mg x=ζ (.ref f))(l:Xz X.K (.ref f)=θ)(m:Binds X.K fd ps ds)(hd:Vals i9 ds)(n:m9 CX X E)
  (o:JA X (e::es) t) (b: ~~~(cy x)) (he:‹dE X e es›) (c:‹dQ X pos es›) :
  JE X (.Call (.Name x p) (e::es) [] pos) (qy sp i9 E t):=by
 calc⟨?_⟩;ext a s u H Q I h;calc YM (s_ I i j ?_ b);calc q0A (h₀:=X.base) I.ok.mod.ju l (bF (o pos a s u H _ I h) λv y ⟨z,B,d,r,q⟩=>⟨d.gB,?_⟩) he c;calc tE F g m hd n d r q
theorem JZ(F:cG X.prog X.w X.K X.mg X.base CX k f fd ps sp)(c:bz k X.A)(d:Gl X x)(e:X.mg x=ζ (.ref f))(g:Xz X.K (.ref f)=θ)(i:Binds X.K fd ps ds)(hd:Vals i9 ds)(j:m9 CX X E)
  (a: ~~~(cy x)):JE X (.Call (.Name x p) [] [] pos) (qy sp i9 E iv):=by
 calc⟨?_⟩;ext b s l H Q I h;calc YM (s_ I d e ?_ a);calc q19 I.gB g (tE (us:=[]) F c i hd j I .nil h)
theorem J0 {pl:Sem Bool} (he:JE X o ta) (c:i8 X.K C) (i:Meth X.K C m f) (F:cG X.prog X.w X.K X.mg X.base CX k f fd ps sp) (v:bz k X.A) (y:Binds X.K fd ps ds) (hd:Vals i9 ds) (z:m9 CX X E) (B:JA X (e :: es) t)
  (d:‹dE X e es›) (g:‹dQ X pos es›)
  (D:‹eval (.Call (.Attribute o m apos) (e :: es) [] pos) X.env=(do
   let ov <- eval o X.env
   standAt apos.atName
   let (f,first) <- holding [ov] (getMethod ov m pl)
   callWith pos f first (backTo pos (starEach (e :: es) X.env)) (backToKw pos (keywordEach [] X.env)))›) :
  JE X (.Call (.Attribute o m apos) (e :: es) [] pos) (vZ C m sp i9 E ta t):=by
 calc⟨?_⟩;ext b s j H Q I h;calc q1N (pl:=pl) (bF (he b s j H _ I h) λu G ⟨x,J,n,L,a,P,R,M,N,l,q⟩ => ?_) D;subst M;obtain rfl:u=WN a:=L;calc BA n N c i l ?_;calc q0A (first:=[.ref a]) (h₀ := X.base) I.ok.mod.ju i.kp (bF (B pos b G j J _ n q) λus S ⟨vs,T,p,r,O⟩=>⟨p.gB,?_⟩) d g;calc tE (us := .ref a :: us) (vs := .ref a :: vs) F v y hd z p (.cons Y r) O
theorem J6 {pl:Sem Bool} (he:JE X o ta) (c:i8 X.K C) (e:Meth X.K C m f) (F:cG X.prog X.w X.K X.mg X.base CX k f fd ps sp) (g:bz k X.A) (i:Binds X.K fd ps ds) (hd:Vals i9 ds) (j:m9 CX X E)
  (n:‹eval (.Call (.Attribute o m apos) [] [] pos) X.env=(do
   let ov <- eval o X.env
   standAt apos.atName
   let (f,first) <- holding [ov] (getMethod ov m pl)
   callWith pos f first (backTo pos (starEach [] X.env)) (backToKw pos (keywordEach [] X.env)))›) :
  JE X (.Call (.Attribute o m apos) [] [] pos) (vZ C m sp i9 E ta iv):=by
 calc⟨?_⟩;ext b s p H Q I h;calc q1N (pl:=pl) (bF (he b s p H _ I h) λu y ⟨x,z,d,r,a,B,D,t,v,l,q⟩ => ?_) n;subst t;obtain rfl:u=WN a:=r;calc BA d v c e l ?_;calc q19 (first:=[.ref a]) d.gB e.kp (tE (us:=[.ref a]) (vs:=[.ref a]) F g i hd j d (.cons Y .nil) q)
structure Mk(K:KC)(C f:U):Prop where
 makes:q3s K C=θ
 init:XS K (.ref C) "__init__" = ζ (ζ (.ref f))
 fn:q1s K (.ref f)=θ
 kp:Xz K (.ref C)=θ
theorem J7{a:a6}{g:St}{H:Hp}{s:L}{Q:VK}{us:-ν}{vs:-V}(M:Mk X.K C f)(F:cG X.prog X.w X.K X.mg X.base CX k f fd ps sp)(l:bz (k+1) X.A)(m:Binds X.K fd ps ds)(hd:Vals i9 ds)
  (n:m9 CX X E) (I:Inv X a g H s) (r:Vals vs us)
  (h:∀x c,H x=η->H c=η->c≠x->sp (.ref x::(vs++i9)) (upd (upd H c (.own x)) x (.ins C c [])) (λv H2=>v=.non/\Q (.ref x) H2) E) :
  G (ς X.prog X.w) X.A (call (.ref C) us) (EP X a g Q) X.xe s:=by
 let i:=h (⇑s+1) ⇑s (I.bg.fresh (q0b _)) (I.bg.fresh (B8 _)) (VE (W_ _));let d:=Inv.made (C:=C) I;let j:Vals (V.ref (⇑s+1)::(vs++i9)) (WN (⇑s+1)::(us++ds)):=.cons Y (r.append hd)
 let o:↑(WN (⇑s+1)::us++ds)=↑ps:=by
  let e:=↑j;rw[F.len _ _ _ _ i] at e;exact e.symm
 refine q0v (JL (f:=f) I.gB M.makes M.init (q1t.mp M.fn) (YE (F.run _ X.stack _ _ ⟨WN (⇑s+1)::us,[]⟩ (WN (⇑s+1)::(us++ds)) _ _ E (l.make C us [])
  (d.nQ.make C us []) (m _ (WN (⇑s+1)::us) d.gB o) j i) λr p b=>?_))
 cases r with
 |error e=>exact n a g _ _ e p d b
 |ok q =>
  cases q with
  |ret u =>
   let⟨v,t,y,z,B,D⟩:=d.after b;subst B;exact⟨z,⟨V.ref (⇑s+1),t,y,Y,D⟩⟩
  |next=>exact XM b
  |brk=>exact XM b
  |cont=>calc XM b
theorem J8(M:Mk X.K C f)(F:cG X.prog X.w X.K X.mg X.base CX k f fd ps sp)(g:bz (k+1) X.A)(i:Gl X x)(j:X.mg x=ζ (.ref C))(l:Binds X.K fd ps ds)(hd:Vals i9 ds)(m:m9 CX X E)
  (n:JA X (e::es) t) (b: ~~~(cy x)) (he:‹dE X e es›) (c:‹dQ X pos es›) :
  JE X (.Call (.Name x p) (e::es) [] pos) (JY C sp i9 E t):=by
 calc⟨?_⟩;ext a s o H Q I h;calc YM (s_ I i j ?_ b);calc q0A (h₀:=X.base) I.ok.mod.ju M.kp (bF (n pos a s o H _ I h) λu v ⟨y,z,d,r,q⟩=>⟨d.gB,?_⟩) he c;calc J7 M F g l hd m d r q
end
section
variable{X:Cx}{CX:kS}{k:Nat}{f C:U}{fd:FuncData}{ps ks:-R}{sp:Sp}{E:XK}{x m:R}{p pos apos nR:I}{e o:J}{es:-J}{Uv:-Keyword}{te ta:TE}{t tk:TA}{nm:Option R}
variable{g:-M->-M->-M}{gV:-V->-V->-V}
end
structure lU(N P:-R)(sc:o):Prop where
 kind:sc.kind=.function
 co:sc.isCoroutine=ι
 gen:sc.isGenerator=ι
 nd:N.Nodup
 pre:N.take ↑P=P
 par:∀x∈P,sc.names.lookup x=ζ .local\/sc.names.lookup x=ζ .cell
 nS:∀y∈sc.names,y.2≠.free
theorem BC{b:R->Option NameKind}{x:R}:∀{a:-(R×M)}{m:R->Option M},(∀v,(x,v)∉a)->bindL b a m x=m x
 |[],_,_=>Y
 |(n,v)::r,m,h=>by
  unfold bindL;rw[BC λw c=>h w (Uy _ c)];split
  .let:x≠n:=by ext rfl;exact h v Ux
   simp[this]
  .rfl
theorem BE{b:R->Option NameKind}{x:R}:∀{a:-(R×M)}{m:R->Option M},(∀v,(x,v)∉a)->bindC b a m x=m x
 |[],_,_=>Y
 |(n,v)::r,m,h=>by
  unfold bindC;rw[BE λw c=>h w (Uy _ c)];split
  .rfl
  .let:x≠n:=by ext rfl;exact h v Ux
   simp[this]
theorem BF{a:R->Option NameKind}{x:R}{v:M}:∀{P:-R}{vs:-M}{i:Nat}{m:R->Option M},P.Nodup->P[i]?=ζ x->vs[i]?=ζ v->a x=ζ .local →
  bindL a (P.zip vs) m x=ζ v
 |[],_,_,_,_,h,_,_=>by simp at h
 |_::_,[],_,_,_,_,h,_=>by simp at h
 |p::P,w::d,0,m,e,b,c,f=>by
  simp at b c;subst b;subst c;show bindL a ((p,w)::P.zip d) m p=_;unfold bindL;rw[BC λv g=>(Yx.mp e).1 (q1D g).1,VD f];simp
 |p::P,w::d,i+1,m,e,b,c,f=>by
  show bindL a ((p,w)::P.zip d) m x=_;unfold bindL;calc BF (i:=i) (Yx.mp e).2 b⁻¹ c⁻¹ f
theorem BG{a:R->Option NameKind}{x:R}{v:M}:∀{P:-R}{vs:-M}{i:Nat}{m:R->Option M},P.Nodup->P[i]?=ζ x->vs[i]?=ζ v->a x≠ζ .local →
  bindC a (P.zip vs) m x=ζ v
 |[],_,_,_,_,h,_,_=>by simp at h
 |_::_,[],_,_,_,_,h,_=>by simp at h
 |p::P,w::d,0,m,e,b,c,f=>by
  simp at b c;subst b;subst c;show bindC a ((p,w)::P.zip d) m p=_;unfold bindC;rw[BE λv g=>(Yx.mp e).1 (q1D g).1,VB f];simp
 |p::P,w::d,i+1,m,e,b,c,f=>by
  show bindC a ((p,w)::P.zip d) m x=_;unfold bindC;calc BG (i:=i) (Yx.mp e).2 b⁻¹ c⁻¹ f
noncomputable def start(N:-R)(vs:-V):St:=vs.map ζ++VF (↑N-↑vs) η
noncomputable def gh(CX:kS)(P:X)(w:l)(K:KC)(mg:R->Option M)(base:Q)(N:-R)(a:R)(scope:o)(f:U)(c:M)(A:t)(outer:-u)(s:L)(H:Hp)(E:XK):Cx where
 prog:=P
 w:=w
 K:=K
 mg:=mg
 base:=base
 A:=A.deeper (envOfC a scope ⇑s f c)
 N:=N
 s₀:=s
 H₀:=H
 env:=envOfC a scope ⇑s f c
 outer:=outer
 stack:=envOfC a scope ⇑s f c::outer
 ex:=[]
 calm:=true
 fn:=λ_=>θ
 pn:=[]
 xe:=λe d=>G (B P w) (A.deeper (envOfC a scope ⇑s f c)) (leaving (envOfC a scope ⇑s f c) e) (λ_ b=>CX outer H s E e b) (λg b=>CX outer H s E g b) d
theorem BH{a:o}{n:Nat}{x:R}(h:a.names.lookup x=ζ .cell):∃c,(cellsFrom n a.names []).lookup x=ζ c:=by
 let q:=ZR a.names n [] (.inl h);calc q02.mp q
theorem J9{CX:kS}{P:X}{w:ω}{K:KC}{F:π->Option ν}{base:Α}{N ps:-π}{d:π}{scope:Δ}{f:U}{B:ν}{A:Β}{outer:-Ζ}{s G:ο}{H:Hp}{E:XK}{us:-ν}{vs:-V}
  (S:lU N ps scope) (hd:A.handled=η) (j:jH P w K F base A outer s H) (Q:↑vs=↑ps) (r:Vals vs us)
  (x:InCallC s ⇑s (bindL (envOfC d scope ⇑s f B).kindOf (ps.zip us) λ_=>η) (cellsFrom (⇑s+1) scope.names []) (bindC (envOfC d scope ⇑s f B).kindOf (ps.zip us) λ_=>η) G) :
  Inv (gh CX P w K F base N d scope f B A outer s H E) [] (start N vs) H G:=by
 let L:↑ps<=↑N:=by let:=congrArg q5O S.pre;rw[Wv] at this;symm
 let⟨C,R,rfl,I⟩:=x.done;let l:∀b:U,b∉(gh CX P w K F base N d scope f B A outer s H E).ex:=λb z=>absurd (show b∈([]:-U) from z) (by simp)
 refine⟨⟨j.mod,S.kind,Y,Y,B8 _,λy z c C g=>?_,λy m=>?_,λy c _ h=>?_,λ_=>hd,q1Z j.frames,.inr ⟨Y,Y⟩,λb z=>absurd z (l b),j.bs,j.k_,λb _ _=>l b,λb z=>absurd z (l b),j.fj,j.lT⟩,
  Y,j.bare,Un.kept I,⟨_,x.toInCall.ns,λi y v C g T=>?_⟩,λy c h=>⟨_,x.cell y c h⟩,j.bg.fresh (B8 _),λy c h=>?_,λp o=>absurd (show p∈([]:a6) from o) (by simp),j.bg.kept I,?_⟩
 .exact name_of_addr x.apart (XJ C) (XJ g)
 .let m:scope.names.lookup y=ζ .cell\/scope.names.lookup y=ζ .free:=m
  rcases m with m|m
  .exact BH m
  .exact absurd Y (S.nS _ (XJ m))
 .exact Xc (x.above y c (XJ h))
 .let D:i<↑vs:=by
   unfold start at g
   by_cases D:i<↑vs
   .exact D
   .rw[My D⁻¹] at g
    rw[ZE] at g;split at g<;>cases g
  let M:vs[i]?=ζ v:=by
   unfold start at g;rw[KH D⁻¹,B_] at g
   cases e:vs[i]? with
   |none=>rw[e] at g;cases g
   |some a=>rw[e] at g;cases g;rfl
  let⟨u,J,O⟩:=r.get M
  let o:ps[i]?=ζ y:=by
   rw[<-S.pre,W0 ⋯];exact C
  let t:ps.Nodup:=by rw[<-S.pre];exact S.nd.sublist (q2A _ _)
  calc⟨u,O,?_⟩;rcases S.par y (WR o) with k|k
  .exact .inl ⟨k,BF t o J k⟩
  .let⟨c,e⟩:=BH (n:=⇑s+1) k
   calc .inr ⟨.inl k,c,e,?_⟩;let q:=x.cell y c e;rw[BG t o J (by show scope.names.lookup y≠_;rw[k];decide)] at q;exact q
 .exact j.bg.fresh (Xc (x.above y c (XJ h)))
 .unfold start
  show _=↑N;rw[qG,nW,Zb];symm
theorem BI{CX:kS}{P:ψ}{w:ω}{K:KC}{G:π->Option ν}{base:Α}{k:Nat}{f:ξ}{name a:π}{g:Arguments}{h:-χ}{scope:Δ}{Y Z z pm d ct oc:ν}{an od:Option ξ}
  {L:Array (Option ν)} {N ps:-π} {sp:Sp} (lk:K.lookup f=ζ ⟨oc,od,.func (Xs name a g h scope Y Z z pm an d ct),L⟩) (M:Zg K d a=θ) (S:lU N ps scope)
  (B:∀vs H Q E,sp vs H Q E->↑vs=↑ps)
  (j:∀(A:Β)(outer:-Ζ)(s:ο)(H:Hp)(vs:-V)(Q:VK)(E:XK),bz k (A.deeper (envOfC a scope ⇑s f d))->sp vs H Q E →
   ∃t,ee (gh CX P w K G base N a scope f d A outer s H E) h t/\t {nx:=λ_ H'=>Q .non H',rt:=Q} (start N vs) H) :
  cG P w K G base CX (k+1) f (Xs name a g h scope Y Z z pm an d ct) ps sp:=by
 calc⟨B,λA c s H args us O Q E R C hb r D=>?_⟩;let hl:=B _ _ _ _ D;let KX:K.In s.heap:=C.mod.ju.keeps λb o e=>(C.bs b o e).1;let T:s.heap.NoLimit:=C.mod.nolimit.keeps λb o e=>(C.bs b o e).1
 let l:∀y∈ps.zip us,scope.names.lookup y.1=ζ .local\/(scope.names.lookup y.1=ζ .cell/\((cellsFrom (⇑s+1) scope.names []).lookup y.1).isSome=θ):=λ⟨n,v⟩ hy↦by
  rcases S.par n (q1D hy).1 with q|q
  .exact .inl q
  .exact .inr ⟨q,ZR _ _ _ (.inl q)⟩
 calc codeAny_call_function R.depth (KX _ _ lk) rfl S.co S.gen rfl (PySem.W.codeRec_of KX M) (hb _ _ _ _ ?_);calc wpAny_newFunctionEnv_cells S.kind l λenv he s1 x=>?_;subst he;calc⟨T.keeps x.toInCall.keep,codeAny_func ?_⟩;let⟨t,ht,hq⟩:=j A c s H O Q E (R.deeper _) D;let I:Inv (gh CX P w K G base N a scope f d A c s H E) [] (start N O) H s1:=J9 S R.hd C hl r x;refine XZ (ht [] s1 (start N O) H _ I hq) (λfl U p=>?_) λe U p=>p
 let F:∀{i:St}{m:Hp}{v:V}{u:ν},Inv (gh CX P w K G base N a scope f d A c s H E) [] i m U->RelV v u->Q v m->CE c P w H s Q u U :=
  λ{i m v u} J X q=>⟨v,m,J.os,J.bare,J.base,J.bg,X,q⟩
 cases fl with
 |ret u =>
  let⟨v,i,m,J,X,q⟩:=p;exact F J X q
 |next =>
  let⟨i,m,J,q⟩:=p;exact F (v:=V.non) (u:=Wz) J rfl q
 |brk =>
  let⟨_,_,_,q⟩:=p;exact XM q
 |cont =>
  let⟨_,_,_,q⟩:=p;calc XM q
section
variable{X:Cx}{x:R}{p pos:I}{e:J}{es:-J}{t:TA}{id T:String}{r:-V->Hp->VK->Prop}
def qA(r:-V->Hp->VK->Prop)(t:TA):TE:=λa H Q=>t a H λb c=>r b c Q
theorem o9(f:g6 X (.builtin id) r)(g:Gl X x)(i:X.mg x=η)(j:bootBuiltins x=ζ (.builtin id))(k:JA X (e::es) t)(hn:x≠"__name__" := by decide)(b: ~~~(cy x))
  (he:‹dE X e es›) (c:‹dQ X pos es›):JE X (.Call (.Name x p) (e::es) [] pos) (qA r t):=by
 calc⟨?_⟩;ext a s d H Q I h;calc YM (m8 I g i j ?_ hn b);calc PyProof.Rows.callWith_builtin1 (bF (k pos a s d H _ I h) λl m ⟨n,o,q,u,v⟩↦f a m d o n l Q q u v) he c
theorem ml(f:g6 X (.type T) r)(g:Gl X x)(i:X.mg x=η)(j:bootBuiltins x=ζ (.type T))(k:JA X (e::es) t)(hn:x≠"__name__" := by decide)(b: ~~~(cy x))
  (he:‹dE X e es›) (c:‹dQ X pos es›):JE X (.Call (.Name x p) (e::es) [] pos) (qA r t):=by
 calc⟨?_⟩;ext a s d H Q I h;calc YM (m8 I g i j ?_ hn b);calc Ym (bF (k pos a s d H _ I h) λl m ⟨n,o,q,u,v⟩↦f a m d o n l Q q u v) he c
end
end L2
namespace HT
open PySem PyProof.Rows
noncomputable def lexLt:-Int->-Int->Bool
 |[],[]=>ι
 |[],_::_=>θ
 |_::_,[]=>ι
 |x::a,y::b=>if x=y then lexLt a b else S (x<y)
theorem lV(x y:Int)(xs ys:-Int):lexLt (x::xs) (y::ys)=if x=y then lexLt xs ys else S (x<y):=rfl
theorem BJ:lexLt [] []=ι:=rfl
theorem BK(y:Int)(ys:-Int):lexLt [] (y::ys)=θ:=rfl
theorem BL(x:Int)(xs:-Int):lexLt (x::xs) []=ι:=rfl
theorem BM(A:Β)(s:L)(a:Int)(t:Tok)(c:Int)(u:Tok):∃e,q1r A s (.int a t) (.int c u) e/\(e=θ↔a=c) :=
 ⟨(a==c),q2t a t c u,by simp⟩
theorem J_(A:Β)(s:L)(a:Int)(t:Tok)(c:Int)(u:Tok)(prog:X)(w:l)(E:bt)(Q:bt)(h:Q (.bool (S (a<c))) s):
  G (B prog w) A (richCompare .Lt (.int a t) (.int c u)) Q E s :=
 (q0l h:G (B prog w) A (compareOp .Lt (.int a t) (.int c u)) Q E s)
section
open PySem.SeqAt
open PySem.AutoSeq1 (wpAny_loadPart')
open PySem.MeetsSeq PySem.MeetsSeq2 PySem.MeetsSeq3
theorem Ka(l b:ξ)(items f:Array ν)(n Q:Nat)(dd K:Option ξ)(sl L:Array (Option ν))(ns ms:-Int)(O:IntsAre items.toList ns)(hj:IntsAre f.toList ms):
  Meets (Builtin.«tuple.__lt__» ⟨[.ref l,.ref b],[]⟩)
   (λ_ R s=>s.heap.get? l=ζ {cls:=.type "tuple",dict:=dd,data:=.seq items n,slots:=sl}/\s.heap.get? b=ζ {cls:=.type "tuple",dict:=K,data:=.seq f Q,slots:=L} ∧
    R (.ok (.ret (.bool (lexLt ns ms)))) s) :=
 .of_wp λp w A R s h=>by
  let⟨F,g,d,G,H⟩:=s;let⟨hl,hb,h⟩:=h;let U:=q03;let V:items.size=↑ns:=by rw[<-↑O];simp
  let W:f.size=↑ms:=by rw[<-↑hj];simp
  wp_walk using XG hl,XG hb,q1b _ (λr b M=>b.1=η/\M=⟨F,g,d,G,H⟩/\∃(I J:-ν)(j k:-Int),r=I.zip J ∧
   IntsAre I j/\IntsAre J k/\↑j+f.size=k.length+items.size/\R (.ok (.ret (.bool (lexLt j k)))) ⟨F,g,d,G,H⟩) _
  case turn =>
   ext⟨y,x⟩ r b M ⟨B,rfl,I,J,j,k,m,C,o,i,v⟩
   cases C with
   |nil=>rw[Zd] at m;cases m
   |cons a t D =>
    cases o with
    |nil=>rw[q0B] at m;cases m
    |cons c u E =>
     rw[YD] at m;injection m with v3 la;injection v3 with hy hx;subst hy hx;rw[lV] at v;erw[wq] at i;let⟨e,S,z⟩:=BM A.in1 ⟨F,g,d,G,H⟩ a t c u;refine nX (S p w _ _ ?_)
     cases e with
     |true =>
      rw[VD (z.mp rfl)] at v
      wp_walk
      exact⟨rfl,rfl,_,_,_,_,la,D,E,⋯,v⟩
     |false =>
      rw[VB (λq=>absurd (z.mpr q) Wn)] at v;let N:=J_ A.in1 ⟨F,g,d,G,H⟩ a t c u p w
      wp_walk using N
      exact⟨_,rfl,by simpa using v⟩
  case fin =>
   ext⟨X,Y⟩ M ⟨B,rfl,I,J,j,k,m,C,o,i,v⟩;simp only at B;subst B
   let P:lexLt j k=μ (items.size<f.size):=by
    cases C with
    |nil =>
     cases o with
     |nil =>
      erw[VO] at i;rw[BJ];exact(VC ⋯).symm
     |cons c u T =>
      erw[VO,wq] at i;rw[BK];exact(VG ⋯).symm
    |cons a t P =>
     cases o with
     |nil =>
      erw[VO,wq] at i;rw[BL];exact(VC ⋯).symm
     |cons c u T =>
      rw[YD] at m;cases m
   rw[P] at v
   wp_walk
   exact⟨_,rfl,by simpa[ZY] using v⟩
  case h =>
   calc⟨rfl,rfl,items.toList,f.toList,ns,ms,rfl,O,hj,⋯,h⟩
end
section
variable{prog:X}{w:l}{A:t}{E:bt}{s:L}
theorem v5{l b:U}{items a:Array M}{ns ms:-Int}{Q:bt}(q:IsTup s.heap l items)(r:IsTup s.heap b a)(t:IntsAre items.toList ns)(hj:IntsAre a.toList ms)
  (u:A.units<cLine) (h:Q (.bool (lexLt ns ms)) s):G (ς prog w) A (compareOp .Lt (.ref l) (.ref b)) Q E s:=by
 let⟨⟨v,y,j,z⟩,k,m,n,o⟩:=id q;let⟨⟨p,f,g,i⟩,c,d,B,e⟩:=id r;simp only at m o d e;subst m o d e
 exact q1u (op:=.Lt) ⟨_,k,Y⟩ ⟨_,c,Y⟩ PySem.F.slot_tuple_lt PySem.F.entry_tuple_lt (PySem.F.args_tuple_lt_2 _ _) (Ka l b items a n B y f z i ns ms t hj)
  ⟨k,c,show Y8 (lexLt ns ms)≠q10/\Q (.bool (lexLt ns ms)) s from⟨(λx=>nomatch x),h⟩⟩ u
theorem Kb{t b:U}{vs ws:-M}{Q:bt}(u:IsTup s.heap t vs.toArray)(v:IsTup s.heap b ws.toArray)(k:vs≠[])
  (x:ws=[]->Q (.ref t) s) (y:ws≠[]->Q (.ref ⇑s) {s with heap:=s.heap.push {cls:=.type "tuple",data:=.seq (vs++ws).toArray}})
  (hsz:↑vs+↑ws<=sizeLine):G (B prog w) A (binaryOp .Add (.ref t) (.ref b)) Q E s:=by
 let⟨⟨cls,l,data,m⟩,h,o,n,p⟩:=id u;let⟨⟨q,c,j,d⟩,a,f,r,g⟩:=id v;simp only at o p f g;subst o p f g;let e:vs.toArray++ws.toArray=(vs++ws).toArray:=by simp
 by_cases i:ws=[]
 .exact q2M ⟨_,h,Y⟩ ⟨_,a,Y⟩ q1i q2j ZS ZF (Zs _ _)
   (tuple_addW1 t b vs.toArray ws.toArray n r l c m d k⁻¹ (by simp[i])) ⟨h,a,x i⟩
 .refine q2M ⟨_,h,Y⟩ ⟨_,a,Y⟩ q1i q2j ZS ZF (Zs _ _)
   (tuple_addW2 t b vs.toArray ws.toArray n r l c m d k⁻¹ i⁻¹ (by rw[KD,KD];calc hsz)) ⟨h,a,?_⟩
  rw[e];calc y i
noncomputable def bM(n d:Nat):Option Int->Nat
 |none=>d
 |some v=>if v<0 then(v+(n:Int)).toNat else min v.toNat n
theorem Kc(n d:Nat):bM n d η=d:=rfl
theorem v7(n d k:Nat):bM n d (ζ (k:Int))=min k n:=by
 show(if(k:Int)<0 then((k:Int)+(n:Int)).toNat else min (k:Int).toNat n)=min k n;rw[VB ⋯,V7]
theorem Kd(n d:Nat)(hd:d<=n)(o:Option Int):bM n d o<=n:=by
 cases o with
 |none=>exact hd
 |some v =>
  show(if v<0 then(v+(n:Int)).toNat else min v.toNat n)<=n
  by_cases a:v<0
  .rw[VD a];symm
  .rw[VB a];calc Nat.min_le_right _ _
theorem BN(v:Int)(n d:Nat):(if v<0 then max (v+(n:Int)) 0 else min v (n:Int))=((bM n d (ζ v):Nat):Int):=by
 show(if v<0 then max (v+(n:Int)) 0 else min v (n:Int))=(((if v<0 then(v+(n:Int)).toNat else min v.toNat n):Nat):Int)
 by_cases a:v<0
 .erw[VD a];symm
 .erw[VB a];symm
theorem Ke(a b:Option Int)(n:Nat):Zn a b 1 (n:Int)=(((bM n 0 a:Nat):Int),((bM n n b:Nat):Int)):=by
 let c:¬ ((1:Int)<0):=by symm
 unfold Zn;erw[c,W7];refine Prod.ext ?_ ?_
 .cases a with
  |none=>rfl
  |some v=>exact BN v n 0
 .cases b with
  |none=>rfl
  |some v=>calc BN v n n
theorem Kg(i j:Nat):YQ (i:Int) (j:Int) 1=j-i:=by
 unfold YQ;let a:(1:Int)>0:=by symm
 erw[a,Xj,Int.ediv_one];split<;>symm
theorem BO{v:M}{o:Option Int}{Q:Option Int->L->Prop}(p:IsPart v o)(h:Q o s):G (B prog w) A (Builtin.Slice.slicePartIndex v) Q E s:=by
 cases p with
 |none=>exact slicePart_none h
 |int i t=>calc slicePart_int h
theorem BP{sl:U}{e f:M}{a b:Option Int}{n:Nat}{Q:Int×Int×Nat->L->Prop}(hs:s.heap.IsSliceOf sl e f .none)(pl:IsPart e a)(g:IsPart f b)
  (h:Q (((bM n 0 a:Nat):Int),1,bM n n b-bM n 0 a) s):G (B prog w) A (q0C (.ref sl) (pure (n:Int))) Q E s:=by
 let⟨j,c,i,d⟩:=id hs;unfold q0C Builtin.Slice.sliceFields;calc nX (nX (ZG c d (x:=e) Y (nX (ZG c d (x:=f) Y (nX (ZG c d (x:=.none) Y (B9 ?_)))))));calc nX (slicePart_none ?_);show G _ _ (if((1:Int)==0)=θ then _ else _) _ _ s;rw[VB (by decide)];refine nX (BO pl (nX (BO g (nX (B9 ?_)))))
 show G _ _ (match Zn a b 1 (n:Int) with|(a,b)=>pure (a,(1:Int),YQ a b 1)) _ _ s;rw[Ke a b n];show G _ _ (pure (((bM n 0 a:Nat):Int),(1:Int),YQ ((bM n 0 a:Nat):Int) ((bM n n b:Nat):Int) 1)) _ _ s;rw[Kg];calc B9 h
theorem Kh(xs:Array M)(i k:Nat):((Wo k).filterMap λ(m:Nat)=>xs[((i:Int)+(m:Int)*1).toNat]?).toArray=((xs.toList.drop i).take k).toArray:=by
 let e:(λ(m:Nat)=>xs[((i:Int)+(m:Int)*1).toNat]?)=λm=>xs[i+m]?:=by
  funext m;let:((i:Int)+(m:Int)*1).toNat=i+m:=by symm
  rw[this]
 rw[e];let:=pick_run xs i k;rw[q2o] at this;let a:((λx=>xs[x]?)∘λx=>i+x)=λm=>xs[i+m]?:=Y;rw[a] at this;rw[this]
theorem Ki{t sl:U}{items:Array M}{i j:M}{a b:Option Int}{Q:bt}(c:IsTup s.heap t items)(hs:s.heap.IsSliceOf sl i j .none)(pl:IsPart i a)(k:IsPart j b)
  (l:¬ (bM items.size 0 a=0/\bM items.size items.size b=items.size))
  (h:Q (.ref ⇑s) {s with heap:=s.heap.push {cls:=.type "tuple",data:=.seq ((items.toList.drop (bM items.size 0 a)).take (bM items.size items.size b-bM items.size 0 a)).toArray}})
  (hsz:items.size<=sizeLine):G (B prog w) A (getItem (.ref t) (.ref sl)) Q E s:=by
 let jY:sizeOk (.seq ((items.toList.drop (bM items.size 0 a)).take (bM items.size items.size b-bM items.size 0 a)).toArray):=by
  show((items.toList.drop (bM items.size 0 a)).take (bM items.size items.size b-bM items.size 0 a)).toArray.size<=sizeLine;rw[KD,Wv,YJ,UA];symm
 let p:bM items.size items.size b<=items.size:=Kd _ _ (B8 _) b;let⟨n,d,e,o⟩:=id hs;let f:s.TypeIs (.ref sl) "slice" := ⟨n,d,e⟩;unfold getItem
 try with_reducible refine WJ ?_
 first|refine nX (B9 ?_)|skip
 refine nX (q2N c.typeIs (by decide) ?_)
 refine nX (Yj (name:=Xy "__getitem__") c.typeIs Xx
  (XI Xx c.typeIs q1_ ?_ (q2u _ _)))
 show G _ _ (q0D (.ref t) >>= _) _ _ s;calc nX (tupleItemsOf_ c ?_);calc nX (q0n f ?_);rw[VD (by decide)];refine nX (BP hs pl k ?_)
 let g:¬ ((((bM items.size 0 a:Nat):Int)==0&&(1:Int)==1&&(bM items.size items.size b-bM items.size 0 a)==items.size)=θ):=by
  ext q;rw[Xn,Xn] at q;let r:((bM items.size 0 a:Nat):Int)=0:=XW q.1.1;let u:bM items.size items.size b-bM items.size 0 a=items.size:=XW q.2;exact l ⟨⋯,⋯⟩
 show G _ _ (if(((bM items.size 0 a:Nat):Int)==0&&(1:Int)==1&&(bM items.size items.size b-bM items.size 0 a)==items.size)=θ then _ else _) _ _ s;rw[VB g,Kh]
 first
  |exact nX (m:=YW _) (XO (B9 ⟨_,Y,B9 h⟩) jY)
  |exact nX (m:=YW _) (XO (nX (B9 (B9 ⟨_,Y,B9 h⟩))) jY)
  |exact nX (nX (m:=YW _) (XO (B9 (B9 ⟨_,Y,B9 h⟩)) jY))
  |calc nX (nX (m:=YW _) (XO (B9 ⟨_,Y,B9 h⟩) jY))
end
end HT
namespace L2
open PySem PySem.Spec PyProof.Rows
abbrev TO:=St->Hp->(Option Int->Hp->Prop)->Prop
def PO(X:Cx)(e:Option J)(t:TO):Prop :=
 ∀(a:a6)(s:L)(b:St)(H:Hp)(Q:Option Int->Hp->Prop),Inv X a b H s->t b H Q →
  G (B X.prog X.w) X.A (evalPart e X.env) (λu d=>∃o c,Inv X a b c d/\IsPart u o/\Q o c) X.xe s
def Kj:TO:=λ_ H Q=>Q η H
def Kk(t:TE):TO:=λa H Q=>t a H λx b=>∃i,x=.int i/\Q (ζ i) b
theorem intsAre_of{ns:-Int}:∀{us:-M},Vals (ns.map V.int) us->IntsAre us ns:=by
 induction ns with
 |nil=>ext a r;rw[V8] at r;cases r;exact .nil
 |cons n f b =>
  ext a r;rw[Uz] at r
  cases r with
  |cons c d =>
   let⟨t,e⟩:=c;subst e;calc .cons n t (b d)
section
variable{X:Cx}{e:J}{te:TE}{lo hi:Option J}{tl th:TO}{pos p2:I}
theorem BQ:PO X η Kj:=by
 ext a s b H Q I h;rw[q4f];calc B9 ⟨η,H,I,.none,h⟩
theorem tF(h:JE X e te):PO X (ζ e) (Kk te):=by
 ext a s b H Q I c;rw[evalPart_some];calc bF (h a s b H _ I c) ?_;ext u k ⟨x,d,f,g,j⟩;let⟨i,rfl,q⟩:=j;let⟨t,rfl⟩:=g;calc⟨ζ i,d,f,.int i t,q⟩
def m_(X:Cx)(r:V->Option Int->Option Int->Hp->VK->Prop):Prop :=
 ∀(a:a6)(s:L)(b:St)(H:Hp)(x:V)(v c d:M)(e f:Option Int)(g:U)(Q:VK),Inv X a b H s->RelV x v->s.heap.IsSliceOf g c d .none->IsPart c e->IsPart d f->r x e f H Q →
  ∃T h,typeLookup (.type T) "__getitem__" = pure (ζ (.builtin h))/\s.TypeIs v T/\G (B X.prog X.w) X.A (getItem v (.ref g)) (EP X a b Q) X.xe s
theorem m_.or{r d:V->Option Int->Option Int->Hp->VK->Prop}(h:m_ X r)(h':m_ X d):m_ X (λx b c H Q=>r x b c H Q\/d x b c H Q):=by
 ext a s e H x v f g b c i Q I j k l m q;rcases q with q|q
 .exact h a s e H x v f g b c i Q I j k l m q
 .calc h' a s e H x v f g b c i Q I j k l m q
def Kl(r:V->Option Int->Option Int->Hp->VK->Prop)(b:TE)(c d:TO):TE:=λa H Q=>b a H λx e=>c a e λl f=>d a f λu g=>r x l u g Q
theorem v8{r:V->Option Int->Option Int->Hp->VK->Prop}(j:m_ X r)(he:JE X e te)(k:PO X lo tl)(m:PO X hi th):JE X (.Subscript e (.Slice lo hi η p2) pos) (Kl r te tl th):=by
 calc⟨?_⟩;ext a s d H Q I h;calc Subscript_ (bF (he a s d H _ I h) ?_);ext v n ⟨x,o,p,t,y⟩;calc wpAny_Slice (bF (k a n d o _ p y) λf z ⟨l,B,C,D,E⟩=>bF (m a z d B _ C E) ?_);ext g c ⟨u,i,F,G,J⟩;rw[q4f];calc B9 ?_;let K:Inv X a d i {c with heap:=c.heap.push {cls:=.type "slice",data:=.fields #[f,g,.none]}}:=F.kept (t':=c.toks) λb O q=>B7 _ q;let⟨T,P,L,M,N⟩:=j a {c with heap:=c.heap.push {cls:=.type "slice",data:=.fields #[f,g,.none]}} d i x v f g l u ⇑c Q K t (Heap.IsSliceOf.new ..) D G J;show ρ (ς X.prog X.w) X.A (subscriptTail e (.Slice lo hi η p2) v (.ref ⇑c)) (EP X a d Q) X.xe {c with heap:=c.heap.push {cls:=.type "slice",data:=.fields #[f,g,.none]}}
 calc tail_any (ops:=[.ref ⇑c,v]) M L N (by with_unfolding_all rfl)
noncomputable def eF(xs:-V)(a b:Option Int):-V:=(xs.drop (HT.bM ↑xs 0 a)).take (HT.bM ↑xs ↑xs b-HT.bM ↑xs 0 a)
theorem BR(xs:-V)(a b:Option Int):↑(eF xs a b)<=↑xs:=by
 unfold eF;rw[Wv,YJ];symm
def v9(K:KC):V->Option Int->Option Int->Hp->VK->Prop:=λx c d H Q=>∃a b,x=.ref a/\cF K H a b ∧
 ¬ (HT.bM ↑b 0 c=0/\HT.bM ↑b ↑b d=↑b)/\∀p,H p=η->Q (.ref p) (upd H p (.tup (eF b c d)))
theorem Km:m_ X (v9 X.K):=by
 ext i s w H x v y z e f A Q I l m n p h;let⟨a,d,rfl,t,u,q⟩:=h;cases l
 let⟨g,r,j,k⟩:=I.tuple t;let c:g.toArray.size=↑d:=by rw[KD];exact r.length.symm
 calc⟨"tuple",_,Xx.lookup,j.typeIs,?_⟩;calc HT.Ki j m n p (by rw[c];calc u) ?_ (by rw[c];calc k);rw[c];calc⟨.ref ⇑s,_,I.laid (t':=s.toks) (o:=.tup (eF d e f)) (λb B q=>B7 _ q) (B8 _) ?_,Y,q _ (I.bg.fresh (B8 _))⟩;calc⟨Wq (BR d e f) k,_,(r.drop (HT.bM ↑d 0 e)).take (HT.bM ↑d ↑d f-HT.bM ↑d 0 e),IsTup.new _ _⟩
def v_(K:KC):R2:=λx y H Q=>∃a b c d,x=.ref a/\y=.ref b/\cF K H a (c.map V.int)/\cF K H b (d.map V.int)/\Q (.bl (HT.lexLt c d)) H
theorem Kn(i:X.A.units<cLine):fA X (compareOp .Lt) (v_ X.K):=by
 ext e s z H x y v u Q I j k h;let⟨a,b,f,g,rfl,rfl,l,m,q⟩:=h;cases j
 cases k
 let⟨d,n,o,_⟩:=I.tuple l;let⟨c,p,r,_⟩:=I.tuple m;let t:IntsAre d.toArray.toList f:=intsAre_of n;let w:IntsAre c.toArray.toList g:=intsAre_of p;calc HT.v5 o r t w i ⟨.bl (HT.lexLt f g),H,I,Y,q⟩
def Ko(K:KC):R2:=λx y H Q=>∃a b d c,x=.ref a/\y=.ref b/\cF K H a d/\cF K H b c/\d≠[]/\↑d+↑c<=sizeLine ∧
 (c=[]->Q (.ref a) H)/\(c≠[]->∀p,H p=η->Q (.ref p) (upd H p (.tup (d++c))))
theorem Vals.gY{xs:-V}{us:-M}(r:Vals xs us):us=[]↔xs=[]:=by
 cases r with
 |nil=>simp
 |cons _ _=>simp
theorem Kp:fA X (binaryOp .Add) (Ko X.K):=by
 ext e s D H x y v u Q I i j h;let⟨a,b,k,l,rfl,rfl,m,n,p,f,r,t⟩:=h;cases i
 cases j
 let⟨A,d,B,_⟩:=I.tuple m;let⟨g,c,C,_⟩:=I.tuple n;calc HT.Kb B C (λz=>p (d.gY.mp z)) (λz=>⟨.ref a,H,I,Y,r (c.gY.mp z)⟩) (λz=>?_) (by rw[<-↑d,<-↑c];calc f);calc⟨.ref ⇑s,_,I.laid (t':=s.toks) (o:=.tup (k++l)) (λb E q=>B7 _ q) (B8 _) ?_,Y,t (λw=>z (c.gY.mpr w)) _ (I.bg.fresh (B8 _))⟩;calc⟨by rw[qG];calc f,_,d.append c,IsTup.new _ _⟩
end
noncomputable def i_(n:Nat)(i:Int):Option Nat:=if 0<=i then(if i<n then ζ i.toNat else η) else if -(n:Int)<=i then ζ (i+n).toNat else η
noncomputable def eW{a:Type}(xs:-a)(i:Int):Option a:=(i_ ↑xs i).bind λj=>xs[j]?
theorem BS{n:Nat}{i:Int}{j:Nat}(h:i_ n i=ζ j):seqIndex? i n=ζ j/\j<n /\ -(n:Int)<=i/\i<n:=by
 unfold i_ at h
 by_cases b:0<=i
 .rw[VD b] at h
  by_cases a:i<n
  .rw[VD a] at h
   let e:i.toNat=j:=WC h;exact⟨by rw[q3k b a,e],⋯,⋯,a⟩
  .rw[VB a] at h;cases h
 .rw[VB b] at h
  by_cases a : -(n:Int)<=i
  .rw[VD a] at h
   let e:(i+n).toNat=j:=WC h;exact⟨by rw[q2O ⋯ a,e],⋯,a,⋯⟩
  .rw[VB a] at h;cases h
theorem wa{a:Type}{xs:-a}{i:Int}{v:a}(h:eW xs i=ζ v):∃j,seqIndex? i ↑xs=ζ j/\xs[j]?=ζ v/\j<↑xs /\ -(↑xs:Int)<=i/\i<↑xs:=by
 unfold eW at h
 cases e:i_ ↑xs i with
 |none=>rw[e] at h;cases h
 |some j =>
  rw[e] at h;let⟨b,c,d,f⟩:=BS e;calc⟨j,b,h,c,d,f⟩
theorem iP{a:Type}{xs:-a}{j:Nat}{v:a}(h:xs[j]?=ζ v):eW xs (j:Int)=ζ v:=by
 let b:j<↑xs:=(pa.mp h).1
 let e:i_ ↑xs (j:Int)=ζ j:=by
  unfold i_;rw[VD ⋯,VD ⋯];simp
 unfold eW;rw[e];calc h
def wb(b:J):Prop:=∀o i,subscripted b ι o i=operate [o,i] (getItem o i)
def lW(X:Cx)(r:R2):Prop :=
 ∀(c a:J)(b:a6)(s:L)(d:St)(H:Hp)(x y:V)(v u:M)(Q:VK),Inv X b d H s->RelV x v->RelV y u->r x y H Q →
  subscripted a ι v u=operate [v,u] (getItem v u)->G (B X.prog X.w) X.A (subscriptTail c a v u) (EP X b d Q) X.xe s
def wc(X:Cx)(e:String)(r:V->-V->Hp->VK->Prop):Prop :=
 ∀(a:a6)(s:L)(b:St)(H:Hp)(x:V)(c:-V)(v:M)(d:-M)(Q:VK),Inv X a b H s->RelV x v->Vals c d->r x c H Q →
  G (B X.prog X.w) X.A (call (.builtin e) (v::d)) (EP X a b Q) X.xe s
section
variable{X:Cx}{a b:J}{ta tb:TE}{pos:I}
theorem lW.or{r d:R2}(h:lW X r)(h':lW X d):lW X (λx y H Q=>r x y H Q\/d x y H Q):=by
 ext a b c s e H x y v u Q I f g q i;rcases q with q|q
 .exact h a b c s e H x y v u Q I f g q i
 .calc h' a b c s e H x y v u Q I f g q i
theorem wd{r:R2}(d:lW X r)(e:JE X a ta)(f:JE X b tb)(hs:wb b):JE X (.Subscript a b pos) (qt r ta tb):=by
 calc⟨?_⟩;ext c s g H Q I h;calc Subscript_ (nP e f I h λv u i x y j k l m q=>d a b c i g j x y v u Q k l m q (hs _ _))
def qB(K:KC):R2:=λx y H Q=>∃p a i v,x=.ref p/\y=.int i/\bS K H p a/\eW a i=ζ v/\Q v H
def qC(K:KC):R2:=λx y H Q=>∃p a i v,x=.ref p/\y=.int i/\cF K H p a/\eW a i=ζ v/\Q v H
def qD:R2:=λx y H Q=>∃z i c,x=.str z/\y=.int i/\↑z<=sizeLine/\eW z.cps.toList i=ζ c/\Q (.str ⟨#[c]⟩) H
theorem iw:lW X (qB X.K):=by
 ext d e a s m H x y v u Q I B C h n;let⟨p,N,i,z,rfl,rfl,D,E,q⟩:=h;cases B
 let⟨t,rfl⟩:=C;let⟨f,r,g,O⟩:=I.list D;let⟨j,c,F,P,G,J⟩:=wa E;let⟨w,o,k⟩:=r.get F;let L:=↑r;let R:=o8;let b:EP X a m Q w s:=⟨z,H,I,k,q⟩
 by_cases A:0<=i
 .let l:i.toNat=j:=by
   rw[q3k A J] at c;exact WC c
  exact item_listR g.isList A ⋯ (by rw[l];simpa using o) b n
 .let l:(i+(f.toArray.size:Int)).toNat=j:=by
   rw[q2O ⋯ G] at c;rw[KD,<-L];exact WC c
  exact q1v (x:=w) g.isList.typeIs q2P.lookup
   (wpAny_getItem_list_neg (Q:=λr M=>r=w/\EP X a m Q r M) g.isList ⋯ (by rw[KD]<;>symm) ⋯ (by rw[l];simpa using o) ⟨Y,b⟩) n
theorem lb:lW X (qC X.K):=by
 ext b c a s f H x y v u Q I k l h m;let⟨p,G,i,z,rfl,rfl,n,o,q⟩:=h;cases k
 let⟨t,rfl⟩:=l;let⟨A,r,g,J⟩:=I.tuple n;let⟨j,B,C,L,M,N⟩:=wa o;let⟨w,D,d⟩:=r.get C;let E:=↑r;let O:=o8;let e:EP X a f Q w s:=⟨z,H,I,d,q⟩
 exact q1v (x:=w) g.typeIs slot_tuple_getitem.lookup
  (getItem_tuple (j:=j) (Q:=λr F=>r=w/\EP X a f Q r F) g ⋯ ⋯ (by rw[KD,<-E];calc B) D⁻¹ ⟨Y,e⟩) m
theorem BU:lW X qD:=by
 ext a b d s A H x y v u Q I f g h k;let⟨z,i,c,rfl,rfl,B,l,q⟩:=h;let⟨t,rfl⟩:=f;let⟨C,rfl⟩:=g;let⟨j,e,m,D,n,o⟩:=wa l;let p:↑z.cps.toList=↑z:=by simp[Str.length]
 rw[p] at e n o;let E:=o8
 exact tail_any (typeIs_str s z t) slot_str_getitem.lookup (getItem_str (c:=c) (by
  let r:S (i < -(2 ^ 63:Int))=ι:=VC ⋯;let w:S (i ≥ 2 ^ 63)=ι:=VC ⋯
  rw[r,w,Wu]) (by rw[e];simpa using m) ⟨.str ⟨#[c]⟩,H,I.tok _,⟨_,Y⟩,q⟩) k
def Kq(K:KC):R2:=λx y H Q=>qB K x y H Q\/qC K x y H Q\/qD x y H Q
theorem Kr:lW X (Kq X.K):=iw.or (lb.or BU)
theorem Ks(a:-M)(n j:Nat)(u:M):Xu (·.setIfInBounds j u) {cls:=.type "list",data:=.seq a.toArray n}={cls:=.type "list",data:=.seq (a.set j u).toArray n}:=by
 simp[Xu]
theorem Inv.lst{b:a6}{c:St}{H:Hp}{s:L}{p:U}{xs:-V}(I:Inv X b c H s)(h:H p=ζ (.lst xs)):
  ∃(a:-M)(n:Nat),Vals xs a/\s.heap.get? p=ζ {cls:=.type "list",data:=.seq a.toArray n}/\↑xs<=sizeLine:=by
 let⟨z,a,n,r,e⟩:=I.bg p _ h;calc⟨a,n,r,e,z⟩
theorem Inv.nT{a:a6}{g:St}{H:Hp}{s:L}{p:U}{xs ys:-V}{c its':-M}{n d:Nat}{f:Γ->Γ}(I:Inv X a g H s)(h:H p=ζ (.lst xs))
  (j:s.heap.get? p=ζ {cls:=.type "list",data:=.seq c.toArray n}) (i:f {cls:=.type "list",data:=.seq c.toArray n}={cls:=.type "list",data:=.seq its'.toArray d}) (r:Vals ys its') (hz:↑ys<=sizeLine) (t:Nat) :
  Inv X a g (upd H p (.lst ys)) {s with heap:=s.heap.update p f,toks:=t}:=by
 let e:(s.heap.update p f).get? p=ζ {cls:=.type "list",data:=.seq its'.toArray d}:=by
  rw[Xk f j (by rw[i]<;>rfl),i]
 calc I.write (x:=p) (e:=p) (by rw[h];trivial) (.inl Y) (λb u k q=>(XE _ _ (Yy k)).trans q) ⟨_,e⟩ ?_;calc⟨hz,its',d,r,e⟩
def BV:V->V->V->Hp->(Hp->Prop)->Prop:=λo i v H Q=>∃p a k j,o=.ref p/\i=.int k/\H p=ζ (.lst a)/\i_ ↑a k=ζ j/\Q (upd H p (.lst (a.set j v)))
theorem set_list:qh X BV:=by
 ext a s y H o i v F G u Q I z A B h;let⟨p,C,k,j,rfl,rfl,g,D,q⟩:=h;cases z
 let⟨t,rfl⟩:=A;let⟨b,n,r,d,E⟩:=I.lst g;let⟨c,J,l,m⟩:=BS D;let e:=↑r;let K:=o8
 let w:Inv X a y (upd H p (.lst (C.set j v))) {s with heap:=s.heap.update p (Xu (·.setIfInBounds j u))} :=
  I.nT g d (Ks b n j u) (r.set B j) (by rw[XU];calc E) s.toks
 by_cases x:0<=k
 .let f:k.toNat=j:=by
   rw[q3k x m] at c;exact WC c
  exact PySem.W.ki_setAt d x ⋯ (by rw[KD,<-e];calc m) (by rw[f];calc⟨_,w,q⟩)
 .let f:(k+(b.toArray.size:Int)).toNat=j:=by
   rw[q2O ⋯ l] at c;rw[KD,<-e];exact WC c
  calc PySem.W.ki_setBack d ⋯ (by rw[KD,<-e];calc l) ⋯ (by rw[f];calc⟨_,w,q⟩)
theorem Kt(a b:Option Int)(n:Nat):(sliceBounds a b η n).1=((HT.bM n 0 a:Nat):Int)/\(sliceBounds a b η n).2.1=((HT.bM n n b:Nat):Int)/\(sliceBounds a b η n).2.2=1:=by
 refine⟨?_,?_,Y⟩
 .cases a with
  |none=>simp[sliceBounds,HT.bM]
  |some i =>
   erw[sliceBounds,HT.bM,q0_,show(1:Int)>0 by decide,Xj]
   by_cases h:i<0
   .erw[h,Xj]<;>symm
   .erw[h,W7]<;>symm
 .cases b with
  |none=>simp[sliceBounds,HT.bM]
  |some i =>
   erw[sliceBounds,HT.bM,q0_,show(1:Int)>0 by decide,Xj]
   by_cases h:i<0
   .erw[h,Xj]<;>symm
   .erw[h,W7]<;>symm
theorem Ku(a:-M)(b c:Option Int):slicePick a.toArray b c η=((a.drop (HT.bM ↑a 0 b)).take (HT.bM ↑a ↑a c-HT.bM ↑a 0 b)).toArray:=by
 let⟨d,e,f⟩:=Kt b c a.toArray.size;unfold slicePick;rw[d,e,f];erw[sliceRange_one,pick_run,KD]<;>rfl
def we(K:KC):V->Option Int->Option Int->Hp->VK->Prop:=λx c d H Q=>∃a b,x=.ref a/\bS K H a b/\∀p,H p=η->Q (.ref p) (upd H p (.lst (eF b c d)))
theorem iy:m_ X (we X.K):=by
 ext g s u H x v w y e f z Q I j k l m h;let⟨a,c,rfl,n,q⟩:=h;cases j
 let⟨p,r,i,t⟩:=I.list n;let d:=↑r;calc⟨"list",_,q2P.lookup,i.isList.typeIs,?_⟩;calc wpAny_getItem_list_slice i.isList k l m .none (by simp) ?_ (by rw[KD]<;>symm);rw[Ku,<-d];calc⟨.ref ⇑s,_,I.laid (t':=s.toks) (o:=.lst (eF c e f)) (λb A q=>B7 _ q) (B8 _) ?_,Y,q _ (I.bg.fresh (B8 _))⟩;calc⟨Wq (BR c e f) t,_,0,(r.drop (HT.bM ↑c 0 e)).take (HT.bM ↑c ↑c f-HT.bM ↑c 0 e),UB _ Y⟩
theorem BW:g6 X (.builtin "len") (λxs H Q=>∃p ys,xs=[.ref p]/\(bS X.K H p ys\/cF X.K H p ys)/\Q (.int ↑ys) H):=by
 ext g s l H k m Q I r h;let⟨p,f,rfl,b,q⟩:=h;let⟨u,rfl,i⟩:=vals1 r;cases i
 let n:=o8;rcases b with b|b
 .let⟨c,d,e,j⟩:=I.list b
  let a:=↑d;exact Calls.call_len_list e.isList (by erw[KD]<;>symm) ⟨.int ↑f,H,I.tok _,⟨s.toks+1,by rw[KD,a]⟩,q⟩
 .let⟨c,d,e,j⟩:=I.tuple b
  let a:=↑d;calc len_tuple e (by erw[KD]<;>symm) ⟨.int ↑f,H,I.tok _,⟨s.toks+1,by rw[KD,a]⟩,q⟩
theorem Kv:g6 X (.builtin "len") (λxs H Q=>∃z,xs=[.str z]/\↑z<=sizeLine/\Q (.int ↑z) H):=by
 ext a s c H b d Q I r h;let⟨z,rfl,e,q⟩:=h;let⟨u,rfl,t,rfl⟩:=vals1 r;let f:=o8;calc len_str ⋯ ⟨.int ↑z,H,I.tok _,⟨_,Y⟩,q⟩
theorem qE:g6 X (.type "list") (λxs H Q=>∃p ys,xs=[.ref p]/\(bS X.K H p ys\/cF X.K H p ys)/\∀l,H l=η->Q (.ref l) (upd H l (.lst ys))):=by
 ext g s C H E F Q I r h;let⟨p,v,rfl,i,q⟩:=h;let⟨u,rfl,D⟩:=vals1 r;cases D
 let m:∀(a:-M),Vals v a->v.length<=sizeLine->∀(c:Α)(d:Nat),(∀b B,s.heap.get? b=ζ B->c.get? b=ζ B) →
   c.get? ⇑s=ζ {cls:=.type "list",dict:=none,data:=.seq a.toArray d,slots := #[]}->EP X g C Q (.ref ⇑s) {s with heap:=c}:=λa f j c d k e =>
  ⟨.ref ⇑s,_,I.laid (t':=s.toks) k (B8 _) (show bq X.prog X.w _ c _ (.lst v) from⟨j,a,d,f,e⟩),Y,q _ (I.bg.fresh (B8 _))⟩
 rcases i with i|i
 .let⟨a,f,x,j⟩:=I.list i
  let t:=↑f;let⟨o,y,z,n,A⟩:=x.isList;exact q4g p (.inl Y) y z A (λc d k e=>m a f j c d k e) (by erw[KD]<;>symm)
 .let⟨a,f,x,j⟩:=I.tuple i
  let t:=↑f;let⟨o,y,z,n,A⟩:=x;calc q4g p (.inr Y) y z A (λc d k e=>m a f j c d k e) (by erw[KD]<;>symm)
theorem BX:g6 X (.type "tuple") (λxs H Q=>∃p ys,xs=[.ref p]/\((bS X.K H p ys/\∀l,H l=η->Q (.ref l) (upd H l (.tup ys)))\/(cF X.K H p ys/\Q (.ref p) H))):=by
 ext a s k H z A Q I r h;let⟨p,j,rfl,h⟩:=h;let⟨u,rfl,v⟩:=vals1 r;cases v
 rcases h with⟨f,q⟩|⟨f,q⟩
 .let⟨c,g,i,m⟩:=I.list f
  let n:=↑g;calc call_tuple_list i.isList (λd x=>?_) (by erw[KD]<;>symm);let t:Inv X a k H {s with heap:=d}:=I.kept (t':=s.toks) x
  let y:Inv X a k (upd H d.objs.size (.tup j)) {s with heap:=d.push {cls:=.type "tuple",data:=.seq c.toArray}} :=
   t.laid (t':=s.toks) (λb o e=>B7 _ e) (B8 _) (show bq X.prog X.w _ _ _ (.tup j) from⟨m,c,g,IsTup.new _ _⟩)
  exact⟨.ref d.objs.size,_,y,Y,q _ (t.bg.fresh (B8 _))⟩
 .let⟨c,g,i,m⟩:=I.tuple f
  calc call_tuple_same i ⟨.ref p,H,I,Y,q⟩
def wj(K:KC)(T:String)(x:V)(H:Hp):Prop:=match x with
 |.str _=>T="str"
 |.int _=>T="int"
 |.ref p=>(T="list" /\ ∃b,bS K H p b)\/(T="tuple" /\ ∃o,K.lookup p=ζ o/\o.cls=.type "tuple" /\ o.dict=η) ∨
   (T="dict" /\ ((∃a,H p=ζ (.dK a))\/∃a,H p=ζ (.dT a)))\/(T="set" /\ ∃S n,H p=ζ (.set S n))
 |_=>False
theorem BY{f:a6}{q:St}{H:Hp}{s:L}{T:String}{x:V}{v:M}(I:Inv X f q H s)(r:RelV x v)(g:wj X.K T x H):
  s.TypeIs v T/\∀a,v=.ref a->∃l,s.heap.get? a=ζ l/\l.dict=η:=by
 cases x with
 |str z =>
  let⟨t,rfl⟩:=r;cases(show T="str" from g)
  exact⟨typeIs_str s z t,λ_ e=>nomatch e⟩
 |int i =>
  let⟨t,rfl⟩:=r;cases(show T="int" from g)
  exact⟨q3P s i t,λ_ e=>nomatch e⟩
 |ref p =>
  cases r
  rcases g with⟨rfl,A,u⟩|⟨rfl,o,b,w,h⟩|⟨rfl,b⟩|⟨rfl,S,n,b⟩
  .let⟨y,_,m,_⟩:=I.list u
   calc⟨m.isList.typeIs,λa e=>?_⟩;cases e
   let⟨o,n,e,c,h,_⟩:=m;exact⟨o,e,h⟩
  .refine⟨⟨o,I.gB p o b,w⟩,λa e=>?_⟩
   cases e
   exact⟨o,I.gB _ o b,h⟩
  .let z:∃o,s.heap.get? p=ζ o/\o.ExactDict:=by
    rcases b with⟨j,b⟩|⟨j,b⟩
    .let⟨_,_,_,_,o,_,_,e,d,_⟩:=I.bg p _ b
     exact⟨o,e,d⟩
    .let⟨_,_,_,_,o,_,_,e,d,_⟩:=I.bg p _ b
     exact⟨o,e,d⟩
   let⟨o,e,d⟩:=z;calc⟨⟨o,e,d.1⟩,λa k=>?_⟩;cases k
   exact⟨o,e,d.2.1⟩
  .let⟨o,_,_,_,e,d,_⟩:=I.bg p _ b
   calc⟨⟨o,e,d.1⟩,λa k=>?_⟩;cases k
   exact⟨o,e,d.2.1⟩
 |_=>calc XM g
def qF(K:KC)(T:String)(r:V->-V->Hp->VK->Prop)(b:TE):TE:=λc H Q=>b c H λx a=>wj K T x a/\r x [] a Q
def o_(K:KC)(T:String)(r:V->-V->Hp->VK->Prop)(c:TE)(t:TA):TE:=λa H Q=>c a H λx b=>wj K T x b/\t a b λd e=>r x d e Q
variable{o e:J}{es:-J}{to:TE}{t:TA}{name:R}{apos eG:I}{T id:String}{r:V->-V->Hp->VK->Prop}
theorem Kw(i:PlainAttrs T)(slot:Slot T name id)(d:typeOf (.builtin id)=pure (.type "method_descriptor"))(j:wc X id r)(k:JE X o to)
  (b:‹attributeBase o name X.env (eval o X.env)=eval o X.env›) (c:‹(apos.endLine==eG.line)=θ›):JE X (.Call (.Attribute o name apos) [] [] eG) (qF X.K T r to):=by
 calc⟨?_⟩;ext a s e H Q I h;calc wpAny_Call_method0_late b c (bF (k a s e H _ I h) ?_);ext v l ⟨x,m,f,g,n,p⟩;let⟨q,t⟩:=BY f g n;calc⟨T,id,i,slot,d,q,t,ZT Y (PySem.evalArgs_none (j a l e m x [] v [] Q f g .nil p))⟩
theorem kU(l:PlainAttrs T)(slot:Slot T name id)(f:typeOf (.builtin id)=pure (.type "method_descriptor"))(m:wc X id r)(n:JE X o to)(p:JA X (e::es) t)
  (b:‹attributeBase o name X.env (eval o X.env)=eval o X.env›)
  (d:‹((backTo eG (starEach (e::es) X.env)).all (λx => !x.1)&&(backToKw eG (keywordEach [] X.env)).all (λx=>x.1.isSome)
   && S (↑(e::es)+↑([]:-Keyword)+(if([]:-Keyword).isEmpty then 0 else 1)<30))=θ›)
  (c:‹(apos.endLine==eG.line)=θ›) (hs:‹dE X e es›) (hplain:‹dQ X eG es›) :
  JE X (.Call (.Attribute o name apos) (e::es) [] eG) (o_ X.K T r to t):=by
 calc⟨?_⟩;ext a s g H Q I h;calc wpAny_Call_method_late b d c Y (bF (n a s g H _ I h) ?_);ext v q ⟨x,u,i,j,w,y⟩;let⟨z,A⟩:=BY i j w;calc⟨T,id,l,slot,f,z,A,?_⟩;let k:=p eG a q g u _ i y;rw[hs] at k ⊢;calc ZT (by show(ι||(backTo eG (starEach es X.env)).any (·.1))=ι;rw[hplain]<;>rfl) (q11 ?_);calc bF k λB C ⟨D,E,F,G,J⟩↦m a C g E x D v B Q F j G J
end
def qH(X:Cx)(e:String)(r:V->-V->Hp->VK->Prop):Prop :=
 ∀(a:a6)(s:L)(b:St)(H:Hp)(x:V)(c:-V)(v:M)(d:-M)(Q:VK),Inv X a b H s->RelV x v->Vals c d->r x c H Q →
  G (B X.prog X.w) X.A (call (.builtin e) (v::d)) (EP X a b Q) X.xe s
theorem Vals.one:∀{x:V}{us:-M},Vals [x] us->∃u,us=[u]/\RelV x u:=by
 ext x a h
 cases h with
 |cons r h=>cases h;calc⟨_,Y,r⟩
theorem Vals.two:∀{x y:V}{us:-M},Vals [x,y] us->∃u v,us=[u,v]/\RelV x u/\RelV y v:=by
 ext x y a h
 cases h with
 |cons r h =>
  let⟨v,rfl,q⟩:=Vals.one h;calc⟨_,_,Y,r,q⟩
theorem Vals.eraseIdx:∀{xs:-V}{us:-M}(i:Nat),Vals xs us->Vals (xs.eraseIdx i) (us.eraseIdx i)
 |_,_,_,.nil=>.nil
 |_,_,0,.cons _ t=>t
 |_,_,i+1,.cons r t=>.cons r (Vals.eraseIdx i t)
theorem Vals.rep{xs:-V}{us:-M}(h:Vals xs us):∀k:Nat,Vals (VF k xs).flatten (VF k us).flatten
 |0=>.nil
 |k+1=>by
  rw[VM,VM,Yv,Yv];calc Vals.append h (Vals.rep h k)
theorem BZ{a:Type}:∀(l:-a)(i:Nat),↑(l.eraseIdx i)<=↑l
 |[],_=>B8 _
 |_::_,0=>q0b _
 |_::r,i+1=>Z5 (BZ r i)
theorem foldl_rep(a:-M):∀(k:Nat)(b:-M),
  q3Q (λc d=>c++d) b.toArray (VF k a.toArray)=(b++(VF k a).flatten).toArray
 |0,b=>by simp
 |k+1,b=>by
  let e:b.toArray++a.toArray=(b++a).toArray:=by simp
  let f:(b++a)++(VF k a).flatten=b++(VF (k+1) a).flatten:=by
   rw[VM,Yv,X0]
  rw[<-f,<-foldl_rep a k (b++a),<-e,VM,mq]
section
variable{X:Cx}{pins:a6}{σ:St}{H:Hp}{s:L}{l b:U}{xs ys zs:-V}
theorem Inv.nU{a its':-M}{n:Nat}{f:Array M->Array M}{t':Nat}(I:Inv X pins σ H s)(b:H l=ζ (.lst xs))
  (e:s.heap.get? l=ζ {cls:=.type "list",data:=.seq a.toArray n}) (c:f a.toArray=its'.toArray) (d:Vals ys its') (hz:↑ys<=sizeLine) :
  Inv X pins σ (upd H l (.lst ys)) {s with heap:=s.heap.update l (Xu f),toks:=t'}:=by
 let q:=PySem.IsL.update e f;rw[c] at q;calc I.write (x:=l) (e:=l) (by rw[b];calc trivial) (.inl Y) (λi u g h=>(XE s.heap (Xu f) (Yy g)).trans h) ⟨_,q⟩ ?_;calc⟨hz,its',_,d,q⟩
theorem Inv.df{a:-M}{t':Nat}(I:Inv X pins σ H s)(b:Vals ys a)(hz:↑ys<=sizeLine):
  Inv X pins σ (upd H ⇑s (.lst ys)) {s with heap:=s.heap.push {cls:=.type "list",data:=.seq a.toArray},toks:=t'} :=
 I.laid (λ_ _ q=>B7 _ q) (B8 _) ⟨hz,a,0,b,UB _ Y⟩
theorem Inv.fresh(I:Inv X pins σ H s):H ⇑s=η:=I.bg.fresh (B8 _)
theorem Inv.jI(I:Inv X pins σ H s)(b:H l=ζ (.lst xs)):↑xs<=sizeLine/\∃(a:-M)(n:Nat),Vals xs a/\↑xs=↑a/\s.heap.get? l=ζ {cls:=.type "list",data:=.seq a.toArray n}:=by
 let⟨z,a,n,r,e⟩:=I.bg l _ b;calc⟨z,a,n,r,↑r,e⟩
theorem B1{n:Nat}(h:n<=sizeLine):YX n=ι:=by
 unfold YX;calc VC ⋯
end
section
variable{X:Cx}
def wk:V->-V->Hp->VK->Prop:=λx b H Q=>∃l a y,x=.ref l/\b=[y]/\H l=ζ (.lst a)/\↑a<sizeLine/\Q .non (upd H l (.lst (a++[y])))
theorem mm:qH X "list.append" wk:=by
 ext b s i H x j v k Q I d f h;let⟨l,m,y,rfl,rfl,c,o,q⟩:=h;cases d
 let⟨u,rfl,g⟩:=f.one;let⟨z,a,n,r,p,e⟩:=I.jI c;calc q1w F.slot_list_append ⟨_,e,Y⟩ F.entry_list_append (F.args_list_append_2 _ _) (PySem.list_append l a.toArray n u (by rw[KD];symm)) ⟨e,?_⟩;calc⟨.non,_,I.nU (its':=a++[u]) c e (by simp) (r.append (.cons g .nil)) ?_,Y,q⟩;rw[qG,WH];symm
def B2:V->-V->Hp->VK->Prop:=λx d H Q=>∃l b a c,x=.ref l/\d=[.ref b]/\H l=ζ (.lst a)/\H b=ζ (.lst c)/\↑a+↑c<=sizeLine/\Q .non (upd H l (.lst (a++c)))
theorem B3:qH X "list.extend" B2:=by
 ext g s A H x B v C Q I j k h;let⟨l,b,D,E,rfl,rfl,i,m,G,q⟩:=h;cases j
 let⟨u,rfl,o⟩:=k.one;cases o
 let⟨z,c,n,r,J,e⟩:=I.jI i;let⟨K,a,p,t,w,y⟩:=I.jI m;let f:c.toArray.size+a.toArray.size<=sizeLine:=by rw[KD,KD];symm
 let d:¬ (!c.toArray.isEmpty&&YX (c.toArray.size+a.toArray.size))=θ:=by
  rw[B1 f,q3R];exact Wn
 refine q1w F.slot_list_extend ⟨_,e,Y⟩ F.entry_list_extend (F.args_list_extend_2 _ _)
  (AutoSeq1.list_extend_list_list_0 l c.toArray n b a.toArray p d (by rw[KD];symm) ⋯) ⟨e,y,?_⟩
 calc⟨.non,_,I.nU (its':=c++a) i e (by simp) (r.append t) ?_,Y,q⟩;rw[qG];symm
def B4:V->-V->Hp->VK->Prop:=λx b H Q=>∃l a i k y,x=.ref l/\b=[.int i]/\H l=ζ (.lst a) /\ -(2 ^ 63)<=i/\i<2 ^ 63/\seqIndex? i ↑a=ζ k/\a[k]?=ζ y/\Q y (upd H l (.lst (a.eraseIdx k)))
theorem Ky:qH X "list.pop" B4:=by
 ext c s E H x G v J Q I f g h;let⟨l,j,i,k,y,rfl,rfl,d,m,o,p,A,q⟩:=h;cases f
 let⟨u,rfl,B⟩:=g.one;let⟨t,rfl⟩:=B;let⟨z,a,n,r,C,e⟩:=I.jI d;let⟨w,D,b⟩:=r.get A
 refine q1w F.slot_list_pop ⟨_,e,Y⟩ F.entry_list_pop (F.args_list_pop_2 _ _)
  (MeetsSeq.list_pop_at l a.toArray n i t k w (q3S m o) (by rw[KD,<-C];calc p) (by rw[<-Ws];calc D) (by rw[KD];symm)) ⟨e,?_⟩
 refine⟨y,_,I.nU (its':=a.eraseIdx k) d e ?_ (r.eraseIdx k) ?_,b,q⟩
 .show a.toArray.eraseIdxIfInBounds k=(a.eraseIdx k).toArray
  rw[List.eraseIdxIfInBounds_toArray]
 .let:=BZ j k
  symm
def wm:R2:=λx y H Q=>∃l b a c,x=.ref l/\y=.ref b/\H l=ζ (.lst a)/\H b=ζ (.lst c)/\↑a+↑c<=sizeLine/\∀p,H p=η->Q (.ref p) (upd H p (.lst (a++c)))
theorem B5:fA X (binaryOp .Add) wm:=by
 ext d s t H x y v u Q I f g h;let⟨l,b,w,A,rfl,rfl,i,j,B,q⟩:=h;cases f
 cases g
 let⟨z,c,n,r,C,e⟩:=I.jI i;let⟨D,a,E,k,m,o⟩:=I.jI j;calc PySem.P.add_list e o ?_ (by rw[KD,KD];symm);let p:c.toArray++a.toArray=(c++a).toArray:=by simp
 rw[p];calc⟨.ref _,_,I.df (t':=s.toks) (r.append k) (by rw[qG];symm),Y,q _ I.fresh⟩
def wo:R2:=λx y H Q=>∃l k a,x=.ref l/\y=.int k/\H l=ζ (.lst a) /\ -(2 ^ 63)<=k/\k<2 ^ 63/\↑a*k.toNat<=sizeLine ∧
 ∀p,H p=η->Q (.ref p) (upd H p (.lst (VF k.toNat a).flatten))
theorem len_rep{a:Type}(xs:-a)(k:Nat):(VF k xs).flatten.length=k*↑xs:=by
 induction k with
 |zero=>simp
 |succ k b=>rw[VM,Yv,qG,b,q4N,Nat.add_comm]
theorem Kz:fA X (binaryOp .Mult) wo:=by
 ext p s L H x y v u Q I A B h;let⟨l,k,M,rfl,rfl,C,D,E,w,q⟩:=h;cases A
 let⟨t,rfl⟩:=B;let⟨z,b,n,r,G,e⟩:=I.jI C;let d:b.toArray.size*k.toNat<=sizeLine:=by rw[KD,<-G];exact w
 let f:¬ b.toArray.size*k.toNat>(2 ^ 63-1) / 8:=by
  let:(sizeLine:Nat)<=(2 ^ 63-1) / 8:=by decide
  symm
 let g:¬ (!Builtin.List.listFitsIndex k)=θ:=by
  rw[q3S D E];exact Wn
 let c:¬ YX (b.toArray.size*k.toNat)=θ:=by
  rw[B1 d];exact Wn
 let i:q3Q (λj o=>j++o) #[] (VF (if b.toArray.isEmpty=θ then 0 else k.toNat) b.toArray)=(VF k.toNat b).flatten.toArray:=by
  let J:∀m:Nat,q3Q (λj o=>j++o) #[] (VF m b.toArray)=(VF m b).flatten.toArray:=λm=>by
   let:=foldl_rep b m [];rw[Wc] at this;exact this
  rw[J]
  cases b with
  |nil=>simp
  |cons a N=>rw[VB (by simp)]
 refine wpAny_binaryOp_repeat_ref (T:="list") (U:="int") (by decide) ⟨_,e,Y⟩ (λK=>q3P K k t) noFill_list_mul F.fills_int_mul q3u repeat_list F.slot_int_index.lookup
  (q1w q3u (q3P s k t) F.entry_int_rmul (F.args_int_rmul_2 _ _) (int___rmul___int_list k t l b.toArray n)
   ⟨e,Y,⟨_,e,Y⟩,q1w F.slot_list_mul ⟨_,e,Y⟩ F.entry_list_mul (F.args_list_mul_2 _ _) (AutoListH.list___mul___list_int_3 l b.toArray n k t g f c) ⟨e,?_⟩⟩)
 rw[i];calc⟨.ref _,_,I.df (t':=s.toks) (r.rep k.toNat) (by rw[len_rep,q4F];calc w),Y,q _ I.fresh⟩
end
section
variable{prog:X}{w:l}{A:t}{E:bt}{s:L}
end
section
variable{X:Cx}
end
end L2
namespace Att
open PySem PySem.W PySem.Calls PyProof.Rows
theorem gK{P:Params}{h:Q}:∀(ns:-Int)(vs:-M),WellAll P h vs (ns.map WData.int)->IntsAre vs ns:=by
 ext c
 induction c with
 |nil =>
  ext d w;rw[V8] at w;cases w
  exact .nil
 |cons n c e =>
  ext d w;rw[Uz] at w
  cases w with
  |cons a b =>
   cases a
   calc .cons _ _ (e _ b)
theorem kq{l:OpenLaw}{n:Nat}(hn:l.most=ζ n){P:Params}{h:Q}{args:-WData}{b:-M}
  (c:l.row.toRowW.claim.pre args=θ) (j:WellAll P h b args) :
  ∃a vs ns,b=[WN a]/\args=[WData.list (ns.map WData.int)]/\h.get? a=ζ {cls:=.type "list",data:=.seq vs.toArray}/\IntsAre vs ns/\↑ns<=n:=by
 let k:WShape.hasAll [] args [.list .int]=θ:=(pre_splitW c).1;let m:l.pre.holds [] {args:=args}=θ:=(pre_splitW c).2;let⟨d,r,rfl,o,p⟩:=hasAllW_cons k;obtain rfl:=hasAllW_nil p;let⟨x,rfl,s⟩:=hasW_list o;let⟨e,rfl⟩:=items_int s
 let f:↑e<=n:=by
  unfold OpenLaw.pre at m
  let i:(WTm.not (.lt (.lit (.int (n:Int))) (.len (.arg 0)))).holds [] {args:=[.list (e.map .int)]}=θ:=by
   let i:=(holds_andW m).1;rw[hn] at i;exact i
  let h5:=condW_of i (w_not (w_lt w_lit (w_len_list (w_arg Y))));rw[nW] at h5;calc Z3 λq=>?_;let t:(n:Int)<((↑e:Nat):Int):=by symm
  first
   |(rw[VG t] at h5;calc absurd h5 (by decide))
   |(simp at h5;symm)
 cases j with
 |cons u v =>
  cases v
  cases u with
  |list w g=>calc⟨_,_,e,Y,Y,w,gK e _ g,f⟩
theorem kr(l:OpenLaw)(args:-WData):l.row.toRowW.claim.post args (.bool θ) args=θ :=
 postW_of (r:=l.row.toRowW) (X:=(θ==θ))
  (show WShape.has [] (.bool θ) .bool=θ by first|rfl|decide|simp[WShape.has,WShape.arms,WShape.armsAll])
  (show(WTm.eq .res (.lit (.bool θ))).value [] {args:=args,res:=ζ (.bool θ),after:=args}=ζ (.bool (θ==θ)) from w_eq_bool (w_res Y) w_lit) Y
theorem ja{l:OpenLaw}{n:Nat}{q:ψ}{c:-π}{B:(π->Option ν)->Α->Prop}{C:ω->Α->Prop}{d:DefRec}
  (hn:l.most=ζ n) (u:d.params.defaults=[])
  (j:∀(w:ω)(e b:ο)(s v:π->Option ν)(i:ξ)(o:Γ)(x t g:ν)(a:ξ)(vs:-ν)(ns:-Int),
   Ground q c [] B w e s v b.heap->C w b.heap →
   b.heap.get? i=ζ o->o.data=.func (docDef d.name d.params d.body d.scope x t g)->b.heap.CodeRec t d.name->s d.name=ζ (.ref i) →
   b.heap.get? a=ζ {cls:=.type "list",data:=.seq vs.toArray}->IntsAre vs ns->↑ns<=n->b.gens = #[] →
   codeAny (ς l.prog w) callerA (.call (.ref i) ⟨[.ref a],[]⟩) (λr s'=>r=.ok (.ret (.bool θ))/\OldK b.heap s'.heap/\s'.os=b.os/\AllBare s'.gens) b) :
  WalkO q c B C l.row.toRowW d [] (λf vs=>q3U f vs):=by
 ext w e b s v G Y i o x t g K L M N y D z O E F X k H P A Q;obtain rfl:K=.none:=Dflts.none D u;obtain rfl:L=.none:=Dflts.noKw D;let⟨a,I,J,rfl,rfl,m,h,p⟩:=kq hn k A;calc enter_call (YE (j w e b s v i o x t g a I J G Y M (fd_plain N) y z m h p O) λr W R=>?_);let⟨rfl,S,T,U⟩:=R;calc⟨.inl ⟨.bool θ,.bool θ,[],rfl,λ_=>rfl,.bool θ,kr l _,λ_=>⟨q2B,λ_ V=>(nomatch V)⟩⟩,S,T,U⟩
section
variable{prog:X}{w:l}{A:t}{E:bt}{s:L}{K:Frag}
end
end Att
namespace L2
open PySem PySem.Spec PyProof.Rows
theorem B6:∀{vs:-M}{ns:-Int},IntsAre vs ns->Vals (ns.map V.int) vs
 |_,_,.nil=>.nil
 |_,_,.cons n t h=>.cons ⟨t,Y⟩ (B6 h)
noncomputable def inClass(s:y)(j:Nat):y:=match s with
 |.ClassDef _ _ _ a _ _ _ _ _ _ _=>a.getD j (.Pass ⟨0,0,0,0⟩)
 |_=>.Pass ⟨0,0,0,0⟩
noncomputable def jw(s:y):Arguments:=match s with
 |.FunctionDef _ a _ _ _ _ _ _ _ _=>a
 |_=>{posonlyargs:=[],args:=[],vararg:=none,kwonlyargs:=[],kw_defaults:=[],kwarg:=none,defaults:=[]}
noncomputable def gZ(s:y):-y:=match s with
 |.FunctionDef _ _ b _ _ _ _ _ _ _=>b
 |_=>[]
noncomputable def dq(s:y):o:=match s with
 |.FunctionDef _ _ _ _ _ _ a _ _ _=>a
 |_=>{kind:=.function,names:=[],isGenerator:=false,isCoroutine:=false}
abbrev fZ:kS:=λ_ _ _ _ _ _=>False
abbrev E0:XK:=λ_ _ _=>False
theorem mr{X:Cx}:m9 fZ X E0:=λ_ _ _ _ _ _ _ h=>h.elim
structure hG(K:KC)(x qual:R)(st:y)(f:U)(fd:FuncData):Prop where
 ex:∃(oc:M)(od:Option U)(kV doc pm:M)(an:Option U)(nh ct:M)(KJ:Array (Option M)),
  fd=Xs x qual (jw st) (gZ st) (dq st) .none kV doc pm an nh ct/\K.lookup f=ζ ⟨oc,od,.func fd,KJ⟩/\Zg K nh qual=θ
 kp:Xz K (.ref f)=θ
section
variable{P:X}{w:l}{K:KC}{mg:R->Option M}{base:Q}
theorem hG.qJ{x a:R}{st:χ}{f:U}{j:FuncData}{N ps:-R}{k:Nat}{sp:Sp}(F:hG K x a st f j)(S:lU N ps (dq st))(e:∀vs H Q E,sp vs H Q E->↑vs=↑ps)
  (d:∀(b:M)(A:Β)(outer:-Ζ)(s:L)(H:Hp)(vs:-V)(Q:VK)(E:XK),bz k (A.deeper (envOfC a (dq st) ⇑s f b))->sp vs H Q E →
   ∃t,ee (gh fZ P w K mg base N a (dq st) f b A outer s H E).kQ (gZ st) t/\t {nx:=λ_ H'=>Q .non H',rt:=Q} (start N vs) H):cG P w K mg base fZ (k+1) f j ps sp:=by
 let⟨r,u,v,m,y,z,b,B,n,rfl,o,g⟩:=F.ex;calc BI o g S e λA c s H l Q E p i=>?_;let⟨t,h,q⟩:=d b A c s H l Q E p i;calc⟨t,h.kQ,q⟩
theorem hG.binds{x a:R}{st:y}{f:U}{i:FuncData}{ps:-R}(F:hG K x a st f i)
  (h:∀(d b e:M)(g:Option U)(c ct:M)(us:-M),↑us=↑ps->bindArgs (Xs x a (jw st) (gZ st) (dq st) .none d b e g c ct) ⟨us,[]⟩=pure (ps.zip us)):Binds K i ps []:=by
 let⟨m,n,d,b,e,g,c,j,k,rfl,o,l⟩:=F.ex;calc .all (h d b e g c j)
theorem tH{x a:R}{st:y}{f:U}{oc:M}{od g:Option U}{e:Array (Option M)}{h d i b ct:M}(l:K.lookup f=ζ ⟨oc,od,.func (Xs x a (jw st) (gZ st) (dq st) .none h d i g b ct),e⟩)
  (c:Zg K b a=θ) (k:Xz K (.ref f)=θ):hG K x a st f (Xs x a (jw st) (gZ st) (dq st) .none h d i g b ct):=⟨⟨oc,od,h,d,i,g,b,ct,e,Y,l,c⟩,k⟩
end
theorem kW{n:Nat}(h:n<=1000):n<sizeLine:=Zy h (by decide)
section
variable{X:Cx}
theorem jv(i:Nat){x:R}{pos:I}(b:‹X.N[i]?=ζ x›)(c:qc X.env.scope x:=by first|exact q0p Y|exact q1Q (q0p Y)|calc q1Q (q1Q Y))(hd: ~~~(cy x))
  (a: ~~~((x==("__classdict__" : R))=ι)):JE X (.Name x pos) (iZ i):=Bn b c hd a
end
def ba(H H':Hp):Prop:=∀b o,H b=ζ o->H' b=ζ o
theorem ba.trans{H d H2:Hp}(a:ba H d)(b:ba d H2):ba H H2:=λc o h=>b c o (a c o h)
theorem ba.free{H H':Hp}(e:ba H H'){l:U}(h:H' l=q5Q):H l=q5Q:=by
 cases q:H l with
 |none=>rfl
 |some o =>
  rw[e l o q] at h;cases h
theorem ba.seq{K:KC}{H H':Hp}{a:U}{xs:-V}(e:ba H H')(h:bS K H a xs):bS K H' a xs:=by
 rcases h with(h|⟨o,h⟩)|h
 .exact .inl (.inl (e _ _ h))
 .exact .inl (.inr ⟨o,e _ _ h⟩)
 .calc .inr h
theorem KN{prog:X}{w:ω}{A:Β}{R:Result->L->Prop}{s:L}{o a g:J}{p:-J}{scope:Δ}{pos:Ε}{D q:M}{env:Ζ}(I:Nat->L->Prop)
  (y:∀n s,I n s->G (ς prog w) A (pyNext D) (λr e=>match r with
   |none=>R (.ok .next) e
   |some v=>G (ς prog w) A (letOwnedTupleGo a D v) (λ_ i=>G (ς prog w) A (assign a env v) (λ_ j =>
     G (ς prog w) A (forIn p θ λc r=>if r=θ then do let t <- isTrue c env (eval c env);pure (Yc t) else pure (Yc r)) (λt b =>
      if t=θ then G (ς prog w) A (eval o env) (λx k =>
       G (ς prog w) A (call (.builtin "list.append") [q,x]) (λ_ u=>∃m,m<n/\I m u) (λ_ _=>False) k) (λ_ _=>False) b
      else ∃m,m<n/\I m b) (λ_ _=>False) j) (λ_ _=>False) i) (λ_ _=>False) e) (λ_ _=>False) s)
  (n:Nat) (h:I n s) :
  codeAny (ς prog w) A (.compLoop (.ListComp o [⟨a,g,p,0⟩] scope pos) 0 D q env) R s:=by
 calc codeAny_loop Y I (λn s E=>?_) n h;show G _ A ((compTurn (.ListComp o [⟨a,g,p,0⟩] scope pos) 0 D q env).onRaise (λx=>do noteFrame x env;theTreesLotGoes x)) _ _ s;calc wpAny_noted ?_;rw[compTurn_list];refine nX (Zr (nX (XZ (y n s E) (λr e l=>?_) λ_ _ f=>XM f)))
 cases r with
 |none=>exact B9 l
 |some v =>
  calc nX (XZ l (λ_ i z=>?_) λ_ _ f=>XM f);refine nX (XZ z (λ_ j B=>nX (XZ B (λt b d=>?_) λ_ _ f=>XM f)) λ_ _ f=>XM f)
  cases t with
  |false=>exact B9 ⟨Y,d⟩
  |true =>
   calc nX (nX (XZ d (λx b d=>nX (XZ d (λ_ k C=>B9 (B9 ⟨Y,C⟩)) λ_ _ f=>XM f)) λ_ _ f=>XM f))
theorem wu{env:Ζ}:∀(names:-(R×NameKind))(b:-(R×U)),(∀y∈names,y.2=.free->∃c,env.cells.lookup y.1=ζ c)->(∀x c,b.lookup x=ζ c->env.cells.lookup x=ζ c) →
  ∃cl,(forIn names b (λ(x:Str×NameKind) (cs:-(Str×Addr))=>if x.2==Yo then cellOf env x.1 >>= λa=>pure (Yc ((x.1,a)::cs)) else pure (Yc cs)):Sem (-(R×U)))=pure cl ∧
   (∀x c,cl.lookup x=ζ c->env.cells.lookup x=ζ c)/\(∀y∈names,y.2=.free->∃c,cl.lookup y.1=ζ c)/\(∀x c,b.lookup x=ζ c->∃c,cl.lookup x=ζ c)
 |[],b,_,i=>⟨b,Y,i,λ_ f=>absurd f (by simp),λx c e=>⟨c,e⟩⟩
 |(n,k)::r,b,m,i=>by
  rw[List.forIn_cons]
  by_cases o:k=.free
  .subst o
   let⟨c,u⟩:=m (n,.free) Ux Y;let g:env.cells.lookup n=ζ c:=u;let v:cellOf env n=pure c:=by unfold cellOf;rw[g]
   let p:∀x d,((n,c)::b).lookup x=ζ d->env.cells.lookup x=ζ d:=λx d e=>by
    rw[Wk] at e
    cases q:x==n with
    |true =>
     rw[q] at e;cases e
     rw[XW q];exact g
    |false =>
     rw[q] at e;exact i x d e
   let⟨l,e,s,t,h⟩:=wu r ((n,c)::b) (λy f=>m y (Uy _ f)) p;refine⟨l,?_,s,λy f j=>?_,λx d e=>?_⟩
   .dsimp only
    rw[VD (by decide),v];exact e
   .rcases Uw.mp f with rfl|f
    .exact h n c (by simp)
    .exact t y f j
   .cases q:x==n with
    |true=>exact h x c (by rw[Wk,q])
    |false=>exact h x d (by rw[Wk,q];calc e)
  .let⟨l,e,s,t,h⟩:=wu r b (λy f=>m y (Uy _ f)) i
   refine⟨l,?_,s,λy f j=>?_,h⟩
   .dsimp only
    rw[VB o⁻¹];exact e
   .rcases Uw.mp f with rfl|f
    .exact absurd j o
    .calc t y f j
theorem Ca{scope:o}{env:u}(h:∀y∈scope.names,y.2=.free->∃c,env.cells.lookup y.1=ζ c):
  ∃cl,closureFor scope env=pure cl/\(∀x c,cl.lookup x=ζ c->env.cells.lookup x=ζ c)/\∀y∈scope.names,y.2=.free->∃c,cl.lookup y.1=ζ c:=by
 let⟨d,e,f,g,_⟩:=wu scope.names [] h (λx c e=>by simp at e);calc⟨d,?_,f,g⟩;let i:closureFor scope env=(forIn scope.names ([]:-(R×U)) (λ(x:Str×NameKind) (b:-(Str×Addr))=>if x.2==Yo then cellOf env x.1 >>= λa=>pure (Yc ((x.1,a)::b)) else pure (Yc b)):Sem (-(R×U))) >>= pure:=Y;rw[i,e];rfl
structure BD where
 cl:-(R×U)
 C:U
 s:L
 H:Hp
 fp:-U
@[reducible] noncomputable def dI (X:Cx) (scope:o) (Nb:-R) (d:BD):Cx where
 prog:=X.prog
 w:=X.w
 K:=X.K
 mg:=X.mg
 base:=X.base
 A:=X.A
 N:=Nb
 s₀:=d.s
 H₀:=d.H
 env:=compEnvC scope d.cl d.C X.env
 outer:=X.stack
 stack:=X.stack
 ex:=d.fp
 fn:=λx=>S (scope.names.lookup x=ζ .cell)
 calm:=X.calm
 pn:=[]
 xe:=λ_ _=>False
noncomputable def jx(cp:-(Option Nat))(a:St):St:=cp.map λo=>match o with
 |some i=>(a[i]?).join
 |none=>η
noncomputable def lh(N:-R)(a scope:o)(Nb:-R)(cp:-(Option Nat)):Bool :=
 (scope.names.all λy=>(S (y.2≠.cell)||S (scope.names.lookup y.1=ζ .cell))&&(S (y.2≠.local)||S (scope.names.lookup y.1=ζ .local))&&(S (y.2≠.free)||S (a.names.lookup y.1=ζ .cell)||S (a.names.lookup y.1=ζ .free))) &&
 S (↑cp=↑Nb)&&(cp.zip Nb).all λz=>match z.1 with
  |none=>θ
  |some i=>S (N[i]?=ζ z.2)&&S (scope.names.lookup z.2=ζ .free)
structure tI(X:Cx)(scope:o)(Nb:-R)(cp:-(Option Nat)):Prop where
 kind:scope.kind=.function
 cell:∀y∈scope.names,y.2=.cell->scope.names.lookup y.1=ζ .cell
 names:∀y∈scope.names,y.2=.local->scope.names.lookup y.1=ζ .local
 free:∀y∈scope.names,y.2=.free->(X.env.kindOf y.1=ζ .cell\/X.env.kindOf y.1=ζ .free)
 len:↑cp=↑Nb
 qK:∀(j i:Nat)(x:R),cp[j]?=ζ (ζ i)->Nb[j]?=ζ x->X.N[i]?=ζ x/\scope.names.lookup x=ζ .free
theorem x5Y{X:Cx}{scope:o}{Nb:-R}{cp:-(Option Nat)}(c:scope.kind=.function)(h:lh X.N X.env.scope scope Nb cp=θ):tI X scope Nb cp:=by
 unfold lh at h;erw[Xn,Yf,q0f,VZ] at h;let⟨⟨b,d⟩,f⟩:=h;refine⟨c,λy a e=>(b y a).1.1.resolve_left (λz=>z e),λy a e=>?_,λy a e=>?_,d,λj i x g k=>?_⟩
 .rcases (b y a).1.2 with z|z
  .exact absurd e z
  .exact z
 .rcases (b y a).2 with(z|z)|z
  .exact absurd e z
  .exact .inl z
  .exact .inr z
 .let l:(ζ i,x)∈cp.zip Nb:=by
   let:(cp.zip Nb)[j]?=ζ (ζ i,x):=by
    rw[List.getElem?_zip_eq_some];exact⟨g,k⟩
   exact WR this
  let:=f _ l;simpa using this
theorem wx{env:u}{x:R}:∀{names:-(R×NameKind)}{k:NameKind},names.lookup x=ζ k →
  (names.map λ(n,k)=>if(k==Yo&&env.scope.kind==.function&&env.kindOf n==ζ .cell) then(n,X_) else(n,k)).lookup x =
   ζ (if(k==Yo&&env.scope.kind==.function&&env.kindOf x==ζ .cell) then X_ else k)
 |[],k,h=>by simp at h
 |(n,k')::r,k,h=>by
  let c:=@wx env x r k;show Y6 x ((if(k'==Yo&&env.scope.kind==.function&&env.kindOf n==ζ .cell)=θ then(n,X_) else(n,k'))::_)=_
  cases b:x==n with
  |true =>
   erw[Wk,b] at h;cases h
   let e:x=n:=XW b;subst e
   by_cases a:(k'==Yo&&env.scope.kind==.function&&env.kindOf x==ζ .cell)=θ
   .rw[VD a,VD a];simp[Wk]
   .rw[VB a,VB a];simp[Wk]
  |false =>
   erw[Wk,b] at h
   by_cases a:(k'==Yo&&env.scope.kind==.function&&env.kindOf n==ζ .cell)=θ
   .rw[VD a];erw[Wk,b];exact c h
   .rw[VB a];erw[Wk,b];calc c h
theorem Cb{env:u}{x:R}:∀{names:-(R×NameKind)},names.lookup x=η →
  (names.map λ(n,k)=>if(k==Yo&&env.scope.kind==.function&&env.kindOf n==ζ .cell) then(n,X_) else(n,k)).lookup x=η
 |[],h=>by simp
 |(n,b)::r,h=>by
  let c:=@Cb env x r;show Y6 x ((if(b==Yo&&env.scope.kind==.function&&env.kindOf n==ζ .cell)=θ then(n,X_) else(n,b))::_)=_
  cases a:x==n with
  |true=>erw[Wk,a] at h;cases h
  |false =>
   erw[Wk,a] at h
   by_cases d:(b==Yo&&env.scope.kind==.function&&env.kindOf n==ζ .cell)=θ
   .rw[VD d];erw[Wk,a];exact c h
   .rw[VB d];erw[Wk,a];calc c h
structure JF(X:Cx)(ifs:-J)(t:TT):Prop where
 out:∀(pins:a6)(s:L)(σ:St)(H:Hp)(Q:Bool->Hp->Prop),Inv X pins σ H s->t σ H Q →
  G (B X.prog X.w) X.A (forIn ifs θ λc r=>if r=θ then do let ok <- isTrue c X.env (eval c X.env);pure (Yc ok) else pure (Yc r)) (TP X pins σ Q) X.xe s
instance {X:Cx} {ifs:-J} {t:TT}:CoeFun (JF X ifs t) (λ_=>∀(pins:a6)(s:L)(σ:St)(H:Hp)(Q:Bool->Hp->Prop),Inv X pins σ H s->t σ H Q->G (B X.prog X.w) X.A (forIn ifs θ λc r=>if r=θ then do let ok <- isTrue c X.env (eval c X.env);pure (Yc ok) else pure (Yc r)) (TP X pins σ Q) X.xe s):=⟨JF.out⟩
def wy:TT:=λ_ H Q=>Q θ H
theorem nY{X:Cx}:JF X [] wy:=⟨λ_ _ _ H _ I h=>wpAny_tests_nil ⟨H,I,h⟩⟩
theorem KO{X:Cx}{c:J}{t:TT}(h:JT X c t):JF X [c] t:=⟨λa s b H Q I d=>wpAny_tests_one (h a s b H Q I d)
⟩
def KP(g:TG)(f:TT)(h:TE)(l:U)(x:V)(i:St)(H:Hp)(N:St->Hp->Prop):Prop :=
 g x i H λa j=>f a j λb d=>if b=θ then h a d λy e=>∃c,e l=ζ (.lst c)/\↑c<sizeLine/\N a (upd e l (.lst (c++[y]))) else N a d
def Cc(J:It)(g:TG)(f:TT)(h:TE)(l:U)(c:St)(j:Hp)(Q:VK):Prop :=
 ∃W:Nat->Nat->St->Hp->Prop,(∃m,W 0 m c j)/\∀i m d H,W i m d H →
  (J.stop i H/\Q (.ref l) H)\/(J.go i H/\∃N:St->Hp->Prop,(∀a b,N a b->∃e,e<m/\W (i+1) e a b)/\∀x b,J.o7 i H x b->KP g f h l x d b N)
def qL(c:TI)(cp:-(Option Nat))(g:BD->TG)(e:BD->TT)(f:BD->TE):TE:=λa H Q=>c a H λJ b=>∀(d:BD)(l:U),b l=η->Cc J (g d) (e d) (f d) l (jx cp a) (upd b l (.lst [])) Q
theorem pb:∀{names:-(R×NameKind)}{n:Nat}{a:-(R×U)}{x:R}{c:U},(cellsFrom n names a).lookup x=ζ c->a.lookup x=ζ c\/(n<=c/\(x,X_)∈names)
 |[],n,a,x,c,h=>.inl h
 |(y,k)::r,n,a,x,c,h=>by
  unfold cellsFrom at h;split at h
  .rename_i b
   let d:k=.cell:=XW b;subst d;rcases pb h with h|⟨h,m⟩
   .rw[Wk] at h
    cases q:x==y with
    |true=>rw[q] at h;cases h;rw[XW q];exact .inr ⟨B8 _,Ux ..⟩
    |false=>rw[q] at h;exact .inl h
   .exact .inr ⟨⋯,Uy _ m⟩
  .rcases pb h with h|⟨h,m⟩
   .exact .inl h
   .calc .inr ⟨h,Uy _ m⟩
theorem wz:∀{names:-(R×NameKind)}{n:Nat}{a:-(R×U)}{x:R}{c:U},(x,X_)∈names->(cellsFrom n names a).lookup x=ζ c->n<=c
 |[],n,a,x,c,m,h=>by cases m
 |(y,k)::r,n,a,x,c,m,h=>by
  unfold cellsFrom at h
  by_cases b:(x,X_)∈r
  .split at h
   .let:=wz b h;symm
   .exact wz b h
  .let e:(x,X_)=(y,k):=by
    rcases Uw.mp m with e|e
    .exact e
    .exact absurd e b
   cases e
   rw[VD (by decide)] at h;rcases pb h with h|⟨h,_⟩
   .rw[Wk,Wd] at h
    cases h;exact B8 _
   .omega
theorem wA:∀{names:-(R×NameKind)}{n:Nat}{a:-(R×U)}{x y:R}{c:U},(∀u v c,a.lookup u=ζ c->a.lookup v=ζ c->u=v)->(∀u c,a.lookup u=ζ c->c<n)->(cellsFrom n names a).lookup x=ζ c->(cellsFrom n names a).lookup y=ζ c->x=y
 |[],n,a,x,y,c,i,_,e,b=>i x y c e b
 |(z,k)::r,n,a,x,y,c,i,j,e,b=>by
  unfold cellsFrom at e b;split at e
  .rename_i l
   rw[VD l] at b;refine wA (λu v c f d=>?_) (λu c q=>?_) e b
   .rw[Wk] at f d
    cases g:u==z with
    |true =>
     rw[g] at f;cases f
     cases h:v==z with
     |true=>rw[XW g,XW h]
     |false=>rw[h] at d;exact absurd (j v _ d) (X8 _)
    |false =>
     rw[g] at f
     cases h:v==z with
     |true=>rw[h] at d;cases d;exact absurd (j u _ f) (X8 _)
     |false=>rw[h] at d;exact i u v c f d
   .rw[Wk] at q
    cases g:u==z with
    |true=>rw[g] at q;cases q;exact W_ _
    |false=>rw[g] at q;exact WQ (j u c q)
  .rename_i l
   rw[VB l] at b;calc wA i j e b
theorem wB:∀{names:-(R×NameKind)}{n:Nat}{a:-(R×U)}{x:R},(x,X_)∉names->(cellsFrom n names a).lookup x=a.lookup x
 |[],n,a,x,_=>Y
 |(y,k)::r,n,a,x,m=>by
  unfold cellsFrom;split
  .rename_i b
   let c:k=.cell:=XW b;subst c;rw[wB λz=>m (Uy _ z),Wk]
   cases q:x==y with
   |true=>exact absurd (by rw[XW q];calc Ux ..) m
   |false=>rfl
  .calc wB λz=>m (Uy _ z)
theorem wC:∀{names:-(R×NameKind)}{h:Q}{a:-(R×U)}{x:R}{c:U},(∀u c,a.lookup u=ζ c->∃v,h.IsCell c v)->(cellsFrom h.objs.size names a).lookup x=ζ c->∃v,(pushCells h names).IsCell c v
 |[],h,a,x,c,b,e=>b x c e
 |(y,k)::r,h,a,x,c,b,e=>by
  unfold cellsFrom at e;unfold pushCells;split at e
  .rename_i d
   rw[VD d];let g:(h.push {cls:=.type "cell",data:=.cell η}).objs.size=h.objs.size+1:=XF ..;rw[<-g] at e;calc wC (λu c q=>?_) e;rw[Wk] at q
   cases f:u==y with
   |true=>rw[f] at q;cases q;exact⟨η,_,UB _ Y,Y⟩
   |false =>
    rw[f] at q;let⟨v,o,i,j⟩:=b u c q;exact⟨v,o,B7 _ i,j⟩
  .rename_i d
   rw[VB d];calc wC b e
theorem KQ{M:Model}{A:t}{E:bt}{s:L}{scope:o}{g:U}{cl:-(R×U)}{a:R}{env:u}{Q:u->L->Prop}
  (h:Q (newEnv scope ⇑s g (cellsFrom (⇑s+1) scope.names cl) a η .none (ζ env) builtinsNs) {s with heap:=pushCells (s.heap.push {cls:=.type "dict",data:=.dict #[]}) scope.names}) :
  G M A (newFunctionEnv scope g cl [] a η .none (ζ env)) Q E s:=by
 erw[newFunctionEnv,q0E,Xj];calc nX (wpAny_alloc ?_);calc nX (wpAny_layCells _ (λe b c=>by cases d:b==X_<;>simp[d]) _ _ _ _ ?_);rw[show({s with heap:=s.heap.push {cls:=.type "dict",data:=.dict #[]}}:L).heap.objs.size=⇑s+1 from XF ..];calc nX ?_;rw[List.forIn_nil];calc B9 (B9 h)
section
variable{X:Cx}{elt tg iter:J}{ifs:-J}{scope:o}{pos:I}{Nb:-R}{cp:-(Option Nat)}{wi:TI}{g:BD->TG}{tf:BD->TT}{te:BD->TE}
variable{pins:a6}{σ:St}{H:Hp}{s:L}
noncomputable abbrev qM(scope:o)(s:L)(cl:-(R×U)):-(R×U):=cellsFrom (⇑s+1) scope.names cl
theorem KR{fp:-U}{cl:-(R×U)}(S:tI X scope Nb cp)(I:Inv X pins σ H s)(g:∀b∈fp,cz X pins H b)(m:∀b∈fp,∃o,s.heap.get? b=ζ o)
  (f:∀x c,cl.lookup x=ζ c->X.env.cells.lookup x=ζ c) (p:∀y∈scope.names,y.2=.free->∃c,cl.lookup y.1=ζ c):(dI X scope Nb ⟨qM scope s cl,⇑s,s,H,fp⟩).Ok:=by
 let i:∀b∈fp,b∉kP X.stack:=λb d z=>by
  let⟨_,r,t,_⟩:=g b d;rcases Uw.mp (I.ip b z) with e|e
  .exact r e
  .exact t e
 let w:∀u c,cl.lookup u=ζ c->c<⇑s:=λu c e=>by
  let⟨v,q⟩:=I.cell u c (f _ _ e);exact q.lt
 refine⟨I.ok.mod,?_,I.ok.glob,I.ok.blt,B8 _,λx y c A B=>?_,λx n=>?_,λx c h C=>?_,I.ok.hd,I.ok.frames,.inl Y,λb d=>⟨?_,λx c e=>?_⟩,I.bs,Wq I.ok.k_ I.sz,λb o e d=>?_,i,I.stack,I.jW⟩
 .exact S.kind
 .exact wA (λu v c D E=>I.ok.inj u v c (f _ _ D) (f _ _ E)) (λu c e=>WQ (w u c e)) A B
 .cases q:scope.names.lookup x with
  |none =>
   let z:(relabel scope X.env).names.lookup x=η:=Cb q;let a:(relabel scope X.env).names.lookup x=ζ .cell\/(relabel scope X.env).names.lookup x=ζ .free:=n;rw[z] at a;rcases a with h|h<;>cases h
  |some k =>
   let F:=XJ q;let z:(relabel scope X.env).names.lookup x=_:=wx (env:=X.env) q;let a:(relabel scope X.env).names.lookup x=ζ .cell\/(relabel scope X.env).names.lookup x=ζ .free:=n;rw[z] at a
   let G:k=.free\/k=.cell:=by
    by_cases j:k=.free
    .exact .inl j
    .let:(k==Yo)=ι:=by simpa using j
     erw[this,q1Y,VP,W7] at a;rcases a with h|h
     .exact .inr (WC h)
     .exact absurd (WC h) j
   calc q02.mp (ZR scope.names _ cl ?_);rcases G with rfl|rfl
   .let⟨c,e⟩:=p (x,.free) F Y
    exact .inr (by rw[show cl.lookup x=ζ c from e];rfl)
   .exact .inl q
 .let J:scope.names.lookup x=ζ .cell:=W9 h
  let:=wz (XJ J) C;exact q2R this
 .let⟨o,e⟩:=m b d
  exact VE (Vy e)
 .rcases pb e with e|⟨e,_⟩
  .exact (g b d).2.2.2.2.1 x c (f _ _ e)
  .let⟨o,K⟩:=m b d
   let l:=Vy K;ext z;subst z;exact absurd (q2S e) (q63.mpr (Xc l))
 .rcases (g b d).2.2.2.1 with z|z
  .exact I.ok.iY b o e z
  .calc absurd (VR (Vy (I.ok.bs b o e).1) z) (X8 _)
theorem KU{cp:-(Option Nat)}{a:St}{j:Nat}{v:V}(h:(jx cp a)[j]?=ζ (ζ v)):∃i,cp[j]?=ζ (ζ i)/\a[i]?=ζ (ζ v):=by
 unfold jx at h;rw[B_] at h
 cases e:cp[j]? with
 |none=>rw[e] at h;cases h
 |some o =>
  rw[e] at h
  cases o with
  |none=>cases h
  |some i =>
   calc⟨i,Y,?_⟩;let b:(a[i]?).join=ζ v:=WC h
   cases q:a[i]? with
   |none=>rw[q] at b;cases b
   |some z =>
    rw[q] at b;let:z=ζ v:=b;rw[this]
theorem KW{fp:-ξ}{cl:-(π×ξ)}{l:Α}{tk:Nat}(S:tI X scope Nb cp)(I:Inv X pins σ H s)(C:∀b∈fp,cz X pins H b)(D:∀b∈fp,∃o,s.heap.get? b=ζ o)
  (n:∀x c,cl.lookup x=ζ c->X.env.cells.lookup x=ζ c) (A:∀y∈scope.names,y.2=.free->∃c,cl.lookup y.1=ζ c)
  (hn:l.Ns ⇑s (λx=>([]:-(π×ν)).reverse.lookup x)) (q:∀b o,s.heap.get? b=ζ o->l.get? b=ζ o) (r:∀x c,(qM scope s cl).lookup x=ζ c->∃v,l.IsCell c v) :
  Inv (dI X scope Nb ⟨qM scope s cl,⇑s,s,H,fp⟩) [] (jx cp σ) H {s with heap:=l,toks:=tk}:=by
 refine⟨KR S I C D n A,Y,I.bare,Un.kept q,⟨_,hn,λj x v E F U=>?_⟩,r,I.bg.fresh (B8 _),λx c e=>?_,λp G=>absurd (show p∈([]:a6) from G) (by simp),I.bg.kept q,?_⟩
 .let⟨i,J,K⟩:=KU F
  let⟨L,t⟩:=S.qK j i x J E;let B:=XJ t;let a:=S.free _ B Y;let⟨m,_,M⟩:=I.loc
  let w:qc X.env.scope x:=by
   rcases a with h|h
   .exact .inr (.inl h)
   .exact .inr (.inr h)
  let⟨u,N,O⟩:=M i x v L K w;refine⟨u,N,?_⟩
  let P:X.env.kindOf x≠ζ .local:=by
   rcases a with h|h
   .ext z;rw[h] at z;cases z
   .ext z;rw[h] at z;cases z
  rcases O with⟨k,_⟩|⟨_,c,Q,R⟩
  .exact absurd k P
  .let⟨c',f⟩:=A (x,.free) B Y
   let g:=n _ _ f;rw[Q] at g;cases g;let T:(x,X_)∉scope.names:=λz=>by let:=S.cell _ z Y;rw[show scope.names.lookup x=ζ .free from t] at this;cases this
   refine .inr ⟨?_,c,(wB T).trans f,?_⟩
   .let z:(relabel scope X.env).names.lookup x=_:=wx (env:=X.env) t
    show(relabel scope X.env).names.lookup x=ζ .cell\/(relabel scope X.env).names.lookup x=ζ .free;rw[z];split
    .exact .inl Y
    .exact .inr Y
   .let⟨o,e,d⟩:=R
    exact⟨o,q _ _ e,d⟩
 .rcases pb e with e|⟨e,_⟩
  .exact I.dB x c (n _ _ e)
  .exact I.bg.fresh (q2R e)
 .unfold jx
  rw[nW];calc S.len
theorem KY{fp:-ξ}{d:BD}{it l:ξ}{tn:Nat->Α->Prop}{J:It}{R:Result->ο->Prop}{Q:VK}{H1:Hp}{I:ο}{D:St}(hc:X.calm=θ)
  (hg:JG (dI X scope Nb d) tg (g d)) (hf:JF (dI X scope Nb d) ifs (tf d)) (he:JE (dI X scope Nb d) elt (te d)) (T:Turn X.prog X.w X.K tg J fp it tn)
  (UC:d.fp=fp) (I1:Inv (dI X scope Nb d) [] D H1 I) (L:tn 0 I.heap) (M:∀b∈fp,cz (dI X scope Nb d) [] H1 b)
  (W:Nat->Nat->St->Hp->Prop) (w0:∃m,W 0 m D H1)
  (O:∀i m D H,W i m D H->(J.stop i H/\Q (.ref l) H)\/(J.go i H/\∃N:St->Hp->Prop,(∀a H',N a H'->∃k,k<m/\W (i+1) k a H')/\∀x H',J.o7 i H x H'->g d x D H' λp H2=>tf d p H2 λb v =>
   if b=θ then te d p v λy H4=>∃ys,H4 l=ζ (.lst ys)/\↑ys<sizeLine/\N p (upd H4 l (.lst (ys++[y]))) else N p v))
  (fin:∀a H' s',Inv (dI X scope Nb d) [] a H' s'->Q (.ref l) H'->R (.ok .next) s') :
  codeAny (ς X.prog X.w) X.A (.compStart (.ListComp elt [⟨tg,iter,ifs,0⟩] scope pos) 0 (.ref it) (.ref l) (compEnvC scope d.cl d.C X.env)) R I:=by
 let c:∀{j:Hp},(∀b∈fp,j b=η)->∀b∈fp,cz (dI X scope Nb d) [] j b:=λhn b q=>⟨hn b q,(M b q).2⟩
 let t:codeAny (ς X.prog X.w) X.A (.compLoop (.ListComp elt [⟨tg,iter,ifs,0⟩] scope pos) 0 (.ref it) (.ref l) (compEnvC scope d.cl d.C X.env)) R I:=by
  let⟨m0,w0⟩:=w0;calc KN (λn s'=>∃i a j,Inv (dI X scope Nb d) [] a j s'/\tn i s'.heap/\(∀b∈fp,j b=η)/\W i n a j) ?_ m0 ⟨0,D,H1,I1,L,λb q=>(M b q).1,w0⟩;ext n s3 ⟨i,f,v,I3,P,S,w3⟩;rcases O i n f v w3 with⟨U,qn⟩|⟨go,N,hN,V⟩
  .refine bF (T.done (dI X scope Nb d) rfl rfl rfl hc i [] s3 f v (λ_ _=>False) I3 (c S) P U) ?_;ext r s4 ⟨hr,I4⟩
   subst hr;exact fin f v s4 I4 qn
  .refine bF (T.item (dI X scope Nb d) rfl rfl rfl hc i [] s3 f v (λ_ _=>False) I3 (c S) P go) ?_;ext r s4 ⟨u,hr,h4⟩
   subst hr;calc bF h4 ?_;ext _ s5 ⟨x,H5,I5,r5,y5,z,KZ⟩;let K1:=I5.pinned (c KZ) (T.obj _ _ z);refine bF (hg _ s5 f H5 x u _ K1 r5 (V x H5 y5)) ?_;ext _ s6 ⟨B,H6,I6,q6⟩
   let h:∀{s:St}{E:Hp}{F:ο}{k:Nat},Inv (dI X scope Nb d) ([]++qr fp s5.heap) s E F->k<n->W (i+1) k s E->∃m,m<n/\∃i Y j,Inv (dI X scope Nb d) [] Y j F/\tn i F.heap/\(∀b∈fp,j b=η)/\W i m Y j:=λ{s E F k} G Z w7=>by
    calc⟨k,Z,i+1,s,E,G.fG,T.keep _ _ _ z λb q o e=>(G.pin (b,o) (V6 _ (V6 _ (tq q e)))).1,λb q=>?_,w7⟩;let⟨o,e,d⟩:=T.obj _ _ z b q;exact(G.pin (b,o) (V6 _ (V6 _ (tq q e)))).2.1
   refine bF (hf _ s6 B H6 _ I6 q6) ?_;ext ok F ⟨E,G,q7⟩
   cases ok with
   |false =>
    rw[VB Wn] at q7 ⊢;let⟨k,Z,w7⟩:=hN _ _ q7;exact h G Z w7
   |true =>
    rw[VD rfl] at q7 ⊢;calc bF (he _ F B E _ G q7) ?_;ext y s8 ⟨yv,H8,I8,r8,ys,hy,hz,q8⟩;let⟨k,Z,w8⟩:=hN _ _ q8;calc bF (mm _ s8 B H8 (.ref l) [yv] (.ref l) [y] (λ_ H9=>H9=upd H8 l (.lst (ys++[yv]))) I8 rfl (.cons r8 .nil) ⟨l,ys,yv,rfl,rfl,hy,hz,rfl⟩) ?_;ext _ s9 ⟨_,H9,I9,_,e9⟩;subst e9;exact h I9 Z w8
 calc codeAny_compStart_list t (T.self _ 0 I _ _ L t)
theorem K3{fp:-U}{d:BD}{g:St}{e H':Hp}{f s':L}(h:Inv X pins σ e f)(hs:d.s=f)(i:d.H=e)(hd:d.fp=fp)(a:∀b∈fp,cz X pins e b)(J:Inv (dI X scope Nb d) [] g H' s'):Inv X pins σ H' s':=by
 subst hs i hd;calc h.qd (ch:=d.fp) J.os J.base J.bg J.bare λb c=>⟨(a b c).2.2.2.1,(a b c).2.1,(a b c).2.2.2.2.1,(a b c).2.2.2.2.2⟩
theorem Cd{use:Option (ν->Sem Unit)}{P:bt}{Q:VK}(hc:X.calm=θ)(S:tI X scope Nb cp)(hi:JI X tg iter wi)(hg:∀d,JG (dI X scope Nb d) tg (g d))(hf:∀d,JF (dI X scope Nb d) ifs (tf d))(he:∀d,JE (dI X scope Nb d) elt (te d))
  (hs:∀x,foldedSetIterable iter X.env x=pure x) (I:Inv X pins σ H s) (h:qL wi cp g tf te σ H Q)
  (F:∀(l C:ξ)(H':Hp)(s':ο)(m:π->Option ν),Inv X pins σ H' s'->cz X pins H' C->(∀p c,X.env.cells.lookup p=ζ c->c≠C)->s'.heap.Ns C m->Q (.ref l) H'->compPost (ς X.prog X.w) X.A X.xe use P (.ref l) C (.ok .next) s') :
  ρ (ς X.prog X.w) X.A (comprehension (.ListComp elt [⟨tg,iter,ifs,0⟩] scope pos) scope X.env (firstIterPos [⟨tg,iter,ifs,0⟩] pos) (newList []) ι (eval iter X.env) use) P X.xe s:=by
 let⟨cl,K,L,c2⟩:=Ca (scope:=scope) (env:=X.env) λy hy G=>by
  rcases S.free y hy G with z|z
  .exact I.ok.has _ (.inl z)
  .exact I.ok.has _ (.inr z)
 calc wpAny_comprehension_free (cl:=cl) rfl hs K S.kind S.names (bF (hi pins s σ H _ I h) λv s1 h1=>bF h1 λJh i h2=>?_);let⟨it,fp,tn,J,E,e,Y,T,k,Z,q2⟩:=h2;subst e;calc XO ?_;let hl:E ⇑i=η:=Y.fresh;let n:Inv X pins σ (upd E ⇑i (.lst [])) {i with heap:=i.heap.push {cls:=.type "list",data:=.seq ([]:-ν).toArray}}:=Y.df (t':=i.toks) (ys:=[]) .nil (VX _);let k3:∀b o,i.heap.get? b=ζ o->(i.heap.push {cls:=.type "list",data:=.seq ([]:-ν).toArray}).get? b=ζ o:=λb o e=>B7 _ e
 let t:∀b∈fp,cz X pins (upd E ⇑i (.lst [])) b:=λb j=>by
  let⟨o,e,_⟩:=T.obj _ _ k b j;calc⟨?_,(Z b j).2⟩;rw[bu (VE (Vy e))];exact(Z b j).1
 generalize M:upd E ⇑i (.lst [])=H3 at n t;generalize N:({i with heap:=i.heap.push {cls:=.type "list",data:=.seq ([]:-ν).toArray}}:ο)=a at n;let B:∀b o,i.heap.get? b=ζ o->a.heap.get? b=ζ o:=by rw[<-N];exact k3
 let o3:∀b∈fp,∃o,a.heap.get? b=ζ o:=λb j=>let⟨o,e,_⟩:=T.obj _ _ k b j;⟨o,B b o e⟩;calc KQ ?_;let O:∀b o,a.heap.get? b=ζ o->(pushCells (a.heap.push {cls:=.type "dict",data:=.dict #[]}) scope.names).get? b=ζ o:=λb o e=>q3v _ _ _ _ (B7 _ e);let f:(pushCells (a.heap.push {cls:=.type "dict",data:=.dict #[]}) scope.names).Ns ⇑a (λx=>([]:-(π×ν)).reverse.lookup x):=(Heap.Ns.new a.heap (.type "dict")).keeps (q3v _ _)
 let I4:=KW (Nb:=Nb) (tk:=a.toks) S n t o3 L c2 f O λx c e=>by
  let hz:(a.heap.push {cls:=.type "dict",data:=.dict #[]}).objs.size=⇑a+1:=XF ..;let e':(cellsFrom (a.heap.push {cls:=.type "dict",data:=.dict #[]}).objs.size scope.names cl).lookup x=ζ c:=by rw[hz];exact e
  calc wC (λu c q=>?_) e';let⟨v,o,g1,g2⟩:=n.cell u c (L _ _ q);exact⟨v,o,B7 _ g1,g2⟩
 generalize UD:pushCells (a.heap.push {cls:=.type "dict",data:=.dict #[]}) scope.names=h₁ at O f I4 ⊢;let⟨W,w0,D⟩:=q2 ⟨qM scope a cl,⇑a,a,H3,fp⟩ ⇑i hl;rw[M] at w0;refine KY (d:=⟨qM scope a cl,⇑a,a,H3,fp⟩) (fp:=fp) (tn:=tn) (J:=J) (Q:=Q) hc (hg _) (hf _) (he _) T rfl I4 (T.keep _ _ _ k λb j o e=>O b o (B b o e)) (λb j=>?_) W w0 D fun τ' V s' R q5=>?_
 .let⟨o,e⟩:=o3 b j
  refine⟨(t b j).1,VE (Vy e),λz=>?_,.inl j,λx c ec=>?_,λp hp=>absurd (show p∈([]:a6) from hp) (by simp)⟩
  .rcases Uw.mp (n.ip b z) with r|r
   .exact (t b j).2.1 r
   .exact (t b j).2.2.1 r
  .rcases pb ec with q|⟨q,_⟩
   .exact (t b j).2.2.2.2.1 x c (L _ _ q)
   .let U:=Vy e
    ext z;subst z;exact absurd (q2S q) (q63.mpr (Xc U))
 .let I6:Inv X pins σ V s':=K3 n rfl rfl rfl t R
  let⟨m,hn,_⟩:=R.loc;let fC:cz X pins V ⇑a:=n.i7 (B8 _) R.free;calc F _ _ _ _ m I6 fC (λp c e=>fC.2.2.2.2.1 p c e) hn q5
theorem Ce(cp:-(Option Nat))(Nb:-R)(i:X.calm=θ)(j:JI X tg iter wi)(k:∀d,JG (dI X scope Nb d) tg (g d))(n:∀d,JF (dI X scope Nb d) ifs (tf d))(he:∀d,JE (dI X scope Nb d) elt (te d))
  (p:‹scope.kind=.function›) (r:autoParam (lh X.N X.env.scope scope Nb cp=θ) qz2._auto_1) (hs:‹∀x,foldedSetIterable iter X.env x=pure x›) :
  JE X (.ListComp elt [⟨tg,iter,ifs,0⟩] scope pos) (qL wi cp g tf te):=by
 calc⟨?_⟩;ext f s A H Q I h;rw[eval_ListComp];calc Cd (use:=none) i (x5Y p r) j k n he hs I h λl C t u m v a w y q=>⟨m,y,λB c=>⟨.ref l,t,?_,Y,q⟩⟩;calc v.turned (t':=u.toks) (λb o z e=>(c.2 b z).trans e) a.1 a.2.1 a.2.2.2.1 a.2.2.2.2.1 a.2.2.2.2.2
theorem K4(cp:-(Option Nat))(Nb:-π){i:Nat}{x:π}{c f:Ε}(B:X.N.Nodup)(E:X.N[i]?=ζ x)(F:Loc X.env.scope x)(G:X.calm=θ)(p:JI X tg iter wi)(J:∀d,JG (dI X scope Nb d) tg (g d))(K:∀d,JF (dI X scope Nb d) ifs (tf d))(he:∀d,JE (dI X scope Nb d) elt (te d))
  (L:‹scope.kind=.function›) (M:autoParam (lh X.N X.env.scope scope Nb cp=θ) qz2._auto_1) (hs:‹∀x,foldedSetIterable iter X.env x=pure x›)
  (r:‹swapsWith (.ListComp elt [⟨tg,iter,ifs,0⟩] scope pos) (ζ (.Name x c)) f.line X.env=pure θ›)
  (t:autoParam (ik X x) qz4._auto_1) :
  JS X (.Assign [.Name x c] (.ListComp elt [⟨tg,iter,ifs,0⟩] scope pos) f) (ki (qL wi cp g tf te) (nN i)):=by
 calc⟨?_⟩;ext k s Y H D I h;rw[exec_Assign_Name_used _ _ _ _ r];calc nX (Zr (nX ?_));show ρ _ X.A (do let _ <- comprehension (.ListComp elt [⟨tg,iter,ifs,0⟩] scope pos) scope X.env _ (newList []) ι (eval iter X.env) (ζ (assign (.Name x c) X.env))) _ _ s;calc nX (bF (Cd (use:=ζ (assign (.Name x c) X.env)) (P:=λ_ n=>SP X k D .next n) G (x5Y L M) p J K he hs I h λl C O n m Q j u R q=>?_) λ_ n S=>B9 (B9 S));show ρ _ X.A (assign (.Name x c) X.env (.ref l)) _ _ n;refine q2E (Bl Q B E F (v:=.ref l) rfl (λw y ⟨a,T,U⟩=>?_) t)
 let V:C≠a:=by
  rcases U with e|e
  .rw[e];exact j.2.1
  .exact Yy (u _ _ e)
 calc⟨m,R.sameBut T V,λZ z=>⟨_,O,?_,q⟩⟩;calc y.turned (t':=w.toks) (λb o W e=>(z.2 b W).trans e) j.1 j.2.1 j.2.2.2.1 j.2.2.2.2.1 j.2.2.2.2.2
end
section
variable{g:TG}{tf:TT}{te:TE}
end
section
variable{X:Cx}{pins:a6}{σ:St}{H:Hp}{s:L}{h':Q}{T:U}{o:HO}{ch:-U}{t':Nat}
theorem Inv.jb(I:Inv X pins σ H s)(f:∀b∈ch,cz X pins H b)(k:∀b u,b∉ch->s.heap.get? b=ζ u->h'.get? b=ζ u)(j:⇑s<=T)(i:bq X.prog X.w (upd H T o) h' T o):
  Inv X pins σ (upd H T o) {s with heap:=h',toks:=t'}:=by
 let g:H T=η:=I.bg.fresh j;let h:∀b u,H b=ζ u->b∉ch:=λb u e a=>by rw[(f b a).1] at e;cases e
 refine I.step (g':=s.gens) (d':=s.drawn) (ch:=ch) (λb a=>⟨(f b a).2.2.2.1,(f b a).2.1,(f b a).2.2.2.2.1,(f b a).2.2.2.2.2⟩) (λb u _ _ d e _=>k b u d e) (λb u _ _ d e _=>⟨u.slots,k b u d e⟩)
  (λb u _ e n=>by rw[bu (VE (VR (Vy e) j))];calc n) (λb u d e=>⟨u,k b u d e⟩) (λb l e=>by rw[bu (ed e g)];calc e)
  (λb u l e=>by rw[bu (ed e g)];calc e) (λb A e=>⟨#[],by rw[bu (ed e g),e];simp⟩) (λb _ u _ e d=>k b u d e) (λm p=>?_) (λb u e=>?_) I.bare
 .let⟨u,t,x,y,r⟩:=p
  exact⟨u,t,x,k _ u (λa=>(f _ a).2.1 Y) y,r⟩
 .by_cases a:b=T
  .subst a;rw[cw] at e;cases e;exact i
  .rw[bu a] at e
   refine(I.bg b u e).iV (λc v d q=>k c v ?_ q) (λc q=>by rw[bu (ed q g)];calc q) λc l q=>by rw[bu (ed q g)];exact q
   rcases d with z|z
   .rw[z];exact h b u e
   .calc h c _ z
end
noncomputable def pd(K:KC)(a:U):It :=
 ⟨λi H=>∃b x,bS K H a b/\b[i]?=ζ x,λi H x c=>∃T v,x=.ref T/\H T=η/\c=upd H T (.tup [.int (i:Nat),v])/\∀b,bS K H a b->b[i]?=ζ v,λi H=>∃b,bS K H a b/\↑b<=i⟩
theorem Cf{P:ψ}{w:ω}{K:KC}{n:-υ}{x1}{tp:Ε}(a e g:ξ)(r:e≠g):
  Turn P w K (.Tuple n x1 tp) (pd K a) [e,g] e (λi h=>(∃c,IsEnum h e g (i:Nat) c)/\h.IsListIter g a i) where
 mem:=by simp
 obj:=λi h j b d=>by
  let⟨⟨c,f⟩,o,l,F,hd⟩:=j;rcases Uw.mp d with rfl|d
  .exact⟨_,f,λv z=>by cases z⟩
  .let z:b=g:=by simpa using d
   subst z;exact⟨o,l,λv z=>by rw[hd] at z;cases z⟩
 keep:=λi h h' j k=>by
  let⟨⟨c,f⟩,l⟩:=j;exact⟨⟨c,k e (by simp) _ f⟩,l.at λo q=>k g (by simp) o q⟩
 item:=by
  ext X G J L F i t s σ H E I C j M;subst G J L;let⟨⟨c,f⟩,l⟩:=j;let⟨xs,x,D,N⟩:=M;let⟨O,R,p,hz⟩:=I.list D;let⟨u,hu,ru⟩:=R.get N;calc wpAny_pyNext_enum_item f l p.isList (x:=u) hu⁻¹ r λh1 S T U hsz hk=>⟨_,rfl,?_⟩;calc q0F S λZ y m=>?_;let hT:⇑s≠e:=Yb (Vy f);let V:Z.get? ⇑s=ζ {cls:=.type "tuple",data:=.seq #[.int i s.toks,u]}:=(m.2 _ hT).trans U
  let k2:∀b o,b∉[e,g]->s.heap.get? b=ζ o->Z.get? b=ζ o:=λb o d q=>by
   let B:b≠e:=λz=>d (by simp[z]);let Y:b≠g:=λz=>d (by simp[z]);exact(m.2 _ B).trans (hk b o B Y q)
  let hn:H ⇑s=η:=I.bg.fresh (B8 _);refine⟨.ref ⇑s,upd H ⇑s (.tup [.int i,x]),I.jb (ch:=[e,g]) (t':=s.toks+1) C k2 (B8 _) ?_,rfl,⟨_,x,rfl,hn,rfl,λys hy=>by rw[I.i5 hy D];calc N⟩,⟨⟨u,?_⟩,?_⟩,λb d=>?_⟩
  .exact⟨by show 2<=sizeLine;decide,[.int i s.toks,u],.cons ⟨_,rfl⟩ (.cons ru .nil),_,V,rfl,_,rfl⟩
  .let e3:((i:Int)+1)=(((i+1:Nat)):Int):=by symm
   rw[e3] at y;exact y
  .exact T.at λo q=>(m.2 _ (Yy r)).trans q
  .let:b<⇑s:=by
    let⟨o,q,_⟩:=l;rcases Uw.mp d with rfl|d
    .exact Vy f
    .let z:b=g:=by simpa using d
     subst z;exact Vy q
   rw[bu (VE this)];exact(C b d).1
 done:=by
  ext X G J L F i t s σ H E I C j M;subst G J L;let⟨⟨c,f⟩,l⟩:=j;let⟨xs,D,N⟩:=M;let⟨O,R,p,hz⟩:=I.list D;let hl:=↑R;calc wpAny_pyNext_enum_end (I.ok.hd F) f l p.isList (by simp;symm) λh1 eb=>⟨rfl,?_⟩;let⟨f0,f1,f2,f3,f4,f5⟩:=C g (by simp);exact I.turned (t':=s.toks) (λb o d q=>eb b o d q) f0 f1 f3 f4 f5
 self:=λA i s Q E j h=>by
  let⟨⟨c,f⟩,l⟩:=j;let hT:s.TypeIs (.ref e) "enumerate" := ⟨_,f,rfl⟩;calc YF f h
section
variable{X:Cx}{elts:-J}{x1:Nat}{tp:I}
def Cg(K:KC)(ta:TA):TI:=λc H R=>ta c H λd b=>∃a,d=[.ref a]/\(∃e,bS K b a e)/\R (pd K a) b
theorem Ci:bootBuiltins "enumerate" = ζ (.type "enumerate"):=by decide +kernel
theorem Cj{a:υ}{ta:TA}{p pos:Ε}(n:Gl X "enumerate")(o:X.mg "enumerate" = η)(t:JA X [a] ta)(hs:‹starEach [a] X.env=[(ι,eval a X.env)]›):
  JI X (.Tuple elts x1 tp) (.Call (.Name "enumerate" p) [a] [] pos) (Cg X.K ta):=by
 calc⟨?_⟩;ext c s j H R I h;calc Call_ (m8 I n o Ci (Ym (bF (t pos c s j H _ I h) λF d ⟨G,k,g,u,v⟩=>?_) hs Y));let⟨l,e,⟨J,w⟩,q⟩:=v;subst e
 cases u with
 |cons r x =>
  cases x
  cases r
  let⟨y,L,p,M⟩:=g.list w;calc q2a p.isList λA m B C D=>?_;let E:Inv X c j k {d with heap:=A}:=g.kept (t':=d.toks) D;calc YF m ?_;refine⟨_,_,_,_,k,Y,E,Cf l (⇑d+1) ⇑d (q1j _),⟨⟨_,m⟩,B⟩,λb i=>?_,q⟩
  let f:⇑d<=b:=by
   rcases Uw.mp i with rfl|i
   .exact q0b _
   .let z:b=⇑d:=by simpa using i
    rw[z];exact B8 _
  calc g.i7 f (g.bg.fresh f)
end
section
variable{X:Cx}{nm:R}{tp:I}
end
end L2
namespace L2
open PySem PySem.Spec PyProof.Rows PySem.W
open Builtin Builtin.ObjectAttr
section
variable{prog:X}{w:l}{A:t}{E:bt}{s:L}{K:Frag}{x D:U}{ox:Γ}{UE:Option Γ}{name:R}
variable{h:Q}{g:Array GenState}{d:Drawn}{t:Nat}{os:OsState}{nm q:R}{C N:U}{bs bm UG:-M}{K5:Bool}{sn:-R}{sub:-M}{ab:Bool}{col:Option Bool}{dd:Option U}{k0 k1 k2 k3 k5:Option M}{B newId wD:String}
end
end L2
namespace L2
open PySem PySem.Spec PyProof.Rows
section
variable{X:Cx}{pins:a6}{σ:St}{H:Hp}{s:L}{C f:U}{CX:kS}{k:Nat}{fd:FuncData}{ps:-R}{sp:Sp}{E:XK}{x:R}{p pos pos':I}{e o value:J}{es:-J}{ta tv:TE}{t:TA}
end
section
variable{X:Cx}
noncomputable def qN:V->Option M
 |.ty n=>ζ (.type n)
 |.ref a=>ζ (.ref a)
 |_=>η
theorem K6{y:V}{u c:M}(r:RelV y u)(e:qN y=ζ c):u=c:=by
 cases y with
 |ty n=>cases e;exact r
 |ref a=>cases e;exact r
 |_=>cases e
theorem K7:g6 X (.builtin "isinstance") (λxs H Q=>∃x y c t b,xs=[x,y]/\qN y=ζ c/\fH X.K H x t/\X9 X.K t c=ζ b/\Q (.bl b) H):=by
 ext a s m H l n Q I d h;let⟨x,y,c,t,b,rfl,f,g,e,q⟩:=h;let⟨u,o,rfl,i,j⟩:=d.two;rw[K6 j f];calc JU I i g e λk=>⟨.bl b,H,I.tok k,Y,q⟩
end
theorem Cm{K:KC}{a:U}{xs:-V}{g:TG}{tb:TS}{D:Ends}{b:St}{H:Hp}(c:Nat->St->Hp->Prop)(j:c 0 b H)(k:∀i b H,i<=↑xs->c i b H->bS K H a xs)
  (hs:∀i x T b H,xs[i]?=ζ x->c i b H->H T=η->g (.ref T) b (upd H T (.tup [.int (i:Nat),x])) λd H2=>tb {D with nx:=c (i+1),ct:=c (i+1),bk:=D.nx} d H2) (hd:∀b H,c ↑xs b H->D.nx b H) :
  ∃W:Nat->Nat->St->Hp->Prop,(∃m,W 0 m b H)/\∀i m b H,W i m b H →
   ((pd K a).stop i H/\D.nx b H)\/((pd K a).go i H/\∃N:St->Hp->Prop,(∀σ' H',N σ' H'->∃h,h<m/\W (i+1) h σ' H')/\∀x H',(pd K a).o7 i H x H'->g x b H' λd H2=>tb {D with nx:=N,ct:=N,bk:=D.nx} d H2):=by
 calc⟨λi m b H=>m=↑xs-i/\i<=↑xs/\c i b H,⟨↑xs,by simp,VX _,j⟩,?_⟩;ext i m b H ⟨rfl,o,p⟩;let q:=k i b H o p
 by_cases f:i<↑xs
 .refine .inr ⟨⟨xs,xs[i],q,by simp[f]⟩,c (i+1),λl n r=>⟨↑xs-(i+1),⋯,Y,f,r⟩,λx n y=>?_⟩
  let⟨T,v,rfl,s,rfl,y⟩:=y;exact hs i v T b H (y xs q) p s
 .let e:i=↑xs:=by symm
  subst e;calc .inl ⟨⟨xs,q,B8 _⟩,hd b H p⟩
section
variable{g:TG}{tf:TT}{te:TE}{l:U}{τ0:St}{H0:Hp}{Q:VK}
end
section
variable{X:Cx}{es:-J}{te:TE}{t:TA}
theorem wF{c j p}(a:JE X (.Constant c j p) te)(b:JA X es t):JA X (.Constant c j p::es) (jG te t):=km a b Y
theorem jJ{x p}(a:JE X (.Name x p) te)(b:JA X es t):JA X (.Name x p::es) (jG te t):=km a b Y
theorem jK{f a k p}(b:JE X (.Call f a k p) te)(c:JA X es t):JA X (.Call f a k p::es) (jG te t):=km b c Y
theorem qO{a p}(b:JE X (.List a p) te)(c:JA X es t):JA X (.List a p::es) (jG te t):=km b c Y
theorem wG{a k p}(b:JE X (.Tuple a k p) te)(c:JA X es t):JA X (.Tuple a k p::es) (jG te t):=km b c Y
theorem wH{a k p}(b:JE X (.Subscript a k p) te)(c:JA X es t):JA X (.Subscript a k p::es) (jG te t):=km b c Y
end
inductive D where
 |non|bl (b:Bool)|int (i:Int)|str (x:R)|tup (xs:-D)|lst (xs:-D)
mutual
def Is (H:Hp):D->V->Prop
 |.non,v=>v=.non
 |.bl b,v=>v=.bl b
 |.int i,v=>v=.int i
 |.str x,v=>v=.str x
 |.tup ds,v=>∃a vs,v=.ref a/\H a=ζ (.tup vs)/\ax H ds vs
 |.lst ds,v=>∃a vs,v=.ref a/\H a=ζ (.lst vs)/\ax H ds vs
def ax (H:Hp):-D->-V->Prop
 |[],vs=>vs=[]
 |d::ds,vs=>∃v r,vs=v::r/\Is H d v/\ax H ds r
end
mutual
theorem Is.same {H H':Hp} (s:ba H H'):∀{d:D}{v:V},Is H d v->Is H' d v
 |.non,_,h=>h
 |.bl _,_,h=>h
 |.int _,_,h=>h
 |.str _,_,h=>h
 |.tup _,_,h=>by
  erw[Is] at h ⊢;let⟨a,vs,e,b,c⟩:=h;exact⟨a,vs,e,s _ _ b,ax.same s c⟩
 |.lst _,_,h=>by
  erw[Is] at h ⊢;let⟨a,vs,e,b,c⟩:=h;calc⟨a,vs,e,s _ _ b,ax.same s c⟩
theorem ax.same {H H':Hp} (s:ba H H'):∀{d:-D}{v:-V},ax H d v->ax H' d v
 |[],_,h=>h
 |_::_,_,h=>by
  erw[ax] at h ⊢;let⟨v,r,e,b,c⟩:=h;calc⟨v,r,e,Is.same s b,ax.same s c⟩
end
theorem ax.length{H:Hp}:∀{ds:-D}{vs:-V},ax H ds vs->↑vs=↑ds
 |[],_,h=>by erw[ax] at h;rw[h];rfl
 |_::_,_,h=>by
  erw[ax] at h;let⟨v,r,rfl,_,a⟩:=h;rw[wq,wq,ax.length a]
theorem ax.get{H:Hp}:∀{ds:-D}{vs:-V}{i:Nat}{v:V},ax H ds vs->vs[i]?=ζ v->∃d,ds[i]?=ζ d/\Is H d v
 |[],_,i,v,h,e=>by erw[ax] at h;rw[h] at e;simp at e
 |d::c,_,i,v,h,e=>by
  erw[ax] at h;let⟨f,r,rfl,a,b⟩:=h
  cases i with
  |zero=>simp at e;subst e;exact⟨d,Y,a⟩
  |succ i=>simp at e;simpa using ax.get b e
theorem ax.nil{H:Hp}:ax H [] []:=by erw[ax]
theorem ax.cons{H:Hp}{d:D}{ds:-D}{v:V}{vs:-V}(h:Is H d v)(r:ax H ds vs):ax H (d::ds) (v::vs):=by
 erw[ax];calc⟨v,vs,Y,h,r⟩
theorem ax.snoc{H:Hp}{d:D}{v:V}:∀{ds:-D}{vs:-V},ax H ds vs->Is H d v->ax H (ds++[d]) (vs++[v])
 |[],_,h,q=>by erw[ax] at h;subst h;exact .cons q .nil
 |_::_,_,h,q=>by
  erw[ax] at h;let⟨c,r,rfl,a,b⟩:=h;exact .cons a (ax.snoc b q)
mutual
noncomputable def dep:D->Nat
 |.tup ds=>bE ds+1
 |.lst ds=>bE ds+1
 |_=>0
noncomputable def bE:-D->Nat
 |[]=>0
 |d::ds=>max (dep d) (bE ds)
end
theorem wI:∀{ds:-D}{i:Nat}{d:D},ds[i]?=ζ d->dep d<=bE ds
 |[],i,d,e=>by simp at e
 |b::a,0,d,e=>by simp at e;subst e;erw[bE];exact Nat.le_max_left _ _
 |b::a,i+1,d,e=>by simp at e;erw[bE];calc Wq (wI e) (Nat.le_max_right _ _)
noncomputable def iz:D->String
 |.non=>"NoneType" | .bl _=>"bool" | .int _=>"int" | .str _=>"str" | .tup _=>"tuple" | .lst _=>"list"
theorem Is.ty{K:KC}{H:Hp}:∀{d:D}{v:V},Is H d v->fH K H v (.type (iz d))
 |.non,_,h=>by cases(show _=_ from h);exact .non
 |.bl b,_,h=>by cases(show _=_ from h);exact .bl b
 |.int i,_,h=>by cases(show _=_ from h);exact .int i
 |.str x,_,h=>by cases(show _=_ from h);exact .str x
 |.tup _,_,h=>by
  erw[Is] at h;let⟨a,e,rfl,c,_⟩:=h;exact .tup c
 |.lst _,_,h=>by
  erw[Is] at h;let⟨a,e,rfl,c,_⟩:=h;calc .lst c
noncomputable def fJ(T c:String):Bool:=T==c||(T=="bool" && c=="int")
section
variable{K:KC}
theorem K8:∀T∈["NoneType", "bool", "int", "str", "tuple", "list"],X9 K (.type T) (.type "bool")=ζ (fJ T "bool"):=by
 ext T a;erw[Uw,Ww,YB] at a;rcases a with rfl|rfl|rfl|rfl|rfl|rfl<;>kernel_rfl
theorem K9:∀T∈["NoneType", "bool", "int", "str", "tuple", "list"],X9 K (.type T) (.type "int")=ζ (fJ T "int"):=by
 ext T a;erw[Uw,Ww,YB] at a;rcases a with rfl|rfl|rfl|rfl|rfl|rfl<;>kernel_rfl
theorem kit_tuple:∀T∈["NoneType", "bool", "int", "str", "tuple", "list"],X9 K (.type T) (.type "tuple")=ζ (fJ T "tuple"):=by
 ext T a;erw[Uw,Ww,YB] at a;rcases a with rfl|rfl|rfl|rfl|rfl|rfl<;>kernel_rfl
theorem K_:∀T∈["NoneType", "bool", "int", "str", "tuple", "list"],X9 K (.type T) (.type "list")=ζ (fJ T "list"):=by
 ext T a;erw[Uw,Ww,YB] at a;rcases a with rfl|rfl|rfl|rfl|rfl|rfl<;>kernel_rfl
theorem tJ(d:D):iz d∈["NoneType", "bool", "int", "str", "tuple", "list"]:=by cases d<;>simp[iz]
end
section
variable{X:Cx}
theorem JE.weak{e:J}{t t':TE}(h:JE X e t)(k:∀a H Q,t' a H Q->t a H Q):JE X e t':=⟨λb s a H Q I q=>h b s a H Q I (k a H Q q)⟩
theorem JT.weak{e:J}{t t':TT}(h:JT X e t)(k:∀a H Q,t' a H Q->t a H Q):JT X e t':=⟨λb s a H Q I q=>h b s a H Q I (k a H Q q)⟩
theorem JA.weak{es:-J}{t t':TA}(h:JA X es t)(k:∀a H Q,t' a H Q->t a H Q):JA X es t':=⟨λc b s a H Q I q=>h c b s a H Q I (k a H Q q)⟩
theorem JS.weak{st:y}{t t':TS}(h:JS X st t)(k:∀D a H,t' D a H->t D a H):JS X st t':=⟨λb s a H D I q=>h b s a H D I (k D a H q)⟩
theorem ee.weak{st:-y}{t t':TS}(h:ee X st t)(k:∀D a H,t' D a H->t D a H):ee X st t':=⟨λb s a H D I q=>h b s a H D I (k D a H q)⟩
end
section
variable{κ:Type}[DecidableEq κ]
noncomputable def dh(kvs:-(κ×V))(k:κ):Option V:=(kvs.find? λa=>S (a.1=k)).map (·.2)
noncomputable def putK(kvs:-(κ×V))(k:κ)(v:V):-(κ×V) :=
 if(kvs.any λa=>S (a.1=k))=θ then kvs.map (λa=>if a.1=k then(a.1,v) else a) else kvs++[(k,v)]
noncomputable def ni(kvs:-(κ×V))(k:κ):-(κ×V):=kvs.filter λa=>S (a.1≠k)
theorem qP{p:κ×V}{r:-(κ×V)}{k:κ}(e:p.1=k):dh (p::r) k=ζ p.2:=by simp[dh,Za,e]
theorem qQ{p:κ×V}{r:-(κ×V)}{k:κ}(e:¬ p.1=k):dh (p::r) k=dh r k:=by simp[dh,Za,e]
theorem wJ(k:κ):∀kvs:-(κ×V),(kvs.any λa=>S (a.1=k))=(dh kvs k).isSome
 |[]=>Y
 |p::r=>by
  rw[We]
  by_cases e:p.1=k
  .erw[qP e,VG e,q4O,q0E]
  .rw[qQ e,VC e,Bool.false_or];calc wJ k r
theorem tK(kvs:-(κ×V))(k:κ)(v:V):↑(putK kvs k v)<=↑kvs+1:=by
 unfold putK;split
 .rw[nW];symm
 .rw[qG,wq,VO];symm
theorem La{kvs:-(κ×V)}{k:κ}(v:V)(h:dh kvs k=η):putK kvs k v=kvs++[(k,v)]:=by
 unfold putK;rw[wJ,h];calc VB (by decide)
theorem eC.dM{o:Option V}{u:Option M}(r:eC o u):o.isSome=u.isSome:=by
 cases o with
 |none=>cases u with
  |none=>rfl
  |some _=>exact(show False from r).elim
 |some _=>cases u with
  |none=>exact(show False from r).elim
  |some _=>rfl
theorem KV.val{kvs:-(κ×V)}{vs:-(κ×M)}(r:KV kvs vs)(k:κ):eC (dh kvs k) (valueAt vs k):=by
 unfold KV at r
 induction r with
 |nil=>exact Yu
 | @cons p q i a h t f =>
  let⟨d,g⟩:=h
  by_cases e:p.1=k
  .let c:q.1=k:=d.symm.trans e
   let b:valueAt (q::a) k=ζ q.2:=by simp[valueAt,Za,c]
   rw[qP e,b];exact g
  .let c:¬ q.1=k:=λz=>e (d.trans z)
   let b:valueAt (q::a) k=valueAt a k:=by simp[valueAt,Za,c]
   rw[qQ e,b];calc f
theorem KV.any{kvs:-(κ×V)}{vs:-(κ×M)}(r:KV kvs vs)(k:κ):(kvs.any λa=>S (a.1=k))=vs.any λa=>S (a.1=k):=by
 unfold KV at r
 induction r with
 |nil=>rfl
 |cons h t b=>rw[We,We,b,h.1]
theorem KV.jL{kvs:-(κ×V)}{vs:-(κ×M)}(r:KV kvs vs)(k:κ){y:V}{u:M}(c:RelV y u):
  KV (kvs.map λa=>if a.1=k then(a.1,y) else a) (vs.map λa=>if a.1=k then(a.1,u) else a):=by
 unfold KV at r ⊢
 induction r with
 |nil=>exact .nil
 | @cons p q g i h t d =>
  rw[Uz,Uz];calc .cons ?_ d;let⟨b,f⟩:=h
  by_cases e:p.1=k
  .rw[VD e,VD (b.symm.trans e)];exact⟨b,c⟩
  .rw[VB e,VB (λz=>e (b.trans z))];calc⟨b,f⟩
theorem KV.put{kvs:-(κ×V)}{vs:-(κ×M)}(r:KV kvs vs)(k:κ){y:V}{u:M}(a:RelV y u):KV (putK kvs k y) (stored vs k u):=by
 unfold putK stored;rw[r.any k]
 by_cases e:(vs.any λb=>S (b.1=k))=θ
 .rw[VD e,VD e];exact r.jL k a
 .rw[VB e,VB e];calc Paired.snoc r ⟨Y,a⟩
theorem KV.drop{kvs:-(κ×V)}{vs:-(κ×M)}(r:KV kvs vs)(k:κ):KV (ni kvs k) (without vs k):=by
 unfold KV at r ⊢;unfold ni without
 induction r with
 |nil=>exact .nil
 | @cons p q i j h t d =>
  let⟨c,f⟩:=h;rw[XA,XA]
  by_cases e:p.1=k
  .let a:¬ S (p.1≠k)=θ:=by simp[e]
   let b:¬ S (q.1≠k)=θ:=by simp[c.symm.trans e]
   rw[VB a,VB b];exact d
  .let g:¬ q.1=k:=λz=>e (c.trans z)
   let a:S (p.1≠k)=θ:=by simp[e]
   let b:S (q.1≠k)=θ:=by simp[g]
   rw[VD a,VD b];calc .cons ⟨c,f⟩ d
theorem KV.length{kvs:-(κ×V)}{vs:-(κ×M)}(r:KV kvs vs):↑kvs=↑vs:=q2i r
theorem Lb(kvs:-(κ×V))(k:κ):↑(ni kvs k)<=↑kvs:=WZ _ _
end
theorem nk{P:X}{w:l}{k:Key}{u:M}(r:RelV (kV k) u):(gJ P w).is k u=θ:=by
 cases k with
 |inl i=>let⟨t,e⟩:=(show ∃t,u=Xl i t from r);subst e;exact Iw P w i t
 |inr x=>let⟨t,e⟩:=(show ∃t,u=q1f x t from r);subst e;calc Iy P w x t
theorem Co{P:X}{w:l}:∀{ks:-Key}{us:-M},Vals (ks.map kV) us->ItemsAre (gJ P w) ks us
 |[],_,r=>by rw[V8] at r;cases r;exact .nil
 |k::a,_,r=>by
  rw[Uz] at r
  cases r with
  |cons h t=>calc .cons (nk h) (Co t)
abbrev KT(H:Hp):-(-Key×V)->-(-Key×U×M)->Prop:=Paired λp q=>p.1=q.1/\H q.2.1=ζ (.tup (p.1.map kV))/\RelV p.2 q.2.2
theorem KT.val{H:Hp}{kvs:-(-Key×V)}{xs:-(-Key×U×M)}(r:KT H kvs xs)(k:-Key):eC (dh kvs k) ((atKey xs k).map (·.2)):=by
 induction r with
 |nil=>exact Yu
 | @cons p q i a h t f =>
  let⟨d,_,g⟩:=h
  by_cases e:p.1=k
  .let c:q.1=k:=d.symm.trans e
   let b:atKey (q::a) k=ζ q.2:=by simp[atKey,Za,c]
   rw[qP e,b];exact g
  .let c:¬ q.1=k:=λz=>e (d.trans z)
   let b:atKey (q::a) k=atKey a k:=by simp[atKey,Za,c]
   rw[qQ e,b];calc f
theorem KT.jL{H:Hp}{kvs:-(-Key×V)}{xs:-(-Key×U×M)}(r:KT H kvs xs)(k:-Key){y:V}{u:M}(d:RelV y u):
  KT H (kvs.map λb=>if b.1=k then(b.1,y) else b) (xs.map (putAt k u)):=by
 induction r with
 |nil=>exact .nil
 | @cons p q i j h t f =>
  rw[Uz,Uz];calc .cons ?_ f;let⟨a,c,g⟩:=h;unfold putAt
  by_cases e:p.1=k
  .rw[VD e,VD (a.symm.trans e)];exact⟨a,c,d⟩
  .rw[VB e,VB (λz=>e (a.trans z))];calc⟨a,c,g⟩
theorem KT.put{H:Hp}{kvs:-(-Key×V)}{xs:-(-Key×U×M)}(r:KT H kvs xs)(k:-Key){b:U}{y:V}{u:M}(c:H b=ζ (.tup (k.map kV)))(a:RelV y u):
  KT H (putK kvs k y) (storedH xs k b u):=by
 let e:(kvs.any λd=>S (d.1=k))=(atKey xs k).isSome:=by
  rw[wJ,(r.val k).dM,q0V]
 unfold putK storedH;rw[e]
 by_cases q:(atKey xs k).isSome=θ
 .rw[VD q,VD q];exact r.jL k a
 .rw[VB q,VB q];calc Paired.snoc r ⟨Y,c,a⟩
theorem KT.keeps{H H':Hp}{kvs:-(-Key×V)}{xs:-(-Key×U×M)}(r:KT H kvs xs)(a:∀b ys,H b=ζ (.tup ys)->H' b=ζ (.tup ys)):KT H' kvs xs :=
 Paired.nK r λ_ _ z=>⟨z.1,a _ _ z.2.1,z.2.2⟩
section
variable{P:X}{w:l}{H:Hp}{h:Q}{a:U}
theorem Cp{u:HO}(b:fz P w H h)(e:Rd H a u):bq P w H h a u:=e.ok b
theorem pe{kvs:-(Key×V)}(b:fz P w H h)(e:Rd H a (.dK kvs)):↑kvs<=sizeLine/\(a==sysModules)=ι/\∃vs,KV kvs vs/\h.DictOf (gJ P w) a vs :=
 show bq P w H h a (.dK kvs) from Cp b e
theorem nZ{kvs:-(Key×V)}(b:fz P w H h)(e:H a=ζ (.dK kvs)):↑kvs<=sizeLine/\(a==sysModules)=ι/\∃vs,KV kvs vs/\h.DictOf (gJ P w) a vs:=pe b (.inl e)
theorem qR{ks:-Key}(c:fz P w H h)(e:H a=ζ (.tup (ks.map kV))):(tupleKind (gJ P w)).is h ks a:=by
 let⟨_,b,r,o,d,f,n,g⟩:=(show bq P w H h a (.tup (ks.map kV)) from c a _ e);calc⟨o,b.toArray,n,d,f,g,by simpa using Co r⟩
theorem pf{kvs:-(-Key×V)}(d:fz P w H h)(e:Rd H a (.dT kvs)):↑kvs<=sizeLine/\(a==sysModules)=ι ∧
  ∃xs,KT H kvs xs/\h.DictOfH (tupleKind (gJ P w)) a xs:=by
 let⟨z,y,g,r,o,i,j,k,n,s,u,v⟩:=(show bq P w H h a (.dT kvs) from Cp d e);refine⟨z,y,g,r,o,i,j,k,n,s,u,λx b=>?_,v⟩
 let c:∀{l:-(-Key×V)}{m:-(-Key×U×M)},KT H l m->∀x∈m,(tupleKind (gJ P w)).is h x.1 x.2.1:=by
  ext l m q
  induction q with
  |nil=>ext x b;exact nomatch b
  | @cons p q B C f t A =>
   ext x b;rcases Uw.mp b with e|b
   .subst e
    exact qR d (by rw[<-f.1];calc f.2.1)
   .exact A x b
 calc c r x b
theorem Lc{kvs:-(-Key×V)}(b:fz P w H h)(e:H a=ζ (.dT kvs)):↑kvs<=sizeLine/\(a==sysModules)=ι ∧
  ∃xs,KT H kvs xs/\h.DictOfH (tupleKind (gJ P w)) a xs:=pf b (.inl e)
end
def gL(H:Hp)(a:U)(y:V)(r:Option V):Prop :=
 (∃c k,Rd H a (.dK c)/\y=kV k/\r=dh c k)\/∃c k b,Rd H a (.dT c)/\y=.ref b/\H b=ζ (.tup (k.map kV))/\r=dh c k
def ky(H:Hp)(a:U)(y v:V)(H':Hp):Prop :=
 (∃c k,H a=ζ (.dK c)/\y=kV k/\↑c<sizeLine/\H'=upd H a (.dK (putK c k v))) ∨
 ∃c k b,H a=ζ (.dT c)/\y=.ref b/\H b=ζ (.tup (k.map kV))/\↑c<sizeLine/\H'=upd H a (.dT (putK c k v))
theorem gL.k{H:Hp}{a:U}{kvs:-(Key×V)}{k:Key}(e:H a=ζ (.dK kvs)):gL H a (kV k) (dh kvs k):=.inl ⟨kvs,k,.inl e,Y,Y⟩
theorem ky.k{H:Hp}{a:U}{kvs:-(Key×V)}{k:Key}{v:V}(e:H a=ζ (.dK kvs))(b:↑kvs<sizeLine):ky H a (kV k) v (upd H a (.dK (putK kvs k v))):=.inl ⟨kvs,k,e,Y,b,Y⟩
section
variable{X:Cx}{pins:a6}{σ:St}{H:Hp}{s:L}{a:U}{y v:V}{u r:M}{o:Option V}{A:t}{E:bt}
theorem Inv.big(I:Inv X pins σ H s):sysModules<⇑s:=by
 let h:mainGlobals<⇑s:=(I.mod.glob.keeps I.bk).lt;calc q1m (by decide) h
theorem Ld{Q:bt}(t:A.units+1<cLine)(I:Inv X pins σ H s)(g:gL H a y (ζ v))(r:RelV y u)(h:∀f s',Inv X pins σ H s'->RelV v f->Q f s'):
  G (ς X.prog X.w) A (getItem (.ref a) u) Q E s:=by
 rcases g with⟨i,k,e,j,l⟩|⟨i,k,b,e,j,x,l⟩
 .subst j
  let⟨z,B,C,c,m⟩:=pe I.bg e;let⟨f,n,d⟩:=eC.some_of (v:=v) (o:=valueAt C k) (by rw[l];calc c.val k);exact wpAny_getItem_of (nk r) m.mapOf n (h f _ (I.tok _) d)
 .subst j
  cases(show u=WN b from r)
  let⟨z,B,D,c,m⟩:=pf I.bg e;let⟨f,n,d⟩:=eC.some_of (v:=v) (o:=(atKey D k).map (·.2)) (by rw[l];calc c.val k);let⟨p,F,q⟩:=KI.mp n;calc wpAny_getItem_heap (ZC t) (qR I.bg x) m F ?_;rw[q];calc h f _ (I.tok _) d
theorem wK{Q:bt}(n:A.units+1<cLine)(I:Inv X pins σ H s)(g:gL H a y o)(m:RelV y u)(h:∀s',Inv X pins σ H s'->Q (.bool o.isSome) s'):
  G (B X.prog X.w) A (compareOp .In u (.ref a)) Q E s:=by
 rcases g with⟨d,k,e,f,l⟩|⟨d,k,b,e,f,p,l⟩
 .subst f
  let⟨z,i,r,c,j⟩:=pe I.bg e;calc wpAny_in_of (nk m) i j.mapOf ?_;rw[<-(c.val k).dM,<-l];exact h _ (I.tok _)
 .subst f
  cases(show u=WN b from m)
  let⟨z,i,t,c,j⟩:=pf I.bg e;calc wpAny_in_heap (ZC n) (qR I.bg p) i j ?_;let q:=(c.val k).dM;rw[q0V] at q;rw[<-q,<-l];calc h _ (I.tok _)
theorem Le{Q:bt}(n:A.units+1<cLine)(I:Inv X pins σ H s)(g:gL H a y o)(m:RelV y u)(h:∀s',Inv X pins σ H s'->Q (.bool (!o.isSome)) s'):
  G (B X.prog X.w) A (compareOp .NotIn u (.ref a)) Q E s:=by
 rcases g with⟨d,k,e,f,l⟩|⟨d,k,b,e,f,p,l⟩
 .subst f
  let⟨z,i,r,c,j⟩:=pe I.bg e;calc wpAny_notIn_of (nk m) i j.mapOf ?_;rw[<-(c.val k).dM,<-l];exact h _ (I.tok _)
 .subst f
  cases(show u=WN b from m)
  let⟨z,i,t,c,j⟩:=pf I.bg e;calc wpAny_notIn_heap (ZC n) (qR I.bg p) i j ?_;let q:=(c.val k).dM;rw[q0V] at q;rw[<-q,<-l];calc h _ (I.tok _)
theorem qT{h':Q}{t':Nat}{c:HO}(I:Inv X pins σ H s)(mu:qb (H a))(hs:Zj a s.heap h')(he:∃q,h'.get? a=ζ q)(d:bq X.prog X.w (upd H a c) h' a c):
  Inv X pins σ (upd H a c) {s with heap:=h',toks:=t'} :=
 I.write (x:=a) (e:=a) mu (.inl Y) (λb q f z=>(hs.2 b f).trans z) he d
theorem tL{P:ψ}{w:l}{H':Hp}{h':Q}{kvs:-(Key×V)}{vs:-(Key×M)}(z:↑kvs<=sizeLine)(hd:(a==sysModules)=ι)(b:KV kvs vs)(dd:h'.DictOf (gJ P w) a vs):
  bq P w H' h' a (.dK kvs):=⟨z,hd,vs,b,dd⟩
theorem Lf{H':Hp}{Q:Unit->ο->Prop}(K:A.units+1<cLine)(I:Inv X pins σ H s)(g:ky H a y v H')(C:RelV y u)(D:RelV v r)(h:∀s',Inv X pins σ H' s'->Q () s'):
  ρ (ς X.prog X.w) A (setItem (.ref a) u r) Q E s:=by
 rcases g with⟨d,k,e,m,l,n⟩|⟨d,k,b,e,m,F,l,n⟩
 .subst m n
  let⟨z,o,L,f,p⟩:=nZ I.bg e;let t:↑L<=sizeLine:=by rw[<-↑f];exact z
  let x:↑(putK d k v)<=sizeLine:=by let:=tK d k v;symm
  calc wpAny_setItem_pairs (hsz:=t) (nk C) p λG i B=>h _ ?_;let M:∃q,G.get? a=ζ q:=let⟨q,_,_,j,_⟩:=i;⟨q,j⟩;exact qT I (by rw[e];calc Yu) B M (tL x o (f.put k D) i)
 .subst m n
  cases(show u=WN b from C)
  let⟨z,o,N,f,p⟩:=Lc I.bg e;let t:↑N<=sizeLine:=by rw[<-q2i f];exact z
  let x:↑(putK d k v)<=sizeLine:=by let:=tK d k v;symm
  calc wpAny_setItem_heap (hsz:=t) (ZC K) (qR I.bg F) p λG i B=>h _ ?_;let⟨q,O,P,j,R,S,T,_,U⟩:=i;calc qT I (by rw[e];calc Yu) B ⟨q,j⟩ ⟨x,o,_,(f.put k F D).keeps λc V J=>?_,q,O,P,j,R,S,T,U⟩;rw[bu (Iz J e (λz=>nomatch z))];calc J
end
section
variable{X:Cx}{pins:a6}{σ:St}{H:Hp}{s:L}{a:U}{kvs:-(Key×V)}{k:Key}{u:M}{A:t}{E:bt}
theorem Lg{v:V}{more:-M}{Q:bt}(I:Inv X pins σ H s)(e:H a=ζ (.dK kvs))(f:RelV (kV k) u)(l:dh kvs k=ζ v)(j:more=[]\/∃x,more=[x])
  (h:∀c s',Inv X pins σ (upd H a (.dK (ni kvs k))) s'->RelV v c->Q c s'):ρ (ς X.prog X.w) A (call (.builtin "dict.pop") (.ref a::u::more)) Q E s:=by
 let⟨z,p,m,b,n⟩:=nZ I.bg e;let⟨c,r,g⟩:=eC.some_of (v:=v) (o:=valueAt m k) (by rw[<-l];calc b.val k)
 let y:(keyPart u).isSome=θ:=by
  cases k with
  |inl i=>let⟨t,q⟩:=(show ∃t,u=Xl i t from f);subst q;rfl
  |inr x=>let⟨t,q⟩:=(show ∃t,u=q1f x t from f);subst q;rfl
 let B:argsOk "dict.pop" ⟨.ref a::u::more,[]⟩:=by
  rcases j with q|⟨x,q⟩
  .subst q;exact PySem.F.args_dict_pop_2 _ _
  .subst q;exact PySem.F.args_dict_pop_3 _ _ _
 refine q2T q1O n.typeIs PySem.F.entry_dict_pop B (meets_dict_pop_there (gJ X.prog X.w) a (nk f) more j y)
  ⟨m,c,n,by rw[<-↑b];calc z,r,λC d D=>h c _ ?_ g⟩
 let J:∃q,C.get? a=ζ q:=let⟨q,_,_,G,_⟩:=d;⟨q,G⟩;calc qT I (by rw[e];calc Yu) D J (tL (Wq (Lb kvs k) z) p (b.drop k) d)
end
def n6(i:J):Prop:=∀a b,subscripted i ι a b=operate [a,b] (getItem a b)
theorem Lh{prog:X}{w:ω}{A:t}{E:bt}{s:L}{env:u}{b a:J}{pos:I}{T l:String}{Q:bt}
  (m:typeLookup (.type T) "__getitem__" = pure (ζ (.builtin l))) (hs:n6 a)
  (h:G (B prog w) A (eval b env) (λo e=>G (B prog w) A (eval a env) (λi c=>c.TypeIs o T/\G (B prog w) A (getItem o i) Q E c) E e) E s) :
  G (B prog w) A (eval (.Subscript b a pos) env) Q E s:=by
 calc Subscript_ (XZ h (λo e g=>XZ g (λi c d=>?_) λ_ _ x=>x) λ_ _ x=>x);let⟨k,d⟩:=d;unfold subscriptTail;calc nX ?_;rw[getitemInPython_of_ne k.not_modules];refine nX (q0d k m ?_)
 let fin:G (B prog w) A (subscripted a ι o i) (λr f=>G (B prog w) A (letTemporaryGo b o r >>= λ_=>pure r) Q E f) E c:=by
  rw[hs o i];exact wpAny_operating (XZ d (λr f j=>nX (wpAny_letTemporaryGo (B9 j))) λ_ _ x=>x)
 first
  |exact B9 (nX fin)
  |exact nX (B9 (nX fin))
  |calc nX fin
theorem Li{X:Cx}{c:a6}{h:St}{H:Hp}{s:L}{a:U}{y:V}{o:Option V}(I:Inv X c h H s)(g:gL H a y o):s.TypeIs (.ref a) "dict" := by
 rcases g with⟨d,k,e,_,_⟩|⟨d,k,b,e,_,_,_⟩
 .let⟨_,_,i,_,f⟩:=pe I.bg e
  exact f.typeIs
 .let⟨_,_,j,_,f⟩:=pf I.bg e
  calc f.typeIs
def Lj(d e:TE):TE:=λb H Q=>d b H λx f=>e b f λy c=>∃a v,x=.ref a/\gL c a y (ζ v)/\Q v c
def qU(d e:TE):TE:=λb H Q=>d b H λy f=>e b f λx c=>∃a o,x=.ref a/\gL c a y o/\Q (.bl o.isSome) c
def Cq(d e:TE):TE:=λb H Q=>d b H λy f=>e b f λx c=>∃a o,x=.ref a/\gL c a y o/\Q (.bl (!o.isSome)) c
def Lk(d e f:TE):TS:=λD b H=>f b H λv g=>d b g λx h=>e b h λy i=>∃a c,x=.ref a/\ky i a y v c/\D.nx b c
section
variable{X:Cx}{o i e value:J}{pos pos' vX:I}{td ty tv:TE}
theorem Ll(f:X.A.units+1<cLine)(j:JE X o td)(k:JE X i ty)(hs:n6 i):JE X (.Subscript o i pos) (Lj td ty):=by
 calc⟨?_⟩;ext b s d H Q I h;calc Lh PySem.F.slot_dict_getitem.lookup hs (bF (j b s d H _ I h) λu l ⟨x,m,n,p,q⟩=>bF (k b l d m _ n q) ?_);ext C D ⟨y,r,e,t,a,v,w,g,z⟩;subst w;obtain rfl:u=WN a:=p;calc⟨Li e g,Ld f e g t λE G B c=>⟨v,r,B,c,z⟩⟩
theorem Lm(d:X.A.units+1<cLine)(e:JE X i ty)(f:JE X o td):JC X .In i o (qU ty td):=by
 calc⟨?_⟩;ext b s c H Q I h;calc bF (e b s c H _ I h) λB j ⟨y,k,l,m,n⟩=>bF (f b j c k _ l n) ?_;ext u C ⟨x,p,q,r,a,t,v,g,w⟩;subst v;obtain rfl:u=WN a:=r;calc wK d q g m λD z=>⟨.bl t.isSome,p,z,Y,w⟩
theorem Ln(d:X.A.units+1<cLine)(e:JE X i ty)(f:JE X o td):JC X .NotIn i o (Cq ty td):=by
 calc⟨?_⟩;ext b s c H Q I h;calc bF (e b s c H _ I h) λB j ⟨y,k,l,m,n⟩=>bF (f b j c k _ l n) ?_;ext u C ⟨x,p,q,r,a,t,v,g,w⟩;subst v;obtain rfl:u=WN a:=r;calc Le d q g m λD z=>⟨.bl (!t.isSome),p,z,Y,w⟩
theorem Cr(d:X.A.units+1<cLine)(e:JE X o td)(f:JE X i ty)(j:JE X value tv)(hs:swapsWith value (ζ (.Subscript o i pos')) pos.line X.env=pure ι):
  JS X (.Assign [.Subscript o i pos'] value pos) (Lk td ty tv):=by
 calc⟨?_⟩;ext b s c H D I h;calc wpAny_Assign_Subscript (bF (j b s c H _ I h) λr k ⟨v,l,m,n,p⟩=>bF (e b k c l _ m p) λu q ⟨x,t,w,z,B⟩=>bF (f b q c t _ w B) λL M ⟨y,N,C,E,a,F,G,g,J⟩=>?_) hs;subst G;obtain rfl:u=WN a:=z;calc Lf d C g E n λO K=>⟨c,F,K,J⟩
end
theorem Cu{P:X}{w:l}{H:Hp}(h:Q)(a:sysModules<h.objs.size):bq P w H (h.push {cls:=.type "dict",data:=.dict #[]}) h.objs.size (.dK []) :=
 ⟨VX _,YY.mpr (Yy (VE a)),[],.nil,Heap.DictOf.new h⟩
def Cv:TE:=λ_ H Q=>∀p,H p=η->Q (.ref p) (upd H p (.dK []))
section
variable{X:Cx}{pos:I}
theorem jc:JE X (.Dict [] [] pos) Cv:=⟨λb s c H Q I h =>
 wpAny_Dict_empty ⟨.ref ⇑s,_,I.laid (a:=s.heap.objs.size) (o:=.dK []) (t':=s.toks) (λ_ _ q=>B7 _ q) (B8 _) (Cu s.heap I.big),Y,h _ (I.bg.fresh (B8 _))⟩⟩
end
def tM:-(TE×TE)->St->Hp->(-(V×V)->Hp->Prop)->Prop
 |[],_,H,Q=>Q [] H
 |(b,c)::r,a,H,Q=>b a H λx d=>c a d λy e=>tM r a e λf g=>Q ((x,y)::f) g
abbrev VV:-(V×V)->-(M×M)->Prop:=Paired λp q=>RelV p.1 q.1/\RelV p.2 q.2
def qV(X:Cx)(pos:I)(keys:-(Option J))(a:-J)(c:-(TE×TE)):Prop :=
 ∀(b:a6)(s:L)(d:St)(H:Hp)(Q:-(V×V)->Hp->Prop),Inv X b d H s->tM c d H Q →
  G (B X.prog X.w) X.A (evalPairs (pairTrees keys a X.env pos)) (λg h=>∃e f,Inv X b d f h/\VV e g/\Q e f) X.xe s
theorem Lo{X:Cx}{pos:Ε}:qV X pos [] [] []:=λa s b H Q I h=>pairTrees_nil_walk ⟨[],H,I,.nil,h⟩
theorem Lp{X:Cx}{pos:Ε}{k v:J}{ks:-(Option J)}{vs:-J}{tk e:TE}{b:-(TE×TE)}(f:JE X k tk)(g:JE X v e)(i:qV X pos ks vs b):
  qV X pos (ζ k::ks) (v::vs) ((tk,e)::b):=λa s c H Q I h =>
 pairTrees_cons_walk (bF (f a s c H _ I h) λu j ⟨x,l,m,n,o⟩↦bF (g a j c l _ m o) λD p ⟨y,q,r,t,w⟩ ↦
  bF (i a p c q _ r w) λE F ⟨z,A,B,d,C⟩↦⟨(x,y)::z,A,B,.cons ⟨n,t⟩ d,C⟩)
noncomputable def n7(kvs more:-(Key×V)):-(Key×V):=more.foldl (λa b=>putK a b.1 b.2) kvs
theorem KV.merge:∀{more:-(Key×V)}{rs:-(Key×M)}{kvs:-(Key×V)}{vs:-(Key×M)},KV more rs->KV kvs vs->KV (n7 kvs more) (merged vs rs):=by
 ext b g a c r;unfold KV at r
 induction r generalizing a c with
 |nil=>ext q;exact q
 | @cons p q i j h t d =>
  ext f
  let e:KV (putK a p.1 p.2) (stored c q.1 q.2):=by
   let:=f.put p.1 h.2;rw[<-h.1];exact this
  calc d e
theorem Cw:∀(more kvs:-(Key×V)),↑(n7 kvs more)<=↑kvs+↑more
 |[],a=>by show ↑a<=↑a+0;symm
 |p::r,a=>by
  let b:=Cw r (putK a p.1 p.2);let c:=tK a p.1 p.2;show↑(n7 (putK a p.1 p.2) r)<=_;rw[wq];symm
theorem Cy{P:X}{w:l}:∀{kvs:-(Key×V)}{ws:-(M×M)},VV (kvs.map λd=>(kV d.1,d.2)) ws->∃rs,Carries (gJ P w) ws rs/\KV kvs rs
 |[],_,r=>by rw[V8] at r;cases r;exact⟨[],Yu,.nil⟩
 |p::e,_,r=>by
  rw[Uz] at r
  cases r with
  | @cons a b i j h t =>
   let⟨f,c,q⟩:=Cy (P:=P) (w:=w) t;let⟨k,g⟩:=b;calc⟨(p.1,g)::f,⟨nk h.1,Y,c⟩,.cons ⟨Y,h.2⟩ q⟩
def Lq(b:-(TE×TE)):TE:=λe H Q=>∀p,H p=η->tM b e (upd H p (.dK [])) λf c=>c p=ζ (.dK [])/\∃a:-(Key×V),f=a.map (λd=>(kV d.1,d.2))/\↑a<=15/\Q (.ref p) (upd c p (.dK (n7 [] a)))
theorem Lr{X:Cx}{pos:Ε}{keys:-(Option υ)}{b:-υ}{d:-(TE×TE)}(h:qV X pos keys b d)(f:keys.all (·.isSome)=θ)(n:↑keys=↑b)(p:keys≠[])
  (k:↑keys<=15):JE X (.Dict keys b pos) (Lq d):=by
 calc⟨?_⟩;ext g s r H Q I q;let t:=I.bg.fresh (B8 ⇑s);let u:=I.laid (a:=s.heap.objs.size) (o:=.dK []) (h':=s.heap.push {cls:=.type "dict",data:=.dict #[]}) (t':=s.toks) (λ_ _ q=>B7 _ q) (B8 _) (Cu s.heap I.big);calc wpAny_Dict_walk (knd:=gJ X.prog X.w) f n p k (bF (h g _ r _ _ u (q _ t)) ?_);ext M N ⟨O,R,m,l,e,i,v,S,x⟩;subst v;let⟨y,c,A⟩:=Cy (P:=X.prog) (w:=X.w) l;let⟨z,B,C,D,E⟩:=nZ m.bg e;cases D
 refine⟨y,c,E,λh' j F=>⟨.ref ⇑s,_,?_,Y,x⟩⟩
 let G:↑(n7 [] i)<=sizeLine:=by
  let J:=Cw i [];rw[VO] at J;rw[Yg];symm
 let L:∃q,h'.get? ⇑s=ζ q:=let⟨q,_,_,K,_⟩:=j;⟨q,K⟩;calc qT m (by rw[e];calc Yu) F L (tL G B (A.merge .nil) j)
structure M1(X:Cx)(o:J)(m:R)(apos:I)(e:J)(eG:I):Prop where
 base:attributeBase o m X.env (eval o X.env)=eval o X.env
 iT:((backTo eG (starEach [e] X.env)).all (λx => !x.1)&&(backToKw eG (keywordEach [] X.env)).all (λx=>x.1.isSome)
  && S (↑([e]:-J)+↑([]:-Keyword)+(if([]:-Keyword).isEmpty then 0 else 1)<30))=θ
 line:(apos.endLine==eG.line)=θ
 trees:backTo eG (starEach [e] X.env)=[(ι,eval e X.env)]
def Cz(H:Hp)(a:U):Prop:=(∃b,Rd H a (.dK b))\/∃b,Rd H a (.dT b)
theorem Ls{X:Cx}{f:a6}{l:St}{H:Hp}{s:L}{a:U}(I:Inv X f l H s)(d:Cz H a):
  s.TypeIs (.ref a) "dict" /\ (∀b,WN a=.ref b->∃c,s.heap.get? b=ζ c/\c.dict=η)/\(a==sysModules)=ι:=by
 rcases d with⟨h,e⟩|⟨h,e⟩
 .let⟨_,i,m,_,g⟩:=pe I.bg e
  calc⟨g.typeIs,λb q=>?_,i⟩;cases q
  let⟨c,_,_,j,k,_⟩:=g;exact⟨c,j,k.2.1⟩
 .let⟨_,i,n,_,g⟩:=pf I.bg e
  calc⟨g.typeIs,λb q=>?_,i⟩;cases q
  let⟨c,_,_,j,k,_⟩:=g;calc⟨c,j,k.2.1⟩
section
variable{X:Cx}{pins:a6}{σ:St}{H:Hp}{s:L}{a:U}{y d:V}{u r:M}{o:Option V}{A:t}{E:bt}
end
def Lu(f g:TE):TE:=λc H Q=>f c H λx d=>∃a,x=.ref a/\Cz d a/\g c d λy e=>∃b k v,e a=ζ (.dK b)/\y=kV k/\dh b k=ζ v/\Q v (upd e a (.dK (ni b k)))
section
variable{X:Cx}{o e f:J}{apos eG:I}{td ty tx:TE}
theorem Lw(i:JE X o td)(he:JE X e ty)(m:M1 X o "pop" apos e eG):JE X (.Call (.Attribute o "pop" apos) [e] [] eG) (Lu td ty):=by
 calc⟨?_⟩;ext b s f H Q I h;calc wpAny_Call_method m.base m.iT m.line ZH q1O PySem.F.type_dict_pop (bF (i b s f H _ I h) ?_);ext u j ⟨x,n,g,p,a,q,d,r⟩;subst q;obtain rfl:u=WN a:=p;let⟨t,w,_⟩:=Ls g d;calc⟨t,w,?_⟩;rw[m.trees];calc ZT Y (q11 (q2s (bF (he b j f n _ g r) λJ K ⟨y,L,z,A,B,k,v,C,D,l,E⟩=>q2L ?_)));subst D;calc Lg z C A l (.inl Y) λM N G c=>⟨v,_,G,c,E⟩
end
section
variable{X:Cx}{pins:a6}{σ:St}{H:Hp}{s:L}{a:U}{kvs:-(Key×V)}{A:t}{E:bt}
end
section
variable{X:Cx}{pins:a6}{σ:St}{H:Hp}{s:L}{a:U}{y:V}{u:M}{A:t}{E:bt}
end
end L2
namespace L2
section
variable{κ:Type}[DecidableEq κ]
end
end L2
namespace L2
open PySem PySem.Spec PyProof.Rows
end L2
namespace LJS
open PySem
noncomputable def hp(i j:Int):Int:=reduceHash (Builtin.Tuple.tupleHashOf [hashInt i,hashInt j])
theorem CA{prog:X}{w:l}(i j:Int):hT prog w [i,j]=hp i j:=rfl
noncomputable def tN:-(Int×Int):=(Wo 12).flatMap λj=>(Wo j).map λi:Nat=>(q27 i,q27 j)
theorem Lx:∀a∈tN,∀b∈tN,hp a.1 a.2=hp b.1 b.2->a=b:=by decide +kernel
theorem CB{i j:Int}(c:0<=i)(d:i<j)(e:j<12):(i,j)∈tN:=by
 let⟨a,rfl⟩:∃a:Nat,i=a:=⟨i.toNat,⋯⟩;let⟨b,rfl⟩:∃b:Nat,j=b:=⟨j.toNat,⋯⟩;unfold tN;calc q28.mpr ⟨b,Wx.mpr ⋯,VH.mpr ⟨a,Wx.mpr ⋯,Y⟩⟩
end LJS
namespace L2
open PySem PySem.Spec PyProof.Rows
noncomputable def lj(S:U)(n:Nat):HO:=.ext λh=>∃a:-Int,↑a=n/\LJS.g4 h S a
theorem Ly{P:X}{w:l}{H:Hp}{h:Q}{S:U}{hs:-Int}{n:Nat}(e:LJS.g4 h S hs)(hn:↑hs=n):bq P w H h S (lj S n) :=
 ⟨⟨hs,hn,e⟩,let⟨o,_,_,_,b,_⟩:=e;⟨o,b⟩,λg i ⟨a,c,d⟩ k↦⟨a,c,LJS.vw d λo f=>k o f⟩⟩
section
variable{X:Cx}
theorem CD:∀{ps:-U}{a:-M},Vals (ps.map V.ref) a->a=ps.map WN
 |[],_,.nil=>Y
 |_::_,_,.cons r b=>by cases r;rw[CD b];rfl
theorem Lz(Z:X.calm=θ)(hu:X.A.units+64<cLine):g6 X (.type "set") (λxs H Q=>∃(l:ξ)(ps:-ξ)(ks:-(Int×Int)),xs=[.ref l]/\bS X.K H l (ps.map V.ref)/\↑ps=↑ks ∧
  (∀(i:Nat)(a:ξ)(k:Int×Int),ps[i]?=ζ a->ks[i]?=ζ k->H a=ζ (.tup [.int k.1,.int k.2]))/\(∀k∈ks,0<=k.1/\k.1<k.2/\k.2<12)/\ks.Nodup/\↑ks<=30/\∀p,H p=η->Q (.ref p) (upd H p (lj p ↑ks))):=by
 ext T s σ H xs us Q I r h;let⟨l,m,c,rfl,hq,x,t,U,D,E,q⟩:=h;let⟨u,rfl,rx⟩:=vals1 r;cases rx
 let⟨lg,r',pl,_⟩:=I.list hq;obtain rfl:=CD r';let y:(m.map WN).toArray.size=↑c:=by rw[KD,nW,x]
 let f:∀i,i<↑c->∃k,c[i]?=ζ k/\c.getD i (0,0)=k:=λi d=>⟨c[i],tG d,by rw[KG,tG d];rfl⟩;let w:∀i,i<↑c->∃a,m[i]?=ζ a/\m.getD i 0=a:=λi d=>⟨m[i]'(by rw[x];calc d),tG (by rw[x];calc d),by rw[KG,tG (by rw[x];calc d)];rfl⟩;refine LJS.H_ (λi=>m.getD i 0) (λi=>[(c.getD i (0,0)).1,(c.getD i (0,0)).2]) (I.ok.hd Z) ⋯ pl.isList (λi v W=>?_) (λi d=>?_) (λi j d hj=>?_) (by rw[y];calc E) λh' tk se kp=>?_
 .rw[YC,B_] at W
  let⟨a,F,rfl⟩:=KI.mp W;rw[KG,F];rfl
 .rw[y] at d
  let⟨k,B,G⟩:=f i d;let⟨a,F,da⟩:=w i d;show IsTupleKey _ _ [(c.getD i (0,0)).1,(c.getD i (0,0)).2] (m.getD i 0);rw[G,da];let⟨_,Y,r2,o,ho,J,n,hd⟩:=I.bg a _ (t i a k F B)
  cases r2 with
  |cons ra rr =>
   cases rr with
   |cons rb rn =>
    cases rn
    let⟨t1,rfl⟩:=ra;let⟨t2,rfl⟩:=rb;exact⟨o,_,n,ho,J,hd,.cons (Zz ..) (.cons (Zz ..) .nil)⟩
 .rw[y] at d
  let⟨k,B,G⟩:=f i d;let⟨C,g,L⟩:=f j ⋯;show LJS.hT _ _ [(c.getD j (0,0)).1,(c.getD j (0,0)).2]≠LJS.hT _ _ [(c.getD i (0,0)).1,(c.getD i (0,0)).2];rw[G,L,LJS.CA,LJS.CA];ext z;let M:=U k (VJ.mpr ⟨i,B⟩);let N:=U C (VJ.mpr ⟨j,g⟩);let e:=LJS.Lx (C.1,C.2) (LJS.CB N.1 N.2.1 N.2.2) (k.1,k.2) (LJS.CB M.1 M.2.1 M.2.2) z;let e':C=k:=e;rw[e'] at g;let⟨O,P⟩:=pa.mp g;let⟨R,S⟩:=pa.mp B;let:=(Y2 (h₀:=O) (h₁:=R) D).mp (by rw[P,S]);symm
 .calc⟨.ref ⇑s,upd H ⇑s (lj ⇑s ↑c),I.laid (t':=tk) (λb o e=>kp b o (Vy e) e) (B8 _) (Ly se (by rw[nW,Xp,y])),rfl,q _ (I.bg.fresh (B8 _))⟩
theorem LA:g6 X (.builtin "len") (λxs H Q=>∃(p:U)(n:Nat),xs=[.ref p]/\H p=ζ (lj p n)/\n<1000/\Q (.int n) H):=by
 ext b s l H k m Q I r h;let⟨p,n,rfl,c,v,q⟩:=h;let⟨u,rfl,d⟩:=vals1 r;cases d
 let⟨⟨w,f,o,g,x,t,i,a,j,T⟩,_⟩:=I.bg p _ c;let e:g.size=n:=by rw[T.num,f]
 calc call_len_set i a j T.fits ⋯ ⟨.int n,H,I.tok _,⟨_,by rw[e]⟩,q⟩
theorem CF:∀{bs:-Bool}{a:-M},Vals (bs.map V.bl) a->a=bs.map Y8
 |[],_,.nil=>Y
 |_::_,_,.cons r b=>by cases r;rw[CF b];rfl
theorem all_range(bs:-Bool):(Wo bs.length).all (λi=>bs.getD i θ)=bs.all id:=by
 rw[Bool.eq_iff_iff,Yf,Yf]
 constructor
 .ext h b d
  let⟨i,a⟩:=VJ.mp d;let c:=(pa.mp a).1;let:=h i (Wx.mpr c);rw[KG,a] at this;exact this
 .ext h i a
  let c:=Wx.mp a;rw[KG,tG c];calc h _ (Yh c)
theorem LB(j:X.calm=θ):g6 X (.builtin "all") (λxs H Q=>∃(l:U)(bs:-Bool),xs=[.ref l]/\bS X.K H l (bs.map V.bl)/\Q (.bl (bs.all id)) H):=by
 ext g s F H E G Q I r h;let⟨l,c,rfl,k,q⟩:=h;let⟨u,rfl,m⟩:=vals1 r;cases m
 let⟨n,p,t,_⟩:=I.list k;obtain rfl:=CF p;let f:=t.isList;let w:l<⇑s:=by let⟨o,e,_⟩:=f;exact Vy e
 let x:l≠⇑s:=VE w;calc call_all_walk (Ys f ?_);refine⟨⇑s,_,_,_,_,_,λi=>c.getD i θ,Y,ZA (by rw[ZD];calc I.ok.hd j) ⇑s l x _,⟨⟨_,UB _ Y,Y,Y⟩,f.push _⟩,λi v y A J d a=>?_,λL B C=>?_⟩
 .let d:(c.map Y8).toArray[i]?=ζ v:=d
  let a:A (c.getD i θ) y:=a;rw[YC,B_] at d;let⟨b,D,rfl⟩:=KI.mp d;rw[KG,D] at a;exact Yt a
 .refine⟨.bl (c.all id),H,I.kept (t':=B) λb o e=>C b o (λz=>?_) (B7 _ e),?_,q⟩
  .let:=Vy e
   rw[Wm.mp z] at this;exact X8 _ this
  .show Y8 _=Y8 _
   rw[KD,nW,all_range]
end
end L2
namespace LJ
open PySem L2
structure Fn(P:X)(w:l)(K:KC)(mg:R->Option M)(base:Q)(k:Nat)(x:R)(ps:-R)(sp:Sp)(f:U)(fd:FuncData):Prop where
 ok:cG P w K mg base fZ k f fd ps sp
 ph:mg x=ζ (.ref f)
 kp:Xz K (.ref f)=θ
 bd:Binds K fd ps []
theorem LC:bootBuiltins "bool" = ζ (.type "bool"):=by decide +kernel
theorem LF:bootBuiltins "int" = ζ (.type "int"):=by decide +kernel
theorem CG:bootBuiltins "tuple" = ζ (.type "tuple"):=by decide +kernel
theorem lX:bootBuiltins "list" = ζ (.type "list"):=by decide +kernel
theorem qW:bootBuiltins "set" = ζ (.type "set"):=by decide +kernel
theorem LG:bootBuiltins "all" = ζ (.builtin "all"):=by decide +kernel
section
variable{K:KC}
end
structure aI(many:Int)(ys:-(Int×Int×Int)):Prop where
 m1:1<=many
 iA:many<=12
 jE:↑ys<=30
 ends:∀y∈ys,0<=y.1/\y.1<y.2.1/\y.2.1<many/\0<=y.2.2/\y.2.2<=1000000000
 unlike:(ys.map λy=>(y.1,y.2.1)).Nodup
end LJ
namespace L2
open PySem PySem.Spec PyProof.Rows
section
variable{X:Cx}
end
end L2
namespace LJ
open PySem L2
noncomputable def jZ:Nat->-(Int×Int)
 |0=>[]
 |n+1=>jZ n++(Wo n).map λa:Nat=>(q27 a,q27 n)
theorem wL:∀{n:Nat}{k:Int×Int},k∈jZ n->0<=k.1/\k.1<k.2/\k.2<n
 |0,_,h=>nomatch h
 |n+1,k,h=>by
  rcases VY.mp h with h|h
  .let:=wL h;symm
  .let⟨a,b,rfl⟩:=VH.mp h
   let:=Wx.mp b;refine⟨Int.natCast_nonneg a,?_,?_⟩
   .show (a:Int)<(n:Int);symm
   .show (n:Int)<((n+1:Nat):Int);symm
theorem CH:∀n:Nat,(jZ n).Nodup
 |0=>YK
 |n+1=>by
  refine Xr.mpr ⟨CH n,?_,λk c g d e=>?_⟩
  .refine XN.mpr (q09.imp λ{a b} f e=>f ?_)
   exact q4h (congrArg q5S e)
  .subst e
   let⟨a,h,rfl⟩:=VH.mp d;let:=(wL c).2.2;let:(n:Int)<(n:Int):=this;symm
theorem CI:∀n:Nat,n<=12->↑(jZ n)<=66:=by
 ext n h;rcases n with _|_|_|_|_|_|_|_|_|_|_|_|_|n
 all_goals first|decide|symm
end LJ
namespace LJ
open PySem
theorem CJ{j n:Nat}(h:j<n):seqIndex? (j:Int) n=ζ j:=by
 unfold seqIndex?
 first|(simp;symm)|skip
end LJ
namespace L2
open PySem PySem.Spec PyProof.Rows
section
variable{X:Cx}
theorem LH:g6 X (.type "range") (λxs H Q=>∃j:Int,xs=[.int j]/\∀r,H r=η->Q (.ref r) (upd H r (.rng 0 j))):=by
 ext a s d H c f Q I r h;let⟨j,rfl,q⟩:=h;let⟨u,rfl,t,rfl⟩:=vals1 r;calc call_range_1 ⟨.ref ⇑s,_,I.laid (t':=s.toks+1+1) (o:=.rng 0 j) (λb o e=>B7 _ e) (B8 _) ?_,Y,q _ (I.bg.fresh (B8 _))⟩;calc⟨_,_,_,UB _ Y⟩
noncomputable def bK(n:Nat):-Int:=(Wo n).map λa:Nat=>(a:Int)
theorem CK:∀{ns:-Int}{us:-M},↑us=↑ns->(∀(i:Nat)(u:M),us[i]?=ζ u->∃t,u=.int (ns.getD i 0) t)->Vals (ns.map V.int) us
 |[],[],_,_=>.nil
 |[],_::_,h,_=>by simp at h
 |_::_,[],h,_=>by simp at h
 |n::b,u::c,h,g=>by
  let⟨t,e⟩:=g 0 u Y;calc .cons ⟨t,e⟩ (CK h⁻¹ λi v a=>?_);let⟨t,e⟩:=g (i+1) v a⁻¹;calc⟨t,by simpa using e⟩
theorem LI(f:X.calm=θ):g6 X (.type "list") (λxs H Q=>∃(r:U)(n:Nat),xs=[.ref r]/\H r=ζ (.rng 0 (n:Int))/\n<=1000/\∀l,H l=η->Q (.ref l) (upd H l (.lst ((bK n).map V.int)))):=by
 ext d s C H B D Q I r h;let⟨a,n,rfl,g,j,q⟩:=h;let⟨u,rfl,k⟩:=vals1 r;cases k
 let⟨t,u,v,e⟩:=(show ∃t u v,s.heap.get? a=ζ {cls:=.type "range",data:=.fields #[.int 0 t,.int (n:Int) u,.int 1 v]} from I.bg a _ g);let m:q1h 0 (n:Int) 1=n:=by rw[q4c];split<;>symm
 calc call_list_range (n:=n) (I.ok.hd f) e (small_one ⋯ ⋯ ⋯ ⋯) m ⋯ λE p b w x y c=>?_;calc⟨.ref ⇑s,_,I.laid (t':=p) (o:=.lst ((bK n).map V.int)) x (B8 _) ?_,Y,q _ (I.bg.fresh (B8 _))⟩;calc⟨Xc (kW (by rw[nW,bK,nW,Xp];calc j)),b.toList,w,?_,by simpa using y⟩;refine CK ?_ λi u e=>?_
 .rw[UA,c.1,bK,nW,Xp]
 .rw[Ws] at e
  let⟨t',z⟩:=c.2 i u e;let A:i<n:=by rw[<-c.1];exact(q0q.mp e).1
  calc⟨t',z.trans ?_⟩;rw[bK,KG,B_,Yw A];show Xl (0+(i:Int)*1) t'=Xl (i:Int) t';rw[q2U,q5L]
theorem tO:∀{us:-M}{ns:-Int},IntsAre us ns->Vals (ns.map V.int) us
 |_,_,.nil=>.nil
 |_,_,.cons n t r=>.cons ⟨t,Y⟩ (tO r)
theorem LL:g6 X (.builtin "sorted") (λxs H Q=>∃(l:U)(ns:-Int),xs=[.ref l]/\bS X.K H l (ns.map V.int)/\↑ns<64/\∀(r:U)(a:-Int),a.Perm ns->a.Pairwise (· <= ·)->H r=η->Q (.ref r) (upd H r (.lst (a.map V.int)))):=by
 ext f s A H y B Q I r h;let⟨l,z,rfl,j,k,q⟩:=h;let⟨u,rfl,m⟩:=vals1 r;cases m
 let⟨d,g,n,_⟩:=I.list j;let p:=↑g;rw[nW] at p;calc sorted_ints n.isList (intsAre_of g)⁻¹ ⋯ λc a t i v=>?_;let w:H (⇑s+1)=η:=I.bg.fresh (q0b _);let⟨e,x⟩:=sortedAll_at s.heap d c;calc⟨.ref (⇑s+1),_,I.laid (t':=s.toks) (o:=.lst (a.map V.int)) (λb o e=>sortedAll_old e) (q0b _) ?_,Y,q _ a i v w⟩;calc⟨Xc (kW (by rw[nW,i.length_eq];symm)),c.toList,e,tO t,?_⟩;simpa[seqObj] using x
theorem CL{prog:ψ}{w:ω}{A:Β}{E:bt}{I l:U}{items:Array M}(W:Walks prog w A I [I,l] [I] items.size (λi v=>items[i]?=ζ v) (λi h=>h.IsListIter I l i/\h.IsList l items)):
  ∀(k i:Nat)(s:L)(Q:-M->L->Prop),i+k<=items.size->(s.heap.IsListIter I l i/\s.heap.IsList l items) →
   (∀h' tk,(h'.IsListIter I l (i+k)/\h'.IsList l items)->(∀b o,b∉[I]->s.heap.get? b=ζ o->h'.get? b=ζ o)->Q ((items.toList.drop i).take k) {s with heap:=h',toks:=tk})->G (B prog w) A (draw (.ref I) k) Q E s
 |0,i,s,Q,_,c,g=>by
  show G _ _ (pure []) Q E s;calc B9 ?_;let:=g s.heap s.toks c λ_ _ _ e=>e;rw[Wl] at this;exact this
 |k+1,i,s,Q,x,c,g=>by
  let d:i<items.size:=by symm
  show G _ _ (pyNext (.ref I) >>= _) Q E s;calc nX (W.item i s _ _ d c λv y r t f j=>?_);refine nX (WJ (CL W k (i+1) _ _ ⋯ f λu m n p=>B9 ?_))
  let e:items.toList.drop i=v::items.toList.drop (i+1):=by
   rw[YR (by rw[UA];calc d)];congr 1;let a:items[i]?=ζ v:=t;rw[Wj d] at a;simpa using a
  let:=g u m (by rw[show i+(k+1)=i+1+k by symm];calc n) λb o q e=>p b o q (j b o q e);rw[e,VS] at this;calc this
theorem LM{prog:ψ}{w:ω}{A:t}{E:bt}{s:L}{l:U}{items:Array M}{Q:-M->L->Prop}(j:A.handled=η)(c:s.heap.IsList l items)
  (g:∀h' tk,(∀b o,b≠⇑s->s.heap.get? b=ζ o->h'.get? b=ζ o)->Q items.toList {s with heap:=h',toks:=tk}):G (B prog w) A (unpackItems (.ref l) items.size η) Q E s:=by
 let k:l<⇑s:=by let⟨o,e,_⟩:=c;exact Vy e
 let W:=ZA (prog:=prog) (w:=w) j ⇑s l (VE k) items;unfold unpackItems;calc nX ?_;unfold notIterableAtAll;calc nX (q0d c.typeIs slot_list_iter.lookup (B9 ?_));erw[VP,W7];calc nX (WJ (Ys c ?_));calc nX (WJ (CL W items.size 0 _ _ ⋯ ⟨⟨_,UB _ Y,Y,Y⟩,c.push _⟩ λp m a d=>?_));rw[q1T,Xb (by rw[UA];calc B8 _),VB (by rw[UA];calc X8 _)];rw[VI] at a;calc nX (WJ (W.done _ _ _ a λn f h=>?_));erw[Option.isSome_none,VP,W7];calc B9 (g n f λb o i e=>h b o i⁻¹ (d b o i⁻¹ (B7 _ e)))
def LN(K:KC)(n:Nat)(t:kR):TG:=λv c H Q=>∃a b,v=.ref a/\bS K H a b/\↑b=n/\t b c H Q
theorem LO{es:-J}{k:Nat}{t:kR}{n:Nat}{pos:Ε}(m:X.calm=θ)(h:jX X es t)
  (hn:‹↑(assignEach es X.env)=n›) (f:‹(assignEach es X.env).findIdx? (·.1)=η›):JG X (.Tuple es k pos) (LN X.K n t):=by
 calc⟨?_⟩;ext c s j H v u Q I r g;let⟨a,p,q,w,x,g⟩:=g;subst q;cases r
 let⟨i,l,y,D⟩:=I.list w;let d:=↑l;rw[assign_Tuple];calc nX (Zr ?_);unfold unpack;rw[f,show↑(assignEach es X.env)=i.toArray.size by rw[hn,<-x,d];simp];calc nX (WJ (LM (I.ok.hd m) y.isList λz A B=>?_));let C:Inv X c j H {s with heap:=z,toks:=A}:=I.kept λb o e=>B b o (VE (Vy e)) e;calc h c _ j H p _ Q C l⁻¹ g
theorem LP:qH X "dict.setdefault" (λx vs H Q=>∃(d:U)(kvs:-(Key×V))(k:Key)(f:V),x=.ref d/\vs=[kV k,f]/\H d=ζ (.dK kvs)/\↑kvs<sizeLine/\(∀v,dh kvs k=ζ v->Q v H)/\(dh kvs k=η->Q f (upd H d (.dK (putK kvs k f))))):=by
 ext i s N H x O v P Q I p r h;let⟨d,b,k,f,rfl,rfl,j,R,t,u⟩:=h;cases p
 cases r with
 |cons A B =>
  cases B with
  |cons l C =>
   cases C
   rename_i S D;let⟨z,m,o,c,n⟩:=nZ I.bg j;let a:=c.val k;refine q2T q0g n.typeIs PySem.F.entry_dict_setdefault (PySem.F.args_dict_setdefault_3 _ _ _) (PySem.kt_meets_setdefault (gJ X.prog X.w) d (nk A) m D) ⟨o,n,by rw[<-↑c];calc z,λv E=>?_,λG J g K=>?_⟩
   .rw[E] at a
    cases e:dh b k with
    |none=>rw[e] at a;exact a.elim
    |some y =>
     rw[e] at a;exact⟨y,H,I.tok _,a,t y e⟩
   .rw[G] at a
    cases e:dh b k with
    |some y=>rw[e] at a;exact a.elim
    |none =>
     let M:∃q,J.get? d=ζ q:=let⟨q,_,_,L,_⟩:=g;⟨q,L⟩;let T:=tK b k f;calc⟨f,_,qT (t':=s.toks+1) I (by rw[j];calc Yu) K M (tL ⋯ m (c.put k l) g),l,u e⟩
noncomputable def jd(v d:U):HO:=.ext λh=>h.IsValuesView v d
theorem LQ:qH X "dict.values" (λx vs H Q=>∃(d:U)(kvs:-(Key×V)),x=.ref d/\vs=[]/\H d=ζ (.dK kvs)/\∀r,H r=η->Q (.ref r) (upd H r (jd r d))):=by
 ext a s t H x u v y Q I i j h;let⟨d,g,rfl,rfl,l,q⟩:=h;cases i
 cases j
 let⟨z,m,f,n,c⟩:=nZ I.bg l;calc q2T q04 c.typeIs PySem.F.entry_dict_values (PySem.F.args_dict_values_1 _) (meets_dict_values (gJ X.prog X.w) d m) ⟨⟨f,c⟩,?_⟩;let e:(s.heap.push {cls:=.type "dict_values",data:=.fields #[.ref d]}).IsValuesView ⇑s d:=⟨_,UB _ Y,Y,Y⟩;calc⟨.ref ⇑s,_,I.laid (t':=s.toks) (o:=jd ⇑s d) (λb o e=>B7 _ e) (B8 _) ⟨e,⟨_,UB _ Y⟩,λA B ⟨o,p,r⟩ k↦⟨o,k o p,r⟩⟩,Y,q _ (I.bg.fresh (B8 _))⟩
theorem CM:∀{kvs:-(Key×V)}{vs:-(Key×M)},KV kvs vs->Vals (kvs.map (·.2)) (vs.map (·.2))
 |[],_,.nil=>.nil
 |_::_,_,.cons r a=>.cons r.2 (CM a)
theorem LR(k:X.calm=θ):g6 X (.type "list") (λxs H Q=>∃(r d:U)(kvs:-(Key×V)),xs=[.ref r]/\H r=ζ (jd r d)/\H d=ζ (.dK kvs)/\∀l,H l=η->Q (.ref l) (upd H l (.lst (kvs.map (·.2))))):=by
 ext g s L H K M Q I m h;let⟨r,d,kvs,rfl,n,p,q⟩:=h;let⟨u,rfl,t⟩:=vals1 m;cases t
 let⟨x,_⟩:=I.bg r _ n;let⟨z,N,f,b,y⟩:=nZ I.bg p;let⟨o,A,ep,B,c⟩:=y;let C:s.heap.DictAt (gJ X.prog X.w) d f ep:=⟨o,A,B,c⟩;let O:=↑b;calc PySem.W.kdl_call (PySem.W.kdl_values (r:=r) (d:=d) (kvs:=f) (ep:=ep) (knd:=gJ X.prog X.w)) (I.ok.hd k) ⟨x,C⟩ ⋯ λP D a E F G i=>?_;let J:a.toList=f.map (·.2):=PySem.W.kdl_vals_eq a.toList (by rw[UA];calc i.1) λj v e=>i.2 j v (by rw[<-Ws];calc e);calc⟨.ref ⇑s,_,I.laid (t':=D) (o:=.lst (kvs.map (·.2))) F (B8 _) ?_,Y,q _ (I.bg.fresh (B8 _))⟩;calc⟨by rw[nW];calc z,a.toList,E,by rw[J];calc CM b,by simpa using G⟩
end
section
variable{X:Cx}{e:J}{te:TE}{pos p2 p3 p4:I}
end
inductive FV where
 |p (d:D)|w (a:U)
inductive DV where
 |p (d:D)|o (k:Nat)|t (d:D) (k:Nat)|w (a:U)|u (t:Bool) (fs:-FV)
noncomputable def FV.v:FV->DV
 |.p d=>.p d
 |.w a=>.w a
inductive OV where
 |lst (ds:-D)|dct (kvs:-(Key×D))|dtt (kvs:-(-Int×Int))
 |al (a:U) (ds:-D)|ac (a:U) (kvs:-(Key×D))|ins (a C:U) (fs:-(R×FV))|av (a:U) (kvs:-(Key×FV))
structure aH where
 sl:-(Option DV)
 mu:-(Option OV)
def d4{κ b:Type}(R:b->V->Prop):-(κ×b)->-(κ×V)->Prop
 |[],a=>a=[]
 |c::r,a=>∃v t,a=(c.1,v)::t/\R c.2 v/\d4 R r t
def je(F:Hp):FV->V->Prop
 |.p d,v=>Is F d v
 |.w a,v=>v=.ref a
abbrev tP(F:Hp):-(Key×D)->-(Key×V)->Prop:=d4 (Is F)
abbrev lY(F:Hp){κ:Type}:-(κ×FV)->-(κ×V)->Prop:=d4 (je F)
theorem d4.mono{κ b:Type}{R c:b->V->Prop}(s:∀a v,R a v->c a v):∀{ks:-(κ×b)}{ws:-(κ×V)},d4 R ks ws->d4 c ks ws
 |[],_,h=>h
 |_::_,_,⟨v,t,e,d,f⟩=>⟨v,t,e,s _ _ d,d4.mono s f⟩
theorem je.same{F F':Hp}(s:ba F F'):∀(f:FV)(v:V),je F f v->je F' f v
 |.p _,_,h=>Is.same s h
 |.w _,_,h=>h
def fB(F:Hp)(a:U):OV->HO->Prop
 |.lst f,o=>∃e,o=.lst e/\ax F f e
 |.dct c,o=>∃d,o=.dK d/\tP F c d
 |.dtt c,o=>o=.dT (c.map λp=>(p.1.map Yz,V.int p.2))
 |.al b f,o=>b=a/\∃e,o=.lst e/\ax F f e
 |.ac b c,o=>b=a/\∃d,o=.dK d/\tP F c d
 |.ins b C g,o=>b=a/\∃h d,o=.ins C h d/\lY F g d
 |.av b c,o=>b=a/\∃d,o=.dK d/\lY F c d
theorem fB.same{F F':Hp}{a:U}(s:ba F F'):∀{ov:OV}{o:HO},fB F a ov o->fB F' a ov o
 |.lst _,_,⟨c,e,h⟩=>⟨c,e,h.same s⟩
 |.dct _,_,⟨b,e,h⟩=>⟨b,e,h.mono λ_ _=>Is.same s⟩
 |.dtt _,_,e=>e
 |.al _ _,_,⟨z,c,e,h⟩=>⟨z,c,e,h.same s⟩
 |.ac _ _,_,⟨z,b,e,h⟩=>⟨z,b,e,h.mono λ_ _=>Is.same s⟩
 |.ins _ _ _,_,⟨z,d,b,e,h⟩=>⟨z,d,b,e,h.mono (je.same s)⟩
 |.av _ _,_,⟨z,b,e,h⟩=>⟨z,b,e,h.mono (je.same s)⟩
noncomputable def mw:Bool->-V->HO
 |true,a=>.tup a
 |false,a=>.lst a
def fK(F:Hp):-FV->-V->Prop
 |[],a=>a=[]
 |f::r,a=>∃v t,a=v::t/\je F f v/\fK F r t
theorem fK.same{F F':Hp}(s:ba F F'):∀{fs:-FV}{us:-V},fK F fs us->fK F' fs us
 |[],_,h=>h
 |_::_,_,⟨v,t,e,a,b⟩=>⟨v,t,e,je.same s _ _ a,fK.same s b⟩
def eN(F:Hp)(c:-U):DV->V->Prop
 |.p d,v=>Is F d v
 |.o k,v=>∃a,c[k]?=ζ a/\v=.ref a
 |.w a,v=>v=.ref a
 |.u t f,v=>∃b e,v=.ref b/\F b=ζ (mw t e)/\fK F f e
 |.t d k,v=>∃a b u,v=.ref a/\F a=ζ (.tup [u,.ref b])/\Is F d u/\c[k]?=ζ b
def Lv(b:-U)(mu:-(Option OV))(a:U):Prop:=∃(k:Nat)(c:OV),b[k]?=ζ a/\mu[k]?=ζ (ζ c)
class a9 where
 ad:-U
 ok:Hp->Prop
 same:∀{H H':Hp},ok H->ba H H'->ok H'
 put:∀{H:Hp}{a:U}{o o':HO},ok H->H a=ζ o->((∃vs,o=.lst vs)\/(∃ws,o=.dK ws)\/(∃ws,o=.dT ws)\/∃C dx ws,o=.ins C dx ws)->ok (upd H a o')
 tb:∀{H:Hp}{a:U},ok H->a∈ad->∃ps,H a=ζ (.tbl ps)
 cs:Hp
 ct:∀{a:U}{o:HO},cs a=ζ o->∃vs,o=.tup vs
 co:∀{H:Hp},ok H->ba cs H
theorem fB.kd{F:Hp}{a:U}:∀{ov:OV}{o:HO},fB F a ov o->(∃vs,o=.lst vs)\/(∃ws,o=.dK ws)\/(∃ws,o=.dT ws)\/∃C d ws,o=.ins C d ws
 |.lst _,_,⟨c,e,_⟩=>.inl ⟨c,e⟩
 |.dct _,_,⟨b,e,_⟩=>.inr (.inl ⟨b,e⟩)
 |.dtt _,_,e=>.inr (.inr (.inl ⟨_,e⟩))
 |.al _ _,_,⟨_,c,e,_⟩=>.inl ⟨c,e⟩
 |.ac _ _,_,⟨_,b,e,_⟩=>.inr (.inl ⟨b,e⟩)
 |.av _ _,_,⟨_,b,e,_⟩=>.inr (.inl ⟨b,e⟩)
 |.ins _ _ _,_,⟨_,d,b,e,_⟩=>.inr (.inr (.inr ⟨_,d,b,e⟩))
theorem fB.kind{F:Hp}{a:U}{ov:OV}{o:HO}(h:fB F a ov o)(ps:Array M)(z:o=.tbl ps):False:=by
 rcases h.kd with⟨_,e⟩|⟨_,e⟩|⟨_,e⟩|⟨_,_,_,e⟩<;>rw[e] at z<;>cases z
variable[a9]
structure NT(F:Hp):Prop where
 no:∀a∈a9.ad,F a=η
 cs:ba a9.cs F
instance {F:Hp}:CoeFun (NT F) λ_=>∀a∈a9.ad,F a=η:=⟨NT.no⟩
theorem NT.up{F F':Hp}(h:NT F)(s:ba F F')(n:∀a∈a9.ad,F' a=η):NT F':=⟨n,λa o e=>s a o (h.cs a o e)⟩
structure SR(F:Hp)(ad:-U)(δ:aH)(σ:St)(H:Hp):Prop where
 sub:ba F H
 off:∀a,Lv ad δ.mu a->F a=η
 di:↑ad=↑δ.mu
 inj:∀(k l:Nat)(a:U)(ov ow:OV),ad[k]?=ζ a->ad[l]?=ζ a->δ.mu[k]?=ζ (ζ ov)->δ.mu[l]?=ζ (ζ ow)->k=l
 mu:∀(k:Nat)(ov:OV),δ.mu[k]?=ζ (ζ ov)->∃a o,ad[k]?=ζ a/\H a=ζ o/\fB F a ov o
 sl:∀(i:Nat)(x:DV),δ.sl[i]?=ζ (ζ x)->∃v,σ[i]?=ζ (ζ v)/\eN F ad x v
 len:↑σ=↑δ.sl
 tab:a9.ok H
 nt:NT F
structure Ext(F:Hp)(ad:-U)(mu:-(Option OV))(H:Hp)(F':Hp)(bV:-U)(gi:-(Option OV))(H':Hp):Prop where
 same:ba F F'
 new:∀a o,F' a=ζ o->F a=ζ o\/H a=η\/Lv ad mu a
 keep:∀a o,H a=ζ o->¬ Lv ad mu a->a∉a9.ad->H' a=ζ o
 pre:∀(k:Nat)(a:U),ad[k]?=ζ a->bV[k]?=ζ a
 df:∀a,Lv bV gi a->Lv ad mu a\/H a=η
 iB:∀a o,H a=ζ o->∃o',H' a=ζ o'
section
variable{F F' CN H H' tQ:Hp}{ad bV qX:-U}{mu gi qY:-(Option OV)}{δ:aH}{σ:St}
theorem c_{H:Hp}{a:U}{o:HO}(h:H a=η):ba H (upd H a o):=λb u e=>by rw[bu (ed e h)];calc e
theorem Ext.refl:Ext F ad mu H F ad mu H:=⟨λ_ _ e=>e,λ_ _ e=>.inl e,λ_ _ e _ _=>e,λ_ _ e=>e,λ_ e=>.inl e,λ_ o e=>⟨o,e⟩⟩
theorem Ext.trans(x:Ext F ad mu H F' bV gi H')(y:Ext F' bV gi H' CN qX qY tQ):Ext F ad mu H CN qX qY tQ where
 same:=x.same.trans y.same
 new:=λa o e=>by
  rcases y.new a o e with h|h|h
  .exact x.new a o h
  .refine .inr (.inl ?_)
   cases q:H a with
   |none=>rfl
   |some u=>let⟨c,b⟩:=x.iB a u q;rw[h] at b;cases b
  .rcases x.df a h with h|h
   .exact .inr (.inr h)
   .exact .inr (.inl h)
 keep:=λa o e n t=>y.keep a o (x.keep a o e n t) (λl=>by
  rcases x.df a l with h|h
  .exact n h
  .rw[e] at h;cases h) t
 pre:=λk a e=>y.pre k a (x.pre k a e)
 df:=λa l=>by
  rcases y.df a l with h|h
  .exact x.df a h
  .refine .inr ?_
   cases q:H a with
   |none=>rfl
   |some u=>let⟨c,b⟩:=x.iB a u q;rw[h] at b;cases b
 iB:=λa o e=>let⟨d,f⟩:=x.iB a o e;y.iB a d f
theorem eN.ext{x:DV}{v:V}(h:eN F ad x v)(e:Ext F ad mu H F' bV gi H'):eN F' bV x v:=by
 cases x with
 |p d=>exact Is.same e.same h
 |o k=>let⟨a,c,f⟩:=h;exact⟨a,e.pre k a c,f⟩
 |w a=>exact h
 |u t l=>let⟨b,i,c,f,g⟩:=h;exact⟨b,i,c,e.same _ _ f,g.same e.same⟩
 |t d k=>let⟨a,b,u,c,f,g,j⟩:=h;calc⟨a,b,u,c,e.same _ _ f,g.same e.same,e.pre k b j⟩
theorem eN.same{x:DV}{v:V}(h:eN F ad x v)(s:ba F F'):eN F' ad x v:=by
 cases x with
 |p d=>exact Is.same s h
 |o k=>exact h
 |w a=>exact h
 |u t j=>let⟨b,g,c,e,f⟩:=h;exact⟨b,g,c,s _ _ e,f.same s⟩
 |t d k=>let⟨a,b,u,c,e,f,i⟩:=h;calc⟨a,b,u,c,s _ _ e,f.same s,i⟩
theorem eN.pre{c:-U}{x:DV}{v:V}(h:eN F ad x v)(s:∀k a,ad[k]?=ζ a->x=.o k\/(∃d,x=.t d k)->c[k]?=ζ a):eN F c x v:=by
 cases x with
 |p d=>exact h
 |o k=>let⟨a,e,f⟩:=h;exact⟨a,s k a e (.inl Y),f⟩
 |w a=>exact h
 |u t j=>exact h
 |t d k=>let⟨a,b,u,e,f,g,i⟩:=h;calc⟨a,b,u,e,f,g,s k b i (.inr ⟨d,Y⟩)⟩
noncomputable def Nw(F H H':Hp):Hp:=λa=>match H a with
 |none=>H' a
 |some _=>F a
theorem Nw.same(s:ba F H):ba F (Nw F H H'):=λa o e=>by
 unfold Nw;rw[s a o e];calc e
theorem Nw.sub(s:ba F H)(k:ba H H'):ba (Nw F H H') H':=λa o e=>by
 unfold Nw at e
 cases q:H a with
 |none=>rw[q] at e;exact e
 |some u=>rw[q] at e;calc k a o (s a o e)
theorem Nw.upd{p:U}{o:HO}(s:ba F H)(b:H p=η):Nw F H (upd H p o)=upd F p o:=by
 funext a;unfold Nw L2.upd
 by_cases c:a=p
 .subst c;rw[b,VD Y];simp
 .rw[VB c,VB c]
  cases q:H a with
  |none =>
   cases d:F a with
   |none=>rfl
   |some u=>rw[s a u d] at q;cases q
  |some u=>rfl
theorem Nw.refl(s:ba F H):Nw F H H=F:=by
 funext a;unfold Nw
 cases q:H a with
 |none =>
  cases b:F a with
  |none=>rfl
  |some u=>rw[s a u b] at q;cases q
 |some u=>rfl
theorem SR.al(S:SR F ad δ σ H)(k:ba H H'):SR (Nw F H H') ad δ σ H':=by
 let f:=Nw.same (H':=H') S.sub;refine⟨Nw.sub S.sub k,λa l=>?_,S.di,S.inj,λi c e=>?_,λi x e=>?_,S.len,a9.same S.tab k,S.nt.up f λa g=>by let⟨n,q⟩:=a9.tb S.tab g;unfold Nw;rw[q];calc S.nt a g⟩
 .let⟨i,c,b,d⟩:=l
  let⟨a',o,j,m,_⟩:=S.mu i c d;rw[b] at j;cases j;unfold Nw;rw[m];exact S.off a ⟨i,c,b,d⟩
 .let⟨a,o,b,d,h⟩:=S.mu i c e
  exact⟨a,o,b,k a o d,h.same f⟩
 .let⟨v,b,h⟩:=S.sl i x e
  calc⟨v,b,h.same f⟩
theorem Ext.al(S:SR F ad δ σ H)(k:ba H H'):Ext F ad δ.mu H (Nw F H H') ad δ.mu H' where
 same:=Nw.same S.sub
 new:=λa o e=>by
  unfold Nw at e
  cases q:H a with
  |none=>exact .inr (.inl Y)
  |some u=>rw[q] at e;exact .inl e
 keep:=λa o e _ _=>k a o e
 pre:=λ_ _ e=>e
 df:=λ_ l=>.inl l
 iB:=λa o e=>⟨o,k a o e⟩
theorem SR.own{p:U}{o:HO}{ov:OV}(S:SR F ad δ σ H)(r:H p=η)(h:fB F p ov o):SR F (ad++[p]) ⟨δ.sl,δ.mu++[ζ ov]⟩ σ (upd H p o):=by
 let g:∀{k:Nat}{w:OV},(δ.mu++[ζ ov])[k]?=ζ (ζ w)->(k<↑δ.mu/\δ.mu[k]?=ζ (ζ w))\/(k=↑δ.mu/\w=ov):=λ{k w} e=>by
  by_cases c:k<↑δ.mu
  .rw[KH c] at e;exact .inl ⟨c,e⟩
  .let A:=(pa.mp e).1
   rw[qG,WH] at A;let B:k=↑δ.mu:=by symm
   subst B;rw[My (B8 _),Xg] at e;exact .inr ⟨Y,by simpa using e.symm⟩
 let j:∀{k:Nat},k<↑δ.mu->(ad++[p])[k]?=ad[k]?:=λ{k} c=>KH (by rw[S.di];calc c);let f:(ad++[p])[↑δ.mu]?=ζ p:=by rw[<-S.di,My (B8 _),Xg];rfl
 let y:∀{k:Nat}{a:U}{w:OV},ad[k]?=ζ a->δ.mu[k]?=ζ (ζ w)->a≠p:=λ{k a w} b d=>by
  let⟨a',u,m,t,_⟩:=S.mu k w d;rw[b] at m;cases m;exact ed t r
 refine⟨λa u e=>?_,λa l=>?_,by rw[qG,qG,S.di];rfl,λk l a w C b d m t=>?_,λk w e=>?_,λi x e=>?_,S.len,a9.same S.tab (c_ r),S.nt⟩
 .let:=S.sub a u e
  rw[bu (ed this r)];exact this
 .let⟨k,w,b,d⟩:=l
  rcases g d with⟨c,m⟩|⟨c,m⟩
  .rw[j c] at b;exact S.off a ⟨k,w,b,m⟩
  .subst c;rw[f] at b;cases b
   cases q:F p with
   |none=>rfl
   |some u=>rw[S.sub p u q] at r;cases r
 .rcases g m with⟨c,q⟩|⟨c,q⟩
  .rw[j c] at b
   rcases g t with⟨n,s⟩|⟨n,s⟩
   .rw[j n] at d;exact S.inj k l a w C b d q s
   .subst n;rw[f] at d;cases d;exact absurd Y (y b q)
  .subst c;rw[f] at b;cases b
   rcases g t with⟨n,s⟩|⟨n,s⟩
   .rw[j n] at d;exact absurd Y (y d s)
   .exact n.symm
 .rcases g e with⟨c,q⟩|⟨c,q⟩
  .let⟨a,u,b,d,z⟩:=S.mu k w q
   exact⟨a,u,by rw[j c];calc b,by rw[bu (y b q)];calc d,z⟩
  .subst c;subst q;exact⟨p,o,f,cw,h⟩
 .let⟨v,b,z⟩:=S.sl i x e
  calc⟨v,b,z.pre λk a d _=>by rw[KH (pa.mp d).1];calc d⟩
theorem Ext.own{p:U}{o:HO}{ov:OV}(S:SR F ad δ σ H)(d:H p=η):Ext F ad δ.mu H F (ad++[p]) (δ.mu++[ζ ov]) (upd H p o) where
 same:=λ_ _ e=>e
 new:=λ_ _ e=>.inl e
 keep:=λa u e _ _=>by rw[bu (ed e d)];exact e
 pre:=λk a e=>by rw[KH (pa.mp e).1];exact e
 df:=λa l=>by
  let⟨k,w,b,f⟩:=l
  by_cases c:k<↑δ.mu
  .rw[KH c] at f
   rw[KH (by rw[S.di];calc c)] at b;exact .inl ⟨k,w,b,f⟩
  .let g:=(pa.mp f).1
   rw[qG,WH] at g;let h:k=↑ad:=by rw[S.di];symm
   subst h;rw[My (B8 _),Xg] at b;let:p=a:=by simpa using b
   subst this;exact .inr d
 iB:=λa u e=>⟨u,by rw[bu (ed e d)];calc e⟩
theorem SR.put{k:Nat}{a:U}{o:HO}{ov m:OV}(S:SR F ad δ σ H)(j:δ.mu[k]?=ζ (ζ m))(n:ad[k]?=ζ a)(h:fB F a ov o):SR F ad ⟨δ.sl,δ.mu.set k (ζ ov)⟩ σ (upd H a o):=by
 let t:=(pa.mp j).1
 let f:∀{l:Nat}{w:OV},(δ.mu.set k (ζ ov))[l]?=ζ (ζ w)->(l≠k/\δ.mu[l]?=ζ (ζ w))\/(l=k/\w=ov):=λ{l w} e=>by
  by_cases c:k=l
  .subst c;rw[Xf t] at e;exact .inr ⟨Y,by simpa using e.symm⟩
  .rw[Xi c] at e;exact .inl ⟨λz=>c z.symm,e⟩
 let v:∀{l:Nat}{w:OV}{b:U},ad[l]?=ζ b->(δ.mu.set k (ζ ov))[l]?=ζ (ζ w)->Lv ad δ.mu b:=λ{l w b} d g=>by
  rcases f g with⟨_,q⟩|⟨c,_⟩
  .exact⟨l,w,d,q⟩
  .subst c;exact⟨l,m,d,j⟩
 let y:a9.ok (upd H a o):=by
  let⟨a',u,d,g,p⟩:=S.mu k m j;rw[n] at d;cases d;exact a9.put S.tab g p.kd
 refine⟨λb u e=>?_,λb l=>?_,by rw[XU];calc S.di,λl s b w I d g A B=>?_,λl w e=>?_,λi x e=>?_,S.len,y,S.nt⟩
 .let r:b≠a:=λz=>by
   subst z;rw[S.off b ⟨k,m,n,j⟩] at e;cases e
  rw[bu r];exact S.sub b u e
 .let⟨l,w,d,g⟩:=l
  exact S.off b (v d g)
 .let C:∃w,δ.mu[l]?=ζ (ζ w):=by
   rcases f A with⟨_,q⟩|⟨c,_⟩
   .exact⟨_,q⟩
   .subst c;exact⟨_,j⟩
  let D:∃w,δ.mu[s]?=ζ (ζ w):=by
   rcases f B with⟨_,q⟩|⟨c,_⟩
   .exact⟨_,q⟩
   .subst c;exact⟨_,j⟩
  let⟨J,E⟩:=C;let⟨K,G⟩:=D;exact S.inj l s b _ _ d g E G
 .rcases f e with⟨c,q⟩|⟨c,q⟩
  .let⟨b,u,d,g,p⟩:=S.mu l w q
   let r:b≠a:=λz=>by subst z;exact c (S.inj l k b _ _ d n q j)
   exact⟨b,u,d,by rw[bu r];calc g,p⟩
  .subst c;subst q;exact⟨a,o,n,cw,h⟩
 .calc S.sl i x e
theorem Ext.put{k:Nat}{a:U}{o:HO}{ov d:OV}(S:SR F ad δ σ H)(f:δ.mu[k]?=ζ (ζ d))(i:ad[k]?=ζ a):Ext F ad δ.mu H F ad (δ.mu.set k (ζ ov)) (upd H a o) where
 same:=λ_ _ e=>e
 new:=λ_ _ e=>.inl e
 keep:=λb u e n _=>by rw[bu λz=>n (by subst z;calc⟨k,d,i,f⟩)];exact e
 pre:=λ_ _ e=>e
 df:=λb l=>by
  let⟨l,w,g,h⟩:=l
  by_cases c:k=l
  .subst c;exact .inl ⟨k,d,g,f⟩
  .rw[Xi c] at h;exact .inl ⟨l,w,g,h⟩
 iB:=λb u e=>by
  by_cases c:b=a
  .subst c;exact⟨o,cw⟩
  .calc⟨u,by rw[bu c];calc e⟩
theorem SR.fix{k:Nat}{a:U}{o:HO}{m:OV}(S:SR F ad δ σ H)(j:δ.mu[k]?=ζ (ζ m))(n:ad[k]?=ζ a)(t:H a=ζ o):SR (upd F a o) ad ⟨δ.sl,δ.mu.set k η⟩ σ H:=by
 let y:=(pa.mp j).1;let A:=S.off a ⟨k,m,n,j⟩;let p:ba F (upd F a o):=λb u e=>by rw[bu (ed e A)];exact e
 let f:∀{l:Nat}{w:OV},(δ.mu.set k η)[l]?=ζ (ζ w)->l≠k/\δ.mu[l]?=ζ (ζ w):=λ{l w} e=>by
  by_cases c:k=l
  .subst c;rw[Xf y] at e;cases e
  .rw[Xi c] at e;exact⟨λz=>c z.symm,e⟩
 refine⟨λb u e=>?_,λb l=>?_,by rw[XU];calc S.di,λl B b w C d g D E=>S.inj l B b w C d g (f D).2 (f E).2,λl w e=>?_,λi x e=>?_,S.len,S.tab,S.nt.up p λb s=>?_⟩
 .by_cases c:b=a
  .subst c;rw[cw] at e;cases e;exact t
  .rw[bu c] at e;exact S.sub b u e
 .let⟨l,w,d,g⟩:=l
  let⟨c,q⟩:=f g;let r:b≠a:=λz=>by subst z;exact c (S.inj l k b _ _ d n q j)
  rw[bu r];exact S.off b ⟨l,w,d,q⟩
 .let⟨b,u,d,g,h⟩:=S.mu l w (f e).2
  exact⟨b,u,d,g,h.same p⟩
 .let⟨v,d,h⟩:=S.sl i x e
  exact⟨v,d,h.same p⟩
 .let⟨G,q⟩:=a9.tb S.tab s
  let r:b≠a:=λz=>by
   subst z;let⟨a',u,d,g,h⟩:=S.mu k m j;rw[n] at d;cases d;rw[q] at g;cases g;exact h.kind G Y
  rw[bu r];calc S.nt b s
theorem Ext.fix{k:Nat}{a:U}{o:HO}{f:OV}(S:SR F ad δ σ H)(g:δ.mu[k]?=ζ (ζ f))(h:ad[k]?=ζ a):Ext F ad δ.mu H (upd F a o) ad (δ.mu.set k η) H where
 same:=λb u e=>by rw[bu (ed e (S.off a ⟨k,f,h,g⟩))];exact e
 new:=λb u e=>by
  by_cases c:b=a
  .subst c;exact .inr (.inr ⟨k,f,h,g⟩)
  .rw[bu c] at e;exact .inl e
 keep:=λb u e _ _=>e
 pre:=λ_ _ e=>e
 df:=λb l=>by
  let⟨l,w,i,d⟩:=l
  by_cases c:k=l
  .subst c;rw[Xf (pa.mp g).1] at d;cases d
  .rw[Xi c] at d;exact .inl ⟨l,w,i,d⟩
 iB:=λb u e=>⟨u,e⟩
theorem SR.set{i:Nat}{x:DV}{v:V}(S:SR F ad δ σ H)(h:eN F ad x v):SR F ad ⟨δ.sl.set i (ζ x),δ.mu⟩ (σ.set i (ζ v)) H:=by
 refine⟨S.sub,S.off,S.di,S.inj,S.mu,λj y e=>?_,by rw[XU,XU];calc S.len,S.tab,S.nt⟩
 by_cases c:i=j
 .subst c
  let a:=(pa.mp e).1;rw[XU] at a;rw[Xf a] at e;cases e
  exact⟨v,Xf (by rw[S.len];calc a),h⟩
 .rw[Xi c] at e
  let⟨w,b,d⟩:=S.sl j y e;calc⟨w,by rw[Xi c];calc b,d⟩
end
abbrev WE:=aH->(DV->aH->Prop)->Prop
abbrev WA:=aH->(-DV->aH->Prop)->Prop
abbrev WT:=aH->(Bool->aH->Prop)->Prop
def dG(F:Hp)(b:-U):-DV->-V->Prop
 |[],a=>a=[]
 |x::c,a=>∃v r,a=v::r/\eN F b x v/\dG F b c r
theorem dG.ext{F F' H H':Hp}{c a:-U}{mu b:-(Option OV)}(e:Ext F c mu H F' a b H'):∀{xs:-DV}{vs:-V},dG F c xs vs->dG F' a xs vs
 |[],_,h=>h
 |_::_,_,⟨v,r,q,d,f⟩=>⟨v,r,q,d.ext e,dG.ext e f⟩
inductive tD (f:WE) (σ:St) (H:Hp) (Q:VK):Prop
 |mk (F:Hp) (ad:-U) (δ:aH) (K:DV->aH->Prop) (S:SR F ad δ σ H) (q:f δ K) (k:∀x δ',K x δ'->∀v F' bV H',Ext F ad δ.mu H F' bV δ'.mu H'->SR F' bV δ' σ H'->eN F' bV x v->Q v H')
inductive cX (f:WA) (σ:St) (H:Hp) (Q:-V->Hp->Prop):Prop
 |mk (F:Hp) (ad:-U) (δ:aH) (K:-DV->aH->Prop) (S:SR F ad δ σ H) (q:f δ K) (k:∀xs δ',K xs δ'->∀vs F' bV H',Ext F ad δ.mu H F' bV δ'.mu H'->SR F' bV δ' σ H'->dG F' bV xs vs->Q vs H')
inductive d5 (f:WT) (σ:St) (H:Hp) (Q:Bool->Hp->Prop):Prop
 |mk (F:Hp) (ad:-U) (δ:aH) (K:Bool->aH->Prop) (S:SR F ad δ σ H) (q:f δ K) (k:∀b δ',K b δ'->∀F' bV H',Ext F ad δ.mu H F' bV δ'.mu H'->SR F' bV δ' σ H'->Q b H')
def j2(F H:Hp):D->V->Prop
 |.lst c,v=>∃a b,v=.ref a/\H a=ζ (.lst b)/\ax F c b
 |d,v=>Is F d v
def dH(x:DV)(b:aH)(K:D->Prop):Prop:=match x with
 |.p d=>K d
 |.o k=>match b.mu[k]? with
  |some (some (.lst a))=>K (.lst a)
  |some (some (.al _ a))=>K (.lst a)
  |_=>False
 |.w _=>False
 |.u _ _=>False
 |.t _ _=>False
theorem j2.of{F H:Hp}(s:ba F H):∀{d:D}{v:V},Is F d v->j2 F H d v
 |.lst _,_,h=>by
  erw[Is] at h;let⟨a,b,e,c,f⟩:=h;exact⟨a,b,e,s _ _ c,f⟩
 |.tup _,_,h=>h
 |.non,_,h=>h
 |.bl _,_,h=>h
 |.int _,_,h=>h
 |.str _,_,h=>h
theorem j2.is{F H:Hp}(s:ba F H):∀{d:D}{v:V},j2 F H d v->Is H d v
 |.lst _,_,h=>by
  let⟨a,b,e,c,f⟩:=h;erw[Is];exact⟨a,b,e,c,f.same s⟩
 |.tup _,_,h=>Is.same s h
 |.non,_,h=>Is.same s h
 |.bl _,_,h=>Is.same s h
 |.int _,_,h=>Is.same s h
 |.str _,_,h=>Is.same s h
theorem kX{F H:Hp}{l:-U}{m:aH}{n:St}{x:DV}{v:V}{K:D->Prop}(S:SR F l m n H)(c:eN F l x v)(h:dH x m K):∃d,K d/\j2 F H d v:=by
 cases x with
 |p d=>exact⟨d,h,j2.of S.sub c⟩
 |o k =>
  unfold dH at h;dsimp only at h;split at h
  .rename_i q e
   let⟨a,f,rfl⟩:=c;let⟨a',o,b,g,i,rfl,j⟩:=S.mu k _ e;rw[f] at b;cases b;exact⟨_,h,a,i,Y,g,j⟩
  .rename_i q e
   let⟨a,f,rfl⟩:=c;let⟨a',o,b,g,_,i,rfl,j⟩:=S.mu k _ e;rw[f] at b;cases b;exact⟨_,h,a,i,Y,g,j⟩
  .exact h.elim
 |w _=>exact h.elim
 |u _ _=>exact h.elim
 |t _ _=>calc h.elim
def cA:-DV->aH->(-D->Prop)->Prop
 |[],_,K=>K []
 |x::b,a,K=>dH x a λd=>cA b a λc=>K (d::c)
def jM(F H:Hp):-D->-V->Prop
 |[],a=>a=[]
 |d::b,a=>∃v r,a=v::r/\j2 F H d v/\jM F H b r
theorem pj{F H:Hp}{c:-U}{e:aH}{f:St}(S:SR F c e f H):∀{xs:-DV}{vs:-V}{K:-D->Prop},dG F c xs vs->cA xs e K->∃ds,K ds/\jM F H ds vs
 |[],_,_,i,h=>⟨[],h,i⟩
 |x::n,_,_,⟨v,r,rfl,j,k⟩,h=>by
  let⟨d,l,m⟩:=kX S j h;let⟨g,a,b⟩:=pj S k l;calc⟨d::g,a,v,r,Y,m,b⟩
abbrev Made(F H:Hp)(K:D->Prop)(Q:VK):Prop:=∀z v a,K z->ba H a->Is (Nw F H a) z v->Q v a
inductive wM (g:D->D->(D->Prop)->Prop) (x y:V) (H:Hp) (Q:VK):Prop
 |mk (F:Hp) (d e:D) (K:D->Prop) (s:ba F H) (rd:j2 F H d x) (re:j2 F H e y) (q:g d e K) (md:Made F H K Q)
inductive CO (g:-D->(D->Prop)->Prop) (xs:-V) (H:Hp) (Q:VK):Prop
 |mk (F:Hp) (ds:-D) (K:D->Prop) (s:ba F H) (rd:jM F H ds xs) (q:g ds K) (md:Made F H K Q)
def gC(X:Cx)(f:M->M->Sem M)(g:D->D->(D->Prop)->Prop):Prop :=
 fA X f λx y H Q=>wM g x y H Q
def CP(X:Cx)(g:D->D->(D->Prop)->Prop):Prop :=
 lW X λx y H Q=>wM g x y H Q
def eH(X:Cx)(f:M)(g:-D->(D->Prop)->Prop):Prop :=
 g6 X f λa H Q=>CO g a H Q
def d2(f g:WE)(op:D->D->(D->Prop)->Prop):WE:=λc K=>f c λx b=>g b λy a=>dH x a λd=>dH y a λe=>op d e λz=>K (.p z) a
def d1(f:WE)(op:D->(D->Prop)->Prop):WE:=λb K=>f b λx a=>dH x a λd=>op d λz=>K (.p z) a
def dN(f:WA)(op:-D->(D->Prop)->Prop):WE:=λb K=>f b λc a=>cA c a λd=>op d λz=>K (.p z) a
def dC(d:D):WE:=λa K=>K (.p d) a
def aa(i:Nat):WE:=λa K=>match a.sl[i]? with
 |some (some x)=>K x a
 |_=>False
def ae:WA:=λa K=>K [] a
def aq(f:WE)(g:WA):WA:=λc K=>f c λx a=>g a λd b=>K (x::d) b
section
variable{X:Cx}{a b c:J}{f g h:WE}{fa:WA}{pos:I}
theorem qZ{e:J}{d:D}{v:V}(h:JE X e (tC v))(a:∀F,Is F d v):JE X e (tD (dC d)):=h.weak λb H Q ⟨F,c,f,K,S,q,k⟩↦k _ _ q _ _ _ _ .refl S (a F)
theorem b_{i j pos}:JE X (.Constant (.int i) j pos) (tD (dC (.int i))):=qZ mZ λ_=>Y
theorem tR{i j pos}:JE X (.Constant (.bool i) j pos) (tD (dC (.bl i))):=qZ IF λ_=>Y
theorem kz{j pos}:JE X (.Constant .none j pos) (tD (dC .non)):=qZ IG λ_=>Y
theorem n8{x j pos}:JE X (.Constant (.str x) j pos) (tD (dC (.str x))):=qZ sZ λ_=>Y
theorem LU{x:R}{i:Int}{u:M}{pos:I}(a:Gl X x)(b:X.mg x=ζ u)(r:RelV (.int i) u)(hd: ~~~(cy x)):JE X (.Name x pos) (tD (dC (.int i))):=qZ (Bo a b r hd) λ_=>Y
theorem dv(i:Nat){x:R}{pos:I}(b:‹X.N[i]?=ζ x›)(c:qc X.env.scope x:=by first|exact q0p Y|exact q1Q (q0p Y)|calc q1Q (q1Q Y))
  (hd: ~~~(cy x)) (a: ~~~((x==("__classdict__" : R))=ι)):JE X (.Name x pos) (tD (aa i)) :=
 (Bn b c hd a).weak λg H Q ⟨F,h,j,K,S,q,k⟩↦by
  unfold aa at q;split at q
  .rename_i x e
   let⟨v,d,f⟩:=S.sl i x e;exact⟨v,d,k _ _ q _ _ _ _ .refl S f⟩
  .calc q.elim
theorem tT{r:R2}{ta tb:TE}{op:D->D->(D->Prop)->Prop}(l:∀x y H Q,(wM op x y H Q)->r x y H Q):∀b H Q,tD (d2 f g op) b H Q->qt r (tD f) (tD g) b H Q:=by
 ext b H Q ⟨F,m,n,K,S,q,k⟩;calc⟨F,m,n,_,S,q,λx c o O p h P s t u=>⟨p,h,c,_,t,o,λy w A R B C T i a E=>l _ _ _ _ ?_⟩⟩;let⟨d,G,I⟩:=kX a (u.ext i) A;let⟨e,J,L⟩:=kX a E G;calc⟨B,d,e,_,a.sub,I,L,J,λz v U M j N=>k _ _ M _ _ _ _ ((s.trans i).trans (Ext.al a j)) (a.al j) N⟩
theorem g7{op:Operator}{o:D->D->(D->Prop)->Prop}(c:gC X (binaryOp op) o)(d:JE X a (tD f))(e:JE X b (tD g)):JE X (.BinOp a op b pos) (tD (d2 f g o)) :=
 (qu c d e).weak (tT (ta:=tD f) (tb:=tD g) λ_ _ _ _ h=>h)
theorem my{op:CmpOp}{o:D->D->(D->Prop)->Prop}(c:gC X (compareOp op) o)(d:JE X a (tD f))(e:JE X b (tD g))(i:behindInMarks op b=ι):JE X (.Compare a [op] [b] pos) (tD (d2 f g o)) :=
 (Jt c d e i).weak (tT (ta:=tD f) (tb:=tD g) λ_ _ _ _ h=>h)
theorem dS{o:D->D->(D->Prop)->Prop}(c:CP X o)(d:JE X a (tD f))(e:JE X b (tD g))(hs:wb b):JE X (.Subscript a b pos) (tD (d2 f g o)) :=
 (wd c d e hs).weak (tT (ta:=tD f) (tb:=tD g) λ_ _ _ _ h=>h)
theorem br:JA X [] (cX ae):=bY.weak λa H Q ⟨F,b,c,K,S,q,k⟩↦k _ _ q _ _ _ _ .refl S Y
theorem n9:∀a H Q,cX (aq f fa) a H Q->jG (tD f) (cX fa) a H Q:=by
 ext a H Q ⟨F,e,g,K,S,q,k⟩;calc⟨F,e,g,_,S,q,λx b h i j c v l m n=>⟨j,c,b,_,m,h,λw o p r y s z d t u=>k _ _ p _ _ _ _ (l.trans d) t ⟨i,r,Y,n.ext d,u⟩⟩⟩
theorem jf{e:J}{es:-J}(a:JE X e (tD f))(b:JA X es (cX fa))(hs:‹dE X e es›):JA X (e::es) (cX (aq f fa)):=(km a b hs).weak n9
theorem cB{es:-J}{c j p}(a:JE X (.Constant c j p) (tD f))(b:JA X es (cX fa)):JA X (.Constant c j p::es) (cX (aq f fa)):=(wF a b).weak n9
theorem a8{es:-J}{x p}(a:JE X (.Name x p) (tD f))(b:JA X es (cX fa)):JA X (.Name x p::es) (cX (aq f fa)):=(jJ a b).weak n9
theorem fm{es:-J}{x y k p}(a:JE X (.Call x y k p) (tD f))(b:JA X es (cX fa)):JA X (.Call x y k p::es) (cX (aq f fa)):=(jK a b).weak n9
theorem q3{es:-J}{x p}(a:JE X (.List x p) (tD f))(b:JA X es (cX fa)):JA X (.List x p::es) (cX (aq f fa)):=(qO a b).weak n9
theorem q4{es:-J}{x k p}(a:JE X (.Tuple x k p) (tD f))(b:JA X es (cX fa)):JA X (.Tuple x k p::es) (cX (aq f fa)):=(wG a b).weak n9
theorem cY{es:-J}{x k p}(a:JE X (.Subscript x k p) (tD f))(b:JA X es (cX fa)):JA X (.Subscript x k p::es) (cX (aq f fa)):=(wH a b).weak n9
theorem CQ{r:-V->Hp->VK->Prop}{op:-D->(D->Prop)->Prop}(e:∀xs H Q,(CO op xs H Q)->r xs H Q):∀b H Q,tD (dN fa op) b H Q->qA r (cX fa) b H Q:=by
 ext b H Q ⟨F,f,g,K,S,q,k⟩;calc⟨F,f,g,_,S,q,λu h i w j l x m a n=>e _ _ _ ?_⟩;let⟨o,p,c⟩:=pj a n i;calc⟨j,o,_,a.sub,c,p,λz v y s d t=>k _ _ s _ _ _ _ (m.trans (Ext.al a d)) (a.al d) t⟩
theorem iQ{x:R}{p:I}{e:J}{es:-J}{c:String}{o:-D->(D->Prop)->Prop}(d:eH X (.builtin c) o)(f:Gl X x)(g:X.mg x=η)(i:bootBuiltins x=ζ (.builtin c))(j:JA X (e::es) (cX fa))(hn:x≠"__name__" := by decide)(a: ~~~(cy x))
  (he:‹dE X e es›) (b:‹dQ X pos es›):JE X (.Call (.Name x p) (e::es) [] pos) (tD (dN fa o)) :=
 (o9 d f g i j hn a he b).weak (CQ λ_ _ _ h=>h)
theorem q9{x:R}{p:I}{e:J}{es:-J}{T:String}{o:-D->(D->Prop)->Prop}(c:eH X (.type T) o)(d:Gl X x)(f:X.mg x=η)(g:bootBuiltins x=ζ (.type T))(i:JA X (e::es) (cX fa))(hn:x≠"__name__" := by decide)(a: ~~~(cy x))
  (he:‹dE X e es›) (b:‹dQ X pos es›):JE X (.Call (.Name x p) (e::es) [] pos) (tD (dN fa o)) :=
 (ml c d f g i hn a he b).weak (CQ λ_ _ _ h=>h)
end
noncomputable def gD(k:Nat)(ds:-D):Option DV->Option DV
 |some (.o j)=>if j=k then ζ (.p (.lst ds)) else ζ (.o j)
 |some (.t d j)=>if j=k then η else ζ (.t d j)
 |s=>s
noncomputable def aH.fix(a:aH)(k:Nat)(ds:-D):aH:=⟨a.sl.map (gD k ds),a.mu.set k η⟩
def eg(x:DV)(a:aH)(K:D->aH->Prop):Prop:=match x with
 |.p d=>K d a
 |.o k=>match a.mu[k]? with
  |some (some (.lst b))=>K (.lst b) (a.fix k b)
  |_=>False
 |.w _=>False
 |.u _ _=>False
 |.t _ _=>False
def cq:-DV->aH->(-D->aH->Prop)->Prop
 |[],a,K=>K [] a
 |x::e,a,K=>eg x a λd b=>cq e b λf c=>K (d::f) c
section
variable{F F' H H':Hp}{ad bV:-U}{δ δ':aH}{σ σ':St}
theorem SR.fixed{k:Nat}{a:U}{vs:-V}{ds:-D}(S:SR F ad δ σ H)(n:δ.mu[k]?=ζ (ζ (.lst ds)))(l:ad[k]?=ζ a)(y:H a=ζ (.lst vs))(z:ax F ds vs):SR (upd F a (.lst vs)) ad (δ.fix k ds) σ H:=by
 let f:=S.fix n l y;let A:ba F (upd F a (.lst vs)):=(Ext.fix (o:=.lst vs) S n l).same;calc⟨f.sub,f.off,f.di,f.inj,f.mu,λi x e=>?_,by rw[S.len];unfold aH.fix;rw[nW],f.tab,f.nt⟩;unfold aH.fix at e;rw[B_] at e;let⟨s,h,b⟩:=KI.mp e
 match s,b with
 |none,b=>cases b
 |some (.p d),b =>
  cases(show ζ (DV.p d)=ζ x from b)
  exact f.sl i _ h
 |some (.w d),b =>
  cases(show ζ (DV.w d)=ζ x from b)
  exact f.sl i _ h
 |some (.u t B),b =>
  cases(show ζ (DV.u t B)=ζ x from b)
  exact f.sl i _ h
 |some (.t d j),b =>
  let g:(if j=k then η else ζ (DV.t d j))=ζ x:=b
  by_cases c:j=k
  .rw[VD c] at g;cases g
  .rw[VB c] at g;cases g;exact f.sl i _ h
 |some (.o j),b =>
  let g:(if j=k then ζ (DV.p (.lst ds)) else ζ (DV.o j))=ζ x:=b;clear b;let⟨v,q,a',m,r⟩:=S.sl i _ h
  by_cases c:j=k
  .rw[VD c] at g
   subst c;cases g
   rw[l] at m;cases m;calc⟨v,q,?_⟩;show Is _ (.lst ds) v;erw[Is];exact⟨a,vs,r,cw,z.same A⟩
  .rw[VB c] at g
   cases g
   calc⟨v,q,a',m,r⟩
theorem n_{x:DV}{v:V}{K:D->aH->Prop}(S:SR F ad δ σ H)(f:eN F ad x v)(h:eg x δ K):∃d b F',K d b/\Ext F ad δ.mu H F' ad b.mu H/\SR F' ad b σ H/\Is F' d v:=by
 cases x with
 |p d=>exact⟨d,δ,F,h,.refl,S,f⟩
 |o k =>
  unfold eg at h;dsimp only at h;split at h
  .rename_i m e
   let⟨a,c,rfl⟩:=f;let⟨a',o,g,l,i,rfl,j⟩:=S.mu k _ e;rw[c] at g;cases g;calc⟨_,_,_,h,Ext.fix S e c,S.fixed e c l j,?_⟩;erw[Is];exact⟨a,i,Y,cw,j.same (Ext.fix (o:=.lst i) S e c).same⟩
  .exact h.elim
 |w _=>exact h.elim
 |u _ _=>exact h.elim
 |t _ _=>calc h.elim
theorem tU:∀{xs:-DV}{vs:-V}{b:aH}{F:Hp}{K:-D->aH->Prop},SR F ad b σ H->dG F ad xs vs->cq xs b K->∃ds a F',K ds a/\Ext F ad b.mu H F' ad a.mu H/\SR F' ad a σ H/\ax F' ds vs
 |[],_,b,F,_,S,k,h=>⟨[],b,F,h,.refl,S,by erw[ax];calc k⟩
 |x::w,_,b,F,_,S,⟨v,r,e,l,m⟩,h=>by
  subst e;let⟨d,n,y,o,g,p,q⟩:=n_ S l h;let⟨j,c,s,f,i,t,u⟩:=tU p (m.ext g) o;calc⟨d::j,c,s,f,g.trans i,t,.cons (q.same i.same) u⟩
end
def bh(d:WA):WE:=λe K=>d e λf a=>cq f a λc b=>↑c<=1000/\K (.p (.tup c)) b
def bG(d:WA):WE:=λe K=>d e λf a=>cq f a λc b=>↑c<=1000/\K (.p (.lst c)) b
def eI(d:WA):WE:=λe K=>d e λf b=>cq f b λc a=>↑c<=1000/\K (.o ↑a.mu) ⟨a.sl,a.mu++[ζ (.lst c)]⟩
section
variable{X:Cx}{a b c:J}{es:-J}{f g h:WE}{fa:WA}{t u:WT}{pos:I}
theorem kY{n:Nat}(h:n<=1000):n<=sizeLine:=Xc (kW h)
theorem jN{i}(j:JA X es (cX fa)):JE X (.Tuple es i pos) (tD (bh fa)):=(BB j).weak λB H Q ⟨F,l,m,K,S,q,k⟩ =>
 ⟨F,l,m,_,S,q,λC n r d D s f t u v=>by
  let⟨w,x,E,⟨y,z⟩,A,a,g⟩:=tU u v r;calc⟨kY (by rw[↑g];calc y),λp c=>?_⟩;let h:ba f (upd f p (.tup d)):=c_ c;calc k _ _ z _ _ _ _ ((t.trans A).trans (Ext.al a h)) (a.al h) ?_;show Is _ (.tup w) _;erw[Is];rw[Nw.upd a.sub c];refine⟨p,d,Y,cw,g.same λb o e=>?_⟩
  rw[bu (ed (a.sub b o e) c)];calc e⟩
theorem kA(i:JA X es (cX fa)):JE X (.List es pos) (tD (bG fa)):=(tw i).weak λA H Q ⟨F,j,l,K,S,q,k⟩ =>
 ⟨F,j,l,_,S,q,λB m n d C r f s t u=>by
  let⟨v,w,D,⟨x,y⟩,z,a,g⟩:=tU t u n;calc⟨kY (by rw[↑g];calc x),λp c=>?_⟩;let h:ba f (upd f p (.lst d)):=c_ c;calc k _ _ y _ _ _ _ ((s.trans z).trans (Ext.al a h)) (a.al h) ?_;show Is _ (.lst v) _;erw[Is];rw[Nw.upd a.sub c];refine⟨p,d,Y,cw,g.same λb o e=>?_⟩
  rw[bu (ed (a.sub b o e) c)];calc e⟩
theorem oa(f:JA X es (cX fa)):JE X (.List es pos) (tD (eI fa)):=(tw f).weak λy H Q ⟨F,g,h,K,S,q,k⟩ =>
 ⟨F,g,h,_,S,q,λz i j c A l B m n o=>by
  let⟨r,s,t,⟨u,v⟩,w,b,d⟩:=tU n o j;calc⟨kY (by rw[↑d];calc u),λp e=>?_⟩;let x:∀{a},fB t a (.lst r) (.lst c):=λ{a}=>⟨c,Y,d⟩;refine k _ _ v _ _ _ _ ((m.trans w).trans (Ext.own b e)) (b.own e x) ⟨p,?_,Y⟩
  rw[<-b.di,My (B8 _),Xg];rfl⟩
def fq(x:DV)(P:Bool->Prop):Prop:=match x with
 |.p (.bl b)=>P b
 |_=>False
def dT(f:WE):WT:=λc K=>f c λx a=>fq x λb=>K b a
def bT(t u:WT):WT:=λc K=>t c λb a=>if b=θ then u a K else K ι a
def eP(t u:WT):WT:=λc K=>t c λb a=>if b=θ then K θ a else u a K
def bQ(t:WT):WT:=λc K=>t c λb a=>K (!b) a
def fD(t:WT)(f g:WE):WE:=λc K=>t c λb a=>if b=θ then f a K else g a K
def eO(f g:WE):WE:=λc K=>f c λx a=>fq x λb=>if b=θ then g a K else K (.p (.bl ι)) a
def cZ(f g:WE):WE:=λc K=>f c λx a=>fq x λb=>if b=θ then K (.p (.bl θ)) a else g a K
def gj(f:WE):WE:=λc K=>f c λx a=>fq x λb=>K (.p (.bl (!b))) a
theorem q_{F:Hp}{a:-U}{x:DV}{v:V}{P:Bool->Prop}(c:eN F a x v)(h:fq x P):∃b,v=.bl b/\P b:=by
 unfold fq at h;split at h
 .rename_i b
  exact⟨b,c,h⟩
 .calc h.elim
theorem oe(d:JE X a (tD f))(he:‹∀c,isTrue a X.env c=(do let v <- c;standAt a.pos;holding [v] (truthy v))›):JT X a (d5 (dT f)) :=
 (II d he).weak λp H Q ⟨F,e,g,K,S,q,k⟩↦⟨F,e,g,_,S,q,λx h i v r j s l m n=>by
  let⟨b,rfl,o⟩:=q_ n i
  calc⟨b,Y,k _ _ o _ _ _ l m⟩⟩
theorem gE{op:CmpOp}{o:D->D->(D->Prop)->Prop}(c:gC X (compareOp op) o)(d:JE X a (tD f))(e:JE X b (tD g))(i:behindInMarks op b=ι):JT X (.Compare a [op] [b] pos) (d5 (dT (d2 f g o))) :=
 (Jv c d e i).weak λj H Q ⟨F,l,m,K,S,q,k⟩↦tT (ta:=tD f) (tb:=tD g) (λ_ _ _ _ h=>h) j H _ ⟨F,l,m,_,S,q,λx n p v y r z s t u=>by
  let⟨b,rfl,w⟩:=q_ u p
  calc⟨b,Y,k _ _ w _ _ _ s t⟩⟩
theorem rh(c:JT X a (d5 t)):JT X (.UnaryOp .Not a pos) (d5 (bQ t)):=(IP c).weak λl H Q ⟨F,d,e,K,S,q,k⟩↦⟨F,d,e,_,S,q,λb f g m h n i j=>k _ _ g _ _ _ i j⟩
theorem LV:∀c H Q,d5 (bT t u) c H Q->qe (d5 t) (d5 u) c H Q:=λc H Q ⟨F,h,i,K,S,q,k⟩↦⟨F,h,i,_,S,q,λb d a j e r f g=>by
 cases b with
 |true =>
  rw[VD Y] at a ⊢;exact⟨j,e,d,_,g,a,λb l m s n v o p=>k _ _ m _ _ _ (f.trans o) p⟩
 |false =>
  rw[VB Wn] at a ⊢
  calc k _ _ a _ _ _ f g⟩
theorem LW:∀c H Q,d5 (eP t u) c H Q->Bq (d5 t) (d5 u) c H Q:=λc H Q ⟨F,h,i,K,S,q,k⟩↦⟨F,h,i,_,S,q,λb d a j e r f g=>by
 cases b with
 |false =>
  rw[VB Wn] at a ⊢;exact⟨j,e,d,_,g,a,λb l m s n v o p=>k _ _ m _ _ _ (f.trans o) p⟩
 |true =>
  rw[VD Y] at a ⊢
  calc k _ _ a _ _ _ f g⟩
theorem JW.weak{e:J}{t t':TT}(h:JW X e t)(k:∀a H Q,t' a H Q->t a H Q):JW X e t':=⟨λc b s a H Q I q=>h c b s a H Q I (k a H Q q)⟩
theorem ri(b:JT X a (d5 t)):JW X (.BoolOp .And [a] pos) (d5 t):=IJ b
theorem rj(b:JT X a (d5 t)):JW X (.BoolOp .Or [a] pos) (d5 t):=IK b
theorem pq{c:-J}(d:JT X a (d5 t))(e:JW X (.BoolOp .And (b::c) pos) (d5 u)):JW X (.BoolOp .And (a::b::c) pos) (d5 (bT t u)):=(IL d e).weak LV
theorem pv{c:-J}(d:JT X a (d5 t))(e:JW X (.BoolOp .Or (b::c) pos) (d5 u)):JW X (.BoolOp .Or (a::b::c) pos) (d5 (eP t u)):=(IM d e).weak LW
theorem CS{op}(b:JE X a (tD f)):JE X (.BoolOp op [a] pos) (tD f):=IT b
theorem wN{c:-J}(l:JE X a (tD f))(m:JE X (.BoolOp .And (b::c) pos) (tD g)):JE X (.BoolOp .And (a::b::c) pos) (tD (eO f g)) :=
 (IU l m).weak λB H Q ⟨F,n,o,K,S,q,k⟩=>⟨F,n,o,_,S,q,λx e p v r h C i j s=>by
  let⟨b,rfl,d⟩:=q_ s p;refine⟨b,Y,?_⟩
  cases b with
  |true =>
   rw[VD Y] at d ⊢;exact⟨r,h,e,_,j,d,λx t u v D w E y z A=>k _ _ u _ _ _ _ (i.trans y) z A⟩
  |false =>
   rw[VB Wn] at d ⊢
   calc k _ _ d _ _ _ _ i j Y⟩
theorem LX(c:JE X a (tD f)):JE X (.UnaryOp .Not a pos) (tD (gj f)) :=
 (IV c).weak λo H Q ⟨F,d,e,K,S,q,k⟩↦⟨F,d,e,_,S,q,λx g h v p i r j l m=>by
  let⟨b,rfl,n⟩:=q_ m h
  calc⟨b,Y,k _ _ n _ _ _ _ j l Y⟩⟩
theorem CT(u:JT X c (d5 t))(w:JE X a (tD f))(y:JE X b (tD g)):JE X (.IfExp c a b pos) (tD (fD t f g)) :=
 (IX u w y).weak λD H Q ⟨F,z,A,K,S,q,k⟩↦⟨F,z,A,_,S,q,λb d h p e E r s=>by
  cases b with
  |true =>
   rw[VD Y] at h ⊢;exact⟨p,e,d,_,s,h,λx i j v B l C m n o=>k _ _ j _ _ _ _ (r.trans m) n o⟩
  |false =>
   rw[VB Wn] at h ⊢
   calc⟨p,e,d,_,s,h,λx i j v B l C m n o=>k _ _ j _ _ _ _ (r.trans m) n o⟩⟩
end
structure KS where
 nx:aH->Prop
 rt:DV->aH->Prop
 bk:aH->Prop:=λ_=>False
 ct:aH->Prop:=λ_=>False
abbrev WS:=KS->aH->Prop
def Cn(F:Hp)(f:-U)(mu:-(Option OV))(H:Hp)(P:aH->Prop)(R:St->Hp->Prop):Prop:=∀a,P a->∀e b c d,Ext F f mu H e b a.mu d->SR e b a c d->R c d
class j3 where
 ok:Nat->Int->Prop
 kp:Hp->-U->-(Option OV)->Hp->Prop
 st:∀{F ad mu H F' bV gi H'},Ext F ad mu H F' bV gi H'->kp F ad mu H->kp F' bV gi H'
instance (priority:=low) LY:j3:=⟨λ_ _=>False,λ_ _ _ _=>True,λ_ _=>trivial⟩
section
variable[j3]
structure tV(F:Hp)(ad:-U)(mu:-(Option OV))(H:Hp)(K:KS)(D:Ends):Prop where
 nx:Cn F ad mu H K.nx D.nx
 bk:Cn F ad mu H K.bk D.bk
 ct:Cn F ad mu H K.ct D.ct
 rt:∀x δ',K.rt x δ'->∀v F' bV σ' H',Ext F ad mu H F' bV δ'.mu H'->SR F' bV δ' σ' H'->eN F' bV x v->D.rt v H'
 kp:j3.kp F ad mu H
theorem Cn.ext{F F' H H':Hp}{f a:-U}{mu b:-(Option OV)}{P:aH->Prop}{R:St->Hp->Prop}(c:Cn F f mu H P R)(e:Ext F f mu H F' a b H'):Cn F' a b H' P R:=λd h _ _ _ _ E S=>c d h _ _ _ _ (e.trans E) S
theorem tV.ext{F F' H H':Hp}{f a:-U}{mu b:-(Option OV)}{K:KS}{D:Ends}(c:tV F f mu H K D)(e:Ext F f mu H F' a b H'):tV F' a b H' K D :=
 ⟨c.nx.ext e,c.bk.ext e,c.ct.ext e,λx d h _ _ _ _ _ E S V=>c.rt x d h _ _ _ _ _ (e.trans E) S V,j3.st e c.kp⟩
inductive eh (G:WS) (D:Ends) (σ:St) (H:Hp):Prop
 |mk (F:Hp) (ad:-U) (δ:aH) (K:KS) (S:SR F ad δ σ H) (q:G K δ) (k:tV F ad δ.mu H K D)
def az(G a:WS):WS:=λK b=>G {K with nx:=a K} b
def cP:WS:=λK a=>K.nx a
def c3:WS:=λK a=>K.bk a
def c4:WS:=λK a=>K.ct a
def aJ(i:Nat)(f:WE):WS:=λK b=>f b λx a=>K.nx ⟨a.sl.set i (ζ x),a.mu⟩
def dr(f:WE):WS:=λK b=>f b λ_ a=>K.nx a
def aZ(f:WE):WS:=λK b=>f b λx a=>K.rt x a
def gM:WS:=λK a=>K.rt (.p .non) a
def bj(t:WT)(G c:WS):WS:=λK d=>t d λb a=>if b=θ then G K a else c K a
section
variable{X:Cx}{e c:J}{st:y}{rest:-y}{f:WE}{t:WT}{G G':WS}{pos:I}
theorem kB:ee X [] (eh cP):=mf.weak λD a H ⟨F,b,c,K,S,q,k⟩↦k.nx _ q _ _ _ _ .refl S
theorem dy(h:JS X st (eh G)):ee X [st] (eh G):=qf h
theorem bZ(h:JS X st (eh G))(r:ee X rest (eh G')):ee X (st::rest) (eh (az G G')) :=
 (nL h r).weak λD e H ⟨F,b,c,K,S,q,k⟩↦⟨F,b,c,_,S,q,⟨λa h _ _ _ _ E d=>⟨_,_,a,K,d,h,k.ext E⟩,k.bk,k.ct,k.rt,k.kp⟩⟩
theorem LZ{i:Nat}:∀D a H,eh (aJ i f) D a H->ki (tD f) (nN i) D a H:=λD a H ⟨F,b,c,K,S,q,k⟩↦⟨F,b,c,_,S,q,λx d e v m g n h j l=>k.nx _ e _ _ _ _ h (j.set l)⟩
theorem f6{i:Nat}{x:R}{a:I}(b:X.N.Nodup)(c:X.N[i]?=ζ x)(d:Loc X.env.scope x)(he:JE X e (tD f))(hs:‹swapsWith e (ζ (.Name x a)) pos.line X.env=pure ι›)
  (g:autoParam (ik X x) qz1._auto_1):JS X (.Assign [.Name x a] e pos) (eh (aJ i f)):=(tm b c d he hs g).weak LZ
theorem jy(he:JE X e (tD f))(hs:‹swapsWith e η pos.line X.env=pure ι›):JS X (.Expr e pos) (eh (dr f)) :=
 (Bs he hs).weak λD j H ⟨F,a,b,K,S,q,k⟩↦⟨F,a,b,_,S,q,λx c d v l g m h i n=>k.nx _ d _ _ _ _ h i⟩
theorem f7(he:JE X e (tD f)):JS X (.Return (ζ e) pos) (eh (aZ f)) :=
 (vK he).weak λD l H ⟨F,a,b,K,S,q,k⟩↦⟨F,a,b,_,S,q,λx c d v m g n h i j=>k.rt _ _ d _ _ _ _ _ h i j⟩
theorem j4{a b:-y}(j:JT X c (d5 t))(l:ee X a (eh G))(m:ee X b (eh G')):JS X (.If c a b pos) (eh (bj t G G')) :=
 (IZ j l m).weak λD p H ⟨F,n,o,K,S,q,k⟩↦⟨F,n,o,_,S,q,λb d f g e r h i=>by
  cases b with
  |true =>
   rw[VD Y] at f ⊢;exact⟨g,e,d,K,i,f,k.ext h⟩
  |false =>
   rw[VB Wn] at f ⊢
   calc⟨g,e,d,K,i,f,k.ext h⟩⟩
def eX:WS:=λ_ _=>False
abbrev WG:=DV->aH->(aH->Prop)->Prop
inductive j5 (g:WG) (v:V) (σ:St) (H:Hp) (Q:St->Hp->Prop):Prop
 |mk (F:Hp) (ad:-U) (δ:aH) (x:DV) (K:aH->Prop) (S:SR F ad δ σ H) (V:eN F ad x v) (q:g x δ K) (k:Cn F ad δ.mu H K Q)
abbrev og:=-D->aH->(aH->Prop)->Prop
def mz(g:og):kR:=λd e H Q=>∃F b a c K,SR F b a e H/\ax F c d/\g c a K/\Cn F b a.mu H K Q
def bo(i:Nat):WG:=λx a K=>K ⟨a.sl.set i (ζ x),a.mu⟩
def dt:og:=λa b K=>match a with
 |[]=>K b
 |_=>False
def cj(g:WG)(g':og):og:=λb c K=>match b with
 |d::r=>g (.p d) c λa=>g' r a K
 |[]=>False
theorem JG.weak{c:J}{t t':TG}(h:JG X c t)(k:∀v a H Q,t' v a H Q->t v a H Q):JG X c t':=⟨λb s a H v u Q I r q=>h b s a H v u Q I r (k v a H Q q)⟩
theorem jX.weak{ts:-J}{t t':kR}(h:jX X ts t)(k:∀v a H Q,t' v a H Q->t v a H Q):jX X ts t':=⟨λb s a H v u Q I r q=>h b s a H v u Q I r (k v a H Q q)⟩
theorem hH{i:Nat}{x:R}(a:X.N.Nodup)(b:X.N[i]?=ζ x)(c:Loc X.env.scope x)(d:autoParam (ik X x) qz1._auto_1):JG X (.Name x pos) (j5 (bo i)) :=
 (qi a b c d).weak λv e H Q ⟨F,f,g,x,K,S,V,q,k⟩↦k _ q _ _ _ _ .refl (S.set V)
theorem pw:jX X [] (mz dt):=iq.weak λa b H Q ⟨F,c,d,e,K,S,V,q,k⟩↦by
 unfold dt at q;split at q
 .erw[ax] at V
  exact⟨V,k _ q _ _ _ _ .refl S⟩
 .calc q.elim
theorem lq{es:-J}{g:WG}{g':og}(b:JG X e (j5 g))(c:jX X es (mz g'))(hs:‹(assignEach (e::es) X.env).map (·.2)=assign e X.env::(assignEach es X.env).map (·.2)›):jX X (e::es) (mz (cj g g')) :=
 (qk b c hs).weak λo s H Q ⟨F,f,i,t,K,S,V,q,k⟩↦by
  unfold cj at q;split at q
  .rename_i d r
   erw[ax] at V;let⟨v,j,e,l,m⟩:=V;exact⟨v,j,e,F,f,i,.p d,_,S,l,q,λa h _ _ _ _ E n=>⟨_,_,a,r,K,n,m.same E.same,h,k.ext E⟩⟩
  .calc q.elim
def dz(n:Nat)(g:og):WG:=λx b K=>dH x b λd=>match d with
 |.tup a=>↑a=n/\g a b K
 |.lst a=>↑a=n/\g a b K
 |_=>False
theorem JG.or{c:J}{t t':TG}(h:JG X c t)(h':JG X c t'):JG X c (λv b H Q=>t v b H Q\/t' v b H Q):=⟨λa s b H v u Q I r q=>q.elim (λq=>h a s b H v u Q I r q) λq=>h' a s b H v u Q I r q⟩
theorem px{es:-J}{k:Nat}{g:og}{n:Nat}(m:X.calm=θ)(h:jX X es (mz g))(hn:‹↑(assignEach es X.env)=n›)(b:‹(assignEach es X.env).findIdx? (·.1)=η›):JG X (.Tuple es k pos) (j5 (dz n g)) :=
 ((vN m h hn b).or (LO m h hn b)).weak λv s H Q ⟨F,o,p,x,K,S,V,q,k⟩↦by
  let⟨d,q,r⟩:=kX S V q;split at q
  .rename_i i
   let c:Is F (.tup i) v:=r;erw[Is] at c;let⟨a,j,e,l,f⟩:=c;exact .inl ⟨a,j,e,cF.of (S.sub _ _ l),by rw[↑f];calc q.1,F,o,p,i,K,S,f,q.2,k⟩
  .rename_i i
   let⟨a,j,e,l,f⟩:=r;exact .inr ⟨a,j,e,bS.of l,by rw[↑f];calc q.1,F,o,p,i,K,S,f,q.2,k⟩
  .calc q.elim
def b7(f:WE)(g:WG):WS:=λK b=>f b λx a=>g x a K.nx
theorem CU{a:J}{g:WG}(he:JE X e (tD f))(h:JG X a (j5 g))(hs:‹swapsWithSole [a] e pos.line X.env=pure ι›)(i:‹swappedStores [a] e X.env=pure η›)
  (b:‹(assignEach [a] X.env).map (·.2)=[assign a X.env]›):JS X (.Assign [a] e pos) (eh (b7 f g)) :=
 (tj he h hs i b).weak λD r H ⟨F,j,l,K,S,q,k⟩↦⟨F,j,l,_,S,q,λx c b v m d s n o p=>⟨m,d,c,x,K.nx,o,p,b,k.nx.ext n⟩⟩
end
end
structure nq where
 items:-D
 gF:aH->Prop
abbrev WI:=aH->(nq->aH->Prop)->Prop
def oh(F:Hp)(h:-U)(c:nq)(J:It):Prop:=∀(e:Hp)(b:-U)(g:aH)(j:St)(H:Hp),ba F e->(∀(k:Nat)(a:U),h[k]?=ζ a->b[k]?=ζ a)->SR e b g j H->c.gF g →
 J.stop ↑c.items H/\∀(i:Nat)(d:D),c.items[i]?=ζ d->J.go i H/\∀x f,J.o7 i H x f->ba H f/\Is (Nw e H f) d x
inductive kC (w:WI) (σ:St) (H:Hp) (R:It->Hp->Prop):Prop
 |mk (F:Hp) (ad:-U) (δ:aH) (K:nq->aH->Prop) (S:SR F ad δ σ H) (q:w δ K) (k:∀it δ',K it δ'->∀J F' bV H',Ext F ad δ.mu H F' bV δ'.mu H'->SR F' bV δ' σ H'->oh F' bV it J->R J H')
noncomputable def fL(n:Nat):Option DV->Option DV->Option DV
 |none,_=>η
 |some _,some (.o k)=>if k<n then ζ (.o k) else η
 |some _,some (.t d k)=>if k<n then ζ (.t d k) else η
 |some _,s=>s
noncomputable def du(n:Nat):-(Option DV)->-(Option DV)->-(Option DV)
 |a::b,s::r=>fL n a s::du n b r
 |[],_::r=>η::du n [] r
 |_,[]=>[]
noncomputable def aH.trim(δ0 a:aH):aH:=⟨du ↑δ0.mu δ0.sl a.sl,a.mu.take ↑δ0.mu⟩
theorem wO{n:Nat}:∀(a l:-(Option DV)),↑(du n a l)=↑l
 |_::b,_::r=>by rw[du,wq,wq,wO b r]
 |[],_::r=>by rw[du,wq,wq,wO [] r]
 |[],[]=>Y
 |_::_,[]=>Y
theorem wQ{n:Nat}:∀{f l:-(Option DV)}{i:Nat}{x:DV},(du n f l)[i]?=ζ (ζ x)->l[i]?=ζ (ζ x)/\∀k,x=.o k\/(∃d,x=.t d k)->k<n
 |a::b,s::r,0,x,h=>by
  let h:fL n a s=ζ x:=by simpa[du] using h
  match a,s,h with
  |none,_,h=>cases h
  |some _,none,h=>cases h
  |some _,some (.p d),h=>cases(show ζ (DV.p d)=ζ x from h);exact⟨Y,λk e=>by rcases e with e|⟨_,e⟩<;>cases e⟩
  |some _,some (.w d),h=>cases(show ζ (DV.w d)=ζ x from h);exact⟨Y,λk e=>by rcases e with e|⟨_,e⟩<;>cases e⟩
  |some _,some (.u t d),h=>cases(show ζ (DV.u t d)=ζ x from h);exact⟨Y,λk e=>by rcases e with e|⟨_,e⟩<;>cases e⟩
  |some _,some (.t d k),h =>
   let h:(if k<n then ζ (DV.t d k) else η)=ζ x:=h
   by_cases c:k<n
   .rw[VD c] at h;cases h;exact⟨Y,λk' e=>by rcases e with e|⟨_,e⟩<;>cases e;calc c⟩
   .rw[VB c] at h;cases h
  |some _,some (.o k),h =>
   let h:(if k<n then ζ (DV.o k) else η)=ζ x:=h
   by_cases c:k<n
   .rw[VD c] at h;cases h;exact⟨Y,λk' e=>by rcases e with e|⟨_,e⟩<;>cases e;calc c⟩
   .rw[VB c] at h;cases h
 |a::b,s::r,i+1,x,h=>by
  let h:(du n b r)[i]?=ζ (ζ x):=by simpa[du] using h
  simpa using wQ h
 |[],s::r,0,x,h=>by simp[du] at h
 |[],s::r,i+1,x,h=>by
  let h:(du n [] r)[i]?=ζ (ζ x):=by simpa[du] using h
  simpa using wQ h
 |[],[],i,x,h=>by simp[du] at h
 |_::_,[],i,x,h=>by simp[du] at h
section
variable{F F' H H':Hp}{ad bV:-U}{δ δ' δ0:aH}{σ σ' τ:St}{mu gi:-(Option OV)}{l:U}{o:HO}
theorem Lv.take{n:Nat}{a:U}(h:Lv (ad.take n) (mu.take n) a):Lv ad mu a:=by
 let⟨k,d,b,c⟩:=h
 let e:k<n:=by
  let:=(pa.mp b).1;rw[Wv] at this;symm
 rw[W0 e] at b c;calc⟨k,d,b,c⟩
theorem SR.trim(S:SR F ad δ σ H):SR F (ad.take ↑δ0.mu) (δ0.trim δ) σ H:=by
 let g:∀{k:Nat}{a:U},(ad.take ↑δ0.mu)[k]?=ζ a->k<↑δ0.mu/\ad[k]?=ζ a:=λ{k a} e=>by
  let b:k<↑δ0.mu:=by
   let:=(pa.mp e).1;rw[Wv] at this;symm
  rw[W0 b] at e;exact⟨b,e⟩
 let f:∀{k:Nat}{w:Option OV},(δ.mu.take ↑δ0.mu)[k]?=ζ w->k<↑δ0.mu/\δ.mu[k]?=ζ w:=λ{k w} e=>by
  let b:k<↑δ0.mu:=by
   let:=(pa.mp e).1;rw[Wv] at this;symm
  rw[W0 b] at e;exact⟨b,e⟩
 refine⟨S.sub,λa x=>S.off a x.take,?_,λk l a w j c d m n=>S.inj k l a w j (g c).2 (g d).2 (f m).2 (f n).2,λk p e=>?_,λi x e=>?_,?_,S.tab,S.nt⟩
 .show ↑(ad.take _)=↑(δ.mu.take _)
  rw[Wv,Wv,S.di]
 .let⟨a,o,c,d,h⟩:=S.mu k p (f e).2
  exact⟨a,o,by rw[W0 (f e).1];calc c,d,h⟩
 .let⟨c,d⟩:=wQ e
  let⟨v,q,r⟩:=S.sl i x c;exact⟨v,q,r.pre λk a s z=>by rw[W0 (d k z)];calc s⟩
 .show ↑σ=↑(du _ _ _)
  rw[wO];calc S.len
theorem Ext.trim{n:Nat}(e:Ext F ad mu H F' bV gi H')(hn:↑ad=n):Ext F ad mu H F' (bV.take n) (gi.take n) H' :=
 ⟨e.same,e.new,e.keep,λk a h=>by rw[W0 (by rw[<-hn];calc(pa.mp h).1)];calc e.pre k a h,λa x=>e.df a x.take,e.iB⟩
theorem SR.other(S:SR F ad δ σ H)(d:F l=η)(f:¬ Lv ad δ.mu l)(tk:a9.ok (upd H l o)):SR F ad δ σ (upd H l o):=by
 refine⟨λa u e=>?_,S.off,S.di,S.inj,λk b e=>?_,S.sl,S.len,tk,S.nt⟩
 .rw[bu (ed e d)];exact S.sub a u e
 .let⟨a,u,c,g,h⟩:=S.mu k b e
  calc⟨a,u,c,by rw[bu λz=>f (by subst z;calc⟨k,b,c,e⟩)];calc g,h⟩
theorem Ext.other(e:Ext F ad mu H F' bV gi H')(b:H l=η):Ext F ad mu H F' bV gi (upd H' l o) :=
 ⟨e.same,e.new,λa u h n t=>by rw[bu (ed h b)];calc e.keep a u h n t,e.pre,e.df,λa u h=>by rw[bu (ed h b)];calc e.iB a u h⟩
theorem SR.adopt(S:SR F ad δ σ H)(j:F l=η)(f:H l=ζ o)(m:¬ Lv ad δ.mu l)(p:∀ps,o≠.tbl ps:=by ext _ z;cases z):SR (upd F l o) ad δ σ H:=by
 let b:ba F (upd F l o):=c_ j
 refine⟨λa u e=>?_,λa x=>?_,S.di,S.inj,λk r e=>?_,λi x e=>?_,S.len,S.tab,S.nt.up b λa g=>by
  let⟨n,q⟩:=a9.tb S.tab g;rw[bu λz=>by subst z;rw[f] at q;calc p n (WC q)]
  calc S.nt a g⟩
 .by_cases c:a=l
  .subst c;rw[cw] at e;cases e;exact f
  .rw[bu c] at e;exact S.sub a u e
 .rw[bu λz=>m (by subst z;calc x)];exact S.off a x
 .let⟨a,u,d,s,h⟩:=S.mu k r e
  exact⟨a,u,d,s,h.same b⟩
 .let⟨v,d,h⟩:=S.sl i x e
  calc⟨v,d,h.same b⟩
theorem Ext.adopt(e:Ext F ad mu H F' bV gi H')(b:H l=η)(d:F' l=η):Ext F ad mu H (upd F' l o) bV gi H' :=
 ⟨e.same.trans (c_ d),λa u h=>by
  by_cases c:a=l
  .subst c;exact .inr (.inl b)
  .rw[bu c] at h;calc e.new a u h,e.keep,e.pre,e.df,e.iB⟩
theorem SR.dU{ov:OV}(S:SR F ad δ σ H)(A:F l=η)(B:H l=ζ o)(p:¬ Lv ad δ.mu l)(h:fB F l ov o):SR F (ad++[l]) ⟨δ.sl,δ.mu++[ζ ov]⟩ σ H:=by
 let g:∀{k:Nat}{w:OV},(δ.mu++[ζ ov])[k]?=ζ (ζ w)->(k<↑δ.mu/\δ.mu[k]?=ζ (ζ w))\/(k=↑δ.mu/\w=ov):=λ{k w} e=>by
  by_cases c:k<↑δ.mu
  .rw[KH c] at e;exact .inl ⟨c,e⟩
  .let p:=(pa.mp e).1
   rw[qG,WH] at p;let C:k=↑δ.mu:=by symm
   subst C;rw[My (B8 _),Xg] at e;exact .inr ⟨Y,by simpa using e.symm⟩
 let j:∀{k:Nat},k<↑δ.mu->(ad++[l])[k]?=ad[k]?:=λ{k} c=>KH (by rw[S.di];calc c);let b:(ad++[l])[↑δ.mu]?=ζ l:=by rw[<-S.di,My (B8 _),Xg];rfl
 refine⟨S.sub,λa x=>?_,by rw[qG,qG,S.di];rfl,λk t a w y d f r z=>?_,λk w e=>?_,λi x e=>?_,S.len,S.tab,S.nt⟩
 .let⟨k,w,d,f⟩:=x
  rcases g f with⟨c,r⟩|⟨c,r⟩
  .rw[j c] at d;exact S.off a ⟨k,w,d,r⟩
  .subst c;rw[b] at d;cases d;exact A
 .rcases g r with⟨c,q⟩|⟨c,q⟩
  .rw[j c] at d
   rcases g z with⟨m,n⟩|⟨m,n⟩
   .rw[j m] at f;exact S.inj k t a w y d f q n
   .subst m;rw[b] at f;cases f;exact absurd ⟨k,w,d,q⟩ p
  .subst c;rw[b] at d;cases d
   rcases g z with⟨m,n⟩|⟨m,n⟩
   .rw[j m] at f;exact absurd ⟨t,y,f,n⟩ p
   .exact m.symm
 .rcases g e with⟨c,q⟩|⟨c,q⟩
  .let⟨a,u,d,f,s⟩:=S.mu k w q
   exact⟨a,u,by rw[j c];calc d,f,s⟩
  .subst c;subst q;exact⟨l,o,b,B,h⟩
 .let⟨v,d,s⟩:=S.sl i x e
  calc⟨v,d,s.pre λk a f _=>by rw[KH (pa.mp f).1];calc f⟩
theorem Ext.dU{ov:OV}(e:Ext F ad mu H F' bV gi H')(i:H l=η)(g:↑bV=↑gi):Ext F ad mu H F' (bV++[l]) (gi++[ζ ov]) H' :=
 ⟨e.same,e.new,e.keep,λk a h=>by rw[KH (pa.mp (e.pre k a h)).1];calc e.pre k a h,λa x=>by
  let⟨k,w,b,d⟩:=x
  by_cases c:k<↑gi
  .rw[KH c] at d
   rw[KH (by rw[g];calc c)] at b;exact e.df a ⟨k,w,b,d⟩
  .let f:=(pa.mp d).1
   rw[qG,WH] at f;let j:k=↑bV:=by rw[g];symm
   subst j;rw[My (B8 _),Xg] at b;let:l=a:=by simpa using b
   subst this;calc .inr i,e.iB⟩
theorem SR.back{sl:-(Option DV)}(a:SR F ad δ σ H)(e:Ext F ad δ.mu H F' bV gi H')(S:SR F' bV ⟨sl,gi⟩ τ H'):SR F' bV ⟨δ.sl,gi⟩ σ H' :=
 ⟨S.sub,S.off,S.di,S.inj,S.mu,λi x q=>let⟨v,b,c⟩:=a.sl i x q;⟨v,b,c.ext e⟩,a.len,S.tab,S.nt⟩
noncomputable def bN(cp:-(Option Nat))(sl:-(Option DV)):-(Option DV):=cp.map λo=>match o with
 |some i=>(sl[i]?).join
 |none=>η
theorem SR.rm{cp:-(Option Nat)}(S:SR F ad δ σ H):SR F ad ⟨bN cp δ.sl,δ.mu⟩ (jx cp σ) H:=by
 calc⟨S.sub,S.off,S.di,S.inj,S.mu,λj x e=>?_,by unfold jx bN;rw[nW,nW],S.tab,S.nt⟩;unfold bN at e;rw[B_] at e;let⟨o,b,a⟩:=KI.mp e
 match o,a with
 |none,a=>cases a
 |some i,a =>
  let a:(δ.sl[i]?).join=ζ x:=a
  cases q:δ.sl[i]? with
  |none=>rw[q] at a;cases a
  |some z =>
   rw[q] at a;let c:z=ζ x:=a;subst c;let⟨v,d,f⟩:=S.sl i x q;calc⟨v,?_,f⟩;unfold jx;rw[B_,b];show ζ ((σ[i]?).join)=ζ (ζ v);rw[d];rfl
end
def kZ(δ0:aH)(a:aH->Prop)(g:WG)(b:WS)(K:KS):-D->aH->Prop
 |[],e=>a e/\K.nx e
 |d::r,e=>a e/\g (.p d) e λf=>b {nx:=λc=>kZ δ0 a g b K r (δ0.trim c),ct:=λc=>kZ δ0 a g b K r (δ0.trim c),bk:=K.nx,rt:=K.rt} f
def bH(w:WI)(g:WG)(b:WS):WS:=λK d=>w d λc a=>kZ a c.gF g b K c.items a
def j6(δ0:aH)(c:aH->Prop)(g:WG)(t:WT)(f:WE)(K:-D->aH->Prop):-D->-D->aH->Prop
 |[],a,h=>c h/\K a h
 |d::r,a,h=>c h/\g (.p d) h λj=>t j λb i=>if b=θ then f i λx k=>eg x k λe l=>↑a<1000/\j6 δ0 c g t f K r (a++[e]) (δ0.trim l) else j6 δ0 c g t f K r a (δ0.trim i)
def cx(w:WI)(cp:-(Option Nat))(g:WG)(t:WT)(f:WE):WE:=λe K=>w e λd a=>j6 ⟨bN cp a.sl,a.mu⟩ d.gF g t f (λb c=>K (.p (.lst b)) ⟨a.sl,c.mu⟩) d.items [] ⟨bN cp a.sl,a.mu⟩
def eY(w:WI)(cp:-(Option Nat))(g:WG)(t:WT)(f:WE):WE:=λe K=>w e λd a=>j6 ⟨bN cp a.sl,a.mu⟩ d.gF g t f (λc b=>K (.o ↑b.mu) ⟨a.sl,b.mu++[ζ (.lst c)]⟩) d.items [] ⟨bN cp a.sl,a.mu⟩
section
variable{X:Cx}{tg iter elt:J}{body:-y}{w:WI}{g:WG}{b:WS}{pos:I}{ifs:-J}{t:WT}{f:WE}{scope:o}
theorem lr[j3](hp:PassesOwn (ς X.prog X.w) X.A X.env X.xe)(hc:X.calm=θ)(hi:JI X tg iter (kC w))(hg:JG X tg (j5 g))(hb:ee X body (eh b))(hs:‹∀x,foldedSetIterable iter X.env x=pure x›):
  JS X (.For tg iter body [] pos) (eh (bH w g b)):=(vR hp hc hi hg hb hs).weak λD σ H ⟨F,ad,δ,K,S,q,k⟩=>by
 calc⟨F,ad,δ,_,S,q,λn d h1 J G o W E1 I Y=>?_⟩;let C:=k.ext E1;calc⟨λi m j s=>∃t c a,i+m=↑n.items/\Ext G o d.mu W t c a.mu s/\SR t c a j s/\kZ d n.gF g b K (n.items.drop i) a,⟨↑n.items,G,o,d,⋯,.refl,I,h1⟩,?_⟩;ext i m j s ⟨t,c,a,hm,r,u,h⟩
 by_cases v:i<↑n.items
 .rw[YR v] at h
  let⟨L,h⟩:=h;let⟨go,yl⟩:=(Y t c a j s r.same r.pre u L).2 i _ (tG v);calc .inr ⟨go,λz B=>∃E l e,Ext G o d.mu W E l e.mu B/\SR E l e z B/\kZ d n.gF g b K (n.items.drop (i+1)) e,λz B ⟨E,l,e,e1,e2,e3⟩↦⟨m-1,⋯,E,l,e,⋯,e1,e2,e3⟩,λx B y=>?_⟩;let⟨Z,is⟩:=yl x B y;let E2:=r.trans (Ext.al u Z);calc⟨_,c,a,.p _,_,u.al Z,is,h,λM h3 F3 N σ3 H3 E3 S3=>?_⟩;let f:=E2.trans E3;refine⟨F3,N,M,_,S3,h3,⟨λO P Q R T H4 U V=>⟨Q,_,_,(f.trans U).trim I.di,V.trim,P⟩,C.nx.ext f,λO P Q R T H4 U V=>⟨Q,_,_,(f.trans U).trim I.di,V.trim,P⟩,(C.ext f).rt,(C.ext f).kp⟩⟩
 .let ei:i=↑n.items:=by symm
  subst ei;rw[q1x (B8 _)] at h;let⟨L,h⟩:=h;calc .inl ⟨(Y t c a j s r.same r.pre u L).1,C.nx _ h _ _ _ _ r u⟩
def bI:WT:=λa K=>K θ a
theorem JF.weak{a:-J}{t t':TT}(h:JF X a t)(k:∀b H Q,t' b H Q->t b H Q):JF X a t':=⟨λc s b H Q I q=>h c s b H Q I (k b H Q q)⟩
theorem wR:JF X [] (d5 bI):=nY.weak λa H Q ⟨F,b,c,K,S,q,k⟩↦k _ _ q _ _ _ .refl S
theorem tW{c:J}(h:JT X c (d5 t)):JF X [c] (d5 t):=KO h
theorem CV{J:It}{l:ξ}{F:Hp}{j:-ξ}{b:aH}{σ:St}{L:Hp}{C:nq}{cp:-(Option Nat)}{Q:VK}{K:-D->aH->Prop}(P:SR F j b σ L)(I1:oh F j C J)(R:L l=η)
  (h:j6 ⟨bN cp b.sl,b.mu⟩ C.gF g t f K C.items [] ⟨bN cp b.sl,b.mu⟩)
  (fin:∀n c F' d W H' ys,K n c->Ext F j b.mu L F' d c.mu H'->SR F' d c W H'->H' l=ζ (.lst ys)->F' l=η->¬ Lv d c.mu l->ax F' n ys->Q (.ref l) H') :
  Cc J (j5 g) (d5 t) (tD f) l (jx cp σ) (upd L l (.lst [])) Q:=by
 let f1:F l=η:=by
  cases q:F l with
  |none=>rfl
  |some u=>rw[P.sub l u q] at R;cases R
 let nl:∀{ad mu},(∀a,Lv ad mu a->Lv j b.mu a\/L a=η)->True:=λ_=>trivial
 let l1:¬ Lv j b.mu l:=λ⟨k,ov,e1,e2⟩↦by
  let⟨a,o,e3,e4,_⟩:=P.mu k ov e2;rw[e1] at e3;cases e3;rw[R] at e4;cases e4
 let S0:SR F j ⟨bN cp b.sl,b.mu⟩ (jx cp σ) (upd L l (.lst [])):=P.rm.other f1 l1 (a9.same P.tab (c_ R));calc⟨λi m W S=>∃M d c n N,i+m=↑C.items/\Ext F j b.mu L M d c.mu S/\SR M d c W S/\S l=ζ (.lst N)/\M l=η/\¬ Lv d c.mu l/\ax M n N/\j6 ⟨bN cp b.sl,b.mu⟩ C.gF g t f K (C.items.drop i) n c,⟨↑C.items,F,j,_,[],[],⋯,Ext.refl.other R,S0,cw,f1,l1,.nil,h⟩,?_⟩;ext i m W S ⟨M,d,c,n,N,hm,T,Y,G,Z,H,ia,h⟩
 by_cases tX:i<↑C.items
 .rw[YR tX] at h
  let⟨ck,h⟩:=h;let⟨go,yl⟩:=(I1 M d c W S T.same T.pre Y ck).2 i _ (tG tX)
  let O:∀{B:Hp}{s:-ξ}{U:-(Option OV)}{E:Hp},Ext M d c.mu S B s U E->E l=ζ (.lst N)/\B l=η/\¬ Lv s U l/\ax B n N:=λ{B s U E} e=>by
   refine⟨e.keep _ _ G H (λz=>by let⟨ps,q⟩:=a9.tb P.tab z;rw[R] at q;cases q),?_,λz=>?_,ia.same e.same⟩
   .cases q:B l with
    |none=>rfl
    |some u =>
     rcases e.new l u q with z|z|z
     .rw[Z] at z;cases z
     .rw[G] at z;cases z
     .exact absurd z H
   .rcases e.df l z with z|z
    .exact H z
    .rw[G] at z;cases z
  refine .inr ⟨go,fun τ2 E=>∃B s A w I,Ext F j b.mu L B s A.mu E/\SR B s A τ2 E/\E l=ζ (.lst I)/\B l=η/\¬ Lv s A.mu l/\ax B w I/\j6 ⟨bN cp b.sl,b.mu⟩ C.gF g t f K (C.items.drop (i+1)) w A,
   fun τ2 E ⟨B,s,A,w,I,r⟩↦⟨m-1,⋯,B,s,A,w,I,⋯,r⟩,λx E y=>?_⟩
  let⟨sm,is⟩:=yl x E y;let X2:=Ext.al Y sm;calc⟨_,d,c,.p _,_,Y.al sm,is,h,fun δ3 h3 F3 CW σ3 H3 X3 S3=>?_⟩;calc⟨F3,CW,δ3,_,S3,h3,λbb δ4 X F4 CY H4 X4 S4=>?_⟩;let V:=(X2.trans X3).trans X4
  cases bb with
  |false =>
   dsimp only at X ⊢;rw[VB Wn] at X ⊢;let⟨a1,a2,a3,a4⟩:=O V;exact⟨F4,_,_,n,N,(T.trans V).trim P.di,S4.trim (δ0:=⟨bN cp b.sl,b.mu⟩),a1,a2,λz=>a3 z.take,a4,X⟩
  |true =>
   dsimp only at X ⊢;rw[VD rfl] at X ⊢;calc⟨F4,CY,δ4,_,S4,X,λy δ5 h5 v F5 UH H5 X5 S5 V5=>?_⟩;let⟨e,δ6,F6,⟨hlen,h6⟩,X6,S6,i6⟩:=n_ S5 V5 h5;let CZ:=(V.trans X5).trans X6;let⟨a1,a2,a3,a4⟩:=O CZ;calc⟨N,a1,kW (by rw[↑a4];symm),F6,_,_,n++[e],N++[v],?_,(S6.other a2 a3 (a9.put S6.tab a1 (.inl ⟨_,rfl⟩))).trim (δ0:=⟨bN cp b.sl,b.mu⟩),cw,a2,λz=>a3 z.take,a4.snoc i6,h6⟩;exact((T.trans CZ).other R).trim P.di
 .let ei:i=↑C.items:=by symm
  subst ei;rw[q1x (B8 _)] at h;let⟨ck,h⟩:=h;calc .inl ⟨(I1 M d c W S T.same T.pre Y ck).1,fin _ _ _ _ _ _ _ h T Y G Z H ia⟩
theorem C0{cp:-(Option Nat)}:∀b H Q,tD (cx w cp g t f) b H Q->qL (kC w) cp (λ_=>j5 g) (λ_=>d5 t) (λ_=>tD f) b H Q:=λb H Q ⟨F,r,s,K,S,q,k⟩=>by
 calc⟨F,r,s,_,S,q,λG u v J I x L y m z=>λd l c=>?_⟩;calc CV m z c v λe h n A M N o B p C i a j D=>?_;let E:ba n (upd n l (.lst o)):=c_ a;calc k _ _ B _ _ _ _ (y.trans (p.adopt c a)) (SR.back (sl:=h.sl) m (p.adopt c a) (C.adopt a i j)) ?_;show Is _ (.lst e) _;erw[Is];calc⟨l,o,Y,cw,D.same E⟩
theorem L0{cp:-(Option Nat)}:∀b H Q,tD (eY w cp g t f) b H Q->qL (kC w) cp (λ_=>j5 g) (λ_=>d5 t) (λ_=>tD f) b H Q:=λb H Q ⟨F,p,r,K,S,q,k⟩=>by
 calc⟨F,p,r,_,S,q,λG s u J I v L x m y=>λd l n=>?_⟩;calc CV m y n u λa c M z N O A B C e h i j D=>?_;let E:=e.dU (ov:=.lst a) i h j ⟨A,Y,D⟩;let o:=C.dU (ov:=.lst a) n e.di;calc k _ _ B _ _ _ _ (x.trans o) (SR.back (sl:=c.sl) m o E) ⟨l,?_,Y⟩;rw[<-e.di,My (B8 _),Xg];rfl
theorem tY(cp:-(Option Nat))(Nb:-R)(a:X.calm=θ)(b:JI X tg iter (kC w))(c:∀d,JG (dI X scope Nb d) tg (j5 g))(e:∀d,JF (dI X scope Nb d) ifs (d5 t))(he:∀d,JE (dI X scope Nb d) elt (tD f))
  (h:‹scope.kind=.function›) (i:autoParam (lh X.N X.env.scope scope Nb cp=θ) qz2._auto_1) (hs:‹∀x,foldedSetIterable iter X.env x=pure x›) :
  JE X (.ListComp elt [⟨tg,iter,ifs,0⟩] scope pos) (tD (cx w cp g t f)):=(Ce cp Nb a b c e he h i hs).weak C0
theorem L1(cp:-(Option Nat))(Nb:-R)(a:X.calm=θ)(b:JI X tg iter (kC w))(c:∀d,JG (dI X scope Nb d) tg (j5 g))(e:∀d,JF (dI X scope Nb d) ifs (d5 t))(he:∀d,JE (dI X scope Nb d) elt (tD f))
  (h:‹scope.kind=.function›) (i:autoParam (lh X.N X.env.scope scope Nb cp=θ) qz2._auto_1) (hs:‹∀x,foldedSetIterable iter X.env x=pure x›) :
  JE X (.ListComp elt [⟨tg,iter,ifs,0⟩] scope pos) (tD (eY w cp g t f)):=(Ce cp Nb a b c e he h i hs).weak L0
theorem wU[j3](cp:-(Option Nat))(Nb:-R){i:Nat}{x:R}{a b:Ε}(j:X.N.Nodup)(l:X.N[i]?=ζ x)(m:Loc X.env.scope x)(n:X.calm=θ)(c:JI X tg iter (kC w))(o:∀d,JG (dI X scope Nb d) tg (j5 g))(p:∀d,JF (dI X scope Nb d) ifs (d5 t))(he:∀d,JE (dI X scope Nb d) elt (tD f))
  (r:‹scope.kind=.function›) (s:autoParam (lh X.N X.env.scope scope Nb cp=θ) qz2._auto_1) (hs:‹∀x,foldedSetIterable iter X.env x=pure x›)
  (e:‹swapsWith (.ListComp elt [⟨tg,iter,ifs,0⟩] scope pos) (ζ (.Name x a)) b.line X.env=pure θ›)
  (h:autoParam (ik X x) qz1._auto_1) :
  JS X (.Assign [.Name x a] (.ListComp elt [⟨tg,iter,ifs,0⟩] scope pos) b) (eh (aJ i (cx w cp g t f))) :=
 (K4 cp Nb j l m n c o p he r s hs e h).weak λD u H ⟨F,y,z,K,S,q,k⟩↦C0 u H _ ⟨F,y,z,_,S,q,λx A B v J C L E G I=>k.nx _ B _ _ _ _ E (G.set I)⟩
end
inductive RV where
 |p (d:D)|n (ds:-D)|a (j:Nat)|t (d:D) (ds:-D)
def oj(F' H H':Hp)(d:D)(ds:-D)(v:V):Prop:=∃a b u c,v=.ref a/\F' a=ζ (.tup [u,.ref b])/\Is F' d u/\H b=η/\H' b=ζ (.lst c)/\F' b=η/\ax F' ds c
abbrev GD:=-DV->-OV->(RV->-OV->Prop)->Prop
structure tZ(F:Hp)(ad:-U)(H:Hp)(r:RV)(ows:-OV)(v:V)(F' H':Hp):Prop where
 sub:ba F' H'
 same:ba F F'
 new:∀a o,F' a=ζ o->F a=ζ o\/H a=η
 keep:∀a o,H a=ζ o->a∉ad->a∉a9.ad->H' a=ζ o
 tab:a9.ok H'
 nt:NT F'
 len:↑ows=↑ad
 own:∀(j:Nat)(ow:OV),ows[j]?=ζ ow->∃a o,ad[j]?=ζ a/\H' a=ζ o/\fB F' a ow o
 off:∀a∈ad,F' a=η
 res:match r with
  |.p d=>Is F' d v
  |.n ds=>∃a vs,v=.ref a/\H a=η/\H' a=ζ (.lst vs)/\F' a=η/\ax F' ds vs
  |.a j=>∃a,ad[j]?=ζ a/\v=.ref a
  |.t d ds=>oj F' H H' d ds v
inductive lZ (G:GD) (n:Nat) (vs:-V) (H:Hp) (Q:VK) (_:XK):Prop
 |mk (hl:↑vs=n) (F:Hp) (ad:-U) (ys:-DV) (aK:-OV) (K:RV->-OV->Prop) (S:SR F ad ⟨ys.map ζ,aK.map ζ⟩ (vs.map ζ) H) (g:G ys aK K) (k:∀r ows,K r ows->∀v F' H',tZ F ad H r ows v F' H'->Q v H')
def jg(n:Nat)(K:RV->-OV->Prop)(x:DV)(e:aH):Prop:=∃b,e.mu.take n=b.map ζ/\↑b=n/\match x with
 |.p d=>K (.p d) b
 |.o k=>if k<n then K (.a k) b else match e.mu[k]? with
  |some (some (.lst c))=>K (.n c) b\/K (.p (.lst c)) b
  |_=>False
 |.w _=>False
 |.u _ _=>False
 |.t d k=>n<=k/\match e.mu[k]? with
  |some (some (.lst c))=>K (.t d c) b
  |_=>False
noncomputable def eu(n:Nat)(K:RV->-OV->Prop):KS where
 nx:=jg n K (.p .non)
 rt:=jg n K
section
variable{F F' H H':Hp}{ad bV:-U}{σ σ':St}
theorem ro{a:Type}{l:-a}{i:Nat}{x:a}(h:(l.map ζ)[i]?=ζ (ζ x)):l[i]?=ζ x:=by
 rw[B_] at h;let⟨y,e,q⟩:=KI.mp h;cases q;calc e
theorem rp{a:Type}{l:-a}{i:Nat}{x:a}(h:l[i]?=ζ x):(l.map ζ)[i]?=ζ (ζ x):=by
 rw[B_,h];rfl
theorem SR.start{ys:-DV}{mu:-(Option OV)}{vs:-V}{N:-R}(S:SR F ad ⟨ys.map ζ,mu⟩ (vs.map ζ) H):SR F ad ⟨ys.map ζ++VF (↑N-↑vs) η,mu⟩ (start N vs) H:=by
 let a:↑vs=↑ys:=by
  let:=S.len;rw[nW] at this;rw[this];rw[nW]
 refine⟨S.sub,S.off,S.di,S.inj,S.mu,λi x e=>?_,?_,S.tab,S.nt⟩
 .let b:i<↑ys:=by
   by_cases c:i<↑ys
   .exact c
   .rw[My (by rw[nW];symm),ZE] at e
    split at e
    .cases e
    .cases e
  rw[KH (by rw[nW];calc b)] at e;let⟨v,d,f⟩:=S.sl i x e;exact⟨v,by unfold L2.start;rw[KH (by rw[nW,a];calc b)];calc d,f⟩
 .unfold L2.start
  rw[qG,qG,Zb,Zb,nW,nW,a]
theorem t4{aK:-OV}{J:aH}{x:DV}{v:V}{K:RV->-OV->Prop}{Q:VK}{sl:-(Option DV)}{τ:St}(S0:SR F ad ⟨sl,aK.map ζ⟩ τ H)(E:Ext F ad (aK.map ζ) H F' bV J.mu H')(S:SR F' bV J σ' H')(V:eN F' bV x v)
  (h:jg ↑aK K x J) (k:∀r m,K r m->∀v F' H',tZ F ad H r m v F' H'->Q v H'):Q v H':=by
 let⟨m,tk,T,h⟩:=h;let L:↑ad=↑aK:=by let:=S0.di;rwa [nW] at this
 let Y:∀(j:Nat)(a:ξ),ad[j]?=ζ a->∃W,m[j]?=ζ W/\J.mu[j]?=ζ (ζ W)/\Lv bV J.mu a:=λj a e=>by
  let G:j<↑aK:=by rw[<-L];exact(pa.mp e).1
  let X:(J.mu.take ↑aK)[j]?=ζ (ζ (m[j]'(by rw[T];calc G))):=by
   rw[tk,B_,tG (by rw[T];calc G)];rfl
  rw[W0 G] at X;exact⟨_,tG (by rw[T];calc G),X,j,_,E.pre j a e,X⟩
 let f:∀a∈ad,F' a=η:=λa M=>by
  let⟨j,e⟩:=VJ.mp M;let⟨_,_,_,l⟩:=Y j a e;exact S.off a l
 let g:∀{F2:Hp},ba F' F2->ba F2 H'->(∀a o,F2 a=ζ o->F' a=ζ o\/(H a=η/\¬ a∈ad))->(∀a∈ad,F2 a=η)->NT F2->∀{r:RV},(match r with
   |.p d=>Is F2 d v
   |.n B=>∃a s,v=.ref a/\H a=η/\H' a=ζ (.lst s)/\F2 a=η/\ax F2 B s
   |.a j=>∃a,ad[j]?=ζ a/\v=.ref a
   |.t d B=>oj F2 H H' d B v)->tZ F ad H r m v F2 H':=λ{F2} s1 s2 n2 o2 Z {r} res=>by
  refine⟨s2,E.same.trans s1,λa o e=>?_,λa o e n t=>?_,S.tab,Z,by rw[T,L],λj ow e=>?_,o2,res⟩
  .rcases n2 a o e with e|⟨e,_⟩
   .rcases E.new a o e with z|z|⟨j,ov,z,_⟩
    .exact .inl z
    .exact .inr z
    .rw[f a (VJ.mpr ⟨j,z⟩)] at e;cases e
   .exact .inr e
  .exact E.keep a o e (λ⟨j,ov,z,_⟩↦n (VJ.mpr ⟨j,z⟩)) t
  .let G:j<↑ad:=by rw[L,<-T];exact(pa.mp e).1
   let⟨C1,y,N,_⟩:=Y j _ (tG G);rw[e] at y;cases y;let⟨a,o,C,e4,h5⟩:=S.mu j _ N;rw[E.pre j _ (tG G)] at C;cases C
   exact⟨_,o,tG G,e4,h5.same s1⟩
 let A:∀{i:Nat}{B:-D}{a:ξ},¬ i<↑aK->bV[i]?=ζ a->J.mu[i]?=ζ (ζ (.lst B))->∃s,H' a=ζ (.lst s)/\ax F' B s/\a∉ad/\F' a=η/\H a=η:=λ{i B a} c y I=>by
  let⟨a',o,N,C,s,rfl,O⟩:=S.mu i _ I;rw[y] at N;cases N
  let P:a∉ad:=λz=>by
   let⟨j,e⟩:=VJ.mp z;let⟨W,_,e5,_⟩:=Y j a e;let:i=j:=S.inj i j a _ _ y (E.pre j a e) I e5;subst this;exact c (by rw[<-L];calc(pa.mp e).1)
  calc⟨s,C,O,P,S.off a ⟨i,_,y,I⟩,?_⟩;rcases E.df a ⟨i,_,y,I⟩ with⟨j,ov,z,_⟩|z
  .exact absurd (VJ.mpr ⟨j,z⟩) P
  .exact z
 cases x with
 |p d=>exact k _ _ h _ _ _ (g (F2:=F') (λ_ _ e=>e) S.sub (λ_ _ e=>.inl e) f S.nt V)
 |w _=>exact h.elim
 |u _ _=>exact h.elim
 |t d i =>
  let⟨a,b,u,rfl,e0,N,y⟩:=V;let⟨c,h⟩:=h;split at h
  .rename_i B I
   let⟨s,C,O,P,R,M⟩:=A ⋯ y I;exact k _ _ h _ _ _ (g (F2:=F') (λ_ _ e=>e) S.sub (λ_ _ e=>.inl e) f S.nt ⟨a,b,u,s,rfl,e0,N,M,C,R,O⟩)
  .exact h.elim
 |o i =>
  dsimp only at h;let⟨a,y,rfl⟩:=V
  by_cases c:i<↑aK
  .rw[VD c] at h
   let ei:ad[i]?=ζ a:=by
    let:=E.pre i _ (tG (by rw[L];calc c));rw[y] at this;rw[tG (by rw[L];calc c)];exact this.symm
   exact k _ _ h _ _ _ (g (F2:=F') (λ_ _ e=>e) S.sub (λ_ _ e=>.inl e) f S.nt ⟨a,ei,rfl⟩)
  .rw[VB c] at h
   split at h
   .rename_i B I
    let⟨s,C,O,P,R,M⟩:=A c y I;rcases h with h|h
    .exact k _ _ h _ _ _ (g (F2:=F') (λ_ _ e=>e) S.sub (λ_ _ e=>.inl e) f S.nt ⟨a,s,rfl,M,C,R,O⟩)
    .refine k _ _ h _ _ _ (g (F2:=upd F' a (.lst s)) (c_ R) (λb o e=>?_) (λb o e=>?_) (λb U=>?_) (S.nt.up (c_ R) λb U=>?_) ?_)
     .by_cases z:b=a
      .subst z;rw[cw] at e;cases e;exact C
      .rw[bu z] at e;exact S.sub b o e
     .by_cases z:b=a
      .subst z;exact .inr ⟨M,P⟩
      .rw[bu z] at e;exact .inl e
     .rw[bu λz=>P (by subst z;calc U)];exact f b U
     .let⟨ps,q⟩:=a9.tb S.tab U
      rw[bu λz=>by subst z;rw[C] at q;cases q];exact S.nt b U
     .show Is _ (.lst B) _
      exact⟨a,s,rfl,cw,O.same (c_ R)⟩
   .calc h.elim
end
theorem hG.L3{P:X}{w:ω}{K:KC}{r:π->Option ν}{base:Α}{x a:π}{st:χ}{f:U}{t:FuncData}{N ps:-π}{k:Nat}{G:GD}(F:hG K x a st f t)(S:lU N ps (dq st))
  (e:∀(b:ν)(A:Β)(outer:-Ζ)(s:ο)(H:Hp)(E:XK),bz k (A.deeper (envOfC a (dq st) ⇑s f b)) →
   ∃B:WS,ee (gh fZ P w K r base N a (dq st) f b A outer s H E).kQ (gZ st) (eh B)/\∀ys aK j,↑ys=↑ps->G ys aK j->B (eu ↑aK j) ⟨ys.map ζ++VF (↑N-↑ps) η,aK.map ζ⟩) :
  cG P w K r base fZ (k+1) f t ps (lZ G ↑ps) :=
 F.qJ S (λC H Q E h=>h.1) λb A c s H C Q E D h=>by
  let⟨u,I,J,m,d,j,l,g,z⟩:=h;let⟨B,L,M⟩:=e b A c s H E D
  let O:↑m=↑ps:=by
   let:=l.len;rw[nW] at this;rw[<-u,this];rw[nW]
  refine⟨_,L,I,J,⟨m.map ζ++VF (↑N-↑ps) η,d.map ζ⟩,eu ↑d j,by rw[<-u];calc l.start,M m d j O g,⟨λi h R n σ' T o q=>?_,λi h=>h.elim,λi h=>h.elim,λy i h v R n σ' T o q V=>?_,trivial⟩⟩
  .exact t4 (σ':=σ') l o q (x:=.p .non) (v:=.non) Y h z
  .calc t4 (σ':=σ') l o q V h z
noncomputable def passes(mu:-(Option OV)):-DV->Nat->Option (-DV×-(Nat×OV))
 |[],_=>ζ ([],[])
 |.p d::b,j=>match passes mu b j with
  |some r=>ζ (.p d::r.1,r.2)
  |none=>η
 |.o k::b,j=>match mu[k]? with
  |some (some c)=>match passes mu b (j+1) with
   |some r=>ζ (.o j::r.1,(k,c)::r.2)
   |none=>η
  |_=>η
 |.w a::b,j=>match passes mu b j with
  |some r=>ζ (.w a::r.1,r.2)
  |none=>η
 |.u _ _::_,_=>η
 |.t _ _::_,_=>η
noncomputable def b3(mu:-(Option OV)):-(Nat×OV)->-OV->-(Option OV)
 |(k,_)::r,b::a=>b3 (mu.set k (ζ b)) r a
 |_,_=>mu
noncomputable def d6:-(Nat×OV)->Bool
 |[]=>θ
 |(k,_)::r => !(r.any λe=>e.1==k)&&d6 r
def cH(e:aH)(b:-(Nat×OV))(K:DV->aH->Prop)(r:RV)(c:-OV):Prop:=match r with
 |.p d=>K (.p d) ⟨e.sl,b3 e.mu b c⟩
 |.n f=>K (.p (.lst f)) ⟨e.sl,b3 e.mu b c⟩
 |.t d f=>K (.p (.tup [d,.lst f])) ⟨e.sl,b3 e.mu b c⟩
 |.a j=>match b[j]? with
  |some g=>K (.o g.1) ⟨e.sl,b3 e.mu b c⟩
  |none=>False
def cV(c:aH)(a:-(Nat×OV))(K:DV->aH->Prop)(r:RV)(b:-OV):Prop:=match r with
 |.n d=>K (.o ↑(b3 c.mu a b)) ⟨c.sl,b3 c.mu a b++[ζ (.lst d)]⟩
 |_=>False
def aA(n:Nat)(G:GD)(b:WA):WE:=λc K=>b c λd a=>match passes a.mu d 0 with
 |some r=>(d6 r.2=θ/\↑r.1=n)/\G r.1 (r.2.map (·.2)) (cH a r.2 K)
 |none=>False
def fM(n:Nat)(G:GD)(b:WA):WE:=λc K=>b c λd a=>match passes a.mu d 0 with
 |some r=>(d6 r.2=θ/\↑r.1=n)/\G r.1 (r.2.map (·.2)) (cV a r.2 K)
 |none=>False
section
variable{F F' H H':Hp}{ad bV:-U}{δ:aH}{σ σ':St}
theorem pz{mu:-(Option OV)}(A:∀(k:Nat) (ov:OV),mu[k]?=ζ (ζ ov)->∃a o,ad[k]?=ζ a/\H a=ζ o/\fB F a ov o):∀{xs:-DV}{vs:-V}{j:Nat}{r:-DV×-(Nat×OV)},passes mu xs j=ζ r->dG F ad xs vs →
  ∃as:-U,↑as=↑r.2/\(∀(i:Nat)(g:Nat×OV),r.2[i]?=ζ g->mu[g.1]?=ζ (ζ g.2)/\∃a o,as[i]?=ζ a/\ad[g.1]?=ζ a/\H a=ζ o/\fB F a g.2 o) ∧
   ∀(pre:-U),pre.length=j->∃_u:Unit,↑vs=↑r.1/\∀(i:Nat)(y:DV),r.1[i]?=ζ y->∃v,vs[i]?=ζ v/\eN F (pre++as) y v
 |[],K,j,r,h,L=>by
  cases h
  let:K=[]:=L;subst this;exact⟨[],Y,λi g e=>by simp at e,λf _=>⟨(),Y,λi y e=>by simp at e⟩⟩
 |.p d::C,_,j,r,h,⟨v,t,e,q,s⟩=>by
  subst e;unfold passes at h;split at h
  .rename_i D u
   cases h
   let⟨n,l,b,c⟩:=pz A u s;refine⟨n,l,b,λf m=>⟨(),?_,λi y e=>?_⟩⟩
   .let⟨_,x,_⟩:=c f m
    rw[wq,wq,x]
   .let⟨_,_,z⟩:=c f m
    cases i with
    |zero=>cases(show ζ (DV.p d)=ζ y by simpa using e);exact⟨v,Y,q⟩
    |succ i=>simpa using z i y e⁻¹
  .cases h
 |.w d::C,_,j,r,h,⟨v,t,e,q,s⟩=>by
  subst e;unfold passes at h;split at h
  .rename_i D u
   cases h
   let⟨n,l,b,c⟩:=pz A u s;refine⟨n,l,b,λf m=>⟨(),?_,λi y e=>?_⟩⟩
   .let⟨_,x,_⟩:=c f m
    rw[wq,wq,x]
   .let⟨_,_,z⟩:=c f m
    cases i with
    |zero=>cases(show ζ (DV.w d)=ζ y by simpa using e);exact⟨v,Y,q⟩
    |succ i=>simpa using z i y e⁻¹
  .cases h
 |.o k::C,_,j,r,h,⟨v,t,e,q,s⟩=>by
  subst e;unfold passes at h;split at h
  .rename_i B E
   split at h
   .rename_i D u
    cases h
    let⟨n,l,b,c⟩:=pz A u s;let⟨a,G,rfl⟩:=q;let⟨a',o,I,M,N⟩:=A k B E;rw[G] at I;cases I;refine⟨a::n,by rw[wq,wq,l],λi g e=>?_,λf m=>⟨(),?_,λi y e=>?_⟩⟩
    .cases i with
     |zero=>cases(show ζ (k,B)=ζ g by simpa using e);exact⟨E,a,o,Y,G,M,N⟩
     |succ i=>simpa using b i g e⁻¹
    .let⟨_,x,_⟩:=c (f++[a]) (by rw[qG,m];rfl)
     rw[wq,wq,x]
    .let⟨_,_,z⟩:=c (f++[a]) (by rw[qG,m];rfl)
     cases i with
     |zero =>
      cases(show ζ (DV.o j)=ζ y by simpa using e)
      calc⟨_,Y,a,?_,Y⟩;rw[My ⋯,m,Xg];rfl
     |succ i =>
      let⟨O,P,J⟩:=z i y e⁻¹;exact⟨O,by simpa using P,by rw[X0] at J;calc J⟩
   .cases h
  .cases h
theorem wV:∀{d:-(Nat×OV)},d6 d=θ->∀(i j:Nat)(k:Nat)(a b:OV),d[i]?=ζ (k,a)->d[j]?=ζ (k,b)->i=j
 |[],_,i,j,k,a,b,e,_=>by simp at e
 |(k',ov)::r,h,i,j,k,a,b,f,g=>by
  unfold d6 at h;erw[Xn,ZU] at h
  let l:∀(m:Nat)(c:OV),r[m]?=ζ (k',c)->False:=λm c e=>by
   let:=YT.mp h.1 _ (VJ.mpr ⟨m,e⟩);exact this (by simp)
  cases i with
  |zero =>
   cases(show ζ (k',ov)=ζ (k,a) by simpa using f)
   cases j with
   |zero=>rfl
   |succ j=>exact(l j b g⁻¹).elim
  |succ i =>
   cases j with
   |zero=>cases(show ζ (k',ov)=ζ (k,b) by simpa using g);exact(l i a f⁻¹).elim
   |succ j=>rw[wV h.2 i j k a b f⁻¹ g⁻¹]
theorem wW:∀(b:-(Nat×OV))(a:-OV)(mu:-(Option OV)),↑(b3 mu b a)=↑mu
 |(k,_)::r,d::a,c=>by rw[b3,wW r a,XU]
 |[],_,_=>Y
 |_::_,[],_=>Y
theorem rq:∀(b:-(Nat×OV))(a:-OV)(mu:-(Option OV))(l:Nat),(∀c∈b,c.1≠l)->(b3 mu b a)[l]?=mu[l]?
 |(k,_)::r,f::a,e,l,h=>by
  rw[b3,rq r a _ l λc d=>h c (Uy _ d),Xi (h _ Ux)]
 |[],_,_,_,_=>Y
 |_::_,[],_,_,_=>Y
theorem wX:∀{c:-(Nat×OV)}{a:-OV}{mu:-(Option OV)}{i:Nat}{b:Nat×OV}{f:OV},d6 c=θ->c[i]?=ζ b->a[i]?=ζ f->b.1<↑mu->(b3 mu c a)[b.1]?=ζ (ζ f)
 |(k,j)::r,C1::a,l,0,b,ow,h,d,e,g=>by
  cases(show ζ (k,j)=ζ b by simpa using d)
  cases(show ζ C1=ζ ow by simpa using e)
  unfold d6 at h;erw[Xn,ZU] at h;rw[b3,rq r a _ k λb m z=>absurd z⁻¹ (YT.mp h.1 b m),Xf g]
 |(k,j)::r,n::a,l,i+1,b,f,h,d,e,g=>by
  unfold d6 at h;erw[Xn,ZU] at h;rw[b3];exact wX h.2 d⁻¹ e⁻¹ (by rw[XU];calc g)
 |[],_,_,i,_,_,_,d,_,_=>by simp at d
 |_::_,[],_,i,_,_,_,_,e,_=>by simp at e
theorem wY{xs:-DV}{vs:-V}{r:-DV×-(Nat×OV)}{G:GD}{n:Nat}{Q:VK}{E:XK}{K:RV->-OV->Prop}(S:SR F ad δ σ H)(V:dG F ad xs vs)(hn:↑vs=n)(hp:passes δ.mu xs 0=ζ r)(nd:d6 r.2=θ)(g:G r.1 (r.2.map (·.2)) K)
  (fin:∀res x v F' H',K res x->Ext F ad δ.mu H F' ad (b3 δ.mu r.2 x) H'->SR F' ad ⟨δ.sl,b3 δ.mu r.2 x⟩ σ H'->(match res with
   |.p d=>Is F' d v
   |.n ds=>∃a vs,v=.ref a/\H a=η/\H' a=ζ (.lst vs)/\F' a=η/\ax F' ds vs
   |.a j=>∃f a,r.2[j]?=ζ f/\ad[f.1]?=ζ a/\v=.ref a
   |.t d ds=>oj F' H H' d ds v)->Q v H'):lZ G n vs H Q E:=by
 let⟨R,al,b,c⟩:=pz S.mu hp V;let⟨_,c1,c2⟩:=c [] rfl
 let D:∀(i:Nat)(a:ξ),R[i]?=ζ a->Lv ad δ.mu a/\∃f,r.2[i]?=ζ f/\ad[f.1]?=ζ a/\δ.mu[f.1]?=ζ (ζ f.2):=λi a e=>by
  let B:i<↑r.2:=by rw[<-al];exact(pa.mp e).1
  let⟨m1,a',o,m,s,_,_⟩:=b i _ (tG B);rw[e] at m;cases m;exact⟨⟨_,_,s,m1⟩,_,tG B,s,m1⟩
 refine⟨hn,F,R,r.1,r.2.map (·.2),K,⟨S.sub,λa ⟨i,M,m,s⟩↦S.off a (D i a m).1,by rw[al];rw[nW,nW],λi j a M A m s _ _=>?_,λi M e=>?_,λi y e=>?_,?_,S.tab,S.nt⟩,g,λN x T v O H' P=>?_⟩
 .let⟨_,f,U,W,k3⟩:=D i a m
  let⟨_,kp,p1,p2,p3⟩:=D j a s;let:f.1=kp.1:=S.inj _ _ a _ _ W p2 k3 p3;exact wV nd i j f.1 f.2 kp.2 U (by rw[this];calc p1)
 .let e:=ro e
  rw[B_] at e;let⟨f,m,rfl⟩:=KI.mp e;let⟨_,a,o,s,_,L,e5⟩:=b i f m;exact⟨a,o,s,L,e5⟩
 .let⟨v,m,s⟩:=c2 i y (ro e)
  exact⟨v,rp m,by simpa using s⟩
 .show ↑(vs.map ζ)=↑(r.1.map ζ)
  rw[nW,nW,c1]
 .let ol:↑x=↑r.2:=by rw[P.len,al]
  let J:∀(l:Nat)(A:OV),(b3 δ.mu r.2 x)[l]?=ζ (ζ A)->(∃(i:Nat)(f:Nat×OV),r.2[i]?=ζ f/\f.1=l/\x[i]?=ζ A)\/((∀f∈r.2,f.1≠l)/\δ.mu[l]?=ζ (ζ A)):=λl A e=>by
   by_cases z:∃f∈r.2,f.1=l
   .let⟨f,T,rfl⟩:=z
    let⟨i,B⟩:=VJ.mp T;let X:i<↑x:=by rw[ol];exact(pa.mp B).1
    let:=wX (mu:=δ.mu) nd B (tG X) (pa.mp (b i f B).1).1;rw[e] at this;cases this
    exact .inl ⟨i,f,B,rfl,tG X⟩
   .let z':∀f∈r.2,f.1≠l:=λf T q=>z ⟨f,T,q⟩
    rw[rq _ _ _ _ z'] at e;exact .inr ⟨z',e⟩
  let Y:∀(l:Nat)(A:OV)(a:ξ),ad[l]?=ζ a->(b3 δ.mu r.2 x)[l]?=ζ (ζ A)->Lv ad δ.mu a:=λl A a m s=>by
   rcases J l A s with⟨i,f,B,rfl,_⟩|⟨_,q⟩
   .exact⟨_,_,m,(b i f B).1⟩
   .exact⟨_,_,m,q⟩
  let rz:∀a,a∈R->Lv ad δ.mu a:=λa ha=>by
   let⟨i,e⟩:=VJ.mp ha;exact(D i a e).1
  let ex:Ext F ad δ.mu H O ad (b3 δ.mu r.2 x) H':=by
   refine⟨P.same,λa o e=>?_,λa o e n t=>P.keep a o e (λz=>n (rz a z)) t,λ_ _ e=>e,λa ⟨l,A,m,s⟩↦.inl (Y l A a m s),λa o e=>?_⟩
   .rcases P.new a o e with z|z
    .exact .inl z
    .exact .inr (.inl z)
   .by_cases z:a∈R
    .let⟨i,m⟩:=VJ.mp z
     let B:i<↑x:=by rw[P.len];exact(pa.mp m).1
     let⟨a',o',s,I,_⟩:=P.own i _ (tG B);rw[m] at s;cases s;exact⟨o',I⟩
    .by_cases t:a∈a9.ad
     .let⟨ps,q⟩:=a9.tb P.tab t
      exact⟨_,q⟩
     .exact⟨o,P.keep a o e z t⟩
  let Z:∀a,Lv ad δ.mu a->O a=η:=λa l=>by
   by_cases z:a∈R
   .exact P.off a z
   .cases q:O a with
    |none=>rfl
    |some u =>
     rcases P.new a u q with y|y
     .rw[S.off a l] at y;cases y
     .let⟨k,M,m,s⟩:=l
      let⟨a',o,I,L,_⟩:=S.mu k M s;rw[m] at I;cases I;rw[y] at L;cases L
  let sr:SR O ad ⟨δ.sl,b3 δ.mu r.2 x⟩ σ H':=by
   refine⟨P.sub,λa ⟨l,A,m,s⟩↦Z a (Y l A a m s),by rw[S.di];calc(wW _ _ _).symm,λk l a M A m s I L=>?_,λl A e=>?_,λi y e=>?_,S.len,P.tab,P.nt⟩
   .let h3:∃w,δ.mu[k]?=ζ (ζ w):=by
     rcases J k M I with⟨i,f,B,rfl,_⟩|⟨_,q⟩
     .exact⟨_,(b i f B).1⟩
     .exact⟨_,q⟩
    let h4:∃w,δ.mu[l]?=ζ (ζ w):=by
     rcases J l A L with⟨i,f,B,rfl,_⟩|⟨_,q⟩
     .exact⟨_,(b i f B).1⟩
     .exact⟨_,q⟩
    let⟨_,h3⟩:=h3;let⟨_,h4⟩:=h4;exact S.inj k l a _ _ m s h3 h4
   .rcases J l A e with⟨i,f,B,rfl,ho⟩|⟨z,q⟩
    .let⟨_,a,o,m,s,_,_⟩:=b i f B
     let⟨a',o',I,L,h5⟩:=P.own i A ho;rw[m] at I;cases I;exact⟨a,o',s,L,h5⟩
    .let⟨a,o,m,s,h⟩:=S.mu l A q
     refine⟨a,o,m,P.keep a o s (λy=>?_) (λt=>?_),h.same P.same⟩
     .let⟨i,I⟩:=VJ.mp y
      let⟨_,f,U,W,k3⟩:=D i a I;exact z f (VJ.mpr ⟨i,U⟩) (S.inj _ _ a _ _ W m k3 q)
     .let⟨ps,q2⟩:=a9.tb S.tab t
      rw[s] at q2;cases q2
      exact h.kind ps rfl
   .let⟨v,m,h⟩:=S.sl i y e
    exact⟨v,m,h.ext ex⟩
  calc fin N x v O H' T ex sr ?_;let C:=P.res
  cases N with
  |p d=>exact C
  |n ds=>exact C
  |t d ds=>exact C
  |a j =>
   let⟨a,m,s⟩:=C;let⟨_,f,U,W,_⟩:=D j a m;calc⟨f,a,U,W,s⟩
end
section
variable{X:Cx}{fa:WA}{G:GD}{pos:I}
theorem wZ{l F2 m H2:Hp}{e:-U}{d:aH}{v:St}{xs:-DV}{vs:-V}{r:-DV×-(Nat×OV)}{h:-OV}{a:U}(n:SR l e d v m)(w:dG l e xs vs)(x:passes d.mu xs 0=ζ r)(z:m a=η):¬ Lv e (b3 d.mu r.2 h) a:=λ⟨k,p,A,s⟩↦by
 let c:∃p,d.mu[k]?=ζ (ζ p):=by
  by_cases y:∃g∈r.2,g.1=k
  .let⟨g,f,rfl⟩:=y
   let⟨C,_,b,_⟩:=pz n.mu x w;let⟨i,B⟩:=VJ.mp f;exact⟨_,(b i g B).1⟩
  .rw[rq _ _ _ _ λg f q=>y ⟨g,f,q⟩] at s
   exact⟨_,s⟩
 let⟨j,c⟩:=c;let⟨a',o,t,u,_⟩:=n.mu k j c;rw[A] at t;cases t;rw[z] at u;cases u
theorem dG.length{F:Hp}{b:-U}:∀{xs:-DV}{vs:-V},dG F b xs vs->↑vs=↑xs
 |[],a,h=>by let h:a=[]:=h;rw[h];rfl
 |x::d,a,⟨v,r,e,_,c⟩=>by rw[e,wq,wq,dG.length c]
theorem pA{mu:-(Option OV)}:∀{xs:-DV}{j:Nat}{r:-DV×-(Nat×OV)},passes mu xs j=ζ r->↑r.1=↑xs
 |[],j,r,h=>by cases h;rfl
 |.p d::b,j,r,h=>by
  unfold passes at h;split at h
  .rename_i c a;cases h;rw[wq,wq,pA a]
  .cases h
 |.w d::b,j,r,h=>by
  unfold passes at h;split at h
  .rename_i c a;cases h;rw[wq,wq,pA a]
  .cases h
 |.o k::b,j,r,h=>by
  unfold passes at h;split at h
  .split at h
   .rename_i c a;cases h;rw[wq,wq,pA a]
   .cases h
  .cases h
section
variable{k:Nat}{f:U}{fd:FuncData}{ps:-R}{x:R}{p:I}{e:J}{es:-J}{n:Nat}
theorem L5{E:XK}{F B H C:Hp}{O f:-ξ}{P e:aH}{R:St}{K:DV->aH->Prop}{Q:VK}{xs:-DV}{vs:-V}(kk:∀x g,K x g->∀v F' h H',Ext F O P.mu H F' h g.mu H'->SR F' h g R H'->eN F' h x v->Q v H')(i:match passes e.mu xs 0 with
 |some r=>(d6 r.2=θ/\↑r.1=n)/\G r.1 (r.2.map (·.2)) (cH e r.2 K)
 |none=>False)(s:Ext F O P.mu H B f e.mu C)(D:SR B f e R C)(w:dG B f xs vs):lZ G n (vs++[]) C Q E:=by
 split at i
 .rename_i r y
  let⟨⟨S,T⟩,i⟩:=i;rw[dV];calc wY D w (by rw[↑w,<-pA y,T]) y S i λI U v F2 H2 k z A c=>?_;unfold cH at k
  cases I with
  |p d=>exact kk _ _ k _ _ _ _ (s.trans z) A c
  |n J =>
   let⟨a,m,rfl,q,L,l,M⟩:=c;calc kk _ _ k _ _ _ _ (s.trans (z.adopt (o:=.lst m) q l)) (A.adopt l L (wZ (F2:=F2) (H2:=H2) D w y q)) ?_;show Is _ (.lst J) _;exact⟨a,m,rfl,cw,M.same (c_ l)⟩
  |t d J =>
   let⟨a,b,u,m,rfl,W,X,q,L,l,M⟩:=c;calc kk _ _ k _ _ _ _ (s.trans (z.adopt (o:=.lst m) q l)) (A.adopt l L (wZ (F2:=F2) (H2:=H2) D w y q)) ?_;show Is _ (.tup [d,.lst J]) _;let N:ba F2 (upd F2 b (.lst m)):=c_ l;exact⟨a,_,rfl,N _ _ W,u,_,rfl,X.same N,.ref b,_,rfl,⟨b,m,rfl,cw,M.same N⟩,rfl⟩
  |a j =>
   let⟨ko,a,i,Y,Z⟩:=c;dsimp only at k;rw[i] at k;exact kk _ _ k _ _ _ _ (s.trans z) A ⟨a,Y,Z⟩
 .calc i.elim
theorem L7{E:XK}:∀a H Q,tD (aA n G fa) a H Q->qy (lZ G n) [] E (cX fa) a H Q:=λa H Q ⟨F,b,c,K,S,q,d⟩ ↦
 ⟨F,b,c,_,S,q,λk e f l m g o h i j=>L5 d f h i j⟩
theorem L8{E:XK}:∀f H Q,tD (fM n G fa) f H Q->qy (lZ G n) [] E (cX fa) f H Q:=λf H Q ⟨F,z,A,K,S,q,B⟩=>by
 calc⟨F,z,A,_,S,q,λP g b R T h U C u i=>?_⟩;split at b
 .rename_i r k
  let⟨⟨D,I⟩,b⟩:=b;rw[dV];refine wY u i (by rw[↑i,<-pA k,I]) k D b λl m v F2 H2 e J o c=>?_
  cases l with
  |p d=>exact e.elim
  |n s =>
   let⟨a,w,rfl,x,L,M,N⟩:=c;let O:∀{y},fB F2 y (.lst s) (.lst w):=λ{y}=>⟨w,Y,N⟩;calc B _ _ e _ _ _ _ (C.trans (J.dU (ov:=.lst s) x o.di)) (o.dU M L (wZ (F2:=F2) (H2:=H2) u i k x) O) ⟨a,?_,Y⟩;let:↑h=↑(b3 g.mu r.2 m):=o.di;rw[<-this,My (B8 _),Xg];rfl
  |a j=>exact e.elim
  |t d s=>exact e.elim
 .calc b.elim
theorem L9(c:cG X.prog X.w X.K X.mg X.base fZ k f fd ps (lZ G n))(d:bz k X.A)(g:Gl X x)(h:X.mg x=ζ (.ref f))(i:Xz X.K (.ref f)=θ)(j:Binds X.K fd ps [])
  (l:JA X (e::es) (cX fa)) (a: ~~~(cy x)) (he:‹dE X e es›) (b:‹dQ X pos es›) :
  JE X (.Call (.Name x p) (e::es) [] pos) (tD (aA n G fa)):=(qz c d g h i j .nil mr l a he b).weak L7
theorem L_(c:cG X.prog X.w X.K X.mg X.base fZ k f fd ps (lZ G n))(d:bz k X.A)(g:Gl X x)(h:X.mg x=ζ (.ref f))(i:Xz X.K (.ref f)=θ)(j:Binds X.K fd ps [])
  (l:JA X (e::es) (cX fa)) (a: ~~~(cy x)) (he:‹dE X e es›) (b:‹dQ X pos es›) :
  JE X (.Call (.Name x p) (e::es) [] pos) (tD (fM n G fa)):=(qz c d g h i j .nil mr l a he b).weak L8
end
end
end L2
namespace PySem
open Sem (wp)
open AutoSeq1 (wpAny_loadPart')
theorem Ma(l:U)(items:Array M)(n:Nat)(b:Option U)(sl:Array (Option M)):
  Meets (Builtin.«enumerate.__new__» ⟨[.type "enumerate",.ref l],[]⟩) (λ_ R s=>s.heap.get? l=ζ {cls:=.type "tuple",dict:=b,data:=.seq items n,slots:=sl} ∧
   R (.ok (.ret (.ref (s.heap.push {cls:=.type "tuple_iterator",data:=.fields #[.ref l,.int 0 0]}).objs.size)))
    {s with heap:=(s.heap.push {cls:=.type "tuple_iterator",data:=.fields #[.ref l,.int 0 0]}).push {cls:=.type "enumerate",data:=.fields #[.none,.bool ι,.ref ⇑s,rawInt 0,.none,.none]}}) :=
 .of_wp λf w A R s h=>by
  let⟨j,g,d,k,m⟩:=s;let⟨a,h⟩:=h;let i:=sub_enumerate;let e:Heap.IsTuple (Shared.heap ⟨j,g,d,k,m⟩) l items:=⟨_,a,Y,n,Y⟩
  wp_walk using XG a
  calc wpAny_stack_any λo=>B9 ?_;split
  .rename_i c _ _ _ _ _
   cases(c==XR "enumerate")
   .wp_walk using XG a,Y9 e
    exact⟨_,Y,h⟩
   .wp_walk using XG a,Y9 e
    exact⟨_,Y,h⟩
  .wp_walk using XG a,Y9 e
   calc⟨_,Y,h⟩
section
variable{prog:X}{w:l}{A:t}{E:bt}{s:L}
theorem Mb{l:U}{items:Array M}{Q:bt}(g:s.heap.IsTuple l items)
  (h:∀h',IsEnum h' (⇑s+1) ⇑s 0 .none->h'.IsTupleIter ⇑s l 0->h'.objs.size=⇑s+2 →
   (∀b o,s.heap.get? b=ζ o->h'.get? b=ζ o)->Q (.ref (⇑s+1)) {s with heap:=h'}) :
  G (B prog w) A (call (.type "enumerate") [.ref l]) Q E s:=by
 let⟨⟨c,a,p,i⟩,j,k,n,m⟩:=g;subst k m
 refine callType_new F.called_enumerate (by decide) (F.typeCall_enumerate_1 _) (F.newCall_enumerate_1 _) (λd=>F.args_object_init_2 d _) F.entry_enumerate_new
  (Ma l items n a i) ⟨j,?_⟩
 let e:(s.heap.push {cls:=.type "tuple_iterator",data:=.fields #[.ref l,.int 0 0]}).objs.size=⇑s+1:=XF ..;rw[e]
 let f:IsEnum ((s.heap.push {cls:=.type "tuple_iterator",data:=.fields #[.ref l,.int 0 0]}).push
   {cls:=.type "enumerate",data:=.fields #[.none,.bool ι,.ref ⇑s,rawInt 0,.none,.none]}) (⇑s+1) ⇑s 0 .none:=by
  let:=UB (s.heap.push {cls:=.type "tuple_iterator",data:=.fields #[.ref l,.int 0 0]})
   (o:={cls:=.type "enumerate",data:=.fields #[.none,.bool ι,.ref ⇑s,rawInt 0,.none,.none]}) Y
  rw[e] at this;exact this
 calc⟨⟨_,f,Y⟩,h _ f ⟨_,B7 _ (UB _ Y),Y,Y⟩ (by rw[XF,e]) λb o x=>B7 _ (B7 _ x)⟩
theorem Mc{b l:U}{i:Nat}{items:Array M}{x:M}{Q:bt}(a:s.heap.IsTupleIter b l i)(g:s.heap.IsTuple l items)(h:items[i]?=ζ x)
  (j:∀h',h'.IsTupleIter b l (i+1)->Zj b s.heap h'->Q x {s with heap:=h'}):G (B prog w) A (q0L (.ref b)) Q E s:=by
 let⟨o,d,k,c⟩:=id a;let⟨m,e,_,n,f⟩:=g;let p:¬ ((WN l==Wz)=θ):=Wn;calc nX (Yj (name:=Xy "__next__") a.typeIs YN (XI YN a.typeIs q0o ?_ (q0h _)));show G _ _ (field (.ref b) 0 >>= _) _ _ s;calc nX (ZG d c (x:=.ref l) Y ?_);calc nX (ZG d c (x:=.int i 0) Y ?_);calc nX (ZP e f ?_);erw[V7,h];calc nX (ZQ d c (by simp) (B9 ⟨x,Y,B9 (j _ ⟨_,Xk _ d (Z1 (YL c _)),(q0R ..).trans k,?_⟩ (Xa ..))⟩));rw[YL c];simp[rawInt]
theorem Md{c l:U}{i:Nat}{items:Array M}{Q:bt}(hh:A.handled=η)(b:s.heap.IsTupleIter c l i)(j:s.heap.IsTuple l items)(k:items[i]?=η)
  (n:∀h' e,Heap.ExtBut c s.heap h'->(∃o,h'.get? e=ζ o/\o.cls=.type "StopIteration")->E (.ref e) {s with heap:=h'}):G (B prog w) A (q0L (.ref c)) Q E s:=by
 let⟨o,d,p,f⟩:=id b;let⟨q,g,_,r,h⟩:=j;let t:¬ ((WN l==Wz)=θ):=Wn;calc nX (Yj (name:=Xy "__next__") b.typeIs YN (XI YN b.typeIs q0o ?_ (q0h _)));show G _ _ (field (.ref c) 0 >>= _) _ _ s;calc nX (ZG d f (x:=.ref l) Y ?_);calc nX (ZG d f (x:=.int i 0) Y ?_);calc nX (ZP g h ?_);erw[V7,k];calc nX (q1o (nX (ZQ d f (by simp) ?_)));calc nX ?_;calc nX (m:=firstArgMember _ _) (q1W (a:=Wz) (by first|rfl|(erw[firstArgMember];rfl)) (XO ?_ (by size_fits)));refine nX (q3_ ?_)
 first|rw[show A.in1.handled=η from hh]|rw[hh]
 calc nX (B9 (wpAny_throw (n _ _ (((Xa ..).extBut.push _).push _) ⟨_,UB _ Y,Y⟩)))
theorem C2(k:A.handled=η)(b l:U)(f:l≠b)(items:Array M):Draws prog w A b [b,l] items.size (λi v=>items[i]?=ζ v) (λi h=>h.IsTupleIter b l i/\h.IsTuple l items) where
 live:=λ_ _ a=>let⟨o,m,_⟩:=a.1;⟨o,m⟩
 frame:=λ_ _ _ a g=>⟨a.1.at λo e=>g b (by simp) o e,a.2.at λo e=>g l (by simp) o e⟩
 item:=λi s Q E j a n=>Mc a.1 a.2 (x:=items[i]) (by simp[j]) λp c d=>n _ p s.toks (by simp[j]) ⟨c,a.2.extBut d.extBut f⟩ d
 done:=λs Q E a q=>Md k a.1 a.2 (by simp) q
end
end PySem
namespace L2
open PySem PySem.Spec PyProof.Rows
noncomputable def rA(K:KC)(a:U):It :=
 ⟨λi H=>∃b x,cF K H a b/\b[i]?=ζ x,λi H x c=>∃T v,x=.ref T/\H T=η/\c=upd H T (.tup [.int (i:Nat),v])/\∀b,cF K H a b->b[i]?=ζ v,λi H=>∃b,cF K H a b/\↑b=i⟩
theorem Me{P:ψ}{w:ω}{K:KC}{B:-υ}{x1}{tp:Ε}(a e d:ξ)(n:e≠d)(O:a≠e)(C:a≠d):
  Turn P w K (.Tuple B x1 tp) (rA K a) [e,d] e (λi h=>(∃c,IsEnum h e d (i:Nat) c)/\h.IsTupleIter d a i) where
 mem:=by simp
 obj:=λi h l b f=>by
  let⟨⟨c,g⟩,o,m,J,hd⟩:=l;rcases Uw.mp f with rfl|f
  .exact⟨_,g,λv z=>by cases z⟩
  .let z:b=d:=by simpa using f
   subst z;exact⟨o,m,λv z=>by rw[hd] at z;cases z⟩
 keep:=λi h h' l k=>by
  let⟨⟨c,g⟩,m⟩:=l;exact⟨⟨c,k e (by simp) _ g⟩,m.at λo q=>k d (by simp) o q⟩
 item:=by
  ext X R S T J i F s σ H E I L l U;subst R S T;let⟨⟨c,g⟩,m⟩:=l;let⟨xs,x,M,N⟩:=U;let⟨j,V,p,hz⟩:=I.tuple M;let⟨u,hu,ru⟩:=V.get N;let D:=C2 (prog:=X.prog) (w:=X.w) (A:=X.A.in1) (by rw[ZD];calc I.ok.hd J) d a C j.toArray;let r:i<j.toArray.size:=by rw[KD];exact(pa.mp hu).1
  refine wpAny_pyNext_enum_itemD D g ⟨m,p⟩ r n (by simp[n,Yy O]) λy h1 Y py Z Mf Mg hsz hk=>⟨_,rfl,?_⟩
  let ey:y=u:=by
   rw[YC,hu] at py;cases py;rfl
  subst ey;calc q0F Z λh2 Mh t=>?_;let hT:⇑s≠e:=Yb (Vy g);let w5:h2.get? ⇑s=ζ {cls:=.type "tuple",data:=.seq #[.int i Y,y]}:=(t.2 _ hT).trans Mg
  let k2:∀b o,b∉[e,d]->s.heap.get? b=ζ o->h2.get? b=ζ o:=λb o f q=>by
   let G:b≠e:=λz=>f (by simp[z]);let Mi:b≠d:=λz=>f (by simp[z]);exact(t.2 _ G).trans (hk b o G Mi q)
  let hn:H ⇑s=η:=I.bg.fresh (B8 _);refine⟨.ref ⇑s,upd H ⇑s (.tup [.int i,x]),I.jb (ch:=[e,d]) (t':=Y+1) L k2 (B8 _) ?_,rfl,⟨_,x,rfl,hn,rfl,λys hy=>by rw[I.ib hy M];calc N⟩,⟨⟨y,?_⟩,?_⟩,λb f=>?_⟩
  .exact⟨by show 2<=sizeLine;decide,[.int i Y,y],.cons ⟨_,rfl⟩ (.cons ru .nil),_,w5,rfl,_,rfl⟩
  .let e3:((i:Int)+1)=(((i+1:Nat)):Int):=by symm
   exact Mh
  .exact Mf.1.at λo q=>(t.2 _ (Yy n)).trans q
  .let:b<⇑s:=by
    let⟨o,q,_⟩:=m;rcases Uw.mp f with rfl|f
    .exact Vy g
    .let z:b=d:=by simpa using f
     subst z;exact Vy q
   rw[bu (VE this)];exact(L b f).1
 done:=by
  ext X R S T J i F s σ H E I L l U;subst R S T;let⟨⟨c,g⟩,m⟩:=l;let⟨xs,M,N⟩:=U;let⟨j,V,p,hz⟩:=I.tuple M;let D:=C2 (prog:=X.prog) (w:=X.w) (A:=X.A.in1) (by rw[ZD];calc I.ok.hd J) d a C j.toArray;let r:j.toArray.size=i:=by rw[KD,<-V.length];exact N
  calc wpAny_pyNext_enum_endD D g (by rw[r];calc⟨m,p⟩) λh1 eb=>⟨rfl,?_⟩;let⟨f0,f1,f2,f3,f4,f5⟩:=L d (by simp);exact I.turned (t':=s.toks) (λb o f q=>eb b o f q) f0 f1 f3 f4 f5
 self:=λA i s Q E l h=>by
  let⟨⟨c,g⟩,m⟩:=l;calc YF g h
section
variable{X:Cx}{elts:-J}{x1:Nat}{tp:I}{tg:J}
def Mj(K:KC)(ta:TA):TI:=λd H R=>ta d H λe b=>∃a,e=[.ref a]/\(((∃c,bS K b a c)/\R (pd K a) b)\/((∃c,cF K b a c)/\R (rA K a) b))
theorem Ml{a:υ}{ta:TA}{p pos:Ε}(C:Gl X "enumerate")(D:X.mg "enumerate" = η)(E:JA X [a] ta)(hs:‹starEach [a] X.env=[(ι,eval a X.env)]›):
  JI X (.Tuple elts x1 tp) (.Call (.Name "enumerate" p) [a] [] pos) (Mj X.K ta):=by
 calc⟨?_⟩;ext c s m H R I h;calc Call_ (m8 I C D Ci (Ym (bF (E pos c s m H _ I h) λO d ⟨P,g,f,F,G⟩=>?_) hs Y));let⟨l,e,q⟩:=G;subst e;let⟨u,rfl,J⟩:=vals1 F;cases J
 let B:∀b∈[⇑d+1,⇑d],cz X c g b:=λb n=>by
  let i:⇑d<=b:=by
   rcases Uw.mp n with rfl|n
   .exact q0b _
   .let z:b=⇑d:=by simpa using n
    rw[z];exact B8 _
  exact f.i7 i (f.bg.fresh i)
 rcases q with⟨⟨L,r⟩,q⟩|⟨⟨L,r⟩,q⟩
 .let⟨t,M,p,N⟩:=f.list r
  calc q2a p.isList λv j w x y=>?_;let A:Inv X c m g {d with heap:=v}:=f.kept (t':=d.toks) y;calc YF j ?_;exact⟨_,_,_,_,g,Y,A,Cf l (⇑d+1) ⇑d (q1j _),⟨⟨_,j⟩,w⟩,B,q⟩
 .let⟨t,M,p,N⟩:=f.tuple r
  let k:l<⇑d:=by let⟨o,e,_⟩:=p;exact Vy e
  calc Mb p λv j w x y=>?_;let A:Inv X c m g {d with heap:=v}:=f.kept (t':=d.toks) y;calc YF j ?_;calc⟨_,_,_,_,g,Y,A,Me l (⇑d+1) ⇑d (q1j _) (VE (WQ k)) (VE k),⟨⟨_,j⟩,w⟩,B,q⟩
def w6(K:KC)(d:TE):TI:=λe H R=>d e H λx b=>∃a,x=.ref a/\(((∃c,bS K b a c)/\R (Bt K a) b)\/((∃c,cF K b a c)/\R (Bu K a) b))
theorem Mm{l:J}{k:TE}(n:JE X l k):JI X tg l (w6 X.K k):=by
 calc⟨?_⟩;ext d s r H R I h;calc bF (n d s r H _ I h) ?_;ext v c ⟨x,i,f,t,u⟩;let⟨a,e,q⟩:=u;subst e;cases t
 let m:∀b∈[⇑c],cz X d i b:=λb w=>by
  let e:b=⇑c:=by simpa using w
  subst e;exact f.i7 (B8 _) (f.bg.fresh (B8 _))
 rcases q with⟨⟨y,j⟩,q⟩|⟨⟨y,j⟩,q⟩
 .let⟨g,z,p,A⟩:=f.list j
  exact Ys p.isList ⟨⇑c,[⇑c],_,_,i,Y,f.kept (t':=c.toks) λb o e=>B7 _ e,I_ a _,⟨_,UB _ Y,Y,Y⟩,m,q⟩
 .let⟨g,z,p,A⟩:=f.tuple j
  calc Y9 (show c.heap.IsTuple a g.toArray from p) ⟨⇑c,[⇑c],_,_,i,Y,f.kept (t':=c.toks) λb o e=>B7 _ e,Ja a _,⟨_,UB _ Y,Y,Y⟩,m,q⟩
end
variable[a9]
noncomputable def dm(a:Int)(n:Nat):-D:=(Wo n).map λi:Nat=>D.int (a+i)
noncomputable def iS:Nat->-D->-D
 |_,[]=>[]
 |i,d::r=>.tup [.int i,d]::iS (i+1) r
noncomputable def rB:-D->-D->-D
 |a::r,b::s=>.tup [a,b]::rB r s
 |_,_=>[]
def fE(x:DV)(d:aH)(K:nq->Prop):Prop:=match x with
 |.p (.lst b)=>K ⟨b,λ_=>True⟩
 |.p (.tup b)=>K ⟨b,λ_=>True⟩
 |.o k=>match d.mu[k]? with
  |some (some (.lst b))=>K ⟨b,λc=>c.mu[k]?=ζ (ζ (.lst b))⟩
  |some (some (.al a b))=>K ⟨b,λc=>c.mu[k]?=ζ (ζ (.al a b))⟩
  |_=>False
 |_=>False
def bp(f:WE):WI:=λb K=>f b λx a=>fE x a λc=>K c a
def eA(b:WA):WI:=λc K=>b c λd a=>match d with
 |[.p (.int j)]=>(-(2 ^ 62)<=j/\j<2 ^ 62)/\K ⟨dm 0 j.toNat,λ_=>True⟩ a
 |_=>False
def gk(b:WA):WI:=λc K=>b c λd a=>match d with
 |[.p (.int i),.p (.int j)]=>(-(2 ^ 62)<=i/\i<2 ^ 62 /\ -(2 ^ 62)<=j/\j<2 ^ 62)/\K ⟨dm i (j-i).toNat,λ_=>True⟩ a
 |_=>False
def bW(c:WA):WI:=λd K=>c d λe a=>match e with
 |[x]=>fE x a λb=>K ⟨iS 0 b.items,b.gF⟩ a
 |_=>False
def fN(x:DV)(d:aH)(K:nq->Prop):Prop:=match x with
 |.p (.lst b)=>K ⟨b,λ_=>True⟩
 |.o k=>match d.mu[k]? with
  |some (some (.lst b))=>K ⟨b,λc=>c.mu[k]?=ζ (ζ (.lst b))⟩
  |some (some (.al a b))=>K ⟨b,λc=>c.mu[k]?=ζ (ζ (.al a b))⟩
  |_=>False
 |_=>False
def c5(c:WA):WI:=λd K=>c d λe a=>match e with
 |[x,y]=>fN x a λi=>fN y a λj=>K ⟨rB i.items j.items,λb=>i.gF b/\j.gF b⟩ a
 |_=>False
theorem ly{b:Int}{n i:Nat}{d:D}(h:(dm b n)[i]?=ζ d):i<n/\d=.int (b+i):=by
 unfold dm at h;rw[B_] at h;let⟨j,e,rfl⟩:=KI.mp h;let a:=(pa.mp e).1;rw[Xp] at a;rw[Yw a] at e;cases e
 calc⟨a,Y⟩
theorem lz(a:Int)(n:Nat):↑(dm a n)=n:=by unfold dm;rw[nW,Xp]
theorem l0:∀(ds:-D)(i:Nat),↑(iS i ds)=↑ds
 |[],_=>Y
 |d::r,i=>by rw[iS,wq,wq,l0 r]
theorem l3:∀{ds:-D}{k i:Nat}{d:D},(iS k ds)[i]?=ζ d->∃e,ds[i]?=ζ e/\d=.tup [.int ((k+i:Nat):Int),e]
 |[],k,i,d,h=>by simp[iS] at h
 |e::r,k,0,d,h=>by
  cases(show ζ (D.tup [.int (k:Nat),e])=ζ d by simpa[iS] using h)
  exact⟨e,Y,Y⟩
 |e::r,k,i+1,d,h=>by
  let⟨a,b,c⟩:=l3 (ds:=r) (k:=k+1) (i:=i) (d:=d) (by simpa[iS] using h);calc⟨a,by simpa using b,by rw[c];congr 4;symm⟩
section
variable{X:Cx}{tg l a b:J}{f:WE}{fa:WA}{F H:Hp}{ad:-U}{δ:aH}{σ:St}
theorem JI.weak{a:J}{w d:TI}(h:JI X tg a w)(k:∀b H R,d b H R->w b H R):JI X tg a d:=⟨λc s b H R I q=>h c s b H R I (k b H R q)⟩
theorem pB{ds:-D}{vs:-V}(h:ax F ds vs){i:Nat}{d:D}(e:ds[i]?=ζ d):∃v,vs[i]?=ζ v/\Is F d v:=by
 let c:=↑h;let a:i<↑vs:=by rw[c];exact(pa.mp e).1
 let⟨d',b,f⟩:=h.get (tG a);rw[e] at b;cases b;calc⟨_,tG a,f⟩
theorem C3{x:DV}{v:V}{K:nq->Prop}(S:SR F ad δ σ H)(p:eN F ad x v)(h:fN x δ K):∃a q,v=.ref a/\K q/\(∃vs,H a=ζ (.lst vs)) ∧
  ∀(F':Hp)(c:-U)(d:aH)(σ':St)(H':Hp),ba F F'->(∀(k:Nat)(a:U),ad[k]?=ζ a->c[k]?=ζ a)->SR F' c d σ' H'->q.gF d->∃vs,H' a=ζ (.lst vs)/\ax F' q.items vs:=by
 unfold fN at h;split at h
 .rename_i r
  let D:Is F (.lst r) v:=p;erw[Is] at D;let⟨a,g,rfl,E,G⟩:=D;exact⟨a,_,Y,h,⟨g,S.sub _ _ E⟩,λB c d i C s _ j _=>⟨g,j.sub _ _ (s _ _ E),G.same s⟩⟩
 .rename_i k
  split at h
  .rename_i r e
   let⟨a,l,rfl⟩:=p;let⟨a',o,m,t,g,rfl,I⟩:=S.mu k _ e;rw[l] at m;cases m;calc⟨a,_,Y,h,⟨g,t⟩,λB c d i C _ f j u=>?_⟩;let⟨Mn,o,n,w,y,rfl,A⟩:=j.mu k _ u;rw[f k a l] at n;cases n;exact⟨y,w,A⟩
  .rename_i b r e
   let⟨a,l,rfl⟩:=p;let⟨a',o,m,t,z,g,rfl,I⟩:=S.mu k _ e;rw[l] at m;cases m;calc⟨a,_,Y,h,⟨g,t⟩,λB c d i C _ f j u=>?_⟩;let⟨Mn,o,n,w,_,y,rfl,A⟩:=j.mu k _ u;rw[f k a l] at n;cases n;exact⟨y,w,A⟩
  .exact h.elim
 .calc h.elim
theorem C4{x:DV}{v:V}{K:nq->Prop}(S:SR F ad δ σ H)(f:eN F ad x v)(h:fE x δ K):∃a d,v=.ref a/\K d ∧
  (((∃vs,H a=ζ (.lst vs))/\∀(F':Hp)(b:-U)(c:aH)(σ':St)(H':Hp),ba F F'->(∀(k:Nat)(a:U),ad[k]?=ζ a->b[k]?=ζ a)->SR F' b c σ' H'->d.gF c->∃vs,H' a=ζ (.lst vs)/\ax F' d.items vs) ∨
  ((∃vs,H a=ζ (.tup vs))/\∀(F':Hp)(b:-U)(c:aH)(σ':St)(H':Hp),ba F F'->(∀(k:Nat)(a:U),ad[k]?=ζ a->b[k]?=ζ a)->SR F' b c σ' H'->d.gF c->∃vs,H' a=ζ (.tup vs)/\ax F' d.items vs)):=by
 unfold fE at h;split at h
 .rename_i g
  let⟨a,d,e,k,r⟩:=C3 (x:=.p (.lst g)) S f h;exact⟨a,d,e,k,.inl r⟩
 .rename_i g
  let j:Is F (.tup g) v:=f;erw[Is] at j;let⟨a,i,rfl,l,n⟩:=j;exact⟨a,_,Y,h,.inr ⟨⟨i,S.sub _ _ l⟩,λt b c m u s _ q _=>⟨i,q.sub _ _ (s _ _ l),n.same s⟩⟩⟩
 .rename_i k
  let⟨a,d,e,k,r⟩:=C3 (x:=.o k) S f h;exact⟨a,d,e,k,.inl r⟩
 .calc h.elim
theorem l4(M:JE X l (tD f)):JI X tg l (kC (bp f)):=(Mm M).weak λV H R ⟨F,N,O,K,S,q,k⟩=>⟨F,N,O,_,S,q,λx P Q v W T Y J t U=>by
 let⟨a,Z,rfl,L,r⟩:=C4 t U Q;calc⟨a,rfl,?_⟩;rcases r with⟨⟨u,e⟩,r⟩|⟨⟨u,e⟩,r⟩
 .refine .inl ⟨⟨u,bS.of e⟩,k _ _ L _ _ _ _ J t λz b c g A s h n B=>?_⟩
  let⟨j,m,o⟩:=r z b c g A s h n B;calc⟨⟨j,bS.of m,by rw[↑o];calc B8 _⟩,λi d C=>?_⟩;let⟨w,p,D⟩:=pB o C;calc⟨⟨j,w,bS.of m,p⟩,?_⟩;ext y E ⟨G,I⟩;subst G;calc⟨λ_ _ e=>e,?_⟩;let:=I j (bS.of m);rw[p] at this;cases this;rw[Nw.refl n.sub];exact D
 .refine .inr ⟨⟨u,cF.of e⟩,k _ _ L _ _ _ _ J t λz b c g A s h n B=>?_⟩
  let⟨j,m,o⟩:=r z b c g A s h n B;calc⟨⟨j,cF.of m,by rw[↑o];calc B8 _⟩,λi d C=>?_⟩;let⟨w,p,D⟩:=pB o C;calc⟨⟨j,w,cF.of m,p⟩,?_⟩;ext y E ⟨G,I⟩;subst G;calc⟨λ_ _ e=>e,?_⟩;let:=I j (cF.of m);rw[p] at this;cases this
  rw[Nw.refl n.sub];calc D⟩
theorem C5{F H:Hp}{T:U}{d e:D}{x y:V}(s:ba F H)(a:H T=η)(c:Is F d x)(f:Is F e y):Is (Nw F H (upd H T (.tup [x,y]))) (.tup [d,e]) (.ref T):=by
 rw[Nw.upd s a]
 let g:F T=η:=by
  cases q:F T with
  |none=>rfl
  |some u=>rw[s T u q] at a;cases a
 let b:ba F (upd F T (.tup [x,y])):=c_ g;erw[Is];calc⟨T,_,Y,cw,.cons (c.same b) (.cons (f.same b) .nil)⟩
theorem t5{m:-υ}{Q:Nat}{U p pos:Ε}(V:Gl X "enumerate")(W:X.mg "enumerate" = η)(Y:JA X [a] (cX fa))(hs:‹starEach [a] X.env=[(ι,eval a X.env)]›):
  JI X (.Tuple m Q U) (.Call (.Name "enumerate" p) [a] [] pos) (kC (bW fa)):=(Ml V W Y hs).weak fun σ H R ⟨F,Z,δ,K,S,q,k⟩=>⟨F,Z,δ,_,S,q,λxs δ1 n A F1 pC H1 O B V1=>by
 match xs,n,V1 with
 |[x],g1,⟨v,r,e,W1,W2⟩ =>
  subst e;let W3:r=[]:=W2;subst W3;let⟨a,it,rfl,P,r⟩:=C4 B W1 g1;calc⟨a,rfl,?_⟩;rcases r with⟨⟨A,e⟩,r⟩|⟨⟨A,e⟩,r⟩
  .refine .inl ⟨⟨A,bS.of e⟩,k _ _ P _ _ _ _ O B λC b c f D s g o E=>?_⟩
   let⟨h,j,t⟩:=r C b c f D s g o E;calc⟨⟨h,bS.of j,by rw[↑t,l0];calc B8 _⟩,λi d G=>?_⟩;let⟨d',l,rfl⟩:=l3 G;let⟨w,u,I⟩:=pB t l;calc⟨⟨h,w,bS.of j,u⟩,?_⟩;ext y J ⟨T,v,L,z,M,N⟩;subst M L;let:=N h (bS.of j);rw[u] at this;cases this;calc⟨c_ z,?_⟩;rw[VI];exact C5 o.sub z rfl I
  .refine .inr ⟨⟨A,cF.of e⟩,k _ _ P _ _ _ _ O B λC b c f D s g o E=>?_⟩
   let⟨h,j,t⟩:=r C b c f D s g o E;calc⟨⟨h,cF.of j,by rw[↑t,l0]⟩,λi d G=>?_⟩;let⟨d',l,rfl⟩:=l3 G;let⟨w,u,I⟩:=pB t l;calc⟨⟨h,w,cF.of j,u⟩,?_⟩;ext y J ⟨T,v,L,z,M,N⟩;subst M L;let:=N h (cF.of j);rw[u] at this;cases this;calc⟨c_ z,?_⟩;rw[VI];exact C5 o.sub z rfl I
 |[],n,_=>exact n.elim
 |_::_::_,n,_=>calc n.elim⟩
theorem C6{c:Hp}{a:-U}{b:Int}{n:Nat}:oh c a ⟨dm b n,λ_=>True⟩ (qp b n):=λq f g h r s j t _=>by
 calc⟨by show n<=↑(dm b n);rw[lz];calc B8 _,λi d k=>?_⟩;let⟨l,rfl⟩:=ly k;calc⟨l,?_⟩;ext x m ⟨o,p⟩;subst o p;calc⟨λ_ _ e=>e,Y⟩
theorem t6{p pos:I}(f:Gl X "range")(g:X.mg "range" = η)(h:JA X [a] (cX fa))(hs:‹starEach [a] X.env=[(ι,eval a X.env)]›):JI X tg (.Call (.Name "range" p) [a] [] pos) (kC (eA fa)) :=
 (Je f g h hs).weak λt H R ⟨F,i,l,K,S,q,k⟩↦⟨F,i,l,_,S,q,λu m b w x n y o s c=>by
  split at b
  .rename_i j
   let⟨v,r,e,c,d⟩:=c;let d:r=[]:=d;let c:v=.int j:=c;subst d c e;exact⟨j,Y,b.1.1,b.1.2,k _ _ b.2 _ _ _ _ o s C6⟩
  .calc b.elim⟩
theorem Mo{p pos:I}(l:Gl X "range")(m:X.mg "range" = η)(n:JA X [a,b] (cX fa))(hs:‹starEach [a,b] X.env=[(ι,eval a X.env),(ι,eval b X.env)]›)(f:‹starEach [b] X.env=[(ι,eval b X.env)]›):
  JI X tg (.Call (.Name "range" p) [a,b] [] pos) (kC (gk fa)) :=
 (Jf l m n hs f).weak λB H R ⟨F,o,s,K,S,q,k⟩↦⟨F,o,s,_,S,q,λC t d D E u G x y c=>by
  split at d
  .rename_i i j
   let⟨v,r,e,c,w,z,A,g,h⟩:=c;let h:z=[]:=h;let c:v=.int i:=c;let g:w=.int j:=g;subst h c g A e;exact⟨i,j,Y,d.1,k _ _ d.2 _ _ _ _ x y C6⟩
  .calc d.elim⟩
end
end L2
namespace L2
open PySem PySem.Spec PyProof.Rows
mutual
noncomputable def dEq:D->D->Bool
 |.non,.non=>θ
 |.bl a,.bl b=>a==b
 |.bl a,.int b=>(if a then 1 else 0)==b
 |.int a,.bl b=>a==(if b then 1 else 0)
 |.int a,.int b=>a==b
 |.str a,.str b=>a==b
 |.tup a,.tup b=>dW a b
 |.lst a,.lst b=>dW a b
 |_,_=>ι
noncomputable def dW:-D->-D->Bool
 |[],[]=>θ
 |a::r,b::s=>dEq a b&&dW r s
 |_,_=>ι
end
mutual
theorem lA:∀d:D,dEq d d=θ
 |.non=>by simp[dEq]
 |.bl a=>by simp[dEq]
 |.int a=>by simp[dEq]
 |.str a=>by simp[dEq]
 |.tup a=>by erw[dEq];exact w9 a
 |.lst a=>by erw[dEq];calc w9 a
theorem w9:∀ds:-D,dW ds ds=θ
 |[]=>by simp[dW]
 |d::r=>by erw[dW,lA d,w9 r,WD]
end
mutual
theorem Is.inj {H:Hp}:∀{d e:D}{v:V},Is H d v->Is H e v->d=e
 |.non,e,v,h,q=>by cases e<;>erw[Is] at h q<;>first|rfl|(subst h;first|(let⟨_,_,z,_⟩:=q;cases z;done)|(cases q;done)|(cases q;rfl))
 |.bl a,e,v,h,q=>by cases e<;>erw[Is] at h q<;>(subst h;first|(let⟨_,_,z,_⟩:=q;cases z;done)|(cases q;done)|(cases q;rfl))
 |.int a,e,v,h,q=>by cases e<;>erw[Is] at h q<;>(subst h;first|(let⟨_,_,z,_⟩:=q;cases z;done)|(cases q;done)|(cases q;rfl))
 |.str a,e,v,h,q=>by cases e<;>erw[Is] at h q<;>(subst h;first|(let⟨_,_,z,_⟩:=q;cases z;done)|(cases q;done)|(cases q;rfl))
 |.tup a,e,v,h,q=>by
  erw[Is] at h;let⟨p,vs,rfl,f,i⟩:=h
  cases e with
  |tup b =>
   erw[Is] at q;let⟨p',ws,z,c,g⟩:=q;cases z
   rw[f] at c;cases c;rw[ax.inj i g]
  |lst b =>
   erw[Is] at q;let⟨p',ws,z,c,g⟩:=q;cases z
   rw[f] at c;cases c
  |non=>erw[Is] at q;cases q
  |bl _=>erw[Is] at q;cases q
  |int _=>erw[Is] at q;cases q
  |str _=>erw[Is] at q;cases q
 |.lst a,e,v,h,q=>by
  erw[Is] at h;let⟨p,vs,rfl,f,i⟩:=h
  cases e with
  |lst b =>
   erw[Is] at q;let⟨p',ws,z,c,g⟩:=q;cases z
   rw[f] at c;cases c;rw[ax.inj i g]
  |tup b =>
   erw[Is] at q;let⟨p',ws,z,c,g⟩:=q;cases z
   rw[f] at c;cases c
  |non=>erw[Is] at q;cases q
  |bl _=>erw[Is] at q;cases q
  |int _=>erw[Is] at q;cases q
  |str _=>erw[Is] at q;cases q
theorem ax.inj {H:Hp}:∀{ds es:-D}{vs:-V},ax H ds vs->ax H es vs->ds=es
 |[],es,vs,h,q=>by
  erw[ax] at h;subst h
  cases es with
  |nil=>rfl
  |cons _ _=>erw[ax] at q;let⟨_,_,z,_⟩:=q;cases z
 |d::ds,es,vs,h,q=>by
  erw[ax] at h;let⟨v,r,rfl,f,i⟩:=h
  cases es with
  |nil=>erw[ax] at q;cases q
  |cons e es =>
   erw[ax] at q;let⟨v',r',z,c,g⟩:=q;cases z
   rw[Is.inj f c,ax.inj i g]
end
theorem rC:∀{ds es:-D},↑ds≠↑es->dW ds es=ι
 |[],[],h=>absurd Y h
 |[],_::_,_=>by simp[dW]
 |_::_,[],_=>by simp[dW]
 |d::r,e::s,h=>by erw[dW];rw[rC (λz=>h (by rw[wq,wq,z])),q3R]
noncomputable def om(ds es:-D)(j:Nat):Bool:=match ds[j]?,es[j]? with
 |some a,some b=>dEq a b
 |_,_=>θ
theorem rD:∀{ds es:-D},↑ds=↑es->(Wo ↑ds).all (om ds es)=dW ds es
 |[],[],_=>by simp[dW]
 |[],_::_,h=>by simp at h
 |_::_,[],h=>by simp at h
 |d::r,e::s,h=>by
  let a:=rD (ds:=r) (es:=s) h⁻¹;rw[wq,List.range_succ_eq_map,List.all_cons,List.all_map];erw[dW];rw[<-a];rfl
section
variable{X:Cx}{pins:a6}{σ:St}{H:Hp}{s:L}
theorem pD{vs:-V}{a:-M}(r:Vals vs a){j:Nat}(h:j<a.toArray.size):∃v,vs[j]?=ζ v/\RelV v a.toArray[j]:=by
 let c:j<↑a:=by simpa using h
 let b:j<↑vs:=by rw[↑r];exact c
 let⟨u,e,d⟩:=r.get (tG b)
 let:a.toArray[j]=u:=by
  let:=(pa.mp e).2;simpa using this
 rw[this];calc⟨_,tG b,d⟩
theorem eQ(I:Inv X pins σ H s){a:U}{vs:-V}(h:H a=ζ (.lst vs)):∃b:-M,Vals vs b/\s.heap.IsList a b.toArray:=by
 let⟨b,r,p,_⟩:=I.list (bS.of h);calc⟨b,r,p.isList⟩
theorem eS(I:Inv X pins σ H s){a:U}{vs:-V}(h:H a=ζ (.tup vs)):∃b:-M,Vals vs b/\s.heap.IsTuple a b.toArray:=by
 let⟨b,r,p,_⟩:=I.tuple (cF.of h);calc⟨b,r,p⟩
theorem in1_units(A:t):A.in1.units=A.units+1:=rfl
theorem w_(I:Inv X pins σ H s):∀(n:Nat){A:Β}{d e:D}{v u:V}{x y:ν},dep d<=n->A.units+n<cLine->Is H d v->Is H e u->RelV v x->RelV u y->q1r A s x y (dEq d e)/\q3W A s x y (dEq d e):=by
 ext n
 induction n with
 |zero =>
  ext A d e v u x y P Y r f z g;let h:A.units<cLine:=by symm
  cases d with
  |tup o=>simp[dep] at P
  |lst o=>simp[dep] at P
  |non =>
   cases(show v=.non from r);cases z
   cases e with
   |non=>cases(show u=.non from f);cases g;erw[dEq];exact⟨q1E _,SeqAt.RcAt.none_none⟩
   |bl b=>cases(show u=.bl b from f);cases g;erw[dEq];exact⟨SeqAt.EqAt.none_bool _,SeqAt.RcAt.none_bool _⟩
   |int b=>cases(show u=.int b from f);let⟨t,rfl⟩:=g;erw[dEq];exact⟨SeqAt.EqAt.none_int _ _,SeqAt.RcAt.none_int _ _⟩
   |str b=>cases(show u=.str b from f);let⟨t,rfl⟩:=g;erw[dEq];exact⟨SeqAt.EqAt.none_str _ _,SeqAt.RcAt.none_str _ _⟩
   |tup k=>erw[Is] at f;let⟨a,w,rfl,m,_⟩:=f;cases g;let⟨_,_,p⟩:=eS I m;erw[dEq];exact⟨SeqAt.EqAt.none_tuple p h,SeqAt.RcAt.none_tuple p h⟩
   |lst k=>erw[Is] at f;let⟨a,w,rfl,m,_⟩:=f;cases g;let⟨_,_,p⟩:=eQ I m;erw[dEq];exact⟨SeqAt.EqAt.none_list p h,SeqAt.RcAt.none_list p h⟩
  |bl G =>
   cases(show v=.bl G from r);cases z
   cases e with
   |non=>cases(show u=.non from f);cases g;erw[dEq];exact⟨SeqAt.EqAt.bool_none _,SeqAt.RcAt.bool_none _⟩
   |bl b=>cases(show u=.bl b from f);cases g;erw[dEq];exact⟨SeqAt.EqAt.bool_bool _ _,SeqAt.RcAt.bool_bool _ _⟩
   |int b=>cases(show u=.int b from f);let⟨t,rfl⟩:=g;erw[dEq];exact⟨SeqAt.EqAt.bool_int _ _ _,SeqAt.RcAt.bool_int _ _ _⟩
   |str b=>cases(show u=.str b from f);let⟨t,rfl⟩:=g;erw[dEq];exact⟨SeqAt.EqAt.bool_str _ _ _,SeqAt.RcAt.bool_str _ _ _⟩
   |tup k=>erw[Is] at f;let⟨a,w,rfl,m,_⟩:=f;cases g;let⟨_,_,p⟩:=eS I m;erw[dEq];exact⟨SeqAt.EqAt.bool_tuple _ p h,SeqAt.RcAt.bool_tuple _ p h⟩
   |lst k=>erw[Is] at f;let⟨a,w,rfl,m,_⟩:=f;cases g;let⟨_,_,p⟩:=eQ I m;erw[dEq];exact⟨SeqAt.EqAt.bool_list _ p h,SeqAt.RcAt.bool_list _ p h⟩
  |int G =>
   cases(show v=.int G from r);let⟨Z,rfl⟩:=z
   cases e with
   |non=>cases(show u=.non from f);cases g;erw[dEq];exact⟨SeqAt.EqAt.int_none _ _,SeqAt.RcAt.int_none _ _⟩
   |bl b=>cases(show u=.bl b from f);cases g;erw[dEq];exact⟨SeqAt.EqAt.int_bool _ _ _,SeqAt.RcAt.int_bool _ _ _⟩
   |int b=>cases(show u=.int b from f);let⟨t,rfl⟩:=g;erw[dEq];exact⟨q2t _ _ _ _,SeqAt.RcAt.int_int _ _ _ _⟩
   |str b=>cases(show u=.str b from f);let⟨t,rfl⟩:=g;erw[dEq];exact⟨q2q _ _ _ _,SeqAt.RcAt.int_str _ _ _ _⟩
   |tup k=>erw[Is] at f;let⟨a,w,rfl,m,_⟩:=f;cases g;let⟨_,_,p⟩:=eS I m;erw[dEq];exact⟨SeqAt.EqAt.int_tuple _ _ p h,SeqAt.RcAt.int_tuple _ _ p h⟩
   |lst k=>erw[Is] at f;let⟨a,w,rfl,m,_⟩:=f;cases g;let⟨_,_,p⟩:=eQ I m;erw[dEq];exact⟨SeqAt.EqAt.int_list _ _ p h,SeqAt.RcAt.int_list _ _ p h⟩
  |str G =>
   cases(show v=.str G from r);let⟨Z,rfl⟩:=z
   cases e with
   |non=>cases(show u=.non from f);cases g;erw[dEq];exact⟨SeqAt.EqAt.str_none _ _,SeqAt.RcAt.str_none _ _⟩
   |bl b=>cases(show u=.bl b from f);cases g;erw[dEq];exact⟨SeqAt.EqAt.str_bool _ _ _,SeqAt.RcAt.str_bool _ _ _⟩
   |int b=>cases(show u=.int b from f);let⟨t,rfl⟩:=g;erw[dEq];exact⟨q2r _ _ _ _,SeqAt.RcAt.str_int _ _ _ _⟩
   |str b=>cases(show u=.str b from f);let⟨t,rfl⟩:=g;erw[dEq];exact⟨SeqAt.EqAt.str_str _ _ _ _,SeqAt.RcAt.str_str _ _ _ _⟩
   |tup k=>erw[Is] at f;let⟨a,w,rfl,m,_⟩:=f;cases g;let⟨_,_,p⟩:=eS I m;erw[dEq];exact⟨SeqAt.EqAt.str_tuple _ _ p h,SeqAt.RcAt.str_tuple _ _ p h⟩
   |lst k=>erw[Is] at f;let⟨a,w,rfl,m,_⟩:=f;cases g;let⟨_,_,p⟩:=eQ I m;erw[dEq];exact⟨SeqAt.EqAt.str_list _ _ p h,SeqAt.RcAt.str_list _ _ p h⟩
 |succ n Q =>
  ext A d e v u x y P Y r f z g;let h:A.units<cLine:=by symm
  let K:∀{o k:-D}{w L:-V}{q i:-ν}(J:Vals w q)(B:Vals L i),bE o<=n->ax H o w->ax H k L →
    ∀(j:Nat)(m:j<q.toArray.size)(C:j<i.toArray.size),q1r A.in1 s q.toArray[j] i.toArray[j] (om o k j):=λ{o k w L q i} J B R M F j m C=>by
   let⟨v1,e1,q1⟩:=pD J m;let⟨v2,e2,q2⟩:=pD B C;let⟨d1,W,g1⟩:=M.get e1;let⟨d2,f2,g2⟩:=F.get e2;unfold om;rw[W,f2];exact(Q (Wq (wI W) R) (by rw[in1_units];symm) g1 g2 q1 q2).1
  cases d with
  |tup o =>
   let R:bE o<=n:=by erw[dep] at P;symm
   let N:=r;erw[Is] at r;let⟨a,w,rfl,m,M⟩:=r;cases z
   let⟨q,J,l⟩:=eS I m
   cases e with
   |tup k =>
    let O:=f;erw[Is] at f;let⟨b,L,rfl,C,F⟩:=f;cases g
    let⟨i,B,E⟩:=eS I C
    let S:q3W A s (.ref a) (.ref b) (dEq (.tup o) (.tup k)):=by
     let:=SeqAt.RcAt.tuples l E h (K J B R M F);let T:q.toArray.size=↑o:=by rw[KD,<-↑J,↑M]
     let U:i.toArray.size=k.length:=by rw[KD,<-↑B,↑F]
     rw[T,U] at this
     let eb:((Wo (min ↑o k.length)).all (om o k)&&↑o==k.length)=dEq (.tup o) (.tup k):=by
      erw[dEq]
      by_cases c:↑o=k.length
      .rw[<-c,q2V,rD c];simp
      .rw[rC c];simp[c]
     rw[eb] at this;exact this
    refine⟨?_,S⟩
    by_cases c:a=b
    .subst c
     let:=Is.inj N O;rw[this,lA];exact q1E _
    .exact q2v c S
   |lst k =>
    erw[Is] at f;let⟨b,L,rfl,C,F⟩:=f;cases g
    let⟨i,B,E⟩:=eQ I C;erw[dEq];exact⟨SeqAt.EqAt.tuple_list l E h,SeqAt.RcAt.tuple_list l E h⟩
   |non=>cases(show u=.non from f);cases g;erw[dEq];exact⟨SeqAt.EqAt.tuple_none l h,SeqAt.RcAt.tuple_none l h⟩
   |bl b=>cases(show u=.bl b from f);cases g;erw[dEq];exact⟨SeqAt.EqAt.tuple_bool _ l h,SeqAt.RcAt.tuple_bool _ l h⟩
   |int b=>cases(show u=.int b from f);let⟨t,rfl⟩:=g;erw[dEq];exact⟨SeqAt.EqAt.tuple_int _ _ l h,SeqAt.RcAt.tuple_int _ _ l h⟩
   |str b=>cases(show u=.str b from f);let⟨t,rfl⟩:=g;erw[dEq];exact⟨SeqAt.EqAt.tuple_str _ _ l h,SeqAt.RcAt.tuple_str _ _ l h⟩
  |lst o =>
   let R:bE o<=n:=by erw[dep] at P;symm
   let N:=r;erw[Is] at r;let⟨a,w,rfl,m,M⟩:=r;cases z
   let⟨q,J,l⟩:=eQ I m
   cases e with
   |lst k =>
    let O:=f;erw[Is] at f;let⟨b,L,rfl,C,F⟩:=f;cases g
    let⟨i,B,E⟩:=eQ I C;let T:q.toArray.size=↑o:=by rw[KD,<-↑J,↑M]
    let U:i.toArray.size=k.length:=by rw[KD,<-↑B,↑F]
    let S:q3W A s (.ref a) (.ref b) (dEq (.lst o) (.lst k)):=by
     by_cases c:↑o=k.length
     .let:=SeqAt.RcAt.lists l E (by rw[T,U];calc c) h (K J B R M F)
      rw[T,rD c] at this;erw[dEq];exact this
     .erw[dEq];rw[rC c]
      exact SeqAt.RcAt.lists_lengths l E (by rw[T,U];simpa using c) h
    refine⟨?_,S⟩
    by_cases c:a=b
    .subst c
     let:=Is.inj N O;rw[this,lA];exact q1E _
    .exact q2v c S
   |tup k =>
    erw[Is] at f;let⟨b,L,rfl,C,F⟩:=f;cases g
    let⟨i,B,E⟩:=eS I C;erw[dEq];exact⟨SeqAt.EqAt.list_tuple l E h,SeqAt.RcAt.list_tuple l E h⟩
   |non=>cases(show u=.non from f);cases g;erw[dEq];exact⟨SeqAt.EqAt.list_none l h,SeqAt.RcAt.list_none l h⟩
   |bl b=>cases(show u=.bl b from f);cases g;erw[dEq];exact⟨SeqAt.EqAt.list_bool _ l h,SeqAt.RcAt.list_bool _ l h⟩
   |int b=>cases(show u=.int b from f);let⟨t,rfl⟩:=g;erw[dEq];exact⟨SeqAt.EqAt.list_int _ _ l h,SeqAt.RcAt.list_int _ _ l h⟩
   |str b=>cases(show u=.str b from f);let⟨t,rfl⟩:=g;erw[dEq];exact⟨SeqAt.EqAt.list_str _ _ l h,SeqAt.RcAt.list_str _ _ l h⟩
  |non=>exact Q (by simp[dep]) ⋯ r f z g
  |bl G=>exact Q (by simp[dep]) ⋯ r f z g
  |int G=>exact Q (by simp[dep]) ⋯ r f z g
  |str G=>calc Q (by simp[dep]) ⋯ r f z g
theorem Mp(I:Inv X pins σ H s){A:Β}{d e:D}{v u:V}{x y:ν}(hd:dep d<=60)(hu:A.units+61<cLine)(B:Is H d v)(f:Is H e u)(K:RelV v x)(g:RelV u y):SeqAt.RcNeAt A s x y (!dEq d e):=by
 let l:A.units<cLine:=by symm
 let E:∀{n i:-D}{q G:-V}{m h:-ν}(C:Vals q m)(r:Vals G h),bE n<=59->ax H n q->ax H i G →
   ∀(j:Nat)(k:j<m.toArray.size)(w:j<h.toArray.size),q1r A.in1 s m.toArray[j] h.toArray[j] (om n i j):=λ{n i q G m h} C r L J z j k w=>by
  let⟨v1,Q,R⟩:=pD C k;let⟨v2,S,T⟩:=pD r w;let⟨d1,P,U⟩:=J.get Q;let⟨d2,W,Y⟩:=z.get S;unfold om;rw[P,W];exact(w_ I 59 (Wq (wI P) L) (by rw[in1_units];symm) U Y R T).1
 cases d with
 |tup n =>
  let L:bE n<=59:=by erw[dep] at hd;symm
  erw[Is] at B;let⟨a,q,rfl,k,J⟩:=B;cases K
  let⟨m,C,o⟩:=eS I k
  cases e with
  |tup i =>
   erw[Is] at f;let⟨b,G,rfl,w,z⟩:=f;cases g
   let⟨h,r,F⟩:=eS I w;let:=SeqAt.RcNeAt.tuples o F l (E C r L J z);let M:m.toArray.size=↑n:=by rw[KD,<-↑C,↑J]
   let O:h.toArray.size=↑i:=by rw[KD,<-↑r,↑z]
   rw[M,O] at this
   let Z:((Wo (min ↑n ↑i)).all (om n i)&&↑n==↑i)=dEq (.tup n) (.tup i):=by
    erw[dEq]
    by_cases c:↑n=↑i
    .rw[<-c,q2V,rD c];simp
    .rw[rC c];simp[c]
   rw[Z] at this;exact this
  |lst i=>erw[Is] at f;let⟨b,G,rfl,w,z⟩:=f;cases g;let⟨h,r,F⟩:=eQ I w;erw[dEq];exact SeqAt.RcNeAt.tuple_list o F l
  |non=>cases(show u=.non from f);cases g;erw[dEq];exact SeqAt.RcNeAt.tuple_none o l
  |bl b=>cases(show u=.bl b from f);cases g;erw[dEq];exact SeqAt.RcNeAt.tuple_bool _ o l
  |int b=>cases(show u=.int b from f);let⟨t,rfl⟩:=g;erw[dEq];exact SeqAt.RcNeAt.tuple_int _ _ o l
  |str b=>cases(show u=.str b from f);let⟨t,rfl⟩:=g;erw[dEq];exact SeqAt.RcNeAt.tuple_str _ _ o l
 |lst n =>
  let L:bE n<=59:=by erw[dep] at hd;symm
  erw[Is] at B;let⟨a,q,rfl,k,J⟩:=B;cases K
  let⟨m,C,o⟩:=eQ I k
  cases e with
  |lst i =>
   erw[Is] at f;let⟨b,G,rfl,w,z⟩:=f;cases g
   let⟨h,r,F⟩:=eQ I w;let M:m.toArray.size=↑n:=by rw[KD,<-↑C,↑J]
   let O:h.toArray.size=↑i:=by rw[KD,<-↑r,↑z]
   by_cases c:↑n=↑i
   .let:=SeqAt.RcNeAt.lists o F (by rw[M,O];calc c) l (E C r L J z)
    rw[M,rD c] at this;erw[dEq];exact this
   .erw[dEq];rw[rC c]
    exact SeqAt.RcNeAt.lists_lengths o F (by rw[M,O];simpa using c) l
  |tup i=>erw[Is] at f;let⟨b,G,rfl,w,z⟩:=f;cases g;let⟨h,r,F⟩:=eS I w;erw[dEq];exact SeqAt.RcNeAt.list_tuple o F l
  |non=>cases(show u=.non from f);cases g;erw[dEq];exact SeqAt.RcNeAt.list_none o l
  |bl b=>cases(show u=.bl b from f);cases g;erw[dEq];exact SeqAt.RcNeAt.list_bool _ o l
  |int b=>cases(show u=.int b from f);let⟨t,rfl⟩:=g;erw[dEq];exact SeqAt.RcNeAt.list_int _ _ o l
  |str b=>cases(show u=.str b from f);let⟨t,rfl⟩:=g;erw[dEq];exact SeqAt.RcNeAt.list_str _ _ o l
 |non =>
  cases(show v=.non from B);cases K
  cases e with
  |non=>cases(show u=.non from f);cases g;erw[dEq];exact SeqAt.RcNeAt.none_none
  |bl b=>cases(show u=.bl b from f);cases g;erw[dEq];exact SeqAt.RcNeAt.none_bool _
  |int b=>cases(show u=.int b from f);let⟨t,rfl⟩:=g;erw[dEq];exact SeqAt.RcNeAt.none_int _ _
  |str b=>cases(show u=.str b from f);let⟨t,rfl⟩:=g;erw[dEq];exact SeqAt.RcNeAt.none_str _ _
  |tup i=>erw[Is] at f;let⟨a,q,rfl,k,_⟩:=f;cases g;let⟨_,_,p⟩:=eS I k;erw[dEq];exact SeqAt.RcNeAt.none_tuple p l
  |lst i=>erw[Is] at f;let⟨a,q,rfl,k,_⟩:=f;cases g;let⟨_,_,p⟩:=eQ I k;erw[dEq];exact SeqAt.RcNeAt.none_list p l
 |bl N =>
  cases(show v=.bl N from B);cases K
  cases e with
  |non=>cases(show u=.non from f);cases g;erw[dEq];exact SeqAt.RcNeAt.bool_none _
  |bl b=>cases(show u=.bl b from f);cases g;erw[dEq];exact SeqAt.RcNeAt.bool_bool _ _
  |int b=>cases(show u=.int b from f);let⟨t,rfl⟩:=g;erw[dEq];exact SeqAt.RcNeAt.bool_int _ _ _
  |str b=>cases(show u=.str b from f);let⟨t,rfl⟩:=g;erw[dEq];exact SeqAt.RcNeAt.bool_str _ _ _
  |tup i=>erw[Is] at f;let⟨a,q,rfl,k,_⟩:=f;cases g;let⟨_,_,p⟩:=eS I k;erw[dEq];exact SeqAt.RcNeAt.bool_tuple _ p l
  |lst i=>erw[Is] at f;let⟨a,q,rfl,k,_⟩:=f;cases g;let⟨_,_,p⟩:=eQ I k;erw[dEq];exact SeqAt.RcNeAt.bool_list _ p l
 |int N =>
  cases(show v=.int N from B);let⟨t0,rfl⟩:=K
  cases e with
  |non=>cases(show u=.non from f);cases g;erw[dEq];exact SeqAt.RcNeAt.int_none _ _
  |bl b=>cases(show u=.bl b from f);cases g;erw[dEq];exact SeqAt.RcNeAt.int_bool _ _ _
  |int b=>cases(show u=.int b from f);let⟨t,rfl⟩:=g;erw[dEq];exact SeqAt.RcNeAt.int_int _ _ _ _
  |str b=>cases(show u=.str b from f);let⟨t,rfl⟩:=g;erw[dEq];exact SeqAt.RcNeAt.int_str _ _ _ _
  |tup i=>erw[Is] at f;let⟨a,q,rfl,k,_⟩:=f;cases g;let⟨_,_,p⟩:=eS I k;erw[dEq];exact SeqAt.RcNeAt.int_tuple _ _ p l
  |lst i=>erw[Is] at f;let⟨a,q,rfl,k,_⟩:=f;cases g;let⟨_,_,p⟩:=eQ I k;erw[dEq];exact SeqAt.RcNeAt.int_list _ _ p l
 |str N =>
  cases(show v=.str N from B);let⟨t0,rfl⟩:=K
  cases e with
  |non=>cases(show u=.non from f);cases g;erw[dEq];exact SeqAt.RcNeAt.str_none _ _
  |bl b=>cases(show u=.bl b from f);cases g;erw[dEq];exact SeqAt.RcNeAt.str_bool _ _ _
  |int b=>cases(show u=.int b from f);let⟨t,rfl⟩:=g;erw[dEq];exact SeqAt.RcNeAt.str_int _ _ _ _
  |str b=>cases(show u=.str b from f);let⟨t,rfl⟩:=g;erw[dEq];exact SeqAt.RcNeAt.str_str _ _ _ _
  |tup i=>erw[Is] at f;let⟨a,q,rfl,k,_⟩:=f;cases g;let⟨_,_,p⟩:=eS I k;erw[dEq];exact SeqAt.RcNeAt.str_tuple _ _ p l
  |lst i=>erw[Is] at f;let⟨a,q,rfl,k,_⟩:=f;cases g;let⟨_,_,p⟩:=eQ I k;erw[dEq];calc SeqAt.RcNeAt.str_list _ _ p l
end
variable[a9]
noncomputable def intsOf:-D->Option (-Int)
 |[]=>ζ []
 |.int i::r=>match intsOf r with
  |some a=>ζ (i::a)
  |none=>η
 |_=>η
theorem j7:∀ns:-Int,intsOf (ns.map D.int)=ζ ns
 |[]=>Y
 |n::r=>by show(match intsOf (r.map D.int) with|some a=>ζ (n::a)|none=>η)=_;rw[j7 r]
theorem nr:∀{ds:-D}{ns:-Int},intsOf ds=ζ ns->ds=ns.map D.int
 |[],a,h=>by cases h;rfl
 |.int i::r,a,h=>by
  unfold intsOf at h;split at h
  .rename_i b e;cases h;rw[Uz,nr e]
  .cases h
 |.non::r,a,h=>by cases h
 |.bl _::r,a,h=>by cases h
 |.str _::r,a,h=>by cases h
 |.tup _::r,a,h=>by cases h
 |.lst _::r,a,h=>by cases h
theorem lB{F:Hp}:∀{ns:-Int}{vs:-V},ax F (ns.map D.int) vs->vs=ns.map V.int
 |[],b,h=>by erw[V8,ax] at h;exact h
 |n::r,b,h=>by
  erw[Uz,ax] at h;let⟨v,t,rfl,a,c⟩:=h;let a:v=.int n:=a;rw[lB c,a];rfl
theorem mB{F:Hp}:∀{ns:-Int},ax F (ns.map D.int) (ns.map V.int)
 |[]=>.nil
 |n::r=>.cons (show _=_ from Y) mB
theorem pE{F:Hp}:∀{as bs:-D}{us vs:-V},ax F as us->ax F bs vs->ax F (as++bs) (us++vs)
 |[],b,c,d,h,q=>by erw[ax] at h;subst h;exact q
 |a::r,b,c,d,h,q=>by
  erw[ax] at h;let⟨v,t,rfl,e,f⟩:=h;calc .cons e (pE f q)
theorem C7{F:Hp}:∀{as:-D}{us:-V}(n:Nat),ax F as us->ax F (as.take n) (us.take n)
 |e,b,0,_=>by rw[Wl,Wl];exact .nil
 |[],b,n+1,h=>by erw[ax] at h;subst h;exact .nil
 |a::r,b,n+1,h=>by
  erw[ax] at h;let⟨v,t,rfl,c,d⟩:=h;calc .cons c (C7 n d)
theorem C8{F:Hp}:∀{as:-D}{us:-V}(n:Nat),ax F as us->ax F (as.drop n) (us.drop n)
 |d,b,0,h=>h
 |[],b,n+1,h=>by erw[ax] at h;subst h;exact .nil
 |a::r,b,n+1,h=>by
  erw[ax] at h;let⟨v,t,rfl,e,c⟩:=h;calc C8 n c
theorem C9{F:Hp}:∀{as:-D}{us:-V}(n:Nat){d:D}{v:V},ax F as us->Is F d v->ax F (as.set n d) (us.set n v)
 |[],c,n,d,v,h,_=>by erw[ax] at h;subst h;exact .nil
 |a::r,c,0,d,v,h,q=>by
  erw[ax] at h;let⟨w,t,rfl,e,b⟩:=h;exact .cons q b
 |a::r,c,n+1,d,v,h,q=>by
  erw[ax] at h;let⟨w,t,rfl,e,b⟩:=h;calc .cons e (C9 n b q)
theorem C_{F:Hp}:∀{as:-D}{us:-V}(n:Nat),ax F as us->ax F (as.eraseIdx n) (us.eraseIdx n)
 |[],c,n,h=>by erw[ax] at h;subst h;exact .nil
 |a::r,c,0,h=>by
  erw[ax] at h;let⟨w,t,rfl,d,b⟩:=h;exact b
 |a::r,c,n+1,h=>by
  erw[ax] at h;let⟨w,t,rfl,d,b⟩:=h;calc .cons d (C_ n b)
theorem kD{F H:Hp}{p:U}{ds:-D}{vs:-V}(s:ba F H)(a:H p=η)(h:ax F ds vs):Is (Nw F H (upd H p (.lst vs))) (.lst ds) (.ref p):=by
 rw[Nw.upd s a];erw[Is];calc⟨p,vs,Y,cw,h.same (c_ (s.free a))⟩
theorem xa{F H:Hp}{p:U}{ds:-D}{vs:-V}(s:ba F H)(a:H p=η)(h:ax F ds vs):Is (Nw F H (upd H p (.tup vs))) (.tup ds) (.ref p):=by
 rw[Nw.upd s a];erw[Is];calc⟨p,vs,Y,cw,h.same (c_ (s.free a))⟩
theorem rE{F H:Hp}{d:D}{v:V}(s:ba F H)(h:Is F d v):Is (Nw F H H) d v:=by rw[Nw.refl s];calc h
def cQ:D->D->(D->Prop)->Prop
 |.int i,.int j,K=>K (.int (i+j))
 |.lst a,.lst b,K=>↑a+↑b<=1000/\K (.lst (a++b))
 |.tup a,.tup b,K=>(a≠[]/\↑a+↑b<=1000)/\K (.tup (a++b))
 |.str a,.str b,K=>↑a+↑b<=1000/\K (.str (a++b))
 |_,_,_=>False
def oI(f:Int->Int->D):D->D->(D->Prop)->Prop
 |.int i,.int j,K=>K (f i j)
 |_,_,_=>False
def cW(C:Int->Int->Prop)(f:Int->Int->D):D->D->(D->Prop)->Prop
 |.int i,.int j,K=>C i j/\K (f i j)
 |_,_,_=>False
def bO:D->D->(D->Prop)->Prop
 |.int i,.int j,K=>kj i j/\K (.int (i*j))
 |.lst a,.int j,K=>(-(2 ^ 63)<=j/\j<2 ^ 63/\↑a*j.toNat<=1000)/\K (.lst (VF j.toNat a).flatten)
 |_,_,_=>False
section
variable{X:Cx}
theorem t7{f:M->M->Sem M}{g:Int->Int->V}{h:Int->Int->D}(op:fA X f (mi g))(b:∀F i j,Is F (h i j) (g i j)):gC X f (oI h):=by
 ext a s c H x y v u Q I k l ⟨F,d,e,K,m,n,o,q,p⟩;unfold oI at q;split at q
 .rename_i i j
  exact op a s c H x y v u Q I k l ⟨i,j,n,o,p _ _ _ q (λ_ _ e=>e) (b _ i j)⟩
 .calc q.elim
theorem xb{f:M->M->Sem M}{C:Int->Int->Prop}{g:Int->Int->V}{h:Int->Int->D}(op:fA X f (rI C g))(b:∀F i j,Is F (h i j) (g i j)):gC X f (cW C h):=by
 ext a s c H x y v u Q I k l ⟨F,d,e,K,m,n,o,q,p⟩;unfold cW at q;split at q
 .rename_i i j
  exact op a s c H x y v u Q I k l ⟨i,j,n,o,q.1,p _ _ _ q.2 (λ_ _ e=>e) (b _ i j)⟩
 .calc q.elim
theorem t8:gC X (binaryOp .Add) cQ:=by
 ext c s w H x y v u Q I A B ⟨F,d,e,K,f,n,C,q,o⟩;unfold cQ at q;split at q
 .rename_i i j
  exact Bw c s w H x y v u Q I A B ⟨i,j,n,C,o _ _ _ q (λ_ _ e=>e) Y⟩
 .rename_i r k
  let⟨a,D,rfl,E,l⟩:=n;let⟨b,G,rfl,J,m⟩:=C;refine B5 c s w H _ _ v u Q I A B ⟨a,b,D,G,Y,Y,E,J,kY (by rw[↑l,↑m];calc q.1),λp t=>o _ _ _ q.2 (c_ t) (kD f t (pE l m))⟩
 .rename_i r k
  let g:Is F (.tup r) x:=n;let h:Is F (.tup k) y:=C;erw[Is] at g h;let⟨a,D,rfl,E,l⟩:=g;let⟨b,G,rfl,J,m⟩:=h;let L:D≠[]:=λz=>q.1.1 (XQ.mp (by rw[<-↑l,z];rfl));calc Kp c s w H _ _ v u Q I A B ⟨a,b,D,G,Y,Y,cF.of (f _ _ E),cF.of (f _ _ J),L,kY (by rw[↑l,↑m];calc q.1.2),λz=>?_,λz p t=>o _ _ _ q.2 (c_ t) (xa f t (pE l m))⟩;let:k=[]:=XQ.mp (by rw[<-↑m,z];rfl);subst this;calc o _ _ _ q.2 (λ_ _ e=>e) (rE f ?_);rw[dV];exact n
 .rename_i r k
  let g:x=.str r:=n;let h:y=.str k:=C;subst g h;exact Jy c s w H _ _ v u Q I A B ⟨r,k,Y,Y,kY q.1,o _ _ _ q.2 (λ_ _ e=>e) Y⟩
 .calc q.elim
theorem rF:gC X (binaryOp .Sub) (oI λi j=>.int (i-j)):=t7 Ji λ_ _ _=>Y
theorem xc:gC X (binaryOp .Mult) bO:=by
 ext b s f H x y v u Q I g h ⟨F,d,e,K,c,l,m,q,n⟩;unfold bO at q;split at q
 .rename_i i j
  exact Jj b s f H x y v u Q I g h ⟨i,j,l,m,q.1,n _ _ _ q.2 (λ_ _ e=>e) Y⟩
 .rename_i w j
  let⟨a,o,rfl,z,r⟩:=l;refine Kz b s f H _ _ v u Q I g h ⟨a,j,o,Y,m,z,q.1.1,q.1.2.1,kY (by rw[↑r];calc q.1.2.2),λp t=>n _ _ _ q.2 (c_ t) (kD c t ?_)⟩
  let:∀k:Nat,ax F (VF k w).flatten (VF k o).flatten:=λk=>by
   induction k with
   |zero=>exact .nil
   |succ k A=>rw[VM,VM,Yv,Yv];exact pE r A
  exact this _
 .calc q.elim
theorem Mq:gC X (binaryOp .Mod) (cW (λ_ j=>0<j) λi j=>.int (i%j)):=xb vS λ_ _ _=>Y
theorem Mr:gC X (binaryOp .Pow) (cW ir λi j=>.int (i ^ j.toNat)):=xb Jk λ_ _ _=>Y
def oEq:D->D->(D->Prop)->Prop:=λd e K=>dep d<=60/\K (.bl (dEq d e))
def fF:D->D->(D->Prop)->Prop:=λd e K=>dep d<=60/\K (.bl (!dEq d e))
theorem lC(j:X.A.units+64<cLine):gC X (compareOp .Eq) oEq:=by
 ext b s k H x y v u Q I c f ⟨F,d,e,K,a,g,h,q,i⟩;calc(w_ I 60 q.1 ⋯ (g.is a) (h.is a) c f).2 _ _ _ _ ⟨.bl _,H,I,Y,i _ _ _ q.2 (λ_ _ e=>e) Y⟩
theorem xf(j:X.A.units+64<cLine):gC X (compareOp .NotEq) fF:=by
 ext b s k H x y v u Q I c f ⟨F,d,e,K,a,g,h,q,i⟩;calc Mp I q.1 ⋯ (g.is a) (h.is a) c f _ _ _ _ ⟨.bl _,H,I,Y,i _ _ _ q.2 (λ_ _ e=>e) Y⟩
def oLt:D->D->(D->Prop)->Prop
 |.int i,.int j,K=>K (.bl (S (i<j)))
 |.tup a,.tup b,K=>match intsOf a,intsOf b with
  |some c,some d=>K (.bl (HT.lexLt c d))
  |_,_=>False
 |_,_,_=>False
theorem xg(J:X.A.units+64<cLine):gC X (compareOp .Lt) oLt:=by
 ext c s m H x y v u Q I n o ⟨F,d,e,K,f,k,l,q,p⟩;unfold oLt at q;split at q
 .rename_i i j
  exact Jl c s m H x y v u Q I n o ⟨i,j,k,l,p _ _ _ q (λ_ _ e=>e) Y⟩
 .rename_i M L
  split at q
  .rename_i t r C B
   rw[nr C] at k;rw[nr B] at l;let g:Is F (.tup (t.map D.int)) x:=k;let h:Is F (.tup (r.map D.int)) y:=l;erw[Is] at g h;let⟨a,N,rfl,w,E⟩:=g;let⟨b,O,rfl,z,G⟩:=h;rw[lB E] at w;rw[lB G] at z;exact Kn ⋯ c s m H _ _ v u Q I n o ⟨a,b,t,r,Y,Y,cF.of (f _ _ w),cF.of (f _ _ z),p _ _ _ q (λ_ _ e=>e) Y⟩
  .exact q.elim
 .calc q.elim
theorem De:gC X (compareOp .LtE) (oI λi j=>.bl (S (i<=j))):=t7 Jo λ_ _ _=>Y
theorem Df:gC X (compareOp .Gt) (oI λi j=>.bl (S (j<i))):=t7 Jp λ_ _ _=>Y
theorem Ms:gC X (compareOp .GtE) (oI λi j=>.bl (S (j<=i))):=t7 Jq λ_ _ _=>Y
def b6:D->D->(D->Prop)->Prop
 |.non,.non,K=>K (.bl θ)
 |.bl _,.non,K=>K (.bl ι)
 |.int _,.non,K=>K (.bl ι)
 |.str _,.non,K=>K (.bl ι)
 |.tup _,.non,K=>K (.bl ι)
 |.lst _,.non,K=>K (.bl ι)
 |_,_,_=>False
theorem Dg{F H:Hp}{d e:D}{x y:V}{K:D->Prop}(c:j2 F H d x)(g:j2 F H e y)(q:b6 d e K):y=.non/\K (.bl (S (x=.non))):=by
 unfold b6 at q;split at q
 .let:x=.non:=c;let f:y=.non:=g;subst this;exact⟨f,q⟩
 .rename_i b;let:x=.bl b:=c;let f:y=.non:=g;subst this;exact⟨f,q⟩
 .rename_i b;let:x=.int b:=c;let f:y=.non:=g;subst this;exact⟨f,q⟩
 .rename_i b;let:x=.str b:=c;let f:y=.non:=g;subst this;exact⟨f,q⟩
 .rename_i b;let c:Is F (.tup b) x:=c;erw[Is] at c;let⟨a,_,rfl,_⟩:=c;exact⟨g,q⟩
 .rename_i b;let⟨a,_,rfl,_⟩:=c;exact⟨g,q⟩
 .calc q.elim
def fO:D->D->(D->Prop)->Prop:=λd e K=>b6 d e λz=>match z with
 |.bl b=>K (.bl (!b))
 |_=>False
theorem Mt:gC X (compareOp .Is) b6:=by
 ext a s b H x y v u Q I c f ⟨F,d,e,K,g,h,i,q,j⟩;let⟨k,l⟩:=Dg h i q;calc Jr a s b H x y v u Q I c f ⟨k,j _ _ _ l (λ_ _ e=>e) Y⟩
theorem Mu:gC X (compareOp .IsNot) fO:=by
 ext a s b H x y v u Q I c f ⟨F,d,e,K,g,h,i,q,j⟩;let⟨k,l⟩:=Dg h i q;calc Js a s b H x y v u Q I c f ⟨k,j _ _ _ l (λ_ _ e=>e) Y⟩
def dn(b:Bool):D->D->(D->Prop)->Prop
 |d,.lst a,K=>bE a<=55/\K (.bl (if b then !(a.any λe=>dEq e d) else a.any λe=>dEq e d))
 |d,.tup a,K=>bE a<=55/\K (.bl (if b then !(a.any λe=>dEq e d) else a.any λe=>dEq e d))
 |_,_,_=>False
noncomputable def jz(H:Hp)(d:D)(u:M):Bool:=by
 classical calc if ∃e v,Is H e v/\RelV v u/\dEq e d=θ then θ else ι
theorem Dh{H:Hp}{d e:D}{v:V}{u:M}(h:Is H e v)(r:RelV v u):jz H d u=dEq e d:=by
 unfold jz;split
 .rename_i z
  let⟨f,a,b,c,q⟩:=z;let:a=v:=c.inj r;subst this;rw[Is.inj h b];exact q.symm
 .rename_i z
  cases q:dEq e d with
  |false=>rfl
  |true=>calc absurd ⟨e,v,h,r,q⟩ z
theorem rG{H:Hp}{d:D}:∀{es:-D}{vs:-V}{us:-M},ax H es vs->Vals vs us->us.any (jz H d)=es.any λe=>dEq e d
 |[],a,b,h,r=>by erw[ax] at h;subst h;cases r;rfl
 |e::j,a,b,h,r=>by
  erw[ax] at h;let⟨v,t,rfl,c,f⟩:=h
  cases r with
  |cons g i=>rw[We,We,Dh c g,rG f i]
theorem rH{b:a6}{j:St}{H:Hp}{s:L}(I:Inv X b j H s){A:Β}(c:A.units+60<cLine){d:D}{x:V}{w:M}(hd:Is H d x)(f:RelV x w):∀{es:-D}{vs:-V}{us:-M},bE es<=55->ax H es vs->Vals vs us->∀u∈us,q1r A s u w (jz H d u)
 |[],k,l,_,h,r=>by erw[ax] at h;subst h;cases r;ext u c;cases c
 |e::p,k,l,m,h,r=>by
  erw[ax] at h;let⟨v,t,rfl,g,n⟩:=h;erw[bE] at m
  cases r with
  |cons i o =>
   ext u a;rcases Uw.mp a with rfl|a
   .rw[Dh g i];exact(w_ I 55 ⋯ ⋯ g hd i f).1
   .calc rH I c hd f ⋯ n o u a
theorem oo(C:X.A.units+64<cLine):gC X (compareOp .In) (dn ι):=by
 ext k s D H x y v u Q I l m ⟨F,d,e,K,b,n,o,q,t⟩;unfold dn at q;split at q
 .rename_i z
  let⟨a,B,rfl,h,i⟩:=o;cases m
  let⟨c,r,p⟩:=eQ I h;let f:=i.same b;calc SeqAt.in_listAt (jz H d) p (λw j=>rH I (by rw[in1_units];symm) (n.is b) l q.1 f r w j⁻¹) ⟨.bl _,H,I,Y,?_⟩;rw[show c.toArray.any (jz H d)=c.any (jz H d) by simp,rG f r];exact t _ _ _ q.2 (λ_ _ e=>e) Y
 .rename_i z
  let g:Is F (.tup z) y:=o;erw[Is] at g;let⟨a,B,rfl,h,i⟩:=g;cases m
  let⟨c,r,p⟩:=eS I (b _ _ h);let f:=i.same b;calc SeqAt.in_tupleAt (jz H d) p (λw j=>rH I (by rw[in1_units];symm) (n.is b) l q.1 f r w j⁻¹) ⟨.bl _,H,I,Y,?_⟩;rw[show c.toArray.any (jz H d)=c.any (jz H d) by simp,rG f r];exact t _ _ _ q.2 (λ_ _ e=>e) Y
 .calc q.elim
theorem xh(C:X.A.units+64<cLine):gC X (compareOp .NotIn) (dn θ):=by
 ext k s D H x y v u Q I l m ⟨F,d,e,K,b,n,o,q,t⟩;unfold dn at q;split at q
 .rename_i z
  let⟨a,B,rfl,h,i⟩:=o;cases m
  let⟨c,r,p⟩:=eQ I h;let f:=i.same b;calc SeqAt.notIn_listAt (jz H d) p (λw j=>rH I (by rw[in1_units];symm) (n.is b) l q.1 f r w j⁻¹) ⟨.bl _,H,I,Y,?_⟩;rw[show c.toArray.any (jz H d)=c.any (jz H d) by simp,rG f r];exact t _ _ _ q.2 (λ_ _ e=>e) Y
 .rename_i z
  let g:Is F (.tup z) y:=o;erw[Is] at g;let⟨a,B,rfl,h,i⟩:=g;cases m
  let⟨c,r,p⟩:=eS I (b _ _ h);let f:=i.same b;calc SeqAt.notIn_tupleAt (jz H d) p (λw j=>rH I (by rw[in1_units];symm) (n.is b) l q.1 f r w j⁻¹) ⟨.bl _,H,I,Y,?_⟩;rw[show c.toArray.any (jz H d)=c.any (jz H d) by simp,rG f r];exact t _ _ _ q.2 (λ_ _ e=>e) Y
 .calc q.elim
def bc:D->D->(D->Prop)->Prop
 |.lst a,.int i,K=>match eW a i with
  |some d=>K d
  |none=>False
 |.tup a,.int i,K=>match eW a i with
  |some d=>K d
  |none=>False
 |.str z,.int i,K=>↑z<=1000/\match eW z.cps.toList i with
  |some c=>K (.str ⟨#[c]⟩)
  |none=>False
 |_,_,_=>False
theorem Di{F:Hp}{ds:-D}{vs:-V}{i:Int}{d:D}(h:ax F ds vs)(e:eW ds i=ζ d):∃v,eW vs i=ζ v/\Is F d v:=by
 unfold eW at e ⊢;rw[↑h]
 cases q:i_ ↑ds i with
 |none=>rw[q] at e;cases e
 |some j =>
  rw[q] at e;calc pB h (show ds[j]?=ζ d from e)
theorem dX:CP X bc:=by
 ext b f g s l H x y v u Q I m n ⟨F,d,e,K,j,o,p,q,r⟩ t;unfold bc at q;split at q
 .rename_i G i
  split at q
  .rename_i J k
   let⟨a,A,rfl,B,C⟩:=o;let⟨w,D,E⟩:=Di C k;exact iw b f g s l H _ _ v u Q I m n ⟨a,A,i,w,Y,p,bS.of B,D,r _ _ _ q (λ_ _ e=>e) (rE j E)⟩ t
  .exact q.elim
 .rename_i G i
  split at q
  .rename_i J k
   let h:Is F (.tup G) x:=o;erw[Is] at h;let⟨a,A,rfl,B,C⟩:=h;let⟨w,D,E⟩:=Di C k;exact lb b f g s l H _ _ v u Q I m n ⟨a,A,i,w,Y,p,cF.of (j _ _ B),D,r _ _ _ q (λ_ _ e=>e) (rE j E)⟩ t
  .exact q.elim
 .rename_i z i
  let⟨L,q⟩:=q;split at q
  .rename_i c k
   let h:x=.str z:=o;subst h;exact BU b f g s l H _ _ v u Q I m n ⟨z,i,c,Y,p,kY L,k,r _ _ _ q (λ_ _ e=>e) Y⟩ t
  .exact q.elim
 .calc q.elim
noncomputable def cutD(ds:-D)(a b:Option Int):-D:=(ds.drop (HT.bM ↑ds 0 a)).take (HT.bM ↑ds ↑ds b-HT.bM ↑ds 0 a)
theorem Dj{F:Hp}{ds:-D}{vs:-V}(h:ax F ds vs)(a b:Option Int):ax F (cutD ds a b) (eF vs a b):=by
 unfold cutD eF;rw[↑h];calc C7 _ (C8 _ h)
abbrev WO:=aH->(Option Int->aH->Prop)->Prop
def t9(f:WO):TO:=λe H Q=>∃F g c K,SR F g c e H/\f c K/\∀o a,K o a->∀h b d,Ext F g c.mu H h b a.mu d->SR h b a e d->Q o d
def b8:WO:=λa K=>K η a
def eZ(f:WE):WO:=λb K=>f b λx a=>match x with
 |.p (.int i)=>K (ζ i) a
 |_=>False
theorem xi:PO X η (t9 b8):=λa s b H Q I ⟨F,c,d,K,S,q,k⟩↦BQ a s b H Q I (k _ _ q _ _ _ .refl S)
theorem xj{e:J}{f:WE}(h:JE X e (tD f)):PO X (ζ e) (t9 (eZ f)):=λa s c H Q I ⟨F,d,g,K,S,q,k⟩↦tF h a s c H Q I ⟨F,d,g,_,S,q,λx j b v p l r m n o=>by
 split at b
 .rename_i i
  exact⟨i,o,k _ _ b _ _ _ m n⟩
 .calc b.elim⟩
def gG:D->Option Int->Option Int->(D->Prop)->Prop
 |.lst a,b,c,K=>K (.lst (cutD a b c))
 |.tup a,b,c,K=>¬ (HT.bM ↑a 0 b=0/\HT.bM ↑a ↑a c=↑a)/\K (.tup (cutD a b c))
 |_,_,_,_=>False
def gN(f:WE)(l h:WO):WE:=λe K=>f e λx b=>l b λg c=>h c λi a=>dH x a λd=>gG d g i λz=>K (.p z) a
def c6:D->(D->Prop)->Prop
 |.lst a,K=>K (.lst a.reverse)
 |_,_=>False
def c7:D->(D->Prop)->Prop
 |.int i,K=>K (.int (-(i:Int)))
 |_,_=>False
def gm(f g h:WE)(o o':D->D->(D->Prop)->Prop):WE:=λj K=>f j λx i=>g i λy a=>dH x a λd=>dH y a λe=>o d e λz=>match z with
 |.bl true=>h a λw b=>dH y b λk=>dH w b λc=>o' k c λl=>K (.p l) b
 |.bl false=>K (.p (.bl ι)) a
 |_=>False
theorem Mv{a b c:υ}{f g h:WE}{op i:CmpOp}{o o':D->D->(D->Prop)->Prop}{pos:Ε}(N:gC X (compareOp op) o)(r:gC X (compareOp i) o')(O:JE X a (tD f))(P:JE X b (tD g))(R:JE X c (tD h))
  (T:autoParam (lastMarks [op,i] [b,c]=ι) qz6._auto_1):JE X (.Compare a [op,i] [b,c] pos) (tD (gm f g h o o')) :=
 (Jx N r O P R T).weak fun σ H Q ⟨F,U,V,K,S,q,k⟩=>by
  calc⟨F,U,V,_,S,q,λx s W v1 Y t H1 I Z V1=>⟨Y,t,s,_,Z,W,λy u h2 v2 F2 A H2 B l J=>?_⟩⟩;let⟨d,h3,rd⟩:=kX l (V1.ext B) h2;let⟨e,h4,re⟩:=kX l J h3;calc⟨F2,d,e,_,l.sub,rd,re,h4,λz v H' j m p=>?_⟩;let L:=l.al m;let C:=Ext.al l m;split at j
  .refine⟨θ,p,?_⟩
   rw[VD rfl];calc⟨_,A,u,_,L,j,λw δ4 h5 v4 F4 CY H4 M n V4=>?_⟩;let⟨d',h6,E⟩:=kX n ((J.ext C).ext M) h5;let⟨e',h7,G⟩:=kX n V4 h6;exact⟨F4,d',e',_,n.sub,E,G,h7,λz v H' j m p=>k _ _ j _ _ _ _ ((((I.trans B).trans C).trans M).trans (Ext.al n m)) (n.al m) p⟩
  .refine⟨ι,p,?_⟩
   rw[VB Wn];exact k _ _ j _ _ _ _ ((I.trans B).trans C) L rfl
  .calc j.elim
end
noncomputable def sortI(ns:-Int):-Int:=ns.mergeSort λa b=>S (a<=b)
theorem sortI_perm(ns:-Int):(sortI ns).Perm ns:=List.mergeSort_perm ns _
theorem Dl(ns:-Int):(sortI ns).Pairwise (· <= ·):=by
 let:=List.pairwise_mergeSort (le:=λa b:Int=>S (a<=b)) (λa b c d e=>by simp at *;symm) (λa b=>by simp;symm) ns;calc this.imp λh=>by simpa using h
theorem Dp:∀{as bs:-Int},as.Perm bs->as.Pairwise (· <= ·)->bs.Pairwise (· <= ·)->as=bs
 |[],d,p,_,_=>p.nil_eq
 |a::c,[],p,_,_=>absurd p.length_eq (by simp)
 |a::c,b::d,p,s,t=>by
  let e:a=b:=by
   let i:a<=b:=by
    let f:b∈a::c:=p.mem_iff.mpr (Ux ..);rcases Uw.mp f with h|h
    .omega
    .exact (Xt.mp s).1 b h
   let j:b<=a:=by
    let g:a∈b::d:=p.mem_iff.mp (Ux ..);rcases Uw.mp g with h|h
    .omega
    .exact (Xt.mp t).1 a h
   symm
  subst e;rw[Dp (List.perm_cons a |>.mp p) (Xt.mp s).2 (Xt.mp t).2]
theorem oq{as bs:-Int}(p:as.Perm bs)(s:as.Pairwise (· <= ·)):as=sortI bs:=Dp (p.trans (sortI_perm bs).symm) s (Dl bs)
theorem xk(ns:-Int):↑(sortI ns)=↑ns:=(sortI_perm ns).length_eq
def bC:-D->(D->Prop)->Prop
 |[.lst a],K=>K (.int ↑a)
 |[.tup a],K=>K (.int ↑a)
 |[.str z],K=>↑z<=1000/\K (.int ↑z)
 |_,_=>False
def e7:-D->(D->Prop)->Prop
 |[.lst a],K=>K (.lst a)
 |[.tup a],K=>K (.lst a)
 |_,_=>False
def fP:-D->(D->Prop)->Prop
 |[.lst a],K=>K (.tup a)
 |[.tup a],K=>K (.tup a)
 |_,_=>False
def kE:-D->(D->Prop)->Prop
 |[.lst b],K=>match intsOf b with
  |some a=>↑a<64/\K (.lst ((sortI a).map D.int))
  |none=>False
 |_,_=>False
noncomputable def pF:-D->Option (-Bool)
 |[]=>ζ []
 |.bl b::r=>match pF r with
  |some a=>ζ (b::a)
  |none=>η
 |_=>η
theorem Dq:∀bs:-Bool,pF (bs.map D.bl)=ζ bs
 |[]=>Y
 |n::r=>by show(match pF (r.map D.bl) with|some a=>ζ (n::a)|none=>η)=_;rw[Dq r]
theorem Dr:∀{ds:-D}{bs:-Bool},pF ds=ζ bs->ds=bs.map D.bl
 |[],a,h=>by cases h;rfl
 |.bl i::r,a,h=>by
  unfold pF at h;split at h
  .rename_i b e;cases h;rw[Uz,Dr e]
  .cases h
 |.non::r,a,h=>by cases h
 |.int _::r,a,h=>by cases h
 |.str _::r,a,h=>by cases h
 |.tup _::r,a,h=>by cases h
 |.lst _::r,a,h=>by cases h
theorem Ds{F:Hp}:∀{bs:-Bool}{vs:-V},ax F (bs.map D.bl) vs->vs=bs.map V.bl
 |[],b,h=>by erw[V8,ax] at h;exact h
 |n::r,b,h=>by
  erw[Uz,ax] at h;let⟨v,t,rfl,a,c⟩:=h;let a:v=.bl n:=a;rw[Ds c,a];rfl
def cI:-D->(D->Prop)->Prop
 |[.lst a],K=>match pF a with
  |some b=>K (.bl (b.all id))
  |none=>False
 |_,_=>False
def fQ:-D->(D->Prop)->Prop
 |[.int i,.int j],K=>K (.int (min i j))
 |_,_=>False
def f9:-D->(D->Prop)->Prop
 |[.int i,.int j],K=>K (.int (max i j))
 |_,_=>False
section
variable{X:Cx}
theorem iC{F H:Hp}{d:D}{xs:-V}(h:jM F H [d] xs):∃v,xs=[v]/\j2 F H d v:=by
 let⟨v,r,rfl,b,a⟩:=h;let a:r=[]:=a;subst a;calc⟨v,Y,b⟩
theorem Dt{F H:Hp}{d e:D}{xs:-V}(h:jM F H [d,e] xs):∃v w,xs=[v,w]/\j2 F H d v/\j2 F H e w:=by
 let⟨v,r,rfl,a,b⟩:=h;let⟨w,rfl,c⟩:=iC b;calc⟨v,w,Y,a,c⟩
theorem ot:eH X (.builtin "len") bC:=by
 ext b s c H n d Q I r ⟨F,o,K,f,g,q,i⟩;unfold bC at q;split at q
 .let⟨v,rfl,a,j,rfl,k,l⟩:=iC g
  exact BW b s c H _ d Q I r ⟨a,j,Y,.inl (bS.of k),by rw[↑l];calc i _ _ _ q (λ_ _ e=>e) Y⟩
 .rename_i m
  let⟨v,rfl,h⟩:=iC g;let h:Is F (.tup m) v:=h;erw[Is] at h;let⟨a,j,rfl,k,l⟩:=h;exact BW b s c H _ d Q I r ⟨a,j,Y,.inr (cF.of (f _ _ k)),by rw[↑l];calc i _ _ _ q (λ_ _ e=>e) Y⟩
 .rename_i z
  let⟨v,rfl,h⟩:=iC g;let h:v=.str z:=h;subst h;exact Kv b s c H _ d Q I r ⟨z,Y,kY q.1,i _ _ _ q.2 (λ_ _ e=>e) Y⟩
 .calc q.elim
theorem t_:eH X (.type "list") e7:=by
 ext b s i H o j Q I r ⟨F,p,K,c,k,q,m⟩;unfold e7 at q;split at q
 .let⟨v,rfl,a,e,rfl,f,g⟩:=iC k
  exact qE b s i H _ j Q I r ⟨a,e,Y,.inl (bS.of f),λl d=>m _ _ _ q (c_ d) (kD c d g)⟩
 .rename_i n
  let⟨v,rfl,h⟩:=iC k;let h:Is F (.tup n) v:=h;erw[Is] at h;let⟨a,e,rfl,f,g⟩:=h;exact qE b s i H _ j Q I r ⟨a,e,Y,.inr (cF.of (c _ _ f)),λl d=>m _ _ _ q (c_ d) (kD c d g)⟩
 .calc q.elim
theorem Mw:eH X (.type "tuple") fP:=by
 ext b s g H t i Q I r ⟨F,u,K,c,j,q,k⟩;unfold fP at q;split at q
 .let⟨v,rfl,a,d,rfl,f,m⟩:=iC j
  exact BX b s g H _ i Q I r ⟨a,d,Y,.inl ⟨bS.of f,λl n=>k _ _ _ q (c_ n) (xa c n m)⟩⟩
 .rename_i o
  let⟨v,rfl,h⟩:=iC j;let p:Is F (.tup o) v:=h;let h:Is F (.tup o) v:=h;erw[Is] at h;let⟨a,d,rfl,f,m⟩:=h;exact BX b s g H _ i Q I r ⟨a,d,Y,.inr ⟨cF.of (c _ _ f),k _ _ _ q (λ_ _ e=>e) (rE c p)⟩⟩
 .calc q.elim
theorem rJ:eH X (.builtin "sorted") kE:=by
 ext b s h H t i Q I r ⟨F,u,K,c,j,q,k⟩;unfold kE at q;split at q
 .rename_i w
  split at q
  .rename_i m e
   let⟨v,rfl,a,x,rfl,d,f⟩:=iC j;rw[nr e] at f;rw[lB f] at d;calc LL b s h H _ i Q I r ⟨a,m,Y,bS.of d,q.1,λl n o p g=>?_⟩;rw[oq o p];exact k _ _ _ q.2 (c_ g) (kD c g mB)
  .exact q.elim
 .calc q.elim
theorem Mx(f:X.calm=θ):eH X (.builtin "all") cI:=by
 ext b s g H m h Q I r ⟨F,n,K,i,j,q,k⟩;unfold cI at q;split at q
 .rename_i o
  split at q
  .rename_i l e
   let⟨v,rfl,a,p,rfl,c,d⟩:=iC j;rw[Dr e] at d;rw[Ds d] at c;exact LB f b s g H _ h Q I r ⟨a,l,Y,bS.of c,k _ _ _ q (λ_ _ e=>e) Y⟩
  .exact q.elim
 .calc q.elim
theorem Mz(d:X.calm=θ):eH X (.builtin "min") fQ:=by
 ext a s f H m g Q I r ⟨F,n,K,h,k,q,l⟩;unfold fQ at q;split at q
 .rename_i i j
  let⟨v,w,rfl,b,c⟩:=Dt k;let b:v=.int i:=b;let c:w=.int j:=c;subst b c;calc JB d a s f H _ g Q I r ⟨i,j,Y,?_⟩;let:(if j<i then j else i)=min i j:=by split<;>symm
  rw[this];exact l _ _ _ q (λ_ _ e=>e) Y
 .calc q.elim
theorem MA(d:X.calm=θ):eH X (.builtin "max") f9:=by
 ext a s f H m g Q I r ⟨F,n,K,h,k,q,l⟩;unfold f9 at q;split at q
 .rename_i i j
  let⟨v,w,rfl,b,c⟩:=Dt k;let b:v=.int i:=b;let c:w=.int j:=c;subst b c;calc Jz d a s f H _ g Q I r ⟨i,j,Y,?_⟩;let:(if j>i then j else i)=max i j:=by split<;>symm
  rw[this];exact l _ _ _ q (λ_ _ e=>e) Y
 .calc q.elim
def ft(b:WA):WE:=λc K=>b c λd a=>match d with
 |[.p (.int j)]=>(0<=j/\j<=1000)/\K (.p (.lst (dm 0 j.toNat))) a
 |_=>False
theorem ou(n:Nat):dm 0 n=(bK n).map D.int:=by
 unfold dm bK;rw[VU];calc W6 λi _=>?_;show D.int (0+(i:Int))=D.int (i:Int);rw[q2U]
theorem xl{a:υ}{x:WA}{A g B h:Ε}(C:X.calm=θ)(i:Gl X "list")(c:X.mg "list" = η)(m:bootBuiltins "list" = ζ (.type "list"))(n:Gl X "range")(E:X.mg "range" = η)(o:bootBuiltins "range" = ζ (.type "range"))(G:JA X [a] (cX x))
  (he:‹starEach [a] X.env=[(ι,eval a X.env)]›) (p:‹starEach [.Call (.Name "range" g) [a] [] h] X.env=[(ι,eval (.Call (.Name "range" g) [a] [] h) X.env)]›):JE X (.Call (.Name "list" A) [.Call (.Name "range" g) [a] [] h] [] B) (tD (ft x)) :=
 (ml (LI C) i c m (jK (ml LH n E o G (he:=he)) bY) (he:=p)).weak λT H Q ⟨F,I,J,K,S,q,k⟩=>⟨F,I,J,_,S,q,λU L f W M N b O y P=>by
  split at f
  .rename_i j
   let⟨v,r,e,s,t⟩:=P;let t:r=[]:=t;let s:v=.int j:=s;subst t s e;calc⟨j,Y,λd u=>⟨d,j.toNat,Y,by rw[cw,Int.toNat_of_nonneg f.1.1],⋯,λl c=>?_⟩⟩;let z:ba b (upd b d (.rng 0 j)):=c_ u;let w:=y.al z;let R:=Ext.al y z;calc k _ _ f.2 _ _ _ _ ((O.trans R).trans (Ext.al w (c_ c))) (w.al (c_ c)) ?_;let:Is (Nw (Nw M b (upd b d (.rng 0 j))) (upd b d (.rng 0 j)) (upd (upd b d (.rng 0 j)) l (.lst ((bK j.toNat).map V.int)))) (.lst ((bK j.toNat).map D.int)) (.ref l):=kD w.sub c mB;rw[ou];exact this
  .calc f.elim⟩
def cf(T:String):D->(D->Prop)->Prop:=λd K=>K (.bl (fJ (iz d) T))
theorem ua{T:String}{t:R}{a:J}{f:WE}{p b pos:Ε}(l:∀d:D,X9 X.K (.type (iz d)) (.type T)=ζ (fJ (iz d) T))(m:Gl X "isinstance")(n:X.mg "isinstance" = η)(c:Gl X t)(e:X.mg t=η)(g:bootBuiltins t=ζ (.type T))(o:JE X a (tD f))
  (h:t≠"__name__" := by decide) (i: ~~~(cy t)) (he:‹starEach [a,.Name t b] X.env=(ι,eval a X.env)::starEach [.Name t b] X.env›):JE X (.Call (.Name "isinstance" p) [a,.Name t b] [] pos) (tD (d1 f (cf T))) :=
 (o9 K7 m n PyProof.Rows.boot_isinstance (km o (jJ (IH c e g (v:=.ty T) Y h i) bY) he) (he:=he)).weak λE H Q ⟨F,r,s,K,S,q,k⟩↦⟨F,r,s,_,S,q,λx u w v G y I z j A=>by
  let⟨d,B,C⟩:=kX j A w
  calc⟨v,.ty T,.type T,.type (iz d),_,Y,Y,Is.ty (C.is j.sub),l d,k _ _ B _ _ _ _ z j Y⟩⟩
theorem MB{K:KC}:∀d:D,X9 K (.type (iz d)) (.type "int")=ζ (fJ (iz d) "int"):=λd=>K9 _ (tJ d)
theorem MC{K:KC}:∀d:D,X9 K (.type (iz d)) (.type "bool")=ζ (fJ (iz d) "bool"):=λd=>K8 _ (tJ d)
theorem MD{K:KC}:∀d:D,X9 K (.type (iz d)) (.type "tuple")=ζ (fJ (iz d) "tuple"):=λd=>kit_tuple _ (tJ d)
theorem ME{K:KC}:∀d:D,X9 K (.type (iz d)) (.type "list")=ζ (fJ (iz d) "list"):=λd=>K_ _ (tJ d)
def bR(x:DV)(c:aH)(K:Nat->(-D->OV)->-D->Prop):Prop:=match x with
 |.o k=>match c.mu[k]? with
  |some (some (.lst b))=>K k OV.lst b
  |some (some (.al a b))=>K k (OV.al a) b
  |_=>False
 |_=>False
theorem oy{F H:Hp}{f:-U}{g:aH}{q:St}{x:DV}{v:V}{K:Nat->(-D->OV)->-D->Prop}(S:SR F f g q H)(p:eN F f x v)(h:bR x g K):∃k B ds a vs,x=.o k/\K k B ds/\v=.ref a/\f[k]?=ζ a/\H a=ζ (.lst vs)/\ax F ds vs/\g.mu[k]?=ζ (ζ (B ds))/\∀{F' es us},ax F' es us->fB F' a (B es) (.lst us):=by
 unfold bR at h;split at h
 .rename_i k
  split at h
  .rename_i j e
   let⟨a,c,rfl⟩:=p;let⟨a',o,d,m,l,rfl,n⟩:=S.mu k _ e;rw[c] at d;cases d;exact⟨k,_,j,a,l,Y,h,Y,c,m,n,e,λi=>⟨_,Y,i⟩⟩
  .rename_i b j e
   let⟨a,c,rfl⟩:=p;let⟨a',o,d,m,z,l,rfl,n⟩:=S.mu k _ e;rw[c] at d;cases d;exact⟨k,_,j,a,l,Y,h,Y,c,m,n,e,λi=>⟨z,_,Y,i⟩⟩
  .exact h.elim
 .calc h.elim
def bU(f:WE)(g:WA):WE:=λh K=>f h λx b=>bR x b λ_ _ _=>g b λi c=>match i with
 |[y]=>eg y c λd a=>bR x a λk B e=>↑e<1000/\K (.p .non) ⟨a.sl,a.mu.set k (ζ (B (e++[d])))⟩
 |_=>False
theorem oz{f:WE}{n:WA}{K0:KC}:∀g H Q,tD (bU f n) g H Q->o_ K0 "list" wk (tD f) (cX n) g H Q:=λg H Q ⟨F,D,E,K,S,q,k⟩=>⟨F,D,E,_,S,q,λx h G v I i H1 J p s=>by
 let⟨k0,B0,L,a,M,rfl,N,rfl,e1,O,i1,m1,P⟩:=oy p s G;refine⟨.inl ⟨rfl,M,bS.of O⟩,I,i,h,_,p,N,λR T U us F2 V H2 t X Y=>?_⟩
 match R,U,Y with
 |[y],c,⟨u,r,e,Z,W2⟩ =>
  let W3:r=[]:=W2;subst W3 e;let⟨d,δ3,F3,h4,w,j,i3⟩:=n_ X Z c;let⟨k1,B,ds,b,ws,ek,h5,eb,z,e4,A,C,l⟩:=oy (x:=.o k0) j ((s.ext t).ext w) h4;cases ek
  let m:a=b:=by injection eb
  subst m;let oi:=l (F':=F3) (A.snoc i3);calc⟨a,ws,u,rfl,rfl,e4,kW (by rw[↑A];symm),?_⟩;exact k _ _ h5.2 _ _ _ _ (((J.trans t).trans w).trans (Ext.put j C z)) (j.put C z oi) rfl
 |[],c,_=>exact c.elim
 |_::_::_,c,_=>calc c.elim⟩
def cJ(f:WE)(e:WA):WE:=λg K=>f g λx b=>bR x b λ_ _ _=>e b λh a=>match h with
 |[.p (.lst c)]=>bR x a λk B d=>↑d+↑c<=1000/\K (.p .non) ⟨a.sl,a.mu.set k (ζ (B (d++c)))⟩
 |_=>False
theorem Du{f:WE}{m:WA}{K0:KC}:∀d H Q,tD (cJ f m) d H Q->o_ K0 "list" B2 (tD f) (cX m) d H Q:=λd H Q ⟨F,E,G,K,S,q,k⟩=>⟨F,E,G,_,S,q,λx g I v J h H1 L n p=>by
 let⟨k0,B0,M,a,N,rfl,O,rfl,e1,P,i1,m1,R⟩:=oy n p I;calc⟨.inl ⟨rfl,N,bS.of P⟩,J,h,g,_,n,O,λys T i us s U H2 t c V=>?_⟩;split at i
 .rename_i X
  let⟨u,r,e,Y,Z⟩:=V;let W3:r=[]:=Z;let w:Is s (.lst X) u:=Y;erw[Is] at w;let⟨b,zs,rfl,z1,y⟩:=w;subst W3 e;let⟨k1,B,ds,b',ws,ek,z,eb,A,e4,C,D,j⟩:=oy (x:=.o k0) c (p.ext t) i;cases ek
  let l:a=b':=by injection eb
  subst l;let oi:=j (F':=s) (pE C y);calc⟨a,b,ws,zs,rfl,rfl,e4,c.sub _ _ z1,kY (by rw[↑C,↑y];calc z.1),?_⟩;exact k _ _ z.2 _ _ _ _ ((L.trans t).trans (Ext.put c D A)) (c.put D A oi) rfl
 .calc i.elim⟩
def f_(f:WE)(e:WA):WE:=λg K=>f g λx b=>bR x b λ_ _ _=>e b λh a=>match h with
 |[.p (.int i)]=>bR x a λk B c=>(-(2 ^ 63)<=i/\i<2 ^ 63)/\match seqIndex? i ↑c with
  |some j=>match c[j]? with
   |some d=>K (.p d) ⟨a.sl,a.mu.set k (ζ (B (c.eraseIdx j)))⟩
   |none=>False
  |none=>False
 |_=>False
theorem MF{f:WE}{t:WA}{K0:KC}:∀c H Q,tD (f_ f t) c H Q->o_ K0 "list" B4 (tD f) (cX t) c H Q:=λc H Q ⟨F,G,I,K,S,q,k⟩=>⟨F,G,I,_,S,q,λx g J v L h H1 M y z=>by
 let⟨k0,B0,N,a,O,rfl,P,rfl,e1,R,i1,m1,T⟩:=oy y z J;calc⟨.inl ⟨rfl,O,bS.of R⟩,L,h,g,_,y,P,λys U l us V X H2 A m Y=>?_⟩;split at l
 .rename_i i
  let⟨u,r,e,Z,W2⟩:=Y;let W3:r=[]:=W2;let W4:u=.int i:=Z;subst W3 W4 e;let⟨k1,B,ds,b',ws,ek,⟨C,b⟩,eb,D,e4,n,E,p⟩:=oy (x:=.o k0) m (z.ext A) l;cases ek
  let s:a=b':=by injection eb
  subst s;split at b
  .rename_i j hj
   split at b
   .rename_i d hd
    let⟨w,g1,g2⟩:=pB n hd;let oi:=p (F':=V) (C_ j n);calc⟨a,ws,i,j,w,rfl,rfl,e4,C.1,C.2,by rw[↑n];calc hj,g1,?_⟩;exact k _ _ b _ _ _ _ ((M.trans A).trans (Ext.put m E D)) (m.put E D oi) g2
   .exact b.elim
  .exact b.elim
 .calc l.elim⟩
def c8(f:WE):WE:=λc K=>f c λx a=>bR x a λk B b=>match b[↑b-1]? with
 |some d=>K (.p d) ⟨a.sl,a.mu.set k (ζ (B b.dropLast))⟩
 |none=>False
def gP(f:WE):WE:=λb K=>f b λx a=>bR x a λk B _=>K (.p .non) ⟨a.sl,a.mu.set k (ζ (B []))⟩
def e8(f fo h:WE):WS:=λK l=>f l λx b=>fo b λo c=>h c λi e=>eg x e λd a=>bR o a λk B g=>match i with
 |.p (.int j)=>match i_ ↑g j with
  |some m=>K.nx ⟨a.sl,a.mu.set k (ζ (B (g.set m d)))⟩
  |none=>False
 |_=>False
theorem Dv[j3]{f fo t:WE}:∀D c H,eh (e8 f fo t) D c H->ki (tD f) (qo (tD fo) (tD t) BV) D c H:=λD c H ⟨F,C,E,K,S,q,k⟩=>⟨F,C,E,_,S,q,λx e G v I g H1 J L M=>⟨I,g,e,_,L,G,λo h N ov O l H2 u P Q=>⟨O,l,h,_,P,N,λi R T U F3 V H3 n W p=>by
 let⟨d,X,Y,Z,w,r,i4⟩:=n_ W ((M.ext u).ext n) T;let⟨k0,B,ds,a,vs,rfl,b,rfl,y,e2,z,A,s⟩:=oy r ((Q.ext n).ext w) Z;split at b
 .rename_i j
  split at b
  .rename_i m hm
   let p:U=.int j:=p;subst p;let oi:=s (F':=Y) (C9 m z i4);calc⟨a,vs,j,m,rfl,rfl,e2,by rw[↑z];calc hm,?_⟩;exact k.nx _ b _ _ _ _ ((((J.trans u).trans n).trans w).trans (Ext.put r A y)) (r.put A y oi)
  .exact b.elim
 .calc b.elim⟩⟩⟩
end
end L2
namespace L2
open PySem PySem.Spec PyProof.Rows PySem.W
abbrev LK:=-Int
def kle(a b:LK):Prop:=HT.lexLt b a=ι
theorem ub:∀a:LK,HT.lexLt a a=ι
 |[]=>Y
 |x::r=>by rw[HT.lV,VD Y];calc ub r
theorem uc:∀{a b:LK},HT.lexLt a b=ι->HT.lexLt b a=ι->a=b
 |[],[],_,_=>Y
 |[],_::_,h,_=>by cases h
 |_::_,[],_,h=>by cases h
 |x::r,y::s,h,q=>by
  rw[HT.lV] at h q
  by_cases c:x=y
  .subst c
   rw[VD Y] at h q;rw[uc h q]
  .rw[VB c] at h
   rw[VB (λz=>c z.symm)] at q;simp at h q;symm
theorem xm:∀{a b c:LK},HT.lexLt a b=θ->HT.lexLt b c=θ->HT.lexLt a c=θ
 |[],[],_,h,_=>by cases h
 |[],_::_,[],_,q=>by cases q
 |[],_::_,_::_,_,_=>Y
 |_::_,[],_,h,_=>by cases h
 |_::_,_::_,[],_,q=>by cases q
 |x::r,y::s,z::t,h,q=>by
  rw[HT.lV] at h q ⊢
  by_cases e:x=y
  .subst e
   rw[VD Y] at h
   by_cases d:x=z
   .subst d
    rw[VD Y] at q ⊢;exact xm h q
   .rw[VB d] at q ⊢;exact q
  .rw[VB e] at h
   by_cases d:y=z
   .subst d
    rw[VB e];exact h
   .rw[VB d] at q
    let f:x<y:=by simpa using h
    let g:y<z:=by simpa using q
    rw[VB ⋯];simp;symm
theorem kle_refl(a:LK):kle a a:=ub a
theorem oA{a b:LK}(h:HT.lexLt a b=θ):kle a b:=by
 unfold kle
 cases q:HT.lexLt b a with
 |false=>rfl
 |true=>let:=xm h q;rw[ub] at this;cases this
theorem kle_trans{a b c:LK}(g:kle a b)(d:kle b c):kle a c:=by
 unfold kle at *
 cases q:HT.lexLt c a with
 |false=>rfl
 |true =>
  cases f:HT.lexLt a b with
  |true=>let:=xm q f;rw[d] at this;cases this
  |false =>
   let e:=uc f g;subst e;rw[d] at q;cases q
theorem Dw{a b:LK}(c:kle a b)(d:kle b a):a=b:=uc d c
section
variable{n:Nat}{k:Nat->LK}{I:L->Prop}{cmp:Nat->Nat->(Bool->L->Prop)->L->Prop}
def nu(n:Nat)(k:Nat->LK)(I:L->Prop)(a:Nat->Nat->(Bool->L->Prop)->L->Prop):Prop :=
 ∀(i j:Nat)(C:Bool->L->Prop)(s:L),i<n->j<n->I s->(∀b,I b->C (HT.lexLt (k i) (k j)) b)->a i j C s
noncomputable def KA(k:Nat->LK)(p:Array Nat)(i:Nat):LK:=k (p.getD i 0)
structure e_(n:Nat)(p:Array Nat):Prop where
 perm:p.Perm (Wo n).toArray
theorem e_.size{p:Array Nat}(h:e_ n p):p.size=n:=by let:=h.perm.size_eq;simpa using this
theorem e_.lt{p:Array Nat}(h:e_ n p){i:Nat}(a:i<n):p.getD i 0<n:=by
 let b:=h.size;let e:p.getD i 0=p[i]:=by simp[q2p,b,a]
 rw[e];let:p[i]∈(Wo n).toArray:=(h.perm.mem_iff).mp (Array.getElem_mem _);simpa using this
theorem rK{p q:Array Nat}{i j:Nat}(h:p[i]?=q[j]?):p.getD i 0=q.getD j 0:=by
 rw[Xe,Xe,h]
theorem ud{p:Array Nat}{i j:Nat}(hj:j<=p.size)(t:Nat):KA k (kas_rev p i j) t=if i<=t/\t<j then KA k p (i+j-1-t) else KA k p t:=by
 let e:=getElem?_mirror_all (xs:=p) (i:=i) hj t;unfold KA kas_rev
 by_cases c:i<=t/\t<j
 .rw[VD c] at e ⊢;rw[rK e]
 .rw[VB c] at e ⊢;rw[rK e]
theorem MG{p:Array Nat}{src d:Nat}(hs:src<p.size)(hd:d<=src)(t:Nat):
  KA k (bubble p src d) t=if t=src-d then KA k p src else if src-d<t/\t<=src then KA k p (t-1) else KA k p t:=by
 let e:=getElem?_bubble hs d hd t;unfold KA
 by_cases c:t=src-d
 .rw[VD c] at e ⊢;rw[rK e]
 .rw[VB c] at e ⊢
  by_cases a:src-d<t/\t<=src
  .rw[VD a] at e ⊢;rw[rK e]
  .rw[VB a] at e ⊢;rw[rK e]
def Up(k:Nat->LK)(p:Array Nat)(m:Nat):Prop:=∀i j,i<=j->j<m->kle (KA k p i) (KA k p j)
def Dn(k:Nat->LK)(p:Array Nat)(m:Nat):Prop:=∀i j,i<=j->j<m->kle (KA k p j) (KA k p i)
theorem Up.snoc{p:Array Nat}{m:Nat}(h:Up k p m)(d:1<=m)(q:kle (KA k p (m-1)) (KA k p m)):Up k p (m+1):=λi j a f=>by
 by_cases c:j<m
 .exact h i j a c
 .let e:j=m:=by symm
  subst e
  by_cases b:i=j
  .subst b;exact kle_refl _
  .calc kle_trans (h i (j-1) ⋯ ⋯) q
theorem Dn.snoc{p:Array Nat}{m:Nat}(h:Dn k p m)(d:1<=m)(q:kle (KA k p m) (KA k p (m-1))):Dn k p (m+1):=λi j a f=>by
 by_cases c:j<m
 .exact h i j a c
 .let e:j=m:=by symm
  subst e
  by_cases b:i=j
  .subst b;exact kle_refl _
  .calc kle_trans q (h i (j-1) ⋯ ⋯)
theorem Up.one{p:Array Nat}:Up k p 1:=λi j a b=>by
 let:i=j:=by symm
 subst this;calc kle_refl _
theorem Dn.one{p:Array Nat}:Dn k p 1:=λi j a b=>by
 let:i=j:=by symm
 subst this;calc kle_refl _
theorem e_.rev{p:Array Nat}(h:e_ n p)(i j:Nat):e_ n (kas_rev p i j):=⟨(mirror_perm _ _ _ _).trans h.perm⟩
theorem e_.MH{p:Array Nat}(h:e_ n p)(i j:Nat):e_ n (bubble p i j):=⟨(bubble_perm _ _ _).trans h.perm⟩
theorem Dy(r:nu n k I cmp){p:Array Nat}(j:e_ n p):∀(f m:Nat)(s:L)(Q:Nat->L->Prop),1<=m->m+f=n->Up k p m->I s →
  (∀g s',m<=g->g<=n->Up k p g->I s'->Q g s')->(kas_asc p f m).kasWp cmp Q s
 |0,m,s,Q,u,v,i,l,e=>e m s (B8 _) ⋯ i l
 |f+1,m,s,Q,u,v,i,l,e=>by
  refine r _ _ _ s (j.lt ⋯) (j.lt ⋯) l λt h=>?_
  cases q:HT.lexLt (k (p.getD m 0)) (k (p.getD (m-1) 0)) with
  |true=>dsimp only;rw[VD Y];exact e m t (B8 _) ⋯ i h
  |false =>
   calc Dy r j f (m+1) t Q ⋯ ⋯ (i.snoc u q) h λg o a b c d=>e g o ⋯ b c d
def xn(k:Nat->LK)(p:Array Nat)(m q:Nat):Prop:=∀t,m-(q+1)<=t->t<m->KA k p t=KA k p (m-1)
theorem Dz{p:Array Nat}{m q:Nat}(hs:m<=p.size)(a:q+1<=m)(e:xn k p m q)(t:Nat):KA k (kas_rev p (m-(q+1)) m) t=KA k p t:=by
 rw[ud hs];split
 .rename_i c
  rw[e _ ⋯ ⋯,e t c.1 c.2]
 .rfl
theorem Dn.congr{p c:Array Nat}{m:Nat}(h:Dn k p m)(e:∀t,KA k c t=KA k p t):Dn k c m:=λi j a b=>by rw[e,e];calc h i j a b
theorem ue(x:nu n k I cmp):∀(f:Nat)(p:Array Nat)(m q:Nat)(s:ο)(Q:Array Nat×Nat×Nat->ο->Prop),e_ n p->1<=m->m+f=n->q+1<=m->Dn k p m->xn k p m q->I s →
  (∀r j u s',e_ n r->m<=j->j<=n->u+1<=j->Dn k r j->xn k r j u->I s'->Q (r,j,u) s')->(kas_desc f p m q).kasWp cmp Q s
 |0,p,m,q,s,Q,l,C,L,D,w,y,F,h=>h p m q s l (B8 _) ⋯ D w y F
 |f+1,p,m,q,s,Q,l,C,L,D,w,y,F,h=>by
  calc x _ _ _ s (l.lt ⋯) (l.lt ⋯) F λE v=>?_;let N:=l.size
  cases G:HT.lexLt (k (p.getD m 0)) (k (p.getD (m-1) 0)) with
  |true =>
   let H:kle (KA k p m) (KA k p (m-1)):=oA G
   by_cases A:q>0
   .rw[VD A]
    let e:=Dz (k:=k) (p:=p) (m:=m) (q:=q) ⋯ D y;calc ue x f _ (m+1) 0 E Q (l.rev _ _) ⋯ ⋯ ⋯ ((w.snoc C H).congr e) (λt a b=>?_) v λr j u o a b c d e g i=>h r j u o a ⋯ c d e g i;let:t=m+1-1:=by symm
    rw[this]
   .rw[VB A]
    calc ue x f p (m+1) 0 E Q l ⋯ ⋯ ⋯ (w.snoc C H) (λt a b=>?_) v λr j u o a b c d e g i=>h r j u o a ⋯ c d e g i;let:t=m+1-1:=by symm
    rw[this]
  |false =>
   refine x _ _ _ E (l.lt ⋯) (l.lt ⋯) v λJ B=>?_
   cases M:HT.lexLt (k (p.getD (m-1) 0)) (k (p.getD m 0)) with
   |true=>dsimp only;rw[VD Y];exact h p m q J l (B8 _) ⋯ D w y B
   |false =>
    let K:KA k p m=KA k p (m-1):=uc G M;calc ue x f p (m+1) (q+1) J Q l ⋯ ⋯ ⋯ (w.snoc C (by rw[K];calc kle_refl _)) (λt a b=>?_) B λr j u o a b c d e g i=>h r j u o a ⋯ c d e g i;show KA k p t=KA k p m
    by_cases z:t=m
    .rw[z]
    .rw[y t ⋯ ⋯,K]
theorem Dn.rev{p:Array Nat}{m:Nat}(h:Dn k p m)(hs:m<=p.size):Up k (kas_rev p 0 m) m:=λi j a b=>by
 rw[ud hs,ud hs,VD ⟨VX _,⋯⟩,VD ⟨VX _,b⟩];calc h _ _ ⋯ ⋯
theorem DA(i:nu n k I cmp){p:Array Nat}(f:e_ n p){m:Nat}{s:L}{Q:Nat×Array Nat->L->Prop}(j:1<=m)(r:m<=n)(l:Dn k p m)(o:I s)
  (h:∀g e s',e_ n g->1<=e->e<=n->Up k g e->I s'->Q (e,g) s'):(kas_tail3 m n p).kasWp cmp Q s:=by
 unfold kas_tail3;rw[KasT.kasWp_bind];let t:=f.size;calc Dy i (f.rev 0 m) (n-m) m s _ j ⋯ (l.rev ⋯) o λe q a b c d=>?_;calc h _ e q (f.rev 0 m) ⋯ b c d
theorem DB(l:nu n k I cmp){p:Array Nat}(q:e_ n p){m:Nat}{s:L}{Q:Nat×Array Nat->L->Prop}(w:1<=m)(x:m+1<=n)(r:Dn k p (m+1))(u:I s)
  (h:∀j f s',e_ n j->1<=f->f<=n->Up k j f->I s'->Q (f,j) s'):(kas_descPart m n p).kasWp cmp Q s:=by
 unfold kas_descPart;rw[KasT.kasWp_bind];refine ue l (n-(m+1)) p (m+1) 0 s _ q ⋯ ⋯ ⋯ r (λt a b=>?_) u λj f v y a b c d e g i=>?_
 .let:t=m+1-1:=by symm
  rw[this]
 .let z:=a.size
  dsimp only
  by_cases o:v>0
  .rw[VD o]
   exact DA l (a.rev _ _) ⋯ c (e.congr (Dz ⋯ d g)) i h
  .rw[VB o]
   calc DA l a ⋯ c e i h
theorem MI(y:nu n k I cmp){p:Array Nat}(o:e_ n p){s:ο}{Q:Nat×Array Nat->ο->Prop}(O:1<=n)(v:I s)
  (g:∀C h s',e_ n C->1<=h->h<=n->Up k C h->I s'->Q (h,C) s'):(kas_count n p).kasWp cmp Q s:=by
 unfold kas_count;rw[KasT.kasWp_bind];let P:=o.size
 let D:∀(f m:Nat)(s:ο)(w:Nat->ο->Prop),1<=m->m+f=n->Up k p m->I s →
   (∀h u,m<=h->h<=n->Up k p h->(h<n->HT.lexLt (KA k p h) (KA k p (h-1))=θ)->I u->w h u)->(kas_asc p f m).kasWp cmp w s:=by
  ext f
  induction f with
  |zero=>ext m s w a b r v g;exact g m s (B8 _) ⋯ r (λz=>absurd z ⋯) v
  |succ f J =>
   ext m s w a b r v g;refine y _ _ _ s (o.lt ⋯) (o.lt ⋯) v λu l=>?_
   cases q:HT.lexLt (k (p.getD m 0)) (k (p.getD (m-1) 0)) with
   |true=>dsimp only;rw[VD Y];exact g m u (B8 _) ⋯ r (λ_=>q) l
   |false =>
    exact J (m+1) u w ⋯ ⋯ (r.snoc a q) l λh E a b c d e=>g h E ⋯ b c d e
 refine D (n-1) 1 s _ (B8 _) ⋯ Up.one v λm u a b r A l=>?_
 by_cases G:m=n
 .subst G
  rw[VD (by simp)];exact g p m u o a (B8 _) r l
 .rw[VB G⁻¹]
  let F:m<n:=by symm
  let A:=A F
  by_cases H:m>1
  .rw[VD H]
   refine y _ _ _ u (o.lt ⋯) (o.lt ⋯) l λK x=>?_
   cases q:HT.lexLt (k (p.getD 0 0)) (k (p.getD (m-1) 0)) with
   |true=>dsimp only;exact g p m K o a b r x
   |false =>
    let B:∀t,t<m->KA k p t=KA k p (m-1):=λt L=>by
     refine Dw (r t (m-1) ⋯ ⋯) (kle_trans q (r 0 t (VX _) L))
    let e:∀t,KA k (kas_rev p 0 m) t=KA k p t:=λt=>by
     rw[ud ⋯];split
     .rename_i c;rw[B _ ⋯,B t c.2]
     .rfl
    calc DB y (o.rev 0 m) ⋯ ⋯ (Dn.congr (p:=p) ?_ e) x g;calc Dn.snoc (λi j M N=>?_) ⋯ (oA A);rw[B i ⋯,B j N];exact kle_refl _
  .rw[VB H]
   let:m=1:=by symm
   subst this;calc DB y o ⋯ ⋯ (Dn.one.snoc (B8 _) (oA A)) l g
theorem xo(v:nu n k I cmp){p:Array Nat}(h:e_ n p){t:Nat}(w:t<n)(j:Up k p t):∀(f l r:Nat)(s:L)(Q:Nat->L->Prop),l<=r->r<=t->r-l<=f →
  (∀i,i<l->kle (KA k p i) (KA k p t))->(∀i,r<=i->i<t->kle (KA k p t) (KA k p i))->I s →
  (∀l' s',l'<=t->(∀i,i<l'->kle (KA k p i) (KA k p t))->(∀i,l'<=i->i<t->kle (KA k p t) (KA k p i))->I s'->Q l' s')->(kas_place p t f l r).kasWp cmp Q s
 |0,l,r,s,Q,y,m,z,o,e,u,d=>by
  let:l=r:=by symm
  subst this;exact d l s m o e u
 |f+1,l,r,s,Q,y,m,z,o,e,u,d=>by
  unfold kas_place
  by_cases c:l ≥ r
  .rw[VD c]
   let:l=r:=by symm
   subst this;exact d l s m o e u
  .rw[VB c]
   refine v _ _ _ s (h.lt w) (h.lt ⋯) u λx g=>?_
   cases q:HT.lexLt (k (p.getD t 0)) (k (p.getD ((l+r) / 2) 0)) with
   |true =>
    calc xo v h w j f l ((l+r) / 2) x Q ⋯ ⋯ ⋯ o (λi a b=>?_) g d;exact kle_trans (oA q) (j _ _ a b)
   |false =>
    calc xo v h w j f ((l+r) / 2+1) r x Q ⋯ m ⋯ (λi a=>?_) e g d;calc kle_trans (j i ((l+r) / 2) ⋯ ⋯) q
theorem DC(v:nu n k I cmp):∀(f:Nat)(p:Array Nat)(t:Nat)(s:L)(Q:Array Nat->L->Prop),e_ n p->t+f=n->Up k p t->I s →
  (∀m s',e_ n m->Up k m n->I s'->Q m s')->(kas_bin f p t).kasWp cmp Q s
 |0,p,t,s,Q,g,C,e,o,c=>by
  let:t=n:=by symm
  subst this;exact c p s g e o
 |f+1,p,t,s,Q,g,C,e,o,c=>by
  unfold kas_bin;rw[KasT.kasWp_bind];let F:=g.size;calc xo v g ⋯ e t 0 t s _ (VX _) (B8 _) ⋯ (λi a=>absurd a ⋯) (λi a b=>absurd b ⋯) o λl B G D q r=>?_;calc DC v f _ (t+1) B Q (g.MH _ _) ⋯ (λi j u H=>?_) r c;let w:=λx=>MG (k:=k) (p:=p) (src:=t) (d:=t-l) ⋯ ⋯ x;let E:t-(t-l)=l:=by symm
  rw[w i,w j,E]
  by_cases y:i=l
  .subst y
   rw[VD Y]
   by_cases h:j=i
   .rw[VD h];exact kle_refl _
   .rw[VB h,VD ⟨⋯,⋯⟩]
    exact q (j-1) ⋯ ⋯
  .rw[VB y]
   by_cases h:j=l
   .subst h
    rw[VD Y,VB ⋯];exact D i ⋯
   .rw[VB h]
    by_cases z:l<i/\i<=t
    .rw[VD z,VD ⟨⋯,⋯⟩]
     exact e _ _ ⋯ ⋯
    .rw[VB z]
     by_cases A:l<j/\j<=t
     .rw[VD A];exact e _ _ ⋯ ⋯
     .rw[VB A];calc e _ _ u ⋯
theorem MJ(g:nu n k I cmp){s:L}{Q:Array Nat->L->Prop}(i:1<=n)(j:I s)(f:∀p s',e_ n p->Up k p n->I s'->Q p s'):(kas_sort n).kasWp cmp Q s:=by
 unfold kas_sort;rw[KasT.kasWp_bind];refine MI g ⟨q3x _⟩ i j λp m h a b c d e=>?_
 by_cases q:m<n
 .rw[VD q]
  let:max m 1=m:=by symm
  rw[this];exact DC g (n-m) p m h Q a ⋯ d e f
 .rw[VB q]
  let:m=n:=by symm
  subst this;calc f p h a d e
end
end L2
namespace L2
open PySem PySem.Spec PyProof.Rows
theorem DD{δ0:aH}{gF:aH->Prop}{g:WG}{b:WS}{K:KS}(I:Nat->aH->Prop):∀(items:-D)(i:Nat)(δ:aH),I i δ →
  (∀j d δ (L:aH->Prop),items[j]?=ζ d->I (i+j) δ->(∀δ',I (i+j+1) δ'->L δ')->gF δ/\g (.p d) δ fun δ1=>b {nx:=fun δ2=>L (δ0.trim δ2),ct:=fun δ2=>L (δ0.trim δ2),bk:=K.nx,rt:=K.rt} δ1) →
  (∀δ,I (i+↑items) δ->gF δ/\K.nx δ)->kZ δ0 gF g b K items δ
 |[],i,δ,h,_,fin=>fin δ h
 |d::r,i,δ,h,st,fin=>by
  unfold kZ;calc st 0 d δ (fun δ'=>kZ δ0 gF g b K r δ') Y h fun δ' hi=>?_;refine DD I r (i+1) _ hi (λj e δ L hj hI hL=>?_) fun δ hI=>?_
  .let e:i+1+j=i+(j+1):=by symm
   rw[e] at hI hL;exact st (j+1) _ δ L hj⁻¹ hI hL
  .exact fin δ (by rw[wq];let e:i+1+↑r=i+(↑r+1):=by symm
                   rw[e] at hI;calc hI)
theorem jA{δ0:aH}{c:aH->Prop}{g:WG}{b:WS}{K:KS}{items:-D}{a:aH}(I:Nat->aH->Prop)(m:I 0 a)
  (st:∀j d a (L:aH->Prop),items[j]?=ζ d->I j a->(∀f,I (j+1) f->L f)->c a/\g (.p d) a λi=>b {nx:=λe=>L (δ0.trim e),ct:=λe=>L (δ0.trim e),bk:=K.nx,rt:=K.rt} i)
  (k:∀a,I ↑items a->c a/\K.nx a):kZ δ0 c g b K items a :=
 DD I items 0 a m (λj d a L n h l=>by rw[VI] at h l;calc st j d a L n h l) λa h=>by rw[VI] at h;calc k a h
def fR(δ0:aH)(h:aH->Prop)(g:WG)(t:WT)(f:WE)(d:D)(a:-D)(l:aH)(L:-D->aH->Prop):Prop :=
 h l/\g (.p d) l λi=>t i λb c=>if b=θ then f c λx j=>eg x j λe k=>↑a<1000/\L (a++[e]) (δ0.trim k) else L a (δ0.trim c)
theorem DE{δ0:aH}{gF:aH->Prop}{g:WG}{t:WT}{f:WE}{K:-D->aH->Prop}(I:Nat->-D->aH->Prop):∀(items:-D)(i:Nat)(acc:-D)(δ:aH),I i acc δ →
  (∀j d acc δ (L:-D->aH->Prop),items[j]?=ζ d->I (i+j) acc δ->(∀kF δ',I (i+j+1) kF δ'->L kF δ')->fR δ0 gF g t f d acc δ L) →
  (∀acc δ,I (i+↑items) acc δ->gF δ/\K acc δ)->j6 δ0 gF g t f K items acc δ
 |[],i,acc,δ,h,_,fin=>fin acc δ h
 |d::r,i,acc,δ,h,st,fin=>by
  unfold j6;calc st 0 d acc δ (λkF δ'=>j6 δ0 gF g t f K r kF δ') Y h λkF δ' hi=>?_;refine DE I r (i+1) kF _ hi (λj e acc δ L hj hI hL=>?_) λacc δ hI=>?_
  .let e:i+1+j=i+(j+1):=by symm
   rw[e] at hI hL;exact st (j+1) _ acc δ L hj⁻¹ hI hL
  .exact fin acc δ (by rw[wq];let e:i+1+↑r=i+(↑r+1):=by symm
                       rw[e] at hI;calc hI)
theorem uf{δ0:aH}{e:aH->Prop}{g:WG}{t:WT}{f:WE}{K:-D->aH->Prop}{items:-D}{b:aH}(I:Nat->-D->aH->Prop)(m:I 0 [] b)
  (st:∀j d a b (L:-D->aH->Prop),items[j]?=ζ d->I j a b->(∀c h,I (j+1) c h->L c h)->fR δ0 e g t f d a b L)
  (k:∀a b,I ↑items a b->e b/\K a b):j6 δ0 e g t f K items [] b :=
 DE I items 0 [] b m (λj d a b L n i l=>by rw[VI] at i l;calc st j d a b L n i l) λa b i=>by rw[VI] at i;calc k a b i
theorem j8{δ0:aH}{b:aH->Prop}{g:WG}{t:WT}{f:WE}{K:-D->aH->Prop}{items:-D}(p:D->Bool)(c:D->D)(u:↑items<=1000)(n:b δ0)
  (st:∀d∈items,∀a (L:-D->aH->Prop),↑a<1000->(p d=θ->L (a++[c d]) δ0)->(p d=ι->L a δ0)->fR δ0 b g t f d a δ0 L)
  (h:K ((items.filter p).map c) δ0):j6 δ0 b g t f K items [] δ0:=by
 refine uf (λi a k=>k=δ0/\a=((items.take i).filter p).map c) ⟨Y,Y⟩ ?_ ?_
 .ext j d a k L l ⟨rfl,rfl⟩ m
  let o:=(pa.mp l).1;let r:d∈items:=WR l
  let s:↑(((items.take j).filter p).map c)<1000:=by
   rw[nW];let:=WZ p (items.take j);rw[Wv] at this;symm
  let e:items.take (j+1)=items.take j++[d]:=by rw[Y3,l];rfl
  refine st d r _ L s (λq=>m _ _ ⟨Y,?_⟩) (λq=>m _ _ ⟨Y,?_⟩)
  .rw[e,YO,VQ];simp[q6j,q]
  .rw[e,YO,VQ];simp[q6j,q]
 .ext a k ⟨rfl,rfl⟩
  rw[Xb (B8 _)];calc⟨n,h⟩
theorem j9{δ0:aH}{b:aH->Prop}{g:WG}{t:WT}{f:WE}{K:-D->aH->Prop}{items:-D}(c:D->D)(i:↑items<=1000)(j:b δ0)
  (st:∀d∈items,∀a (L:-D->aH->Prop),↑a<1000->L (a++[c d]) δ0->fR δ0 b g t f d a δ0 L)
  (e:K (items.map c) δ0):j6 δ0 b g t f K items [] δ0 :=
 j8 (λ_=>θ) c i j (λd k a L l h _=>st d k a L l (h Y)) (by rw[q2b.mpr λ_ _=>Y];calc e)
end L2
namespace LJ
open PySem L2
theorem xp:bootBuiltins "range" = ζ (.type "range"):=by decide +kernel
theorem MK:bootBuiltins "max" = ζ (.builtin "max"):=by decide +kernel
theorem ug:bootBuiltins "min" = ζ (.builtin "min"):=by decide +kernel
theorem lD:bootBuiltins "sorted" = ζ (.builtin "sorted"):=by decide +kernel
structure BT(mg:R->Option M):Prop where
 len:mg "len" = η
 range:mg "range" = η
 list:mg "list" = η
 tuple:mg "tuple" = η
 set:mg "set" = η
 sorted:mg "sorted" = η
 min:mg "min" = η
 max:mg "max" = η
 sum:mg "sum" = η
 all:mg "all" = η
 any:mg "any" = η
 enumerate:mg "enumerate" = η
 zip:mg "zip" = η
 isinstance:mg "isinstance" = η
 int:mg "int" = η
 bool:mg "bool" = η
 str:mg "str" = η
 repr:mg "repr" = η
end LJ
namespace L2
open PySem PySem.Spec PyProof.Rows
variable[a9]
def DF(X:Cx)(f:M)(g:-D->(-D->Prop)->Prop):Prop :=
 g6 X f λe H Q=>∃F b K,ba F H/\jM F H b e/\g b K/\∀c d a,K c->H a=η->ax F c d->Q (.ref a) (upd H a (.lst d))
def gb(b:WA)(op:-D->(-D->Prop)->Prop):WE:=λc K=>b c λd a=>cA d a λe=>op e λf=>K (.o ↑a.mu) ⟨a.sl,a.mu++[ζ (.lst f)]⟩
def gc:-D->(-D->Prop)->Prop
 |[.lst a],K=>K a
 |[.tup a],K=>K a
 |_,_=>False
section
variable{X:Cx}{fa:WA}{pos:I}
theorem DG{F H:Hp}{a:-U}{b:aH}{c:St}{p:U}(S:SR F a b c H):eN F (a++[p]) (.o ↑b.mu) (.ref p) :=
 ⟨p,by rw[<-S.di,My (B8 _),Xg];rfl,Y⟩
theorem ML{r:-V->Hp->VK->Prop}{op:-D->(-D->Prop)->Prop}(l:∀xs H Q,(∃F ds K,ba F H/\jM F H ds xs/\op ds K/\∀d vs a,K d->H a=η->ax F d vs->Q (.ref a) (upd H a (.lst vs)))->r xs H Q):∀e H Q,tD (gb fa op) e H Q->qA r (cX fa) e H Q:=by
 ext e H Q ⟨F,m,n,K,S,q,k⟩;calc⟨F,m,n,_,S,q,λz o p A g s B t b u=>l _ _ _ ?_⟩;let⟨j,v,f⟩:=pj b u p;calc⟨g,j,_,b.sub,f,v,λd h a w i x=>?_⟩;let y:∀{c},fB g c (.lst d) (.lst h):=λ{c}=>⟨h,Y,x⟩;calc k _ _ w _ _ _ _ (t.trans (Ext.own b i)) (b.own i y) (DG b)
theorem MM{x:R}{p:I}{e:J}{es:-J}{T:String}{o:-D->(-D->Prop)->Prop}(c:DF X (.type T) o)(d:Gl X x)(f:X.mg x=η)(g:bootBuiltins x=ζ (.type T))(i:JA X (e::es) (cX fa))(hn:x≠"__name__" := by decide)(a: ~~~(cy x))
  (he:‹dE X e es›) (b:‹dQ X pos es›):JE X (.Call (.Name x p) (e::es) [] pos) (tD (gb fa o)) :=
 (ml c d f g i hn a he b).weak (ML λ_ _ _ h=>h)
theorem MN:DF X (.type "list") gc:=by
 ext b s i H o j Q I r ⟨F,p,K,c,k,q,m⟩;unfold gc at q;split at q
 .let⟨v,rfl,a,d,rfl,e,f⟩:=iC k
  exact qE b s i H _ j Q I r ⟨a,d,Y,.inl (bS.of e),λl g=>m _ _ _ q g f⟩
 .rename_i n
  let⟨v,rfl,h⟩:=iC k;let h:Is F (.tup n) v:=h;erw[Is] at h;let⟨a,d,rfl,e,f⟩:=h;exact qE b s i H _ j Q I r ⟨a,d,Y,.inr (cF.of (c _ _ e)),λl g=>m _ _ _ q g f⟩
 .calc q.elim
def gQ(b:WA):WE:=λc K=>b c λd a=>match d with
 |[.p (.int j)]=>(0<=j/\j<=1000)/\K (.o ↑a.mu) ⟨a.sl,a.mu++[ζ (.lst (dm 0 j.toNat))]⟩
 |_=>False
def gq(f g:WE):WE:=λi K=>f i λx h=>g h λy c=>dH x c λd=>dH y c λe=>match d,e with
 |.lst a,.lst b=>↑a+↑b<=1000/\K (.o ↑c.mu) ⟨c.sl,c.mu++[ζ (.lst (a++b))]⟩
 |_,_=>False
theorem MO{a b:υ}{f g:WE}(u:JE X a (tD f))(v:JE X b (tD g)):JE X (.BinOp a .Add b pos) (tD (gq f g)) :=
 (qu B5 u v).weak λY H Q ⟨F,w,z,K,S,q,k⟩↦⟨F,w,z,_,S,q,λx j A Z B l H1 C D E=>⟨B,l,j,_,D,A,λy G I v2 J L H2 m c M=>by
  let⟨d,N,O⟩:=kX c (E.ext m) I;let⟨e,i,P⟩:=kX c M N;split at i
  .rename_i T R
   let⟨a,n,rfl,U,o⟩:=O;let⟨b,r,rfl,V,s⟩:=P;let W:∀{h},fB J h (.lst (T++R)) (.lst (n++r)):=λ{h}=>⟨_,rfl,pE o s⟩;exact⟨a,b,n,r,rfl,rfl,U,V,kY (by rw[↑o,↑s];calc i.1),λp t=>k _ _ i.2 _ _ _ _ ((C.trans m).trans (Ext.own c t)) (c.own t W) (DG c)⟩
  .calc i.elim⟩⟩
theorem uh[j3]{st:y}:JS X st (eh eX):=⟨λa s D b H I q=>by let⟨F,c,d,K,S,q,k⟩:=q;calc q.elim⟩
end
end L2
namespace LJS
open PySem PySem.SetTable PyProof.Rows
section
variable{prog:X}{w:l}{A:t}{S:U}{ks:-Int}
theorem ints_of:∀{l:-(Int×M)},(∀e∈l,∃k tk,e=(hashInt k,Xl k tk))->IntsAre (l.map (·.2)) (l.map keyOf)
 |[],_=>.nil
 |e::r,h=>by
  let⟨k,a,rfl⟩:=h e Ux;calc .cons k a (ints_of λe b=>h e (Uy _ b))
theorem MP{E:bt}{s:ο}{Q:bt}(D:A.handled=η)(F:d8 s.heap S (gI w) ks)(hn:↑ks<64)
  (h:∀(h':Α)(tk:Nat)(r:U)(out:Array ν)(a:-Int)(e:Nat),(∀b g,s.heap.get? b=ζ g->h'.get? b=ζ g)->⇑s<=r->h'.get? r=ζ (seqObj "list" out e)->IntsAre out.toList a->a.Perm ks->a.Pairwise (· <= ·)->Q (.ref r) {s with heap:=h',toks:=tk}) :
  ρ (ς prog w) A (call (.builtin "sorted") [.ref S]) Q E s:=by
 let⟨o,c,d,t,y,p,H,T⟩:=F;let q:=T.num;let N:S<⇑s:=Vy y;calc Zo q3m q2W q2X (q2Y _) ?_;unfold Builtin.«sorted»;calc nX (m:=checkCount "sorted" 1 1 _) (B9 ?_);calc nX (Im (by simp[D]) y p H T ⋯ λi u j I=>?_);let l:∀e∈(iO w S d c).toList,∃k G,e=(hashInt k,Xl k G):=λe v=>T.sV e ((vC w S d c).mem_iff.mp v);let x:IntsAre ((iO w S d c).toList.map (·.2)) ((iO w S d c).toList.map keyOf):=ints_of l;let z:((iO w S d c).toList.map keyOf).Perm ks:=((vC w S d c).map keyOf).trans T.keys;let J:↑((iO w S d c).toList.map (·.2))=↑ks:=by rw[nW,UA,sW,q]
 generalize(iO w S d c).toList.map (·.2)=n at x J ⊢;generalize(iO w S d c).toList.map keyOf=O at x z;calc nX (Z8 ?_);let f:(i.push (seqObj "list" n.toArray 0)).get? i.objs.size=ζ (seqObj "list" n.toArray 0):=UB _ Y;calc nX (WJ (XI (s:={s with heap:=i.push (seqObj "list" n.toArray 0),toks:=u}) q12 ⟨_,f,Y⟩ q1F (list_sort_tree f x ⋯ λout a K L M=>⟨_,Y,?_⟩) (q13 _)));let⟨e,v⟩:=sortedHeap_at (out:=out) f;calc B9 ⟨_,Y,h _ _ _ out a e (λb g B=>?_) I v K (L.trans z) M⟩;let C:b<i.objs.size:=Vy (j b g B);show(sortedHeap (i.push (seqObj "list" n.toArray 0)) i.objs.size n out).get? b=ζ g
 rw[sortedHeap_old (VE C) (by rw[size_push'];calc WQ C)];calc B7 _ (j b g B)
end
end LJS
namespace L2
open PySem PySem.Spec PyProof.Rows
noncomputable def mC(led:Bool)(S:U)(ks:-Int):HO:=.ext λh=>LJS.d8 h S led ks
theorem DH{P:X}{w:l}{H:Hp}{h:Q}{S:U}{led:Bool}{ks:-Int}(e:LJS.d8 h S led ks):bq P w H h S (mC led S ks) :=
 ⟨e,let⟨o,_,_,_,a,_⟩:=e;⟨o,a⟩,λd f b k=>LJS.p9 b λo c=>k o c⟩
noncomputable def fc(ns:-Int):-Int:=LJS.hX ns ↑ns
section
variable{X:Cx}
theorem MQ(B:X.calm=θ):g6 X (.type "set") (λxs H Q=>∃(l:U)(ns:-Int),xs=[.ref l]/\bS X.K H l (ns.map V.int)/\↑ns<=40/\∀p,H p=η->Q (.ref p) (upd H p (mC (LJS.gI X.w) p (fc ns)))):=by
 ext g s P H O R Q I r h;let⟨l,c,rfl,C,D,q⟩:=h;let⟨u,rfl,E⟩:=vals1 r;cases E
 let⟨a,k,F,_⟩:=I.list C;let G:=k.length;rw[nW] at G;refine LJS.Ia c (I.ok.hd B) F.isList (λi v d=>?_) (by rw[KD];symm) λJ L m M=>?_
 .rw[YC] at d
  let y:=(pa.mp d).1;let⟨x,z,A⟩:=pD k (j:=i) (by rw[KD];calc y);rw[show a.toArray[i]'(by rw[KD];calc y)=v by simpa using(pa.mp d).2] at A;rw[B_] at z;let⟨n,N,rfl⟩:=KI.mp z;let⟨t,rfl⟩:=A;rw[KG,N];exact⟨t,Y⟩
 .let f:LJS.d8 J ⇑s (LJS.gI X.w) (fc c):=by
   let e:a.toArray.size=↑c:=by rw[KD];symm
   rw[e] at m;exact m
  calc⟨.ref ⇑s,upd H ⇑s (mC (LJS.gI X.w) ⇑s (fc c)),I.laid (t':=L) (λb o e=>M b o (Vy e) e) (B8 _) (DH f),Y,q _ (I.bg.fresh (B8 _))⟩
theorem DI(g:X.calm=θ):g6 X (.builtin "sorted") (λxs H Q=>∃(p:U)(ks:-Int),xs=[.ref p]/\H p=ζ (mC (LJS.gI X.w) p ks)/\↑ks<64/\∀(r:U)(a:-Int),a.Perm ks->a.Pairwise (· <= ·)->H r=η->Q (.ref r) (upd H r (.lst (a.map V.int)))):=by
 ext c s A H y B Q I r h;let⟨p,z,rfl,i,j,q⟩:=h;let⟨u,rfl,k⟩:=vals1 r;cases k
 let⟨l,_⟩:=I.bg p _ i;calc LJS.MP (I.ok.hd g) l j λC m r b a e n d t v f x=>?_;calc⟨.ref r,_,I.laid (t':=m) (o:=.lst (a.map V.int)) n d ?_,Y,q _ a f x (I.bg.fresh d)⟩;calc⟨Xc (kW (by rw[nW,f.length_eq];symm)),b.toList,e,tO v,?_⟩;simpa[seqObj] using t
end
end L2
namespace LJS
open PySem PySem.SetTable PyProof.Rows
section
variable{t:SetTable}{f:Nat->Int}{h:Int}
end
section
variable{hk:Nat->Int}{ad:Nat->U}{t:SetTable}{es:Array (Int×M)}{js:-Nat}
end
section
variable{prog:X}{w:l}{A:t}{E:bt}{s:L}{ad:Nat->U}{ks:Nat->-Int}{js:-Nat}{S:U}
end
section
variable{prog:X}{w:l}{A:t}{R:Result->L->Prop}{I S:U}{fp wr:-U}{G:Array GenState->Array GenState->Prop}{n:Nat}{P:Nat->M->Prop}{St:Nat->L->Prop}
end
section
variable{prog:X}{w:l}{A:t}{E:bt}{s:L}
end
end LJS
namespace L2
open PySem PySem.Spec PyProof.Rows
variable[a9]
noncomputable def DJ:-D->Option (-(Int×Int))
 |[]=>ζ []
 |.tup [.int i,.int j]::r=>match DJ r with
  |some a=>ζ ((i,j)::a)
  |none=>η
 |_=>η
noncomputable def ui(ps:-(Int×Int)):Nat->-(Int×Int)
 |0=>[]
 |i+1=>if ps.getD i (0,0)∈ui ps i then ui ps i else ui ps i++[ps.getD i (0,0)]
def gf:-D->(D->Prop)->Prop
 |[.lst b],K=>match intsOf b with
  |some a=>↑a<=40/\K (.lst ((sortI (fc a)).map D.int))
  |none=>False
 |_,_=>False
def gR:-D->(-D->Prop)->Prop
 |[.lst b],K=>match intsOf b with
  |some a=>↑a<=40/\K ((sortI (fc a)).map D.int)
  |none=>False
 |_,_=>False
def gT:-D->(D->Prop)->Prop
 |[.lst b],K=>match intsOf b with
  |some c=>↑c<=40/\K (.int ↑(fc c))
  |none=>match DJ b with
   |some a=>(↑a<=30/\∀p∈a,0<=p.1/\p.1<p.2/\p.2<12)/\K (.int ↑(ui a ↑a))
   |none=>False
 |_,_=>False
theorem MR(ns:-Int):↑(fc ns)<=↑ns:=LJS.vx ns ↑ns
section
variable{X:Cx}{fa:WA}
theorem MS{a:υ}{A f B g:Ε}(t:X.calm=θ)(h:Gl X "sorted")(C:X.mg "sorted" = η)(i:bootBuiltins "sorted" = ζ (.builtin "sorted"))(j:Gl X "set")(c:X.mg "set" = η)(l:bootBuiltins "set" = ζ (.type "set"))(D:JA X [a] (cX fa))
  (he:‹starEach [a] X.env=[(ι,eval a X.env)]›) (m:‹starEach [.Call (.Name "set" f) [a] [] g] X.env=[(ι,eval (.Call (.Name "set" f) [a] [] g) X.env)]›):JE X (.Call (.Name "sorted" A) [.Call (.Name "set" f) [a] [] g] [] B) (tD (dN fa gf)) :=
 (o9 (DI t) h C i (jK (ml (MQ t) j c l D (he:=he)) bY) (he:=m)).weak λW H Q ⟨F,E,G,K,S,q,k⟩=>⟨F,E,G,_,S,q,λY I J L Z M u N n O=>by
  let⟨ds,b,o⟩:=pj n O J;unfold gf at b;split at b
  .split at b
   .rename_i es d e
    let⟨v,rfl,a,L,rfl,x,y⟩:=iC o;rw[nr e] at y;rw[lB y] at x;calc⟨a,d,rfl,bS.of x,b.1,λp P=>⟨p,fc d,rfl,cw,by let:=MR d;symm,λr R T U c=>?_⟩⟩;let z:ba u (upd u p (mC (LJS.gI X.w) p (fc d))):=c_ P;let s:=n.al z;let V:=Ext.al n z;calc k _ _ b.2 _ _ _ _ ((N.trans V).trans (Ext.al s (c_ c))) (s.al (c_ c)) ?_;rw[<-oq T U];exact kD s.sub c mB
   .exact b.elim
  .calc b.elim⟩
theorem DK{F:Hp}:∀{ps:-(Int×Int)}{vs:-V},ax F (ps.map λp=>D.tup [.int p.1,.int p.2]) vs->∃as:-U,vs=as.map V.ref/\↑as=↑ps/\∀(i:Nat)(a:U)(k:Int×Int),as[i]?=ζ a->ps[i]?=ζ k->F a=ζ (.tup [.int k.1,.int k.2])
 |[],c,h=>by
  let h:c=[]:=by simpa only [V8,ax] using h
  subst h;exact⟨[],Y,Y,λi a k e=>by simp at e⟩
 |p::r,c,h=>by
  rw[Uz] at h;erw[ax] at h;let⟨v,s,rfl,d,n⟩:=h;let⟨m,rfl,o,g⟩:=DK n;erw[Is] at d;let⟨a,t,rfl,q,f⟩:=d;erw[ax,Is] at f;let⟨_,_,rfl,rfl,_,_,rfl,rfl,rfl⟩:=f;refine⟨a::m,Y,by rw[wq,wq,o],λi b k j l=>?_⟩
  cases i with
  |zero =>
   cases(show ζ a=ζ b by simpa using j)
   cases(show ζ p=ζ k by simpa using l)
   exact q
  |succ i=>calc g i b k j⁻¹ l⁻¹
end
end L2
namespace HT
open PySem PySem.Spec PyProof.Rows
section
variable{prog:X}{w:l}{A:t}{E:bt}{s:L}
theorem MT{t b:U}{ws:-M}{Q:bt}(o:IsTup s.heap t #[])(p:IsTup s.heap b ws.toArray)(h:Q (.ref b) s):G (B prog w) A (binaryOp .Add (.ref t) (.ref b)) Q E s:=by
 let⟨⟨q,r,i,u⟩,j,k,n,l⟩:=id o;let⟨⟨m,e,f,g⟩,a,c,v,d⟩:=id p;simp only at k l c d;subst k l c d
 exact q2M ⟨_,j,Y⟩ ⟨_,a,Y⟩ q1i q2j ZS ZF (Zs _ _)
  (tuple_addW0 t b #[] ws.toArray n v r e u g Y) ⟨j,a,h⟩
theorem MU{t sl:U}{items:Array M}{g i:M}{b c:Option Int}{Q:bt}(a:IsTup s.heap t items)(hs:s.heap.IsSliceOf sl g i .none)(pl:IsPart g b)(k:IsPart i c)
  (j:bM items.size 0 b=0/\bM items.size items.size c=items.size) (h:Q (.ref t) s):G (B prog w) A (getItem (.ref t) (.ref sl)) Q E s:=by
 let⟨l,d,e,m⟩:=id hs;let f:s.TypeIs (.ref sl) "slice" := ⟨l,d,e⟩;unfold getItem
 try with_reducible refine WJ ?_
 first|refine nX (B9 ?_)|skip
 refine nX (q2N a.typeIs (by decide) ?_)
 refine nX (Yj (name:=Xy "__getitem__") a.typeIs Xx
  (XI Xx a.typeIs q1_ ?_ (q2u _ _)))
 show G _ _ (q0D (.ref t) >>= _) _ _ s;calc nX (tupleItemsOf_ a ?_);calc nX (q0n f ?_);rw[VD (by decide)];calc nX (BP hs pl k ?_);show G _ _ (if(((bM items.size 0 b:Nat):Int)==0&&(1:Int)==1&&(bM items.size items.size c-bM items.size 0 b)==items.size)=θ then _ else _) _ _ s;rw[VD (by rw[j.1,j.2];simp)];unfold Builtin.Tuple.tupleIsExact;calc nX (nX (q0n a.typeIs (B9 ?_)));rw[VD (by decide)];calc nX (q1o ?_);calc B9 ⟨_,Y,B9 h⟩
end
end HT
namespace L2
open PySem PySem.Spec PyProof.Rows
variable[a9]
section
variable{X:Cx}{e:J}{te:TE}{pos p2 p3 p4:I}
def MV(K:KC):V->Option Int->Option Int->Hp->VK->Prop:=λx c d H Q=>∃a b,x=.ref a/\cF K H a b ∧
 (HT.bM ↑b 0 c=0/\HT.bM ↑b ↑b d=↑b->Q (.ref a) H)/\(¬ (HT.bM ↑b 0 c=0/\HT.bM ↑b ↑b d=↑b)->∀p,H p=η->Q (.ref p) (upd H p (.tup (eF b c d))))
theorem MW:m_ X (MV X.K):=by
 ext c s p H x v q t g i u Q I j k l m h;let⟨a,b,rfl,n,w,y⟩:=h
 by_cases e:HT.bM ↑b 0 g=0/\HT.bM ↑b ↑b i=↑b
 .cases j
  let⟨f,r,o,z⟩:=I.tuple n;let d:f.toArray.size=↑b:=by rw[KD];exact r.length.symm
  calc⟨"tuple",_,Xx.lookup,o.typeIs,?_⟩;exact HT.MU o k l m (by rw[d];calc e) ⟨.ref a,H,I,Y,w e⟩
 .calc Km c s p H _ v q t g i u Q I j k l m ⟨a,b,Y,n,e,y e⟩
theorem MX:fA X (binaryOp .Add) (λx y H Q=>∃a b ys,x=.ref a/\y=.ref b/\cF X.K H a []/\cF X.K H b ys/\Q (.ref b) H):=by
 ext d s o H x y v u Q I f g h;let⟨a,b,n,rfl,rfl,i,j,q⟩:=h;cases f
 cases g
 let⟨c,k,l,_⟩:=I.tuple i;let⟨e,p,m,_⟩:=I.tuple j;let:c=[]:=k.gY.mpr Y;subst this;calc HT.MT l m ⟨.ref b,H,I,Y,q⟩
theorem MY:fA X (compareOp .Is) (λx y H Q=>∃a b,x=.bl a/\y=.bl b/\Q (.bl (a==b)) H):=by
 ext c s f H x y v u Q I d e h;let⟨a,b,rfl,rfl,q⟩:=h;cases d
 cases e
 calc B9 ⟨.bl (a==b),H,I,by cases a<;>cases b<;>rfl,q⟩
theorem MZ:fA X (compareOp .IsNot) (λx y H Q=>∃a b,x=.bl a/\y=.bl b/\Q (.bl (!(a==b))) H):=by
 ext c s f H x y v u Q I d e h;let⟨a,b,rfl,rfl,q⟩:=h;cases d
 cases e
 calc B9 ⟨.bl (!(a==b)),H,I,by cases a<;>cases b<;>rfl,q⟩
def bX:D->D->(D->Prop)->Prop
 |.int i,.int j,K=>K (.int (i+j))
 |.lst a,.lst b,K=>↑a+↑b<=1000/\K (.lst (a++b))
 |.tup a,.tup b,K=>↑a+↑b<=1000/\K (.tup (a++b))
 |.str a,.str b,K=>↑a+↑b<=1000/\K (.str (a++b))
 |_,_,_=>False
theorem k4:gC X (binaryOp .Add) bX:=by
 ext f s i H x y v u Q I j k ⟨F,d,e,K,g,l,m,q,n⟩;unfold bX at q;split at q
 .exact t8 f s i H x y v u Q I j k ⟨F,_,_,K,g,l,m,q,n⟩
 .exact t8 f s i H x y v u Q I j k ⟨F,_,_,K,g,l,m,q,n⟩
 .rename_i t r
  by_cases c:t=[]
  .subst c
   let o:Is F (.tup []) x:=l;let h:Is F (.tup r) y:=m;let p:=h;erw[Is] at o h;let⟨a,w,rfl,z,A⟩:=o;let⟨b,B,rfl,C,D⟩:=h;let:w=[]:=by simpa only [ax] using A
   subst this;exact MX f s i H _ _ v u Q I j k ⟨a,b,B,Y,Y,cF.of (g _ _ z),cF.of (g _ _ C),n _ _ _ q.2 (λ_ _ e=>e) (rE g p)⟩
  .exact t8 f s i H x y v u Q I j k ⟨F,_,_,K,g,l,m,⟨⟨c,q.1⟩,q.2⟩,n⟩
 .exact t8 f s i H x y v u Q I j k ⟨F,_,_,K,g,l,m,q,n⟩
 .calc q.elim
def cR:D->Option Int->Option Int->(D->Prop)->Prop
 |.lst a,b,c,K=>K (.lst (cutD a b c))
 |.tup a,b,c,K=>K (.tup (cutD a b c))
 |_,_,_,_=>False
def b9(f:WE)(l h:WO):WE:=λe K=>f e λx b=>l b λg c=>h c λi a=>dH x a λd=>cR d g i λz=>K (.p z) a
theorem M0{ds:-D}{a b:Option Int}(h:HT.bM ↑ds 0 a=0/\HT.bM ↑ds ↑ds b=↑ds):cutD ds a b=ds:=by
 unfold cutD;rw[h.1,h.2,q1T,q4G,Xb (B8 _)]
theorem xq{e:υ}{f:WE}{n o:Option υ}{l h:WO}{pos G:Ε}(he:JE X e (tD f))(I:PO X n (t9 l))(J:PO X o (t9 h)):JE X (.Subscript e (.Slice n o η G) pos) (tD (b9 f l h)) :=
 (v8 (iy.or MW) he I J).weak fun σ H Q ⟨F,L,M,K,S,q,k⟩=>⟨F,L,M,_,S,q,λx r N v O s H1 P R T=>⟨O,s,r,_,R,N,λn t U V u H2 A W=>⟨V,u,t,_,W,U,λo Y Z F3 CW H3 B b=>by
  let⟨d,c,C⟩:=kX b ((T.ext A).ext B) Z;let g:=(P.trans A).trans B;unfold cR at c;split at c
  .rename_i D
   let⟨a,w,rfl,y,m⟩:=C;calc .inl ⟨a,w,rfl,bS.of y,λp i=>?_⟩;exact k _ _ c _ _ _ _ (g.trans (Ext.al b (c_ i))) (b.al (c_ i)) (kD b.sub i (Dj m _ _))
  .rename_i D
   let j:Is F3 (.tup D) v:=C;let z:=j;erw[Is] at j;let⟨a,w,rfl,y,m⟩:=j;refine .inr ⟨a,w,rfl,cF.of (b.sub _ _ y),λE=>?_,λ_ p i=>?_⟩
   .rw[↑m] at E
    rw[M0 E] at c;exact k _ _ c _ _ _ _ g b z
   .exact k _ _ c _ _ _ _ (g.trans (Ext.al b (c_ i))) (b.al (c_ i)) (xa b.sub i (Dj m _ _))
  .calc c.elim⟩⟩⟩
def gU:D->(D->Prop)->Prop
 |.lst a,K=>K (.lst a.reverse)
 |.tup a,K=>K (.tup a.reverse)
 |_,_=>False
def cu:D->D->(D->Prop)->Prop
 |.bl a,.bl b,K=>K (.bl (a==b))
 |d,e,K=>b6 d e K
def fT:D->D->(D->Prop)->Prop
 |.bl a,.bl b,K=>K (.bl (!(a==b)))
 |d,e,K=>fO d e K
theorem xt:gC X (compareOp .Is) cu:=by
 ext c s g H x y v u Q I h i ⟨F,d,e,K,f,j,k,q,l⟩;unfold cu at q;split at q
 .rename_i a b
  exact MY c s g H x y v u Q I h i ⟨a,b,j,k,l _ _ _ q (λ_ _ e=>e) Y⟩
 .calc Mt c s g H x y v u Q I h i ⟨F,_,_,K,f,j,k,q,l⟩
theorem DL:gC X (compareOp .IsNot) fT:=by
 ext c s g H x y v u Q I h i ⟨F,d,e,K,f,j,k,q,l⟩;unfold fT at q;split at q
 .rename_i a b
  exact MZ c s g H x y v u Q I h i ⟨a,b,j,k,l _ _ _ q (λ_ _ e=>e) Y⟩
 .calc Mu c s g H x y v u Q I h i ⟨F,_,_,K,f,j,k,q,l⟩
end
end L2
namespace L2
open PySem PySem.Spec PyProof.Rows
variable[a9]{X:Cx}
def uj(_ j:Int):Prop:=j≠0/\j.natAbs<10 ^ 40
theorem M3:gC X (binaryOp .FloorDiv) (cW uj λi j=>.int (i.fdiv j)):=xb (tr λi j _ _ _ _ _ a q=>floordiv_int a.1 q (.inl (PyProof.noPylong_of_log2 ((Nat.log2_lt (Int.natAbs_ne_zero.mpr a.1)).mpr (VR a.2 (Wq (by decide:10 ^ 40<=2 ^ 200) (Nat.pow_le_pow_right (by decide) (by decide)))))))) λ_ _ _=>Y
end L2
open L2
open Lean in
local macro_rules
 |`(tactic|simp![$ls,*] $[$loc:location]?)=>do
  let t:=("VW dep:2 bE:2 VX WU WV WW Wf az aJ dN gb aq ae d1 d2 dC aa cA:2 dH:3 eg:3 cq:2 aH.fix gD:2 bh bG eI dT fq:1 bT eP bQ fD eO cZ gj cP c3 c4 dr aZ gM bj bo dt:1 cj:1 dz b7 bH cx eY bI bp fE:3 eA gk bW c5 fN:2 bN aA fM passes:4 d6:2 b3:1 cH:4 cV:1 bc:3 cQ:4 bX:4 cR:2 b9 gU:2 cu:1 fT:1 eX cI:1 gT:1 gf:1 gR:1 bO:2 oI:1 cW:1 oEq fF oLt:2 b6 fO dn:2 bC:3 e7:2 gc:2 fP:2 fQ:1 f9:1 c7:1 c6:1 cf ft gQ gq gN gG:2 b8 eZ e8 bR:1 bU cJ f_ c8 gP gm eu fR aH.trim du:2 fL:3 Wg Wh Uz V8 V9 Wc VM VT VN VL Wa Vz VA wq VO VS Wl WK WX We Wt WB WD WL Wu VP V0 Xj W7 XB XH XP reduceCtorEq Wd VI Wr WY Wi WM nW qG".splitOn " ").map (·.splitOn ":")
  let m:List String->MacroM (Syntax.TSepArray [`Lean.Parser.Tactic.simpStar,`Lean.Parser.Tactic.simpErase,`Lean.Parser.Tactic.simpLemma] ","):=λl=>do
   let a←l.toArray.mapM λs=>`(Parser.Tactic.simpLemma|$(mkIdent s.toName):ident)
   pure ⟨(Syntax.SepArray.ofElems (sep:=",") ((a.push (←`(Parser.Tactic.simpLemma|↓reduceIte))).map (·.raw)++ls.getElems.map (·.raw))).elemsAndSeps⟩
  let a←m (t.map (·.head!))
  let d←m (t.flatMap fun|[x,n]=>(List.range n.toNat!).map λk=>s!"{x}.eq_{k+1}"|x=>x)
  if loc.isSome then `(tactic|simp only[$a,*] $[$loc]?) else `(tactic|first|((set_option backward.dsimp.useDefEqAttr false in dsimp only[$(⟨d.elemsAndSeps⟩),*]);try simp only[$a,*])|simp only[$a,*])
local macro_rules | `(tactic| simp! $[$l:location]?) => `(tactic| simp! [] $[$l]?)
set_option maxHeartbeats 8000000
namespace LJ
open PySem L2
variable[a9]
theorem DM{ns:-Int}{k:Int}(b:0<=k)(c:k<(↑ns:Int)):∃n,eW (ns.map D.int) k=ζ (.int n):=by
 let⟨i,rfl⟩:∃i:Nat,k=i:=⟨k.toNat,⋯⟩;let a:i<↑ns:=by symm
 calc⟨ns[i],iP ?_⟩;rw[B_,tG a];rfl
theorem dw{a:Type}{x:a}{r:-a}:eW (x::r) 0=ζ x:=iP (j:=0) Y
theorem eB{a:Type}{x y:a}{r:-a}:eW (x::y::r) 1=ζ y:=iP (j:=1) Y
theorem at2{a:Type}{x y z:a}{r:-a}:eW (x::y::z::r) 2=ζ z:=iP (j:=2) Y
theorem rL{a b A B:Int}(c:0<=a)(d:a<=A)(e:0<=b)(f:b<=B):0<=a*b/\a*b<=A*B :=
 ⟨Int.mul_nonneg c e,Int.mul_le_mul d f e (Int.le_trans c d)⟩
noncomputable def jh:-Int:=[2147483629,2147483587,2147483579,2147483563,2147483549,2147483543,2147483497,2147483489,2147483477,2147483423,2147483399,2147483353,2147483323]
theorem xu(n:Int):∃q:Int,eW (jh.map D.int) (n%13)=ζ (.int q)/\0<q/\q<2147483648:=by
 let c:0<=n%13:=Ya _ (by decide);let d:n%13<13:=XD _ (by decide);generalize n%13=j at c d;let⟨i,rfl⟩:∃i:Nat,j=i:=⟨j.toNat,⋯⟩;let b:i<13:=by symm
 let e:(jh.map D.int)[i]?=ζ (.int (jh[i]'(by show i<13;calc b))):=by
  rw[B_,tG (by show i<13;calc b)];rfl
 calc⟨_,iP e,?_⟩;let a:∀q∈jh,0<q/\q<2147483648:=by decide
 calc a _ (Yh _)
theorem M4:i_ 3 1=ζ 1:=rfl
theorem DN:i_ 3 2=ζ 2:=rfl
abbrev Sem(n m:Nat)(g:GD)(b:WS):Prop:=∀c a d,↑c=n->g c a d->b (eu ↑a d) ⟨c.map ζ++VF m η,a.map ζ⟩
theorem bf{A B:WS}{K:KS}{a:aH}(h:∀N:aH->Prop,N=B K->A {K with nx:=N} a):az A B K a:=h _ Y
theorem iD{t:WT}{G c:WS}{K:KS}{d:aH}(h:∀A B:aH->Prop,A=G K->B=c K->t d λb a=>if b=θ then A a else B a):bj t G c K d:=h _ _ Y Y
theorem j_{w:WI}{g:WG}{b:WS}{K:KS}{c:aH}(h:∀g' d e,g'=g->d=b->e=K->w c λf a=>kZ a f.gF g' d e f.items a):bH w g b K c:=h _ _ _ Y Y Y
theorem pG{f:WE}{g:WA}{c:aH}{K:-DV->aH->Prop}(h:∀d,d=(λx a=>g a λxs b=>K (x::xs) b)->f c d):aq f g c K:=h _ Y
inductive xv (ys:-DV) (aK:-OV) (K:RV->-OV->Prop):Prop
 |mk (cell at_:Int) (_:ys=[.p (.int cell),.p (.int at_)]) (_:aK=[]) (_:0<=at_) (_:at_<2 ^ 30) (_:∀z:Int,K (.p (.int z)) [])
def xw:WS:=(az (bj (dT (d2 (aa 0) (d2 (dC (.int 10)) (dC (.int 18)) (cW ir λi j=>.int (i ^ j.toNat))) (oI λi j=>.bl (S (j<=i))))) (aZ (aa 0)) cP) (az (aJ 2 (bG (aq (dC (.int 2147483629)) (aq (dC (.int 2147483587)) (aq (dC (.int 2147483579)) (aq (dC (.int 2147483563)) (aq (dC (.int 2147483549)) (aq (dC (.int 2147483543)) (aq (dC (.int 2147483497)) (aq (dC (.int 2147483489)) ae)))))))))) (az (aJ 2 (d2 (aa 2) (bG (aq (dC (.int 2147483477)) (aq (dC (.int 2147483423)) (aq (dC (.int 2147483399)) (aq (dC (.int 2147483353)) (aq (dC (.int 2147483323)) ae)))))) bX)) (az (aJ 3 (d2 (d2 (d2 (d2 (d2 (d2 (aa 0) (dC (.int 1000000007)) (cW (λ_ j=>0<j) λi j=>.int (i%j))) (d2 (d2 (dC (.int 2)) (aa 1) bO) (dC (.int 69069)) bX) bO) (d2 (aa 1) (dC (.int 40503)) bO) bX) (dC (.int 977)) bX) (dC (.int 3)) (cW ir λi j=>.int (i ^ j.toNat))) (d2 (aa 2) (d2 (aa 1) (dC (.int 13)) (cW (λ_ j=>0<j) λi j=>.int (i%j))) bc) (cW (λ_ j=>0<j) λi j=>.int (i%j)))) (az (aJ 4 (d2 (d2 (d2 (d2 (d2 (aa 3) (d2 (aa 1) (dC (.int 3)) bX) bO) (d2 (aa 0) (dC (.int 65537)) (cW (λ_ j=>0<j) λi j=>.int (i%j))) bX) (dC (.int 5)) bX) (dC (.int 5)) (cW ir λi j=>.int (i ^ j.toNat))) (d2 (aa 2) (d2 (d2 (aa 1) (dC (.int 5)) bX) (dC (.int 13)) (cW (λ_ j=>0<j) λi j=>.int (i%j))) bc) (cW (λ_ j=>0<j) λi j=>.int (i%j)))) (az (aJ 5 (d2 (d2 (d2 (d2 (aa 4) (d2 (aa 3) (dC (.int 1009)) (cW (λ_ j=>0<j) λi j=>.int (i%j))) bX) (aa 1) bX) (dC (.int 3)) (cW ir λi j=>.int (i ^ j.toNat))) (d2 (aa 2) (d2 (d2 (aa 1) (dC (.int 7)) bX) (dC (.int 13)) (cW (λ_ j=>0<j) λi j=>.int (i%j))) bc) (cW (λ_ j=>0<j) λi j=>.int (i%j)))) (aZ (d2 (d2 (d2 (d2 (aa 3) (dC (.int 2147483647)) bO) (aa 4) bX) (dC (.int 2147483647)) bO) (aa 5) bX))))))))
theorem M5:Sem 2 4 xv xw:=by
 ext A o q-⟨a,k,rfl,rfl,B,C,f⟩;unfold xw;let d:∀(z:Int)(g:-(Option DV)),jg 0 q (.p (.int z)) ⟨g,[]⟩:=λz g=>⟨[],Y,Y,f z⟩;simp! at ⊢;calc⟨⟨by decide,by decide,by decide⟩,?_⟩;split
 .exact d _ _
 let⟨b,h,i,D⟩:=xu k;let⟨e,j,l,E⟩:=xu (k+5);let⟨F,n,r,G⟩:=xu (k+7);erw[jh,Uz,V8] at h j n;erw[h,j,n];let s:0<=a%1000000007:=Ya _ (by decide);let t:a%1000000007<1000000007:=XD _ (by decide);let u:=rL s (Int.le_of_lt t) (show(0:Int)<=2*k+69069 by symm) (show 2*k+69069<=2147552717 by symm);refine⟨by decide,.inl ⟨by decide,by decide⟩,.inl ⟨⋯,⋯⟩,.inr ⟨by decide,by decide⟩,⟨by decide,by decide,?cp1⟩,by decide,i,?_⟩
 case cp1 =>
  generalize a%1000000007*(2*k+69069)=m at u ⊢;symm
 generalize(a%1000000007*(2*k+69069)+k*40503+977) ^ (3:Int).toNat=c;let v:0<=c%b:=Ya _ ⋯;let H:c%b<b:=XD _ i;let I:0<=a%65537:=Ya _ (by decide);let d1:a%65537<65537:=XD _ (by decide);let w:=rL v (show c%b<=2147483648 by symm) (show(0:Int)<=k+3 by symm) (show k+3<=1073741827 by symm);refine⟨.inl ⟨⋯,⋯⟩,by decide,⟨by decide,by decide,?cp2⟩,by decide,l,?_⟩
 case cp2 =>
  generalize c%b*(k+3)=m at w ⊢;symm
 let x:0<=(c%b*(k+3)+a%65537+5) ^ (5:Int).toNat%e:=Ya _ ⋯;let y:(c%b*(k+3)+a%65537+5) ^ (5:Int).toNat%e<e:=XD _ l;let J:0<=c%b%1009:=Ya _ (by decide);let K:c%b%1009<1009:=XD _ (by decide);generalize(c%b*(k+3)+a%65537+5) ^ (5:Int).toNat%e=m at x y ⊢;calc⟨by decide,⟨by decide,by decide,⋯⟩,by decide,r,.inr ⟨by decide,by decide⟩,.inr ⟨by decide,by decide⟩,d _ _⟩
noncomputable def jO(ns:-Int)(k z:Int):OV:=.lst [.lst (ns.map D.int),.int k,.int z]
structure bw(n:Int)(o:OV):Prop where
 out:∃ns k z,o=jO ns k z/\↑ns<=63/\0<=k/\k<=n
theorem bw.mono{n m:Int}{o:OV}(h:bw n o)(l:n<=m):bw m o:=by
 let⟨a,k,z,e,b,c,d⟩:=h.out;calc⟨a,k,z,e,b,c,⋯⟩
inductive xx (ys:-DV) (aK:-OV) (K:RV->-OV->Prop):Prop
 |mk (n) (o) (_:ys=[.o 0]) (_:aK=[o]) (_:bw n o) (_:∀o',bw n o'->K (.a 0) [o'])
def xy:WS:=(az (e8 (dC (.int 0)) (aa 0) (dC (.int 2))) (aZ (aa 0)))
theorem M6:Sem 1 0 xx xy:=by
 ext g c h-⟨n,o,rfl,rfl,P,a⟩;let⟨b,k,z,rfl,d,e,f⟩:=P.out;unfold xy jO;simp!;calc⟨[jO b k 0],Y,Y,a _ ⟨b,k,0,Y,d,e,f⟩⟩
inductive h8 (ys:-DV) (aK:-OV) (K:RV->-OV->Prop):Prop
 |mk (n m:Int) (o:OV) (_:ys=[.o 0,.p (.int m)]) (_:aK=[o]) (_:bw n o) (_:n<2 ^ 30) (_:0<m) (_:m<10 ^ 40) (_:∀r o',0<=r->r<m->bw (n+1) o'->K (.p (.int r)) [o'])
def xA:WS:=(az (bj (dT (d2 (d2 (aa 0) (dC (.int 2)) bc) (aa 1) oLt)) (az (aJ 2 (d2 (aa 0) (dC (.int 1)) bc)) (az (aJ 3 (dC (.int 0))) (az (bj (dT (d2 (aa 2) (dN (aq (d2 (aa 0) (dC (.int 0)) bc) ae) bC) oLt)) (aJ 3 (d2 (d2 (aa 0) (dC (.int 0)) bc) (aa 2) bc)) (bj (dT (d2 (dN (aq (d2 (aa 0) (dC (.int 0)) bc) ae) bC) (dC (.int 0)) (oI λi j=>.bl (S (j<i))))) (aJ 3 (d2 (d2 (d2 (aa 0) (dC (.int 0)) bc) (d2 (d2 (d2 (aa 2) (dC (.int 5)) bO) (dC (.int 3)) bX) (dN (aq (d2 (aa 0) (dC (.int 0)) bc) ae) bC) (cW (λ_ j=>0<j) λi j=>.int (i%j))) bc) (d2 (d2 (dC (.int 10)) (dC (.int 17)) (cW ir λi j=>.int (i ^ j.toNat))) (aa 2) bX) (cW (λ_ j=>0<j) λi j=>.int (i%j)))) cP)) (az (e8 (d2 (aa 2) (dC (.int 1)) bX) (aa 0) (dC (.int 1))) (e8 (aA 2 xv (aq (aa 3) (aq (aa 2) ae))) (aa 0) (dC (.int 2))))))) cP) (az (aJ 4 (d2 (d2 (aa 0) (dC (.int 2)) bc) (aa 1) (cW (λ_ j=>0<j) λi j=>.int (i%j)))) (az (e8 (d2 (d2 (aa 0) (dC (.int 2)) bc) (aa 1) (cW uj λi j=>.int (i.fdiv j))) (aa 0) (dC (.int 2))) (aZ (aa 4)))))
theorem M7:Sem 2 3 h8 xA:=by
 ext O K E-⟨n,m,o,rfl,rfl,P,Q,l,L,u⟩;let⟨ns,k,z,rfl,M,F,R⟩:=P.out;unfold xA jO
 let q:∀(e g:Int)(G:-(Option DV)),0<=e->e<=n+1->jg 1 E (.p (.int (g%m))) ⟨G,[ζ (.lst [.lst (ns.map D.int),.int e,.int (g.fdiv m)])]⟩:=λe g G a b =>
  ⟨[jO ns e (g.fdiv m)],Y,Y,u _ _ (Ya _ ⋯) (XD _ l) ⟨ns,e,_,Y,M,a,b⟩⟩
 let v:∀z,uj z m:=λz=>⟨⋯,⋯⟩
 let h:∀(e g:Int)(H I r:Option DV),0<=e->e<=n+1->(az (aJ 4 (d2 (d2 (aa 0) (dC (.int 2)) bc) (aa 1) (cW (λ_ j=>0<j) λi j=>.int (i%j)))) (az (e8 (d2 (d2 (aa 0) (dC (.int 2)) bc) (aa 1) (cW uj λi j=>.int (i.fdiv j))) (aa 0) (dC (.int 2))) (aZ (aa 4)))) (eu 1 E) ⟨[ζ (.o 0),ζ (.p (.int m)),H,I,r],[ζ (.lst [.lst (ns.map D.int),.int e,.int g])]⟩:=λe g H I r a b=>by
  simp![at2,DN];exact⟨l,v _,q _ _ _ a b⟩
 calc bf λN J=>?_;calc iD λA B s t=>?_;simp![at2] at ⊢;split
 .subst s
  calc bf λw f=>?_;simp![eB];subst f;calc bf λw f=>?_;simp!;subst f;refine bf λw f=>?_
  let x:∀(c:Int)(r:Option DV),w ⟨[ζ (.o 0),ζ (.p (.int m)),ζ (.p (.int k)),ζ (.p (.int c)),r],[ζ (.lst [.lst (ns.map D.int),.int k,.int z])]⟩:=λc r=>by
   subst f;simp![M4];calc⟨c,k,Y,Y,F,⋯,λg=>?_⟩;simp![DN];subst J;exact h _ _ _ _ _ ⋯ ⋯
  calc iD λA B s t=>?_;simp![dw] at ⊢;split
  .rename_i y
   let⟨c,C⟩:=DM F (W9 y);subst s;simp![dw];rw[C];exact x _ _
  .subst t
   calc iD λA B s t=>?_;simp![dw] at ⊢;split
   .rename_i d
    let d:=W9 d;let⟨c,C⟩:=DM (ns:=ns) (k:=(k*5+3)%(↑ns:Int)) (Ya _ ⋯) (XD _ d);subst s;simp![dw];calc⟨.inr ⟨by decide,by decide⟩,d,?_⟩;rw[C];exact⟨⟨by decide,by decide,by decide⟩,by show(0:Int)<10 ^ 17+k;symm,x _ _⟩
   .subst t
    exact x _ _
 .subst t J
  calc h _ _ _ _ _ ⋯ ⋯
noncomputable def d7(p:Int×Int):D:=.tup [.int p.1,.int p.2]
structure fg(many:Int)(ps:-(Int×Int)):Prop where
 ends:∀p∈ps,0<=p.1/\p.1<p.2/\p.2<many
 nF:ps.Nodup
 iT:↑ps<=66
theorem fg.sub{a:Int}{ps qs:-(Int×Int)}(h:fg a ps)(s:qs.Sublist ps):fg a qs :=
 ⟨λp b=>h.ends p (s.subset b),h.nF.sublist s,Wq s.length_le h.iT⟩
inductive xB (ys:-DV) (aK:-OV) (K:RV->-OV->Prop):Prop
 |mk (n kind many:Int) (o:OV) (_:ys=[.o 0,.p (.int kind),.p (.int many)]) (_:aK=[o]) (_:bw n o) (_:n+100<2 ^ 30) (_:1<=many) (_:many<=12) (_:∀ps o',fg many ps->bw (n+67) o'->K (.n (ps.map d7)) [o'])
def xC:WS:=(az (aJ 3 (eI ae)) (az (bH (eA (aq (aa 2) ae)) (bo 4) (dr (cJ (aa 3) (aq (cx (eA (aq (aa 4) ae)) [η,ζ 4] (bo 0) bI (bh (aq (aa 0) (aq (aa 1) ae)))) ae)))) (az (bj (dT (d2 (aa 1) (dC (.int 1)) oEq)) (aZ (eY (gk (aq (dC (.int 1)) (aq (aa 2) ae))) [η,ζ 0] (bo 0) bI (bh (aq (aA 2 h8 (aq (aa 1) (aq (aa 0) ae))) (aq (aa 0) ae))))) cP) (az (bj (dT (d2 (aa 1) (dC (.int 2)) oEq)) (az (aJ 5 (cx (eA (aq (d2 (aa 2) (dC (.int 1)) (oI λi j=>.int (i-j))) ae)) [η] (bo 0) bI (bh (aq (aa 0) (aq (d2 (aa 0) (dC (.int 1)) bX) ae))))) (aZ (gq (aa 5) (cx (bp (aa 3)) [η,ζ 2] (bo 0) (bT (dT (d2 (aa 0) (bh (aq (dC (.int 0)) (aq (d2 (aa 1) (dC (.int 1)) (oI λi j=>.int (i-j))) ae))) oEq)) (dT (d2 (aa 1) (dC (.int 2)) (oI λi j=>.bl (S (j<i)))))) (aa 0))))) cP) (az (bj (dT (d2 (aa 1) (dC (.int 3)) oEq)) (aZ (aa 3)) cP) (az (bj (dT (d2 (aa 1) (dC (.int 4)) oEq)) (aZ (eY (bp (aa 3)) [η,ζ 0] (bo 0) (dT (d2 (aA 2 h8 (aq (aa 1) (aq (dC (.int 4)) ae))) (dC (.int 0)) oEq)) (aa 0))) cP) (az (bj (dT (d2 (aa 1) (dC (.int 5)) oEq)) (az (aJ 6 (aA 2 h8 (aq (aa 0) (aq (d2 (aa 2) (dC (.int 1)) bX) ae)))) (aZ (eY (bp (aa 3)) [η,ζ 6,ζ 0] (bo 0) (bT (dT (d2 (d2 (d2 (aa 0) (dC (.int 0)) bc) (aa 1) oLt) (d2 (d2 (aa 0) (dC (.int 1)) bc) (aa 1) oLt) oEq)) (dT (d2 (aA 2 h8 (aq (aa 2) (aq (dC (.int 3)) ae))) (dC (.int 0)) (oI λi j=>.bl (S (j<i)))))) (aa 0)))) cP) (aZ (eY (bp (aa 3)) [η,ζ 0] (bo 0) (dT (d2 (aA 2 h8 (aq (aa 1) (aq (dC (.int 2)) ae))) (dC (.int 0)) oEq)) (aa 0))))))))))
theorem sub_snoc{b:Type}{a ps:-b}{i:Nat}{x:b}(h:a.Sublist (ps.take i))(e:ps[i]?=ζ x):(a++[x]).Sublist (ps.take (i+1))/\a.Sublist (ps.take (i+1)):=by
 let:ps.take (i+1)=ps.take i++[x]:=by rw[Y3,e];rfl
 rw[this];calc⟨h.append (q2Z _),h.trans (List.sublist_append_left _ _)⟩
theorem M8{b:Type}{l:-b}{c:b}(h:l.Nodup)(a:∀x∈l,x=c):↑l<=1:=by
 match l,h,a with
 |[],_,_=>exact VX _
 |[_],_,_=>exact B8 _
 |x::y::r,h,a =>
  let:=(Xt.mp h).1 y (Ux);calc absurd ((a x Ux).trans (a y (Uy _ Ux)).symm) this
theorem xD{n:Int}{o:OV}{ps:-(Int×Int)}{t:WT}{K:-D->aH->Prop}{a:-(Option DV)}{f:Option OV}{l:aH->Prop}(w:∀sl o',l ⟨sl,[ζ o',f]⟩)(E:↑ps<=66)(P:bw n o)(hn:n+70<2 ^ 30)
  (B:∀(p:Int×Int)(i:Nat)(o':OV)(Q:Bool->aH->Prop),p∈ps->i<=66->bw (n+i) o'->(∀b c,bw (n+i+1) c->Q b ⟨ζ (.p (d7 p))::a,[ζ c,f]⟩)->t ⟨ζ (.p (d7 p))::a,[ζ o',f]⟩ Q)
  (x:du 2 a a=a)
  (s:∀(e:-(Int×Int)) o',e.Sublist ps->bw (n+↑ps) o'->K (e.map d7) ⟨η::a,[ζ o',f]⟩) :
  j6 ⟨η::a,[ζ o,f]⟩ l (bo 0) t (aa 0) K (ps.map d7) [] ⟨η::a,[ζ o,f]⟩:=by
 refine uf (λi h u=>∃(e:-(Int×Int))(g:OV),e.Sublist (ps.take i)/\h=e.map d7/\bw (n+i) g/\u=⟨η::a,[ζ g,f]⟩) ⟨[],o,q2Z _,Y,P.mono ⋯,Y⟩ ?_ ?_
 .ext j d h u L y ⟨e,g,k,rfl,q,rfl⟩ z
  rw[B_] at y;let⟨p,r,rfl⟩:=KI.mp y;let C:j<↑ps:=(pa.mp r).1;calc⟨w _ _,?_⟩;show t ⟨ζ (.p (d7 p))::a,[ζ g,f]⟩ _;refine B p j g _ (WR r) ⋯ q λb c v=>?_
  let m:↑(e.map d7)<1000:=by
   rw[nW];let:=k.length_le;rw[Wv] at this;symm
  let A:bw (n+((j+1:Nat):Int)) c:=v.mono ⋯
  cases b with
  |true =>
   rw[VD Y];calc⟨m,z _ _ ⟨e++[p],c,(sub_snoc k r).1,by rw[VQ];rfl,A,?_⟩⟩;show(⟨η::du 2 a a,_⟩:aH)=_;rw[x];rfl
  |false =>
   rw[VB (by decide)];calc z _ _ ⟨e,c,(sub_snoc k r).2,Y,A,?_⟩;show(⟨η::du 2 a a,_⟩:aH)=_;rw[x];rfl
 .ext h u ⟨e,g,k,rfl,q,rfl⟩
  rw[nW] at q k;rw[Xb (B8 _)] at k;calc⟨w _ _,s e g k q⟩
theorem M9:Sem 3 4 xB xC:=by
 ext ys aK K'-⟨n,K,C,o,rfl,rfl,P,hn,m1,iA,M⟩;let⟨g,rfl⟩:∃g:Nat,C=g:=⟨C.toNat,⋯⟩;let O:g<=12:=by symm
 unfold xC;let f:fg g (jZ g):=⟨λp l=>wL l,CH g,CI g O⟩;calc bf λN w=>?_;simp!;subst w;calc bf λN w=>?_;simp!;calc⟨⋯,?_⟩;refine jA (λi E=>E=⟨[ζ (.o 0),ζ (.p (.int K)),ζ (.p (.int g)),ζ (.o 1),η,η,η],[ζ o,ζ (.lst ((jZ i).map d7))]⟩) rfl ?_ ?_
 .ext j d E L F rfl X
  let⟨F,rfl⟩:=ly F;simp!;let e:(0+(j:Int))=j:=by symm
  rw[e];refine⟨⋯,?_⟩
  refine j9 (λd=>match d with
   |.int a=>d7 (a,j)
   |_=>.non) (by rw[lz];symm) trivial ?_ ?_
  .ext d R y L' G h
   let⟨i,z⟩:=VJ.mp R;let⟨z,rfl⟩:=ly z;simp!;exact⟨G,h⟩
  .let e2:(jZ j).map d7++(dm 0 (j:Int).toNat).map (λd=>match d with
    |.int a=>d7 (a,j)
    |_=>.non)=(jZ (j+1)).map d7:=by
    show _=(jZ j++_).map d7;unfold dm;rw[VQ,VU,VU];congr 1;calc W6 λa _=>?_;simp[q4l]
   simp!;let UI:=CI j ⋯;calc⟨by rw[lz];symm,?_⟩;rw[e2];exact X _ rfl
 .ext E rfl
  calc⟨trivial,?_⟩;subst w;let eL:((g:Int)).toNat=g:=by symm
  rw[lz,eL];dsimp only
  let s:∀(H:-(Int×Int))(k:OV)(sl:-(Option DV))(m:-(Option OV)),fg g H->bw (n+67) k->jg 1 K' (.o (↑m+1)) ⟨sl,ζ k::(m++[ζ (.lst (H.map d7))])⟩:=λH k sl m h1 Y=>by
   calc⟨[k],rfl,rfl,?_⟩;show if ↑m+1<1 then _ else _;rw[VB ⋯]
   let:(ζ k::(m++[ζ (OV.lst (H.map d7))]))[↑m+1]?=ζ (ζ (.lst (H.map d7))):=by
    rw[VL,My (B8 _),Xg];rfl
   dsimp only;rw[this];exact .inl (M H k h1 Y)
  calc bf λN w=>?_;simp![dEq] at ⊢;split
  .refine⟨⋯,?_⟩
   refine uf (λi y E=>∃(u:-(Int×Int))(k:OV),↑u=i/\(∀(q:Nat)(p:Int×Int),u[q]?=ζ p->p.2=q+1/\0<=p.1/\p.1<p.2)/\y=u.map d7/\bw (n+i) k/\E=⟨[η,ζ (.o 0)],[ζ k,ζ (.lst ((jZ g).map d7))]⟩) ⟨[],o,rfl,λq p e=>by simp at e,rfl,P.mono ⋯,rfl⟩ ?_ ?_
   .ext j d y E L F ⟨u,k,A,S,rfl,t,rfl⟩ X
    let⟨F,rfl⟩:=ly F;simp!;calc⟨n+j,1+j,k,rfl,rfl,t,⋯,⋯,⋯,λr B T U v=>?_⟩;simp!;refine⟨⋯,X _ _ ⟨u++[(r,1+(j:Int))],B,by rw[qG,A];rfl,λq p e=>?_,by rw[VQ];rfl,v.mono ⋯,rfl⟩⟩
    by_cases c:q<↑u
    .rw[KH c] at e
     exact S q p e
    .let hl:=(pa.mp e).1
     rw[qG,WH] at hl;let:q=↑u:=by symm
     subst this;rw[My (B8 _),Xg] at e;cases(show ζ (r,1+(j:Int))=ζ p by simpa using e)
     exact⟨by show 1+(j:Int)=_;symm,T,U⟩
   .ext y E ⟨u,k,A,S,rfl,t,rfl⟩
    rw[lz] at A t;calc⟨trivial,?_⟩;refine s u k _ [_] ⟨λp l=>?_,?_,⋯⟩ (t.mono ⋯)
    .let⟨q,V⟩:=VJ.mp l
     let:=S q p V;let hl:=(pa.mp V).1;symm
    .refine Zm.mpr λi j z F M_ e=>?_
     let I:=S i _ (tG z);let W:=S j _ (tG F);rw[e] at I;symm
  subst w;calc bf λN w=>?_;simp![dEq] at ⊢;split
  .clear w
   refine⟨⋯,?_⟩
   refine j9 (λd=>match d with
    |.int a=>d7 (a,a+1)
    |_=>.non) (by rw[lz];symm) trivial ?_ ?_
   .ext d R y L' G h
    let⟨i,z⟩:=VJ.mp R;let⟨z,rfl⟩:=ly z;simp!;exact⟨G,h⟩
   .simp!
    refine j8 (λd=>dEq d (d7 (0,g-1))&&μ ((2:Int)<g)) id (by rw[nW];let:=f.iT;symm) rfl ?_ ?_
    .ext d R y L' G h Z
     let⟨p,l,rfl⟩:=VH.mp R;erw[d7] at h Z;simp![d7] at ⊢;split
     .rename_i I
      split
      .rename_i W
       exact⟨G,h (by rw[I,W];rfl)⟩
      .rename_i W
       exact Z (by rw[I,q2_ _ |>.mp W];rfl)
     .rename_i I
      exact Z (by rw[q2_ _ |>.mp I];rfl)
    .simp!
     let er:(dm 0 ((g:Int)-1).toNat).map (λd=>match d with
       |D.int a=>d7 (a,a+1)
       |x=>D.non)=((Wo (g-1)).map λi:Nat=>((i:Int),(i:Int)+1)).map d7:=by
      unfold dm;rw[VU,VU];let:((g:Int)-1).toNat=g-1:=by symm
      rw[this];calc W6 λa _=>?_;simp[q4l]
     let ef:(((jZ g).map d7).filter λd=>dEq d (d7 (0,g-1))&&μ ((2:Int)<g))=((jZ g).filter λp=>dEq (d7 p) (d7 (0,g-1))&&μ ((2:Int)<g)).map d7:=by
      rw[Yd];rfl
     rw[er,q0W,ef,<-VQ]
     let hf:∀p∈(jZ g).filter (λp=>dEq (d7 p) (d7 (0,g-1))&&μ ((2:Int)<g)),p=(0,(g:Int)-1)/\(2:Int)<g:=λp l=>by
      let:=(Wb.mp l).2;simp[d7,dEq,dW] at this;let⟨a,b⟩:=p;simp at this ⊢;symm
     let h1:↑((jZ g).filter (λp=>dEq (d7 p) (d7 (0,g-1))&&μ ((2:Int)<g)))<=1:=M8 (f.nF.sublist q2c) λp l=>(hf p l).1;refine⟨by rw[lz,nW];symm,s _ o _ [_] ⟨λp l=>?_,?_,?_⟩ (P.mono ⋯)⟩
     .rcases VY.mp l with l|l
      .let⟨i,z,rfl⟩:=VH.mp l
       let:=Wx.mp z;exact⟨⋯,⋯,by show(i:Int)+1<g;symm⟩
      .exact f.ends p (Wb.mp l).1
     .refine Xr.mpr ⟨?_,f.nF.sublist q2c,λa G b hb e=>?_⟩
      .refine XN.mpr (q09.imp λ{a b} ne e=>ne ?_)
       let:=congrArg q5S e;exact q4h this
      .subst e
       let⟨i,z,rfl⟩:=VH.mp G;let:=hf _ hb;let Y:=congrArg q5S this.1;let h3:=congrArg Prod.snd this.1;simp at Y h3;symm
     .rw[qG,nW,Xp];symm
  subst w;calc bf λN w=>?_;simp![dEq] at ⊢;split
  .exact⟨[o],rfl,rfl,.inl (M _ _ f (P.mono ⋯))⟩
  subst w;calc bf λN w=>?_;simp![dEq] at ⊢;split
  .refine xD (λ_ _=>rfl) f.iT P ⋯ (λp i k Q l z t J=>?_) rfl λu k A t=>?_
   .simp![dEq]
    calc⟨n+i,4,k,rfl,rfl,t,⋯,⋯,⋯,λr B T U v=>?_⟩;simp!;exact J _ _ v
   .exact s u k _ [_] (f.sub A) (t.mono (by let:=f.iT;symm))
  subst w;calc bf λN w=>?_;simp![dEq] at ⊢;split
  .refine⟨n,g+1,o,rfl,rfl,P,⋯,⋯,⋯,λhalf o1 T U P1=>?_⟩
   simp!;refine xD (n:=n+1) (λ_ _=>rfl) f.iT P1 ⋯ (λp i k Q l z t J=>?_) rfl λu k A t=>?_
   .simp![dEq,d7,dw,eB] at ⊢
    split
    .refine⟨n+1+i,3,k,rfl,rfl,t,⋯,⋯,⋯,λr B T U v=>?_⟩
     simp!;exact J _ _ v
    .exact J _ _ (t.mono ⋯)
   .exact s u k _ [_] (f.sub A) (t.mono (by let:=f.iT;symm))
  subst w;simp![dEq];refine xD (λ_ _=>rfl) f.iT P ⋯ (λp i k Q l z t J=>?_) rfl λu k A t=>?_
  .simp![dEq]
   calc⟨n+i,2,k,rfl,rfl,t,⋯,⋯,⋯,λr B T U v=>?_⟩;simp!;exact J _ _ v
  .calc s u k _ [_] (f.sub A) (t.mono (by let:=f.iT;symm))
theorem xE{a:Type}:∀{l:-a}{j:Nat}(h:j<↑l),q4q (l[j]::l.eraseIdx j) l
 |x::r,0,h=>Y0 _
 |x::r,j+1,h=>by
  let b:j<↑r:=by simpa using h
  show q4q (r[j]::x::r.eraseIdx j) (x::r);calc(q0u x r[j] _).trans ((xE b).cons x)
theorem xF{a b:Type}(f:a->b):∀(l:-a)(j:Nat),(l.map f).eraseIdx j=(l.eraseIdx j).map f
 |[],_=>Y
 |_::_,0=>Y
 |x::r,j+1=>by
  show f x::(r.map f).eraseIdx j=f x::(r.eraseIdx j).map f;rw[xF f r j]
noncomputable def bJ(y:Int×Int×Int):D:=.tup [.int y.1,.int y.2.1,.int y.2.2]
noncomputable def a7(m:Int)(ys:-(Int×Int×Int)):D:=.tup [.int m,.tup (ys.map bJ)]
noncomputable def mD(y:Int×Int×Int):Int×Int:=(y.1,y.2.1)
theorem fg.perm{a:Int}{ps qs:-(Int×Int)}(h:fg a ps)(p:qs.Perm ps):fg a qs :=
 ⟨λx b=>h.ends x (p.mem_iff.mp b),p.nodup_iff.mpr h.nF,by rw[p.length_eq];calc h.iT⟩
inductive xG (ys:-DV) (aK:-OV) (K:RV->-OV->Prop):Prop
 |mk (n iE most:Int) (o:OV) (_:ys=[.o 0,.p (.int iE),.p (.int most)]) (_:aK=[o]) (_:bw n o) (_:n+400<2 ^ 30) (_:1<=iE) (_:iE<=12) (_:0<=most) (_:most<=30) (_:∀m ws o',aI m ws->m<=iE->(↑ws:Int)<=most->bw (n+300) o'->K (.p (a7 m ws)) [o'])
def xH:WS:=(az (aJ 3 (aA 2 h8 (aq (aa 0) (aq (dC (.int 8)) ae)))) (az (aJ 4 (aA 2 h8 (aq (aa 0) (aq (dC (.int 4)) ae)))) (az (aJ 5 (d2 (dC (.int 1)) (aA 2 h8 (aq (aa 0) (aq (aa 1) ae))) bX)) (az (aJ 6 (fM 3 xB (aq (aa 0) (aq (aa 3) (aq (aa 5) ae))))) (az (aJ 7 (eI ae)) (az (bH (eA (aq (dN (aq (aa 2) (aq (dN (aq (aa 6) ae) bC) ae)) fQ) ae)) (bo 8) (az (b7 (f_ (aa 6) (aq (aA 2 h8 (aq (aa 0) (aq (dN (aq (aa 6) ae) bC) ae))) ae)) (dz 2 (cj (bo 9) (cj (bo 10) dt)))) (az (aJ 11 (d2 (bG (aq (dC (.int 7)) (aq (aA 2 h8 (aq (aa 0) (aq (dC (.int 3)) ae))) (aq (d2 (d2 (dC (.int 10)) (dC (.int 9)) (cW ir λi j=>.int (i ^ j.toNat))) (aA 2 h8 (aq (aa 0) (aq (dC (.int 2)) ae))) (oI λi j=>.int (i-j))) (aq (aA 2 h8 (aq (aa 0) (aq (d2 (d2 (dC (.int 10)) (dC (.int 9)) (cW ir λi j=>.int (i ^ j.toNat))) (dC (.int 1)) bX) ae))) ae))))) (aa 4) bc)) (dr (bU (aa 7) (aq (bh (aq (aa 9) (aq (aa 10) (aq (aa 11) ae)))) ae)))))) (aZ (bh (aq (aa 5) (aq (dN (aq (aa 7) ae) fP) ae))))))))))
theorem Na:Sem 3 9 xG xH:=by
 ext ys aK K'-⟨n,e,f,o,rfl,rfl,P,hn,h1,UJ,s0,UK,F⟩;unfold xH;calc bf λN g=>?_;simp!;calc⟨n,8,o,rfl,rfl,P,⋯,⋯,⋯,λq G _ _ H=>?_⟩;simp!;subst g;calc bf λN g=>?_;simp!;calc⟨n+1,4,G,rfl,rfl,H,⋯,⋯,⋯,λa I p0 p4 J=>?_⟩;simp!;subst g;calc bf λN g=>?_;simp!;calc⟨n+1+1,e,I,rfl,rfl,J,⋯,⋯,⋯,λB K m0 mh M=>?_⟩;simp!;subst g;calc bf λN g=>?_;simp!;calc⟨n+1+1+1,q,1+B,K,rfl,rfl,M,⋯,⋯,⋯,λv O w Q=>?_⟩;simp!
 subst g;calc bf λN g=>?_;simp!;subst g;calc bf λN g=>?_;let UL:=w.iT;simp!;calc⟨⋯,?_⟩;let ek:(min f (v.length:Int)).toNat=min f.toNat v.length:=by symm
 rw[ek];generalize hk:min f.toNat v.length=k
 refine jA (λi R=>∃(b:-(Int×Int))(s:-(Int×Int×Int))(t:OV),↑b+i=v.length/\↑s=i/\fg (1+B) (s.map mD++b)/\(∀y∈s,0<=y.2.2/\y.2.2<=1000000000)/\bw (n+70+4*i) t ∧
  R=⟨[ζ (.o 0),ζ (.p (.int e)),ζ (.p (.int f)),ζ (.p (.int q)),ζ (.p (.int a)),ζ (.p (.int (1+B))),ζ (.o 1),ζ (.o 2),η,η,η,η],[ζ t,ζ (.lst (b.map d7)),ζ (.lst (s.map bJ))]⟩)
  ⟨v,[],O,⋯,rfl,w,λy x=>absurd x Ww,Q.mono ⋯,rfl⟩ ?_ ?_
 .ext j d R L Z ⟨b,s,t,hq,S,z,x,C,rfl⟩ hL
  let⟨Z,rfl⟩:=ly Z;let q0:0<↑b:=by symm
  let T:=z.iT;rw[qG,nW] at T;calc⟨trivial,?_⟩;erw[bo,Vz,VA];calc bf λN2 u=>?_;simp!;calc⟨n+70+4*j,↑b,t,rfl,rfl,C,⋯,⋯,⋯,λr G r0 r1 H=>?_⟩;let⟨l,rfl⟩:∃l:Nat,r=l:=⟨r.toNat,⋯⟩;let E:l<↑b:=by symm
  let ix:seqIndex? (l:Int) ↑b=ζ l:=CJ E;let eq:(b.map d7)[l]?=ζ (.tup [.int b[l].1,.int b[l].2]):=by rw[B_,tG E];rfl
  simp![ix,eq];calc⟨⟨⋯,⋯⟩,?_⟩;subst u;calc bf λN2 u=>?_;erw[aJ,d2,bG];calc pG λU c=>?_;simp!;subst c;calc pG λU c=>?_;simp!;calc⟨n+70+4*j+1,3,G,rfl,rfl,H,⋯,⋯,⋯,λa1 I UM UN J=>?_⟩;simp!;subst c;calc pG λU c=>?_;simp!;calc⟨⟨by decide,by decide,by decide⟩,n+70+4*j+1+1,2,I,rfl,rfl,J,⋯,⋯,⋯,λa2 K UO UP M=>?_⟩;simp!;subst c;calc pG λU c=>?_;simp!;refine⟨⟨by decide,by decide,by decide⟩,n+70+4*j+1+1+1,10 ^ q16 9+1,K,rfl,rfl,M,⋯,by decide,by decide,λa3 O UQ V Q=>?_⟩
  simp!;subst c;simp!;let e9:(10:Int) ^ q16 9=1000000000:=by decide
  rw[e9] at V ⊢
  let⟨A,W,X,Y⟩:∃A:Int,eW [D.int 7,D.int a1,D.int (1000000000-a2),D.int a3] a=ζ (.int A)/\0<=A/\A<=1000000000:=by
   let:a=0\/a=1\/a=2\/a=3:=by symm
   rcases this with rfl|rfl|rfl|rfl
   .exact⟨7,rfl,⋯,⋯⟩
   .exact⟨a1,rfl,⋯,⋯⟩
   .exact⟨1000000000-a2,rfl,⋯,⋯⟩
   .exact⟨a3,rfl,⋯,⋯⟩
  rw[W];show N2 _;subst u;simp!;refine⟨⋯,hL _ ⟨b.eraseIdx l,s++[(b[l].1,b[l].2,A)],O,?_,?_,?_,?_,Q.mono ⋯,?_⟩⟩
  .rw[q0t E];symm
  .rw[qG,S];rfl
  .refine z.perm ?_
   rw[VQ,X0];calc ZZ _ ?_;exact xE E
  .ext y m
   rcases VY.mp m with h|h
   .exact x y h
   .rw[Wm.mp h];exact⟨X,Y⟩
  .rw[VQ,xF];rfl
 .ext R ⟨b,s,t,hq,S,z,x,C,rfl⟩
  calc⟨trivial,?_⟩;subst g;simp!;rw[lz] at S C;calc⟨[t],rfl,rfl,?_⟩;refine F (1+B) s t ⟨⋯,⋯,⋯,λy m=>?_,?_⟩ ⋯ ⋯ (C.mono ⋯)
  .let:=z.ends (mD y) (XC _ (VH.mpr ⟨y,m,rfl⟩))
   let h2:=x y m;erw[mD] at this;symm
  .calc (Xr.mp z.nF).1
end LJ
namespace L2
open PySem PySem.Spec PyProof.Rows
variable[a9]
section
variable{X:Cx}{fa:WA}
end
end L2
namespace LJ
open PySem L2
variable[a9]
noncomputable def xI:D->Bool
 |.int _=>θ
 |_=>ι
noncomputable def uk:D->Int->Int->Bool
 |.int i,a,b=>S (a<=i)&&S (i<=b)
 |_,_,_=>ι
noncomputable def oB:D->Int->Bool
 |.tup a,n=>(↑a:Int)==n
 |_,_=>ι
theorem iF{K:RV->-OV->Prop}{d:D}{sl:-(Option DV)}(h:K (.p d) []):jg 0 K (.p d) ⟨sl,[]⟩:=⟨[],Y,Y,h⟩
inductive um (ys:-DV) (aK:-OV) (K:RV->-OV->Prop):Prop
 |mk (d) (_:ys=[.p d]) (_:aK=[]) (_:K (.p (.bl (xI d))) [])
def xJ:WS:=(aZ (eO (d1 (aa 0) (cf "int")) (gj (d1 (aa 0) (cf "bool")))))
theorem Nc:Sem 1 0 um xJ:=by
 ext b a c-⟨d,rfl,rfl,k⟩;unfold xJ;simp!;cases d<;>erw[iz,fJ]<;>calc iF k
inductive nv (ys:-DV) (aK:-OV) (K:RV->-OV->Prop):Prop
 |mk (d) (lo) (hi) (_:ys=[.p d,.p (.int lo),.p (.int hi)]) (_:aK=[]) (_:K (.p (.bl (uk d lo hi))) [])
def xK:WS:=(aZ (eO (aA 1 um (aq (aa 0) ae)) (gm (aa 1) (aa 0) (aa 2) (oI λi j=>.bl (S (i<=j))) (oI λi j=>.bl (S (i<=j))))))
theorem Nd:Sem 3 0 nv xK:=by
 ext e a f-⟨d,b,g,rfl,rfl,k⟩;unfold xK;simp!;calc⟨d,Y,Y,?_⟩;cases d<;>simp![xI,uk] at k ⊢ <;> first|exact iF k|skip
 rename_i i
 by_cases c:b<=i
 .rw[VG c] at k ⊢
  erw[q2k] at k;exact iF k
 .rw[VC c] at k ⊢
  erw[q1Y] at k;calc iF k
inductive pH (ys:-DV) (aK:-OV) (K:RV->-OV->Prop):Prop
 |mk (d) (n) (_:ys=[.p d,.p (.int n)]) (_:aK=[]) (_:K (.p (.bl (oB d n))) [])
def xM:WS:=(aZ (eO (d1 (aa 0) (cf "tuple")) (d2 (dN (aq (aa 0) ae) bC) (aa 1) oEq)))
theorem Nf:Sem 2 0 pH xM:=by
 ext b a c-⟨d,n,rfl,rfl,k⟩;unfold xM;simp!;cases d<;>simp![iz,fJ,oB,dEq] at k ⊢ <;> calc iF k
end LJ
namespace L2
open PySem PySem.Spec PyProof.Rows
variable[a9]
def DO:-D->(D->Prop)->Prop:=λb K=>∃a:-(Int×Int),b=[.lst (a.map λp=>.tup [.int p.1,.int p.2])]/\↑a<=30/\(∀p∈a,0<=p.1/\p.1<p.2/\p.2<12)/\a.Nodup/\K (.int ↑a)
section
variable{X:Cx}{fa:WA}
theorem Ng{a:υ}{x d y e:Ε}(z:X.calm=θ)(B:X.A.units+64<cLine)(f:Gl X "len")(h:X.mg "len" = η)(j:bootBuiltins "len" = ζ (.builtin "len"))(l:Gl X "set")(C:X.mg "set" = η)(m:bootBuiltins "set" = ζ (.type "set"))(D:JA X [a] (cX fa))
  (he:‹starEach [a] X.env=[(ι,eval a X.env)]›) (n:‹starEach [.Call (.Name "set" d) [a] [] e] X.env=[(ι,eval (.Call (.Name "set" d) [a] [] e) X.env)]›):JE X (.Call (.Name "len" x) [.Call (.Name "set" d) [a] [] e] [] y) (tD (dN fa DO)) :=
 (o9 (LA) f h j (jK (ml (Lz z B) l C m D (he:=he)) bY) (he:=n)).weak fun σ H Q ⟨F,E,G,K,S,q,k⟩=>⟨F,E,G,_,S,q,λxs I J L F1 M u N c O=>by
  let⟨ds,⟨o,rfl,r,P,s,R⟩,t⟩:=pj c O J;let⟨v,rfl,a,L,rfl,T,U⟩:=iC t;let⟨V,rfl,h,g⟩:=DK U;calc⟨a,V,o,rfl,bS.of T,h,λi b W Y Z=>c.sub _ _ (g i b W Y Z),P,s,r,λp hp=>⟨p,↑o,rfl,cw,⋯,?_⟩⟩;let w:ba u (upd u p (lj p ↑o)):=c_ hp
  calc k _ _ R _ _ _ _ (N.trans (Ext.al c w)) (c.al w) rfl⟩
end
end L2
namespace LJ
open PySem L2
variable[a9]
theorem rM{i a b:Int}(h:a<=i)(h':i<=b):uk (.int i) a b=θ:=by
 show(S (a<=i)&&S (i<=b))=θ;rw[VG h,VG h'];rfl
inductive xN (ys:-DV) (aK:-OV) (K:RV->-OV->Prop):Prop
 |mk (m i j:Int) (_:ys=[.p (.int m),.p (.int i),.p (.int j)]) (_:aK=[]) (_:0<=i) (_:i<j) (_:j<m) (_:K (.p (.bl θ)) [])
def xO:WS:=(aZ (eO (aA 3 nv (aq (aa 1) (aq (dC (.int 0)) (aq (d2 (aa 0) (dC (.int 1)) (oI λi j=>.int (i-j))) ae)))) (aA 3 nv (aq (aa 2) (aq (d2 (aa 1) (dC (.int 1)) bX) (aq (d2 (aa 0) (dC (.int 1)) (oI λi j=>.int (i-j))) ae))))))
theorem Nh:Sem 3 0 xN xO:=by
 ext c a d-⟨m,i,j,rfl,rfl,b,e,f,k⟩;unfold xO;simp!;calc⟨.int i,0,m-1,Y,Y,?_⟩;rw[rM b ⋯];simp!;calc⟨.int j,i+1,m-1,Y,Y,?_⟩;rw[rM ⋯ ⋯];simp!;calc iF k
structure DP(m:Int)(y:Int×Int×Int):Prop where
 low:0<=y.1
 up:y.1<y.2.1
 most:y.2.1<m
 pr:0<=y.2.2/\y.2.2<=1000000000
inductive xP (ys:-DV) (aK:-OV) (K:RV->-OV->Prop):Prop
 |mk (m) (y) (_:DP m y) (_:ys=[.p (.int m),.p (bJ y)]) (_:aK=[]) (_:K (.p (.bl θ)) [])
def xQ:WS:=(az (bj (bQ (dT (aA 2 pH (aq (aa 1) (aq (dC (.int 3)) ae))))) (aZ (dC (.bl ι))) cP) (aZ (eO (aA 3 xN (aq (aa 0) (aq (d2 (aa 1) (dC (.int 0)) bc) (aq (d2 (aa 1) (dC (.int 1)) bc) ae)))) (aA 3 nv (aq (d2 (aa 1) (dC (.int 2)) bc) (aq (dC (.int 0)) (aq (dC (.int 1000000000)) ae)))))))
theorem Ni:Sem 2 0 xP xQ:=by
 ext c a d-⟨m,y,W,rfl,rfl,k⟩;unfold xQ;calc bf λN b=>?_;simp!;calc⟨bJ y,3,Y,Y,?_⟩;rw[show oB (bJ y) 3=θ from Y];simp!;subst b;simp![bJ,dw,eB,at2];calc⟨m,_,_,Y,Y,W.low,W.up,W.most,?_⟩;simp!;calc⟨_,0,1000000000,Y,Y,?_⟩;rw[rM W.pr.1 W.pr.2];simp!;calc iF k
theorem aI.way{m:Int}{ws:-(Int×Int×Int)}(W:aI m ws){y:Int×Int×Int}(h:y∈ws):DP m y :=
 let⟨a,b,c,d,e⟩:=W.ends y h
 ⟨a,⋯,⋯,d,e⟩
inductive xR (ys:-DV) (aK:-OV) (K:RV->-OV->Prop):Prop
 |mk (m) (ws) (_:aI m ws) (_:ys=[.p (.int m),.p (.tup (ws.map bJ))]) (_:aK=[]) (_:K (.p (.bl θ)) [])
def xS:WS:=(az (bj (eP (bQ (dT (d1 (aa 1) (cf "tuple")))) (dT (d2 (dN (aq (aa 1) ae) bC) (dC (.int 30)) (oI λi j=>.bl (S (j<i)))))) (aZ (dC (.bl ι))) cP) (az (bj (bQ (dT (dN (aq (cx (bp (aa 1)) [η,ζ 0] (bo 0) bI (aA 2 xP (aq (aa 1) (aq (aa 0) ae)))) ae) cI))) (aZ (dC (.bl ι))) cP) (aZ (d2 (dN (aq (cx (bp (aa 1)) [η] (bo 0) bI (b9 (aa 0) b8 (eZ (dC (.int 2))))) ae) DO) (dN (aq (aa 1) ae) bC) oEq))))
theorem Nj:Sem 2 0 xR xS:=by
 ext t n u-⟨m,c,W,rfl,rfl,k⟩;let f:=W.jE;let o:=W.iA;unfold xS;calc bf λN g=>?_;simp![iz,show fJ "tuple" "tuple" = θ from rfl];rw[VB (by rw[VC ⋯];decide)];subst g;calc bf λN g=>?_;simp!;refine j9 (λ_=>.bl θ) (by rw[nW];symm) trivial ?_ ?_
 .ext d i j L l h
  let⟨y,e,rfl⟩:=VH.mp i;simp!;calc⟨m,y,W.way e,rfl,rfl,?_⟩;simp!;exact⟨l,h⟩
 rw[show(c.map bJ).map (λ_=>D.bl θ)=(c.map λ_=>θ).map D.bl by rw[VU,VU];rfl];simp![Dq];rw[show(c.map λ_=>θ).all id=θ from Yf.mpr λb q=>by let⟨_,_,rfl⟩:=VH.mp q;rfl];simp!;subst g;simp!
 refine j9 (λd=>match d with
  |.tup [a,b,_]=>.tup [a,b]
  |_=>.non) (by rw[nW];symm) trivial ?_ ?_
 .ext d i j L l h
  let⟨y,e,rfl⟩:=VH.mp i;let r:cutD [D.int y.1,D.int y.2.1,D.int y.2.2] η (ζ 2)=[D.int y.1,D.int y.2.1]:=by unfold cutD;rfl
  simp![bJ,r] at h ⊢;exact⟨l,h⟩
 simp!;refine⟨c.map mD,by rw[VU,VU];rfl,by rw[nW];calc f,λp s=>?_,W.unlike,?_⟩
 .let⟨y,e,rfl⟩:=VH.mp s
  let Y:=W.way e;let:=Y.most;exact⟨Y.low,Y.up,by show y.2.1<12;symm⟩
 rw[nW];simp![dEq];calc iF k
inductive xT (ys:-DV) (aK:-OV) (K:RV->-OV->Prop):Prop
 |mk (m) (ws) (_:aI m ws) (_:ys=[.p (a7 m ws)]) (_:aK=[]) (_:K (.p (.bl θ)) [])
def xU:WS:=(az (bj (bQ (dT (aA 2 pH (aq (aa 0) (aq (dC (.int 2)) ae))))) (aZ (dC (.bl ι))) cP) (aZ (eO (aA 3 nv (aq (d2 (aa 0) (dC (.int 0)) bc) (aq (dC (.int 1)) (aq (dC (.int 12)) ae)))) (aA 2 xR (aq (d2 (aa 0) (dC (.int 0)) bc) (aq (d2 (aa 0) (dC (.int 1)) bc) ae))))))
theorem Nk:Sem 1 0 xT xU:=by
 ext d b e-⟨m,a,W,rfl,rfl,k⟩;unfold xU;calc bf λN c=>?_;simp!;calc⟨a7 m a,2,Y,Y,?_⟩;rw[show oB (a7 m a) 2=θ from Y];simp!;subst c;simp![a7,dw,eB];calc⟨.int m,1,12,Y,Y,?_⟩;rw[rM W.m1 W.iA];simp!;calc⟨m,a,W,Y,Y,?_⟩;simp!;calc iF k
noncomputable def a_(ns:-Int):D:=.lst (ns.map D.int)
noncomputable def hJ(fs:-Int)(i j:Nat):-Int:=fs.map λx=>if x=max (fs.getD i 0) (fs.getD j 0) then min (fs.getD i 0) (fs.getD j 0) else x
theorem rN(fs:-Int)(i j:Nat):↑(hJ fs i j)=fs.length:=by unfold hJ;rw[nW]
theorem oC{ns:-Int}{i:Nat}(h:i<↑ns):eW (ns.map D.int) (i:Int)=ζ (.int (ns.getD i 0)):=by
 calc iP ?_;rw[B_,tG h,KG,tG h];rfl
theorem cK{K:RV->-OV->Prop}{d:D}{sl:-(Option DV)}{mu:-(Option OV)}(h:K (.p d) []):jg 0 K (.p d) ⟨sl,mu⟩:=⟨[],Y,Y,h⟩
inductive rO (ys:-DV) (aK:-OV) (K:RV->-OV->Prop):Prop
 |mk (fs:-Int) (i j:Nat) (_:ys=[.p (a_ fs),.p (.int i),.p (.int j)]) (_:aK=[]) (_:i<fs.length) (_:j<fs.length) (_:fs.length<=12) (_:K (.p (a_ (hJ fs i j))) [])
def xV:WS:=(az (aJ 3 (dN (aq (d2 (aa 0) (aa 1) bc) (aq (d2 (aa 0) (aa 2) bc) ae)) f9)) (az (aJ 4 (dN (aq (d2 (aa 0) (aa 1) bc) (aq (d2 (aa 0) (aa 2) bc) ae)) fQ)) (aZ (cx (bp (aa 0)) [η,ζ 4,ζ 3] (bo 0) bI (fD (dT (d2 (aa 0) (aa 2) oEq)) (aa 1) (aa 0))))))
theorem Nl:Sem 3 2 rO xV:=by
 ext s l t-⟨a,i,j,rfl,rfl,m,n,o,k⟩;let c:=oC m;let f:=oC n;unfold xV a_;calc bf λN b=>?_;simp![c,f];subst b;calc bf λN b=>?_;simp![c,f];subst b;simp!
 refine j9 (λd=>match d with
  |.int x=>.int (if x=max (a.getD i 0) (a.getD j 0) then min (a.getD i 0) (a.getD j 0) else x)
  |_=>.non) (by rw[nW];symm) trivial ?_ ?_
 .ext d p r L g h
  let⟨x,_,rfl⟩:=VH.mp p;simp!;cases q:dEq (.int x) (.int (max (a.getD i 0) (a.getD j 0)))
  .let:¬ x=max (a.getD i 0) (a.getD j 0):=λz=>by rw[z,lA] at q;cases q
   erw[this,W7] at h;exact⟨g,h⟩
  .let:x=max (a.getD i 0) (a.getD j 0):=by erw[dEq] at q;exact XW q
   erw[this,Xj] at h;exact⟨g,h⟩
 .refine cK ?_
  let e:(a.map D.int).map (λd=>match d with
   |.int x=>D.int (if x=max (a.getD i 0) (a.getD j 0) then min (a.getD i 0) (a.getD j 0) else x)
   |_=>.non)=(hJ a i j).map D.int:=by
   unfold hJ;rw[VU,VU];rfl
  rw[e];calc k
noncomputable def dO(ws:-(Int×Int×Int))(n:Int):Nat×Nat:=((ws.getD n.toNat (0,0,0)).1.toNat,(ws.getD n.toNat (0,0,0)).2.1.toNat)
noncomputable def gg(ws:-(Int×Int×Int))(fs:-Int)(ns:-Int):-Int:=ns.foldl (λa n=>hJ a (dO ws n).1 (dO ws n).2) fs
theorem rP(ws:-(Int×Int×Int)):∀(ns:-Int)(fs:-Int),↑(gg ws fs ns)=fs.length
 |[],a=>Y
 |n::r,a=>by
  show↑(gg ws (hJ a _ _) r)=_;rw[rP ws r,rN]
noncomputable def ic(m:Int)(ws:-(Int×Int×Int))(ns:-Int):-Int:=gg ws (bK m.toNat) ns
def Nums(ws:-(Int×Int×Int))(ns:-Int):Prop:=∀n∈ns,0<=n/\n<(↑ws:Int)
theorem mE{m:Int}{ws:-(Int×Int×Int)}(W:aI m ws){n:Int}(e:0<=n)(f:n<(↑ws:Int)):∃y,ws.getD n.toNat (0,0,0)=y/\y∈ws/\eW (ws.map bJ) n=ζ (bJ y)/\∃i j:Nat,y.1=i/\y.2.1=j/\i<m.toNat/\j<m.toNat/\i<j:=by
 let⟨k,rfl⟩:∃k:Nat,n=k:=⟨n.toNat,⋯⟩;let d:k<↑ws:=by symm
 refine⟨ws[k],?_,Yh d,iP ?_,?_⟩
 .rw[V7,KG,tG d];rfl
 .rw[B_,tG d];rfl
 .let⟨a,b,c,_,_⟩:=W.ends _ (Yh d)
  calc⟨ws[k].1.toNat,ws[k].2.1.toNat,⋯,⋯,⋯,⋯,⋯⟩
inductive uo (ys:-DV) (aK:-OV) (K:RV->-OV->Prop):Prop
 |mk (m:Int) (ws:-(Int×Int×Int)) (ns:-Int) (_:aI m ws) (_:Nums ws ns) (_:((ys=[.p (a7 m ws),.p (a_ ns)]/\aK=[]/\K (.p (a_ (ic m ws ns))) [])\/(ys=[.p (a7 m ws),.o 0]/\aK=[.lst (ns.map D.int)]/\K (.p (a_ (ic m ws ns))) [.lst (ns.map D.int)])))
def uq:WS:=(az (aJ 2 (ft (aq (d2 (aa 0) (dC (.int 0)) bc) ae))) (az (bH (bp (aa 1)) (bo 3) (az (aJ 4 (d2 (d2 (aa 0) (dC (.int 1)) bc) (aa 3) bc)) (aJ 2 (aA 3 rO (aq (aa 2) (aq (d2 (aa 4) (dC (.int 0)) bc) (aq (d2 (aa 4) (dC (.int 1)) bc) ae))))))) (aZ (aa 2))))
theorem Nm:Sem 2 3 uo uq:=by
 ext ys G K'-⟨m,a,b,W,H,h⟩;let m1:=W.m1;let I:=W.iA;let J:↑(bK m.toNat)=m.toNat:=by unfold bK;simp
 let g:∀(x:DV)(c:-(Option OV))(l:aH->Prop)(K:KS),(∀M,l ⟨M,c⟩)->(∀u,u=ic m a b->K.nx ⟨[ζ (.p (a7 m a)),ζ x,ζ (.p (a_ u)),η,η],c⟩)->((∃d,x=.p d)\/∃k,x=.o k/\k<↑c) →
   kZ ⟨[ζ (.p (a7 m a)),ζ x,ζ (.p (a_ (bK m.toNat))),η,η],c⟩ l (bo 3) (az (aJ 4 (d2 (d2 (aa 0) (dC (.int 1)) bc) (aa 3) bc)) (aJ 2 (aA 3 rO (aq (aa 2) (aq (d2 (aa 4) (dC (.int 0)) bc) (aq (d2 (aa 4) (dC (.int 1)) bc) ae)))))) K (b.map D.int) ⟨[ζ (.p (a7 m a)),ζ x,ζ (.p (a_ (bK m.toNat))),η,η],c⟩:=by
  ext x c l K z s O;refine jA (λi v=>v=⟨[ζ (.p (a7 m a)),ζ x,ζ (.p (a_ (gg a (bK m.toNat) (b.take i)))),η,η],c⟩) rfl ?_ ?_
  .ext j d v L A rfl P
   rw[B_] at A;let⟨n,t,rfl⟩:=KI.mp A;let⟨Q,R⟩:=H n (WR t);let⟨y,S,hy,T,i,k,B,C,h1,h2,_⟩:=mE W Q R;calc⟨z _,?_⟩;erw[bo,Vz,VA];calc bf λN f=>?_;simp![eB,a7,T];subst f;simp![dw,eB,bJ];let E:↑(gg a (bK m.toNat) (b.take j))=m.toNat:=by rw[rP,J]
   refine⟨gg a (bK m.toNat) (b.take j),i,k,by rw[B,C],rfl,⋯,⋯,⋯,?_⟩
   let U:hJ (gg a (bK m.toNat) (b.take j)) i k=gg a (bK m.toNat) (b.take (j+1)):=by
    let:b.take (j+1)=b.take j++[n]:=by rw[Y3,t];rfl
    rw[this];unfold gg;rw[q0X];show _=hJ _ (dO a n).1 (dO a n).2
    let:dO a n=(i,k):=by
     unfold dO;rw[S,B,C,V7,V7]
    rw[this]
   rw[U]
   let V:(aH.trim ⟨[ζ (.p (a7 m a)),ζ x,ζ (.p (a_ (bK m.toNat))),η,η],c⟩ ⟨[ζ (.p (a7 m a)),ζ x,ζ (.p (a_ (gg a (bK m.toNat) (b.take (j+1))))),ζ (.p (.int n)),ζ (.p (bJ y))],c⟩)=⟨[ζ (.p (a7 m a)),ζ x,ζ (.p (a_ (gg a (bK m.toNat) (b.take (j+1))))),η,η],c⟩:=by
    unfold aH.trim;rw[VW];rcases O with⟨d,rfl⟩|⟨q,rfl,this⟩
    .rfl
    .erw[du,fL,this,Xj]
   let:=P _ rfl;rw[<-V] at this;exact this
  .ext v rfl
   rw[nW,Xb (B8 _)];exact⟨z _,s _ rfl⟩
 let F:dm 0 m.toNat=(bK m.toNat).map D.int:=ou m.toNat;rcases h with⟨rfl,rfl,k⟩|⟨rfl,rfl,k⟩
 .unfold uq
  calc bf λN f=>?_;simp![dw,a7];calc⟨⟨⋯,⋯⟩,?_⟩;subst f;rw[F];calc bf λN f=>j_ λX Y Z w r s=>?_;simp![a_];subst w r s;calc g (.p (a_ b)) [] _ _ (λ_=>trivial) (λu e=>?_) (.inl ⟨_,rfl⟩);subst e;show N _;subst f;simp!;exact cK k
 .unfold uq
  calc bf λN f=>?_;simp![dw,a7];calc⟨⟨⋯,⋯⟩,?_⟩;subst f;rw[F];calc bf λN f=>j_ λX Y Z w r s=>?_;simp!;subst w r s;calc g (.o 0) [ζ (.lst (b.map D.int))] _ _ (λ_=>rfl) (λu e=>?_) (.inr ⟨0,rfl,q3y⟩);subst e;show N _;subst f;simp!;calc⟨[.lst (b.map D.int)],rfl,rfl,k⟩
theorem Nn(a b:Int):sortI [a,b]=[min a b,max a b]:=by
 refine(oq (as:=[min a b,max a b]) ?_ ?_).symm
 .by_cases c:a<=b
  .rw[q3z c,q3a c]
  .rw[q3b ⋯,q3A ⋯]
   exact q0u ..
 .refine List.Pairwise.cons (λx d=>?_) (List.pairwise_singleton _ _)
  rw[Wm.mp d];symm
def xW:GD:=uo
def ur:WS:=(az (aJ 2 (ft (aq (d2 (aa 0) (dC (.int 0)) bc) ae))) (az (bH (bp (aa 1)) (bo 3) (az (b7 (dN (aq (cx (bp (b9 (d2 (d2 (aa 0) (dC (.int 1)) bc) (aa 3) bc) b8 (eZ (dC (.int 2))))) [η,ζ 2] (bo 0) bI (d2 (aa 1) (aa 0) bc)) ae) kE) (dz 2 (cj (bo 4) (cj (bo 5) dt)))) (aJ 2 (cx (bp (aa 2)) [η,ζ 4,ζ 5] (bo 0) bI (fD (dT (d2 (aa 0) (aa 2) oEq)) (aa 1) (aa 0)))))) (aZ (aa 2))))
theorem Np:Sem 2 4 xW ur:=by
 ext ys P K'-⟨m,b,ns,W,Q,h⟩;let m1:=W.m1;let R:=W.iA;let S:↑(bK m.toNat)=m.toNat:=by unfold bK;simp
 let l:∀(x:DV)(c:-(Option OV))(r:aH->Prop)(K:KS),(∀T,r ⟨T,c⟩)->(∀a,a=ic m b ns->K.nx ⟨[ζ (.p (a7 m b)),ζ x,ζ (.p (a_ a)),η,η,η],c⟩)->((∃d,x=.p d)\/∃k,x=.o k/\k<↑c) →
   kZ ⟨[ζ (.p (a7 m b)),ζ x,ζ (.p (a_ (bK m.toNat))),η,η,η],c⟩ r (bo 3) (az (b7 (dN (aq (cx (bp (b9 (d2 (d2 (aa 0) (dC (.int 1)) bc) (aa 3) bc) b8 (eZ (dC (.int 2))))) [η,ζ 2] (bo 0) bI (d2 (aa 1) (aa 0) bc)) ae) kE) (dz 2 (cj (bo 4) (cj (bo 5) dt)))) (aJ 2 (cx (bp (aa 2)) [η,ζ 4,ζ 5] (bo 0) bI (fD (dT (d2 (aa 0) (aa 2) oEq)) (aa 1) (aa 0))))) K (ns.map D.int) ⟨[ζ (.p (a7 m b)),ζ x,ζ (.p (a_ (bK m.toNat))),η,η,η],c⟩:=by
  ext x c r K G t U;refine jA (λi C=>C=⟨[ζ (.p (a7 m b)),ζ x,ζ (.p (a_ (gg b (bK m.toNat) (ns.take i)))),η,η,η],c⟩) rfl ?_ ?_
  .ext j d C L H rfl V
   rw[B_] at H;let⟨n,u,rfl⟩:=KI.mp H;let⟨X,Y⟩:=Q n (WR u);let⟨y,Z,hy,ea,i,k,I,J,h1,h2,_⟩:=mE W X Y;calc⟨G _,?_⟩;let v:↑(gg b (bK m.toNat) (ns.take j))=m.toNat:=by rw[rP,S]
   let M:hJ (gg b (bK m.toNat) (ns.take j)) i k=gg b (bK m.toNat) (ns.take (j+1)):=by
    let:ns.take (j+1)=ns.take j++[n]:=by rw[Y3,u];rfl
    rw[this];unfold gg;rw[q0X];show _=hJ _ (dO b n).1 (dO b n).2
    let:dO b n=(i,k):=by
     unfold dO;rw[Z,I,J,V7,V7]
    rw[this]
   generalize UR:gg b (bK m.toNat) (ns.take j)=a at v M;let a1:=oC (ns:=a) (i:=i) ⋯;let a2:=oC (ns:=a) (i:=k) ⋯;erw[bo,Vz,VA];calc bf λN f=>?_;let ec:cutD [D.int y.1,D.int y.2.1,D.int y.2.2] η (ζ 2)=[D.int i,D.int k]:=by rw[<-I,<-J];rfl
   simp![eB,a7,ea,bJ,ec]
   refine L2.j9 (λd=>match d with
    |.int z=>.int (a.getD z.toNat 0)
    |_=>.non) (by show 2<=1000;decide) trivial ?_ ?_
   .ext d B E L' A g
    erw[Uw,Ww,YB] at B;rcases B with rfl|rfl
    .simp![a_,a1]
     erw[V7] at g;exact⟨A,g⟩
    .simp![a_,a2]
     erw[V7] at g;exact⟨A,g⟩
   .let es:intsOf [D.int (a.getD i 0),D.int (a.getD k 0)]=ζ [a.getD i 0,a.getD k 0]:=rfl
    simp![V7,kE,es,Nn];subst f;simp![a_]
    refine L2.j9 (λd=>match d with
     |.int x=>.int (if x=max (a.getD i 0) (a.getD k 0) then min (a.getD i 0) (a.getD k 0) else x)
     |_=>.non) (by rw[nW];symm) trivial ?_ ?_
    .ext d B E L' A g
     let⟨z,_,rfl⟩:=VH.mp B;simp!;cases q:dEq (.int z) (.int (max (a.getD i 0) (a.getD k 0)))
     .let:¬ z=max (a.getD i 0) (a.getD k 0):=λw=>by rw[w,lA] at q;cases q
      erw[this,W7] at g;exact⟨A,g⟩
     .let:z=max (a.getD i 0) (a.getD k 0):=by erw[dEq] at q;exact XW q
      erw[this,Xj] at g;exact⟨A,g⟩
    .let e:(a.map D.int).map (λd=>match d with
      |.int x=>D.int (if x=max (a.getD i 0) (a.getD k 0) then min (a.getD i 0) (a.getD k 0) else x)
      |_=>.non)=(hJ a i k).map D.int:=by
      unfold hJ;rw[VU,VU];rfl
     rw[e,M]
     let eq:(aH.trim ⟨[ζ (.p (a7 m b)),ζ x,ζ (.p (a_ (bK m.toNat))),η,η,η],c⟩ ⟨[ζ (.p (a7 m b)),ζ x,ζ (.p (a_ (gg b (bK m.toNat) (ns.take (j+1))))),ζ (.p (.int n)),ζ (.p (.int (min (a.getD i 0) (a.getD k 0)))),ζ (.p (.int (max (a.getD i 0) (a.getD k 0))))],c⟩)=⟨[ζ (.p (a7 m b)),ζ x,ζ (.p (a_ (gg b (bK m.toNat) (ns.take (j+1))))),η,η,η],c⟩:=by
      unfold aH.trim;rw[VW];rcases U with⟨d,rfl⟩|⟨q,rfl,this⟩
      .rfl
      .erw[du,fL,this,Xj]
     let:=V _ rfl;rw[<-eq] at this;exact this
  .ext C rfl
   rw[nW,Xb (B8 _)];exact⟨G _,t _ rfl⟩
 let O:dm 0 m.toNat=(bK m.toNat).map D.int:=ou m.toNat;rcases h with⟨rfl,rfl,k⟩|⟨rfl,rfl,k⟩
 .unfold ur
  calc bf λN f=>?_;simp![dw,a7];calc⟨⟨⋯,⋯⟩,?_⟩;subst f;rw[O];calc bf λN f=>j_ λg' b' K2 F s t=>?_;simp![a_];subst F s t;calc l (.p (a_ ns)) [] _ _ (λ_=>trivial) (λa e=>?_) (.inl ⟨_,rfl⟩);subst e;show N _;subst f;simp!;exact cK k
 .unfold ur
  calc bf λN f=>?_;simp![dw,a7];calc⟨⟨⋯,⋯⟩,?_⟩;subst f;rw[O];calc bf λN f=>j_ λg' b' K2 F s t=>?_;simp!;subst F s t;calc l (.o 0) [ζ (.lst (ns.map D.int))] _ _ (λ_=>rfl) (λa e=>?_) (.inr ⟨0,rfl,q3y⟩);subst e;show N _;subst f;simp!;calc⟨[.lst (ns.map D.int)],rfl,rfl,k⟩
noncomputable def xX(ls:-(-Int)):D:=.lst (ls.map a_)
theorem Nq{m:Int}{ws:-(Int×Int×Int)}{ns:-Int}:↑(ic m ws ns)=m.toNat:=by
 unfold ic;rw[rP];unfold bK;simp
theorem uu{n:Nat}{z:Int}(h:z∈bK n):0<=z/\z<(n:Int):=by
 unfold bK at h;let⟨i,a,rfl⟩:=VH.mp h;let:=Wx.mp a;simp;symm
theorem l5{H:Hp}{a:U}{o:HO}(h:H a=η):ba H (upd H a o):=λb u e=>by rw[bu (ed e h)];calc e
structure uv(H:Hp)(p c:U)(at_ z:Int):Prop where
 lst:H p=ζ (.lst [.ref c,.int at_,.int z])
 cells:∃ns:-Int,H c=ζ (.lst (ns.map V.int))/\↑ns<=63
 pos:0<=at_
theorem uv.ne{H:Hp}{p c:U}{k z:Int}(P:uv H p c k z):c≠p:=by
 let⟨a,h,_⟩:=P.cells;ext e;subst e;rw[P.lst] at h;let b:=WC h;injection b with DQ
 cases a with
 |nil=>cases DQ
 |cons n r=>injection DQ with h1 _;cases h1
theorem Nr{ns:-Int}{k:Int}(b:0<=k)(c:k<(↑ns:Int)):∃n,eW (ns.map V.int) k=ζ (.int n):=by
 let⟨i,rfl⟩:∃i:Nat,k=i:=⟨k.toNat,⋯⟩;let a:i<↑ns:=by symm
 calc⟨ns[i],iP ?_⟩;rw[B_,tG a];rfl
def DR(K:KC):Sp:=λe H Q _=>∃(a:U)(d:-Int),e=[.ref a]/\bS K H a (d.map V.int)/\↑d<=63/\∀(p c:U)(b:Hp),ba H b->H p=η->uv b p c 0 0->Q (.ref p) b
def uw(K:KC):Sp:=λc H Q _=>∃(a:U)(b:-Int),c=[.ref a]/\bS K H a (b.map V.int)/\↑b<=63/\a9.ok H/\∀d,Q (.bl θ) d
theorem xY(ns:-Int)(a b:Option Int):eF (ns.map V.int) a b=((ns.drop (HT.bM ↑ns 0 a)).take (HT.bM ↑ns ↑ns b-HT.bM ↑ns 0 a)).map V.int:=by
 unfold eF;rw[nW,List.map_take,List.map_drop]
theorem Nu{H:Hp}{p c a:U}{n:Nat}(d:a9.ok H)(N:uv H p c 0 0):∃(F:Hp)(ns:-Int),↑ns<=63/\SR F [p] ⟨η::ζ (.o 0)::VF n η,[ζ (.lst [.lst (ns.map D.int),.int 0,.int 0])]⟩ (ζ (.ref a)::ζ (.ref p)::VF n η) H:=by
 let⟨g,j,v⟩:=N.cells;let w:=N.ne
 let r:∀{b:U},((∃m,H b=ζ (.tbl m))\/∃t,H b=ζ (.lst t))->a9.cs b=η:=λ{b} h=>by
  cases q:a9.cs b with
  |none=>rfl
  |some o =>
   let⟨t,rfl⟩:=a9.ct q;let:=a9.co d _ _ q;rcases h with⟨_,h⟩|⟨_,h⟩<;>rw[this] at h<;>cases h
 refine⟨upd a9.cs c (.lst (g.map V.int)),g,v,⟨λb o e=>?_,λb ⟨k,s,f,u⟩=>?_,Y,λk l a s A f u _ _=>?_,λk s e=>?_,λi x e=>?_,by simp,d,⟨λb y=>by
  let⟨m,q⟩:=a9.tb d y;rw[bu λz=>by subst z;rw[j] at q;cases q]
  calc r (q0p ⟨m,q⟩),λb o e=>by rw[bu λz=>by subst z;rw[r (q1Q ⟨_,j⟩)] at e;cases e];calc e⟩⟩⟩
 .by_cases z:b=c
  .subst z;rw[cw] at e;cases e;exact j
  .rw[bu z] at e;exact a9.co d _ _ e
 .cases k with
  |zero=>cases(show ζ p=ζ b by simpa using f);rw[bu (Yy w)];exact r (q1Q ⟨_,N.lst⟩)
  |succ k=>simp at f
 .cases k with
  |zero =>
   cases l with
   |zero=>rfl
   |succ l=>simp at u
  |succ k=>simp at f
 .cases k with
  |zero =>
   cases(show OV.lst [.lst (g.map D.int),.int 0,.int 0]=s by simpa using e)
   calc⟨p,_,Y,N.lst,_,Y,?_⟩;calc .cons ?_ (.cons Y (.cons Y .nil));erw[Is];exact⟨c,_,Y,cw,mB⟩
  |succ k=>simp at e
 .cases i with
  |zero=>simp at e
  |succ i =>
   cases i with
   |zero =>
    cases(show DV.o 0=x by simpa using e)
    exact⟨_,Y,p,Y,Y⟩
   |succ i =>
    exfalso;let e:(VF n (η:Option DV))[i]?=ζ (ζ x):=by simpa using e
    rw[ZE] at e;split at e<;>cases e
theorem Nv{B:WS}{F:Hp}{c:-U}{b:aH}{d:St}{H:Hp}{Q:VK}(S:SR F c b d H)(h:B ⟨λ_=>False,λx _=>x=.p (.bl θ),λ_=>False,λ_=>False⟩ b)(q:∀H',Q (.bl θ) H'):eh B {nx:=λ_ H'=>Q .non H',rt:=Q} d H :=
 ⟨F,c,b,_,S,h,⟨λa h=>h.elim,λa h=>h.elim,λa h=>h.elim,λx a h v i f g e j k V=>by
  let h:x=.p (.bl θ):=h;subst h;let V:v=.bl θ:=V;subst V
  calc q e,trivial⟩⟩
end LJ
namespace L2
open PySem PySem.Spec PyProof.Rows
def xZ(Ts:-(U×Array M))(H:Hp):Prop:=∀b,(∃c,Ts.lookup b=ζ c/\H b=ζ (.tbl c))\/(Ts.lookup b=η/\(H b=η\/(∃o a,H b=ζ (.frz o (.lst a)))\/∃a,H b=ζ (.tup a)))
noncomputable def eT(cs H:Hp):Hp:=λb=>match cs b with
 |none=>H b
 |some _=>η
theorem x4{cs H:Hp}{b:U}{u:HO}(h:eT cs H b=ζ u):cs b=η/\H b=ζ u:=by
 unfold eT at h
 cases q:cs b with
 |none=>rw[q] at h;exact⟨Y,h⟩
 |some o=>rw[q] at h;cases h
noncomputable def k6(cs H:Hp):Hp:=λb=>match cs b with
 |none=>H b
 |some o=>ζ o
theorem ny{cs H:Hp}{b:U}(h:cs b=η):k6 cs H b=H b:=by unfold k6;rw[h]
theorem ux{cs H:Hp}{b:U}{o:HO}(h:cs b=ζ o):k6 cs H b=ζ o:=by unfold k6;rw[h]
structure Cs(P:X)(w:l)(cs:Hp)(h:Q):Prop where
 ct:∀{b:U}{o:HO},cs b=ζ o->∃xs,o=.tup xs
 ok:∀{b:U}{xs:-V},cs b=ζ (.tup xs)->↑xs<=sizeLine/\∃lg:-M,Vals xs lg/\IsTup h b lg.toArray
theorem Cs.no{P:X}{w:l}{cs:Hp}{h:Q}(C:Cs P w cs h){b:U}{u:Γ}(e:h.get? b=ζ u)(n:u.cls≠.type "tuple"):cs b=η:=by
 cases q:cs b with
 |none=>rfl
 |some o =>
  let⟨f,rfl⟩:=C.ct q;let⟨_,c,_,d⟩:=C.ok q;let⟨o,a,r⟩:=d;rw[e] at a;cases a;calc absurd r.1 n
theorem Nx{P:ψ}{w:ω}{K:KC}{G mb:π->Option ν}{CX:kS}{k:Nat}{fa a:ξ}{fd:FuncData}{x:π}{sp:Sp}{c:ο}{vs:-ν}{ns:-Int}(Ts:-(ξ×Array ν)){cs:Hp}(U:Cs P w cs c.heap)
  (C:∀b ps,Ts.lookup b=ζ ps->c.heap.get? b=ζ {cls:=.none,data:=.fields ps}/\isCodeTable c.heap b/\K.lookup b=η)
  (KX:K.In c.heap) (O:c.heap.Ns mainGlobals G) (l:c.heap.Ns builtinsNs mb) (Ny:∀x:π,x≠"__name__" -> mb x=bootBuiltins x) (x5:c.heap.NoLimit) (hg:c.gens = #[])
  (Q:c.heap.get? a=ζ {cls:=.type "list",data:=.seq vs.toArray}) (hi:IntsAre vs ns) (hl:↑ns<=sizeLine) (hr:bz k callerA)
  (hB:∃B ob,G "__builtins__" = ζ (.ref B)/\B≠builtinsNs/\c.heap.get? B=ζ ob/\ob.cls=.type "module" /\ ob.dict=ζ builtinsNs/\ob.data=.plain)
  (F:∀base:Α,K.In base->base.Ns mainGlobals G->(∀b ps,Ts.lookup b=ζ ps->base.BuiltinsAt G b)->cG P w K G base CX k fa fd [x] sp) (S:∀(s:ο)(u:ν),BindsTo s fd ⟨[u],[]⟩ [(x,u)])
  (Nz:∀H:Hp,xZ Ts H->ba cs H->bS K H a (ns.map V.int)->sp [.ref a] H (λv _=>v=.bl θ) λ_ _ _=>False)
  (NA:∀H e s',CX [] H c (λ_ _ _=>False) e s'->False) :
  codeAny (ς P w) callerA (.call (.ref fa) ⟨[.ref a],[]⟩) (λr s'=>r=.ok (.ret (.bool θ))/\OldK c.heap s'.heap/\s'.os=c.os/\AllBare s'.gens) c:=by
 let rv:=B6 hi;let x6:=↑hi
 let aT:Ts.lookup a=η:=by
  cases q:Ts.lookup a with
  |none=>rfl
  |some i =>
   let:=(C a i q).1;rw[Q] at this;let z:=congrArg Obj.cls (WC this);cases(show XR "list" = Wz from z)
 let aC:cs a=η:=U.no Q (show XR "list" ≠ XR "tuple" by decide)
 let tC:∀{b i},Ts.lookup b=ζ i->cs b=η:=λ{b i} t=>U.no (C b i t).1 nofun
 let J:∀H:Hp,xZ Ts H->ba cs H->bS K H a (ns.map V.int)->fz P w H c.heap->(∀b,Ts.lookup b=η->cs b=η->H b≠η->b=a)->(H a≠η->K.lookup a=η) →
   codeAny (ς P w) callerA (.call (.ref fa) ⟨[.ref a],[]⟩) (λr I=>r=.ok (.ret (.bool θ))/\OldK c.heap I.heap/\I.os=c.os/\AllBare I.gens) c:=by
  ext H hO DT hS bg NB hK
  let hA:∀b,Ts.lookup b=η->eT cs H b≠η->b=a:=λb t n=>by
   cases q:eT cs H b with
   |none=>exact absurd q n
   |some u=>exact NB b t (x4 q).1 (by rw[(x4 q).2];simp)
  let j:∀{b:ξ}{o:Γ},c.heap.get? b=ζ o->eT cs H b=η->(hY c.heap (eT cs H)).get? b=ζ o:=λe n=>IC e n
  let NC:∀{b:ξ}{o:Γ}{X:Array DictEntry}{Y:Nat},c.heap.get? b=ζ o->o.data=.dict X Y->eT cs H b=η:=λ{b o X Y} e d=>by
   cases q:eT cs H b with
   |none=>rfl
   |some u =>
    cases t:Ts.lookup b with
    |some i =>
     let:=(C b i t).1;rw[e] at this;cases this;cases d
    |none =>
     let e':b=a:=hA b t (by rw[q];simp);subst e';rw[Q] at e;cases e;let d':Data.seq vs.toArray _=Data.dict X Y:=d;cases d'
  let D:∀{b:ξ}{m:π->Option ν},c.heap.Ns b m->(hY c.heap (eT cs H)).Ns b m:=λ{b m} ⟨o,X,Y,e,d,r⟩=>⟨o,X,Y,j e (NC e d),d,r⟩
  let DU:K.In (hY c.heap (eT cs H)):=λb o e=>j (KX b o e) (by
   cases q:eT cs H b with
   |none=>rfl
   |some u =>
    cases t:Ts.lookup b with
    |some i=>rw[(C b i t).2.2] at e;cases e
    |none =>
     let e':b=a:=hA b t (by rw[q];simp);subst e'
     rw[hK (by rw[(x4 q).2];simp)] at e;cases e)
  let ND:∀b i,Ts.lookup b=ζ i->(hY c.heap (eT cs H)).BuiltinsAt G b:=λb i t=>by
   let⟨B,ob,b1,b2,L,b4,b5,Z⟩:=hB;refine⟨B,ob,b1,b2,λz=>?_,λz=>?_,j L ?_,b4,b5,Z⟩
   .let⟨o,X,Y,T,p,_⟩:=O
    rw[z,T] at L;cases L;rw[p] at Z;cases Z
   .let:=(C b i t).1
    rw[z,this] at L;cases L;cases Z
   .cases q:eT cs H B with
    |none=>rfl
    |some u =>
     cases t':Ts.lookup B with
     |some NF =>
      let:=(C B NF t').1;rw[L] at this;cases this;cases Z
     |none =>
      let e':B=a:=hA B t' (by rw[q];simp);rw[e',Q] at L;cases L;cases Z
  let hM:Mod K G (hY c.heap (eT cs H)):=⟨DU,D O,⟨mb,D l,Ny⟩,let⟨mc,h1,h2⟩:=x5;⟨mc,D h1,h2⟩⟩
  let e0:jH P w K G (hY c.heap (eT cs H)) callerA [] c H:=⟨rfl,hM,λb o e=>⟨(Bj e).1,by
   let z:=(Bj e).2;unfold eT at z
   cases q:cs b with
   |none=>rw[q] at z;exact .inl z
   |some u =>
    let⟨y,rfl⟩:=U.ct q
    calc .inr ⟨y,DT b _ q⟩⟩,q2G (IB _ _),trivial,λb l=>absurd (show b∈([]:-ξ) from l) (by simp),bg,.of_eq hg⟩
  refine YE ((F _ DU (D O) ND).run callerA [] c H ⟨[.ref a],[]⟩ [.ref a] [.ref a] _ _ hr e0 (S c (.ref a)) (.cons rfl .nil) (Nz H hO DT hS)) λr I h=>?_
  cases r with
  |error e=>exact(NA H e I h).elim
  |ok fl =>
   cases fl with
   |next=>exact XM h
   |brk=>exact XM h
   |cont=>exact XM h
   |ret u =>
    let⟨v,H',os,bare,un,M,r',q⟩:=h;let q':v=.bl θ:=q;subst q';obtain rfl:u=Y8 θ:=r'
    let all:∀b o,c.heap.get? b=ζ o->asItWas c.heap I.heap b o/\∃o',I.heap.get? b=ζ o':=λb o e=>by
     rcases hO b with⟨i,t,z⟩|⟨t,z|⟨ob,y,z⟩|⟨y,z⟩⟩
     .let⟨N,z2⟩:=un.iX b i z
      let p:I.heap.get? b=ζ {cls:=.none,data:=.fields (i++N)}:=M b _ z2;let T:=(C b i t).1;rw[e] at T;cases T;exact⟨.inr (.inl ⟨(C b i t).2.1,rfl,i,N,rfl,p⟩),_,p⟩
     .let p:=un.keep b o e z (by ext z;calc absurd (show b∈([]:-ξ) from z) (by simp)) (by simp)
      exact⟨.inl p,_,p⟩
     .let z2:=un.iW b ob _ z
      let⟨T,_⟩:=bg b _ z;let⟨p,_⟩:=M b _ z2;rw[e] at T;cases T;exact⟨.inl p,_,p⟩
     .let p:=un.ij b y o z e (by simp)
      exact⟨.inl p,_,p⟩
    exact⟨rfl,⟨λb o e=>(all b o e).1,λb o e=>(all b o e).2⟩,os,bare⟩
 let A:∀(H:Hp) b i,Ts.lookup b=ζ i->bq P w H c.heap b (.tbl i):=λH b i t=>(C b i t).1
 let E:∀{b:ξ}{R:Prop},(∀o,cs b=ζ o->R)->(cs b=η->R)->R:=λ{b R} f g=>by
  cases q:cs b with
  |none=>exact g q
  |some o=>exact f o q
 let DW:∀{H:Hp}{b:ξ}{o u:HO},cs b=ζ o->k6 cs H b=ζ u->bq P w (k6 cs H) c.heap b u:=λ{H b o u} q z=>by
  rw[ux q] at z;cases z;let⟨y,rfl⟩:=U.ct q;exact U.ok q
 let cO:∀{H:Hp}{b:ξ}{o:HO},cs b=ζ o->(∃i,Ts.lookup b=ζ i/\k6 cs H b=ζ (.tbl i))\/(Ts.lookup b=η/\(k6 cs H b=η\/(∃o y,k6 cs H b=ζ (.frz o (.lst y)))\/∃y,k6 cs H b=ζ (.tup y))):=λ{H b o} q=>by
  let⟨y,rfl⟩:=U.ct q;refine .inr ⟨?_,.inr (.inr ⟨y,ux q⟩)⟩
  cases t:Ts.lookup b with
  |none=>rfl
  |some i=>rw[tC t] at q;cases q
 cases hk:K.lookup a with
 |some o =>
  let e:=KX a o hk;rw[Q] at e;cases e
  refine J (k6 cs λb=>(Ts.lookup b).map HO.tbl) (λb=>E (λo q=>cO q) λq=>?_) (λb o q=>ux q) (.inr ⟨_,vs.toArray,_,hk,rfl,rfl,rfl,by rw[KD,x6];calc hl,by simpa using rv⟩) (λb u z=>E (λo q=>DW q z) λq=>?_) (λb t q z=>?_) λz=>?_
  .rw[ny q]
   cases t:Ts.lookup b with
   |some i=>exact .inl ⟨i,rfl,rfl⟩
   |none=>exact .inr ⟨rfl,.inl rfl⟩
  .rw[ny q] at z
   let⟨i,t,rfl⟩:=KI.mp (show(Ts.lookup b).map HO.tbl=ζ u from z);exact A _ b i t
  .rw[ny q] at z
   exact absurd (show(Ts.lookup b).map HO.tbl=η by rw[t];rfl) z
  .rw[ny aC] at z
   exact absurd (show(Ts.lookup a).map HO.tbl=η by rw[aT];rfl) z
 |none =>
  refine J (k6 cs λb=>if b=a then ζ (.frz {cls:=.type "list",data:=.seq vs.toArray} (.lst (ns.map V.int))) else(Ts.lookup b).map HO.tbl) (λb=>E (λo q=>cO q) λq=>?_) (λb o q=>ux q) (.inl (.inr ⟨{cls:=.type "list",data:=.seq vs.toArray},(ny aC).trans (VD rfl)⟩)) (λb u z=>E (λo q=>DW q z) λq=>?_) (λb t q z=>?_) λ_=>hk
  .rw[ny q]
   by_cases l:b=a
   .subst l
    exact .inr ⟨aT,.inr (.inl ⟨_,_,VD rfl⟩)⟩
   .cases t:Ts.lookup b with
    |some i=>exact .inl ⟨i,rfl,VB l⟩
    |none=>exact .inr ⟨rfl,.inl (VB l)⟩
  .rw[ny q] at z
   by_cases l:b=a
   .let z':=(VD l).symm.trans z
    cases z'
    subst l;exact⟨Q,by rw[nW];calc hl,vs,_,rv,Q⟩
   .let z':=(VB l).symm.trans z
    let⟨i,t,rfl⟩:=KI.mp z';exact A _ b i t
  .rw[ny q] at z
   by_cases l:b=a
   .exact l
   .calc absurd ((VB l).trans (by rw[t];rfl)) z
theorem NG{l:q3B}{n k:Nat}{q:ψ}{i:-π}{M:(π->Option ν)->Α->Prop}{t:ω->Α->Prop}{d:DefRec}{K:ω->KC}{CX:ω->kS}{sp:ω->Sp}{x:π}{Ts:ω->-(ξ×Array ν)}{cs:ω->Hp}
  (hn:l.most=ζ n) (z:n<=sizeLine) (A:d.params.defaults=[]) (N:bz k callerA)
  (O:∀(w:ω)(h:Α),t w h->(K w).In h)
  (P:∀(w:ω)(h:Α),t w h->∀b ps,(Ts w).lookup b=ζ ps->h.get? b=ζ {cls:=.none,data:=.fields ps}/\isCodeTable h b/\(K w).lookup b=η)
  (Q:∀(w:ω)(h:Α),t w h->Cs l.prog w (cs w) h)
  (F:∀(w:ω)(j:π->Option ν)(y:ξ)(h:Α),(K w).In h->h.Ns mainGlobals j->j d.name=ζ (.ref y) →
   ∃B:FuncData,(∀(s:ο)(u:ν),BindsTo s B ⟨[u],[]⟩ [(x,u)]) ∧
    ∀base:Α,(K w).In base->base.Ns mainGlobals j->(∀b ps,(Ts w).lookup b=ζ ps->base.BuiltinsAt j b)->cG l.prog w (K w) j base (CX w) k y B [x] (sp w))
  (C:∀(w:ω)(H:Hp)(a:ξ)(ns:-Int),↑ns<=n->xZ (Ts w) H->ba (cs w) H->bS (K w) H a (ns.map V.int)->sp w [.ref a] H (λv _=>v=.bl θ) λ_ _ _=>False)
  (D:∀(w:ω)(H:Hp)(s:ο)(e:ν)(s':ο),CX w [] H s (λ_ _ _=>False) e s'->False) :
  PySem.W.WalkO q i M t l.row.toRowW d [] (λf vs=>q3U f vs):=by
 calc Att.ja hn A λw J p j mb y o pm cd U a vs R G Y ho hd X E r m c Z=>?_;let L:=O w _ Y;let⟨B,hb,hF⟩:=F w j y _ L G.T.g E;calc Nx (Ts w) (Q w _ Y) (P w _ Y) L G.T.g G.T.b G.T.builtins G.T.nolimit Z r m (Wq c z) N G.T.bmain hF hb (λH hO I hS=>C w H a R c hO I hS) λH e S=>D w H p e S
section
variable{X:Cx}{pins:a6}{σ:St}{H:Hp}{s:L}{h':Q}
theorem Inv.grow{T c f:U}{ps more:Array ν}{oc of:HO}{t':Nat}(I:Inv X pins σ H s)(g:H T=ζ (.tbl ps))(k:∀b u,b≠T->s.heap.get? b=ζ u->h'.get? b=ζ u)(i:h'.get? T=ζ {cls:=.none,data:=.fields (ps++more)})
  (j:⇑s<=c) (l:⇑s<=f) (F:c≠f) (m:∀H2,bq X.prog X.w H2 h' c oc) (p:∀H2,bq X.prog X.w H2 h' f of) :
  Inv X pins σ (upd (upd (upd H T (.tbl (ps++more))) c oc) f of) {s with heap:=h',toks:=t'}:=by
 let x:T<⇑s:=(I.bg T _ g).lt;let G:c≠T:=Yb (VR x j);let J:f≠T:=Yb (VR x l);let K:H c=η:=I.bg.fresh j;let L:H f=η:=I.bg.fresh l
 let h:∀b,b<⇑s->b≠T->upd (upd (upd H T (.tbl (ps++more))) c oc) f of b=H b:=λb A M=>by
  rw[bu (VE (VR A l)),bu (VE (VR A j)),bu M]
 let r:upd (upd (upd H T (.tbl (ps++more))) c oc) f of T=ζ (.tbl (ps++more)):=by
  rw[bu (Yy J),bu (Yy G),cw]
 let B:∀b u,H b=ζ u->b<⇑s:=λb u e=>(I.bg b u e).lt
 let a:∀b u,H b=ζ u->(∀N,u≠.tbl N)->upd (upd (upd H T (.tbl (ps++more))) c oc) f of b=ζ u:=λb u e n=>by
  rw[h b (B b u e) (λz=>by subst z;rw[g] at e;cases e;calc n _ Y)];exact e
 refine I.un (t':=t') ⟨λb o e n _ _=>k b o (λz=>by subst z;rw[g] at n;cases n) e,λb o e n _ _=>⟨o.slots,k b o (λz=>by subst z;rw[g] at n;cases n) e⟩,λb o e n _=>?_,λb o e _=>?_,λb C e=>a b _ e (λ_ z=>by cases z),λb o u e=>a b _ e (λ_ z=>by cases z),λb qs e=>?_,λb C o q e _=>k b o (λz=>by subst z;rw[g] at q;cases q) e⟩ λb u e=>?_
 .rw[h b (Vy e) (λz=>by subst z;rw[g] at n;cases n)];exact n
 .by_cases z:b=T
  .subst z;exact⟨_,i⟩
  .exact⟨o,k b o z e⟩
 .by_cases z:b=T
  .subst z;rw[g] at e;cases e;exact⟨more,r⟩
  .exact⟨#[],by rw[h b (B b _ e) z,e];simp⟩
 .by_cases D:b=f
  .subst D;rw[cw] at e;cases e;exact p _
  .rw[bu D] at e
   by_cases E:b=c
   .subst E;rw[cw] at e;cases e;exact m _
   .rw[bu E] at e
    by_cases t:b=T
    .subst t;rw[cw] at e;cases e;exact i
    .rw[bu t] at e
     refine bq.iV (I.bg b u e) (λd v O q=>?_) (λd q=>a d _ q (λ_ z=>by cases z)) (λd C q=>a d _ q (λ_ z=>by cases z))
     .refine k d v (λy=>?_) q
      subst y;rcases O with y|y
      .exact t y.symm
      .rw[g] at y;cases y
noncomputable def l6(c:U)(q:R):HO:=.ext λh=>∃o a b,h.get? c=ζ o/\o.data=.fields a/\a[1]?=ζ (.str q b)
theorem NH{P:ψ}{w:ω}{H:Hp}{h:Q}{c:U}{q:R}(e:h.CodeRec (.ref c) q):bq P w H h c (l6 c q):=by
 let⟨c',o,a,b,z,d,f,g⟩:=e;cases z
 calc⟨⟨o,a,b,d,f,g⟩,⟨o,d⟩,λm n ⟨o,a,b,i,j,l⟩ k↦⟨o,a,b,k o i,j,l⟩⟩
theorem NI{P:ψ}{w:l}{H:Hp}{h:Q}{c:U}{q:R}(x:bq P w H h c (l6 c q)):h.CodeRec (.ref c) q:=by
 let⟨⟨o,a,b,d,e,f⟩,_⟩:=x;calc⟨c,o,a,b,Y,d,e,f⟩
end
end L2
namespace L2
open PySem PySem.Spec PyProof.Rows PySem.W
section
variable{X:Cx}{pins:a6}{σ:St}{H:Hp}{s:L}{params:Arguments}{body:J}{scope:o}{pos:I}{kG:-(R×U)}{cc T:U}{ps:Array M}{E:bt}{Q:bt}
noncomputable def jP(f:U)(name b:R)(a:Arguments)(c:J)(scope:o)(d:-(R×U))(g i:M):HO:=.ext λh=>∃e,h.get? f=ζ {cls:=.type "function",data:=.func (kla_fn name b a c scope d g i e)}
def fU(H:Hp)(T:U)(pos:I)(a:R):Prop:=∃b,H T=ζ (.tbl b)/\TriplesOk b.toList/\(codeAmong pos b.toList=η\/∃c,codeAmong pos b.toList=ζ (.ref c)/\H c=ζ (l6 c a))
theorem NJ(I:Inv X pins σ H s)(hT:fU H T pos (X.env.qual++"<lambda>"))(r:defaultsOf params X.env=([],[]))(t:closureFor scope X.env=pure kG)(j:X.env.code=.ref cc)(C:CodeHd s.heap cc T)(M:mainGlobals≠T)(V:s.heap.Ns mainGlobals X.mg)(W:s.heap.BuiltinsAt X.mg T)
  (h:∀f H' s' c,Inv X pins σ H' s'->fU H' T pos (X.env.qual++"<lambda>")->(∀b o,H b=ζ o->b≠T->H' b=ζ o)->H f=η->H' f=ζ (jP f "<lambda>" (X.env.qual++"<lambda>") params body scope kG ((X.mg "__name__").getD .none) (.ref c))->H' c=ζ (l6 c (X.env.qual++"<lambda>"))->Q (.ref f) s') :
  ρ (ς X.prog X.w) X.A (eval (.Lambda params body scope pos) X.env) Q E s:=by
 let⟨n,K,x,L⟩:=hT;let p:s.heap.get? T=ζ {cls:=.none,data:=.fields n}:=I.bg T _ K;calc kla_eval r ?_;rcases L with y|⟨c,L,l⟩
 .refine kla_makeFunction t I.ok.glob V j C p x y M W λd q i N hx m z B O=>?_
  let g:⇑s<=i.objs.size:=Xc (Zy m z);let Y:T<⇑s:=Vy p;let P:T≠i.objs.size:=VE (VR Y g);let R:T≠d:=VE (VR Y m);let D:d≠i.objs.size:=VE z;let F:(n ++ #[rawInt pos.line,rawInt pos.col,WN d]).toList=n.toList++[rawInt pos.line,rawInt pos.col,WN d]:=by simp
  let S:upd (upd (upd H T (.tbl (n ++ #[rawInt pos.line,rawInt pos.col,.ref d]))) d (l6 d (X.env.qual++"<lambda>"))) i.objs.size (jP i.objs.size "<lambda>" (X.env.qual++"<lambda>") params body scope kG ((X.mg "__name__").getD .none) (.ref d)) T=ζ (.tbl (n ++ #[rawInt pos.line,rawInt pos.col,.ref d])):=by
   rw[bu P,bu R,cw]
  let G:upd (upd (upd H T (.tbl (n ++ #[rawInt pos.line,rawInt pos.col,.ref d]))) d (l6 d (X.env.qual++"<lambda>"))) i.objs.size (jP i.objs.size "<lambda>" (X.env.qual++"<lambda>") params body scope kG ((X.mg "__name__").getD .none) (.ref d)) d=ζ (l6 d (X.env.qual++"<lambda>")):=by
   rw[bu D,cw]
  refine h i.objs.size _ _ d (I.grow (t':=N) (oc:=l6 d (X.env.qual++"<lambda>")) (of:=jP i.objs.size "<lambda>" (X.env.qual++"<lambda>") params body scope kG ((X.mg "__name__").getD .none) (.ref d)) K (λb u U e=>B7 _ (hx b u U e)) (B7 _ O) m g D (λ_=>NH (B.push _)) λ_=>?_) ⟨_,S,?_,.inr ⟨d,?_,G⟩⟩ (λb o e U=>?_) (I.bg.fresh g) cw G
  .exact⟨⟨q,UB _ rfl⟩,⟨_,UB _ rfl⟩,λh1 h2 ⟨v,e⟩ k↦⟨v,k _ e⟩⟩
  .rw[F];exact TriplesOk_snoc _ _ _ _ x
  .rw[F];exact codeAmong_snoc _ x y
  .let Z:b<⇑s:=(I.bg b o e).lt
   rw[bu (VE (VR Z g)),bu (VE (VR Z m)),bu U];exact e
 .refine kla_makeFunctionHit t I.ok.glob V j C p x L W λq i N hk g=>?_
  let J:H i.objs.size=η:=I.bg.fresh g;refine h i.objs.size _ _ c (I.laid (a:=i.objs.size) (o:=jP i.objs.size "<lambda>" (X.env.qual++"<lambda>") params body scope kG ((X.mg "__name__").getD .none) (.ref c)) (t':=N) (λb u e=>B7 _ (hk b u e)) g ?_) ⟨n,?_,x,.inr ⟨c,L,?_⟩⟩ (λb o e _=>?_) J cw ?_
  .exact⟨⟨q,UB _ rfl⟩,⟨_,UB _ rfl⟩,λh1 h2 ⟨v,e⟩ k↦⟨v,k _ e⟩⟩
  .rw[bu (ed K J)];exact K
  .rw[bu (ed l J)];exact l
  .rw[bu (ed e J)];exact e
  .rw[bu (ed l J)];calc l
end
structure LD where
 A:t
 cl:-(R×U)
 f:U
 cd:M
 s:L
 H:Hp
@[reducible] noncomputable def mF (X:Cx) (a:R) (scope:o) (Nb:-R) (d:LD):Cx where
 prog:=X.prog
 w:=X.w
 K:=X.K
 mg:=X.mg
 base:=X.base
 A:=d.A.deeper (envX a scope ⇑d.s d.f d.cd d.cl)
 N:=Nb
 s₀:=d.s
 H₀:=d.H
 env:=envX a scope ⇑d.s d.f d.cd d.cl
 outer:=X.stack
 stack:=envX a scope ⇑d.s d.f d.cd d.cl::X.stack
 ex:=[]
 fn:=λ_=>ι
 calm:=true
 pn:=[]
 xe:=λ_ _=>False
noncomputable def uy(N:-R)(a scope:o)(x:R)(Nb:-R)(cp:-(Option Nat)):Bool :=
 lh N a scope (x::Nb) (η::cp)&&(scope.names.all λy=>S (y.2≠.cell))&&S (scope.names.lookup x=ζ .local)&&cp.all (·.isSome)
section
variable{X:Cx}{pins:a6}{σ:St}{H:Hp}{s:L}{params:Arguments}{body:J}{scope:o}{cl:-(R×U)}{E:bt}{Q:VK}{name qual x:R}{f c:U}{pm:M}{A:Β}{v:V}{u:M}{Nb:-R}{cp:-(Option Nat)}{t:TE}
theorem NK(I:Inv X pins σ H s)(hf:H f=ζ (jP f name qual params body scope cl pm (.ref c)))(hc:H c=ζ (l6 c qual))(hA:A.frames=ζ X.stack)(hh:A.handled=η)(hd:A.depth<recursionLimit)
  (V:scope.kind=.function) (L:uy X.N X.env.scope scope x Nb cp=θ) (W:scope.isCoroutine=ι) (M:scope.isGenerator=ι)
  (l:∀y c,cl.lookup y=ζ c->X.env.cells.lookup y=ζ c) (O:∀y∈scope.names,y.2=.free->∃c,cl.lookup y.1=ζ c)
  (hb:∀(ct:ν),bindArgs (kla_fn name qual params body scope cl pm (.ref c) ct) ⟨[u],[]⟩=pure [(x,u)]) (r:RelV v u)
  (J:JE (mF X qual scope (x::Nb) ⟨A,cl,f,.ref c,s,H⟩) body t) (h:t (ζ v::jx cp σ) H Q):ρ (ς X.prog X.w) A (call (.ref f) [u]) (EP X pins σ Q) E s:=by
 unfold uy at L;erw[Xn,Yf,VZ] at L;let⟨⟨⟨L,P⟩,hx⟩,cps⟩:=L;let S:=x5Y V L;let⟨⟨ct,Y⟩,_⟩:=I.bg f _ hf;let Z:=NI (I.bg c _ hc);calc q0v (kla_callFunE hd Y rfl W M rfl Z ?_);rw[hb ct];calc B9 (wpAny_newFunctionEnv (λy g=>P y g) (λy g=>by rw[Wm.mp g];calc hx) (λC NL NM=>?_) V);let a:∀b o,s.heap.get? b=ζ o->C.get? b=ζ o:=λb o e=>NM.extBut b o (VE (Vy e)) (B7 _ e);calc⟨I.nolimit.keeps a,?_⟩;let D:=I.nQ;show codeAny _ _ (.expr body (envX qual scope ⇑s f (.ref c) cl)) _ _;let G:∀b:ξ,b∉(mF X qual scope (x::Nb) ⟨A,cl,f,.ref c,s,H⟩).ex:=λb z=>absurd (show b∈([]:-ξ) from z) (by simp)
 let B:∀{y:π}{k:NameKind},scope.names.lookup y=ζ k->(y,k)∈scope.names:=λe=>XJ e
 let I1:Inv (mF X qual scope (x::Nb) ⟨A,cl,f,.ref c,s,H⟩) [] (ζ v::jx cp σ) H {s with heap:=C,toks:=s.toks+↑[(x,u)]}:=by
  refine⟨⟨D.mod,V,rfl,rfl,B8 _,λy z d K F=>I.ok.inj y z d (l y d K) (l z d F),λy g=>?_,λy d z _=>(by cases z),λ_=>hh,q1Z hA,.inr ⟨rfl,rfl⟩,λb z=>absurd z (G b),D.bs,D.k_,λb _ _=>G b,λb z=>absurd z (G b),D.fj,D.lT⟩,
   rfl,D.bare,Un.kept a,⟨_,NL,λi y w K F h3=>?_⟩,λy d g=>?_,D.bg.fresh (B8 _),λy d g=>I.dB y d (l y d g),λp hp=>absurd (show p∈([]:a6) from hp) (by simp),D.bg.kept a,?_⟩
  .let g:scope.names.lookup y=ζ .cell\/scope.names.lookup y=ζ .free:=g
   rcases g with g|g
   .exact absurd rfl (P _ (B g))
   .exact O _ (B g) rfl
  .cases i with
   |zero =>
    cases(show ζ x=ζ y by simpa using K)
    cases(show v=w by simpa using F)
    exact⟨u,r,.inl ⟨hx,by simp⟩⟩
   |succ j =>
    let K:Nb[j]?=ζ y:=by simpa using K
    let F:(jx cp σ)[j]?=ζ (ζ w):=by simpa using F
    unfold jx at F;rw[B_] at F;let⟨o,q1,n⟩:=KI.mp F
    match o,n with
    |none,n=>cases n
    |some R,n =>
     let n:(σ[R]?).join=ζ w:=n;let⟨n1,n2⟩:=S.qK (j+1) R y q1⁻¹ K⁻¹
     let T:σ[R]?=ζ (ζ w):=by
      cases q:σ[R]? with
      |none=>rw[q] at n;cases n
      |some z=>rw[q] at n;cases(show z=ζ w from n);rfl
     let kd:=S.free _ (B n2) rfl;let⟨m,hn,hl⟩:=I.loc;let⟨u',rv,lk⟩:=hl R y w n1 T (by rcases kd with z|z;calc .inr (.inl z);calc .inr (.inr z));calc⟨u',rv,?_⟩;rcases lk with⟨z,_⟩|⟨_,d,e1,o,e2,e3⟩
     .rcases kd with k|k<;>(rw[show X.env.kindOf y=ζ .local from z] at k;cases k)
     .let⟨d',e4⟩:=O _ (B n2) rfl
      let:=l _ _ e4;rw[e1] at this;cases this;exact .inr ⟨.inr n2,d,e4,o,a _ _ e2,e3⟩
  .let⟨z,o,e2,e3⟩:=I.cell y d (l y d g)
   exact⟨z,o,a _ _ e2,e3⟩
  .let:=S.len
   show↑(ζ v::jx cp σ)=↑(x::Nb);unfold jx;rw[wq,nW];simpa using this
 calc kla_codeExpr (XZ (J [] _ _ H Q I1 h) (λu' s' T=>?_) λe s' T=>T.elim);let⟨w,H',U,rv,q⟩:=T;calc I.after ⟨w,H',U.os,U.bare,U.base,U.bg,rv,q⟩
end
def kH(h:Q)(k:LK)(v:M):Prop:=∃a o b n,v=.ref a/\h.get? a=ζ o/\o.cls=.type "tuple" /\ o.data=.seq b n/\IntsAre b.toList k
section
variable{prog:X}{w:l}{A:t}{E:bt}{s:L}{Q:Bool->L->Prop}
theorem DX{a:Bool}:∀{us ws:-M}{ks ls:LK}(i:Nat),IntsAre us ks->IntsAre ws ls->a=S (↑us<↑ws)->Q (HT.lexLt ks ls) s->KatLex prog w A θ a Q (us.zip ws) i s
 |_,_,_,_,i,.nil,.nil,b,h=>by
  rw[Zd];subst b;exact h
 |_,_,_,_,i,.nil,.cons m u r,b,h=>by
  rw[Zd];let:a=θ:=by rw[b];simp
  subst this;exact h
 |_,_,_,_,i,.cons n t r,.nil,b,h=>by
  rw[q0B];let:a=ι:=by rw[b];simp
  subst this;exact h
 |_,_,_,_,i,.cons n t r,.cons m u c,b,h=>by
  rw[YD];refine kat_cons (q1g (kat_go (λe=>?_) λe=>?_))
  .let e:n=m:=XW e
   subst e;rw[HT.lV,VD Y] at h;exact kat_yes (DX (i+1) r c (by rw[b];simp) h)
  .let e:¬ n=m:=λz=>by subst z;simp at e
   rw[HT.lV,VB e] at h;refine kat_no ?_
   cases q:(θ&&i==0) with
   |true=>exact oneLt_int h
   |false=>calc kat_one _ _ (q0l h)
theorem NN{k l:LK}{x y:M}(c:kH s.heap k x)(d:kH s.heap l y)(h:Q (HT.lexLt k l) s):G (B prog w) A (keyLt' (tuples' θ) x y) Q E s:=by
 let⟨a,o,p,n,rfl,e,_,f,g⟩:=c;let⟨b,q,r,t,rfl,i,_,j,m⟩:=d;calc kat_lt e f i j (DX 0 g m (by rw[UA,UA]) h)
theorem DY{h:Α}:∀{keys:-M}{ks:-LK},(∀k∈ks,k≠[])->↑keys=↑ks->(∀(i:Nat)(k:LK)(v:M),ks[i]?=ζ k->keys[i]?=ζ v->kH h k v)->∃fs,KatTups h keys fs/\fs.length=↑keys/\∀v∈fs,∃n t,v=Xl n t
 |[],[],_,_,_=>⟨[],.nil,Y,λv b=>nomatch b⟩
 |[],_::_,_,c,_=>by simp at c
 |_::_,[],_,c,_=>by simp at c
 |v::keys,k::ks,d,c,g=>by
  let⟨p,t,u,w⟩:=DY (h:=h) (keys:=keys) (ks:=ks) (λk e=>d k (Uy _ e)) c⁻¹ λi k v q s=>g (i+1) k v q⁻¹ s⁻¹;let⟨a,o,j,n,rfl,x,y,z,l⟩:=g 0 k v Y Y;let e:=d k Ux;generalize A:j.toList=C at l
  cases l with
  |nil=>exact absurd Y e
  |cons m f r =>
   let B:j[0]?=ζ (.int m f):=by rw[<-Ws,A];rfl
   calc⟨.int m f::p,.cons x y z B t,by rw[wq,wq,u],λv b=>?_⟩;rcases Uw.mp b with rfl|b
   .exact⟨m,f,Y⟩
   .calc w v b
theorem NO{M:Model}{keys:-ν}{ks:-LK}{Q:SortKind->L->Prop}(f:0<↑keys)(a:∀k∈ks,k≠[])(b:↑keys=↑ks)(c:∀(i:Nat) (k:LK) (v:ν),ks[i]?=ζ k->keys[i]?=ζ v->kH s.heap k v)(h:Q (tuples' θ) s):
  G M A (keyKind' keys.toArray) Q E s:=by
 let⟨g,t,j,d⟩:=DY a b c;refine kat_kind (T:=.type "int") t ⋯ (λv e=>?_) (by decide) ?_
 .let⟨n,l,rfl⟩:=d v e
  exact .now
 .calc h
theorem getD_some{a:Type}{l:-a}{i:Nat}{d:a}(h:i<↑l):l[i]?=ζ (l.getD i d):=by
 rw[tG h,KG,tG h];rfl
end
section
variable{X:Cx}{pins:a6}{σ:St}{H:Hp}{s:L}{A:t}{E:bt}{a:U}{vs:-M}{f:M}
theorem Inv.ie{h':Q}{t':Nat}{b:U}(I:Inv X pins σ H s)(a:cz X pins H b)(k:∀c o,c≠b->s.heap.get? c=ζ o->h'.get? c=ζ o):Inv X pins σ H {s with heap:=h',toks:=t'} :=
 I.turned k a.1 a.2.1 a.2.2.2.1 a.2.2.2.2.1 a.2.2.2.2.2
theorem Inv.kI{b:U}{o:Γ}(I:Inv X pins σ H s)(a:cz X pins H b)(e:s.heap.get? b=ζ o)(d:∀v,o.data≠.cell v):Inv X ((b,o)::pins) σ H s :=
 I.gX λp c=>by
  rcases Uw.mp c with rfl|c
  .exact⟨e,a.1,a.2.1,a.2.2.1,d⟩
  .calc I.pin p (V6 _ c)
theorem Inv.gr{p:U×Γ}(I:Inv X (p::pins) σ H s):Inv X pins σ H s:=I.gX λq a=>I.pin q (V6 _ (Uy _ a))
theorem cz.cons{b:U}{p:U×Γ}(f:cz X pins H b)(n:p.1≠b):cz X (p::pins) H b :=
 ⟨f.1,f.2.1,f.2.2.1,f.2.2.2.1,f.2.2.2.2.1,λq a=>by
  rcases VY.mp a with z|z
  .exact f.2.2.2.2.2 q (XC _ z)
  .rcases Uw.mp z with rfl|z
   .exact n
   .calc f.2.2.2.2.2 q (V6 _ z)⟩
theorem x8{c:String}{xs:Array M}{n:Nat}:∀v,(seqObj c xs n).data≠.cell v:=λv z=>by cases z
end
section
variable{prog:X}{w:l}{A:t}{E:bt}{s:L}
end
section
variable{X:Cx}{pins:a6}{σ:St}{H:Hp}{s:L}{E:bt}
theorem Inv.rQ{a:U}{o:HO}(I:Inv X pins σ H s)(j:cz X pins H a)(k:⇑X.s₀<=a)(g:bq X.prog X.w (upd H a o) s.heap a o):Inv X pins σ (upd H a o) s:=by
 let⟨l,m,E,_,r,t⟩:=j;let d:∀{b u},H b=ζ u->b≠a:=λe z=>by rw[z,l] at e;cases e
 refine⟨I.ok,I.os,I.bare,⟨I.base.keep,I.base.slot,λb u e n y=>?_,I.base.there,λb h e=>?_,λb u v e=>?_,λb A e=>?_,I.base.ij⟩,I.loc,I.cell,?_,λx c e=>?_,λp i=>?_,λb u e=>?_,I.len⟩
 .rw[bu (VE (VR (Vy e) k))];exact I.base.free b u e n y
 .let:=I.base.ig b h e
  rw[bu (d this)];exact this
 .let:=I.base.iW b u v e
  rw[bu (d this)];exact this
 .let⟨f,this⟩:=I.base.iX b A e
  exact⟨f,by rw[bu (d this)];calc this⟩
 .rw[bu (Yy m)];exact I.free
 .rw[bu (r x c e)];exact I.dB x c e
 .let⟨B,C,D⟩:=I.pin p i
  exact⟨B,by rw[bu (t p i)];calc C,D⟩
 .by_cases z:b=a
  .subst z;rw[cw] at e;cases e;exact g
  .rw[bu z] at e
   refine(I.bg b u e).iV (λc v _ q=>q) (λc q=>?_) λc h q=>?_
   .rw[bu (d q)];exact q
   .rw[bu (d q)];calc q
theorem NP{xs:-V}{vs:-M}(r:Vals xs vs){p:-Nat}(a:∀i∈p,i<↑vs):Vals (p.map λi=>xs.getD i .non) (p.map λi=>vs.getD i Wz):=by
 induction p with
 |nil=>exact .nil
 |cons i q e =>
  calc .cons ?_ (e λj f=>a j (Uy _ f));let b:=a i Ux;let⟨u,c,g⟩:=r.get (getD_some (l:=xs) (d:=V.non) (by rw[↑r];calc b));let:=getD_some (l:=vs) (d:=Wz) b;rw[this] at c;cases c;calc g
theorem e_.mem{n:Nat}{p:Array Nat}(h:e_ n p){i:Nat}(a:i∈p.toList):i<n:=by
 let:=(q0G.mp h.perm).mem_iff.mp a;simpa using this
end
theorem ax.at{H:Hp}{ds:-D}{vs:-V}{i:Nat}{d:D}{v:V}(h:ax H ds vs)(b:ds[i]?=ζ d)(c:vs[i]?=ζ v):Is H d v:=by
 let⟨d',a,e⟩:=h.get c;rw[b] at a;cases a;calc e
theorem ax.rR{H:Hp}:∀{ds:-D}{vs:-V},↑vs=↑ds->(∀(i:Nat)(d:D),ds[i]?=ζ d->∃v,vs[i]?=ζ v/\Is H d v)->ax H ds vs
 |[],[],_,_=>.nil
 |[],_::_,h,_=>by simp at h
 |_::_,[],h,_=>by simp at h
 |d::b,v::c,h,g=>by
  let⟨v',e,a⟩:=g 0 d Y;cases(show ζ v=ζ v' from e)
  calc .cons a (ax.rR h⁻¹ λi d e=>by simpa using g (i+1) d e⁻¹)
structure lE where
 T:U
 pos:I
 qual:R
theorem fU.same{H H':Hp}{T:U}{pos:I}{q:R}(h:fU H T pos q)(s:ba H H'):fU H' T pos q:=by
 let⟨a,e,t,c⟩:=h;calc⟨a,s _ _ e,t,c.imp id λ⟨c,b,d⟩↦⟨c,b,s _ _ d⟩⟩
theorem fU.keep{H H':Hp}{T a:U}{pos:I}{q:R}(h:fU H T pos q)(g:T≠a)(d:∃ps,H a=ζ (.tbl ps))(s:∀b o,H b=ζ o->b≠a->H' b=ζ o):fU H' T pos q:=by
 let⟨i,e,t,c⟩:=h;calc⟨i,s _ _ e g,t,c.imp id λ⟨c,j,f⟩=>⟨c,j,s _ _ f λz=>?_⟩⟩;let⟨k,d⟩:=d;rw[z,d] at f;cases f
theorem fU.put{H:Hp}{T a:U}{pos:I}{q:R}{o o':HO}(h:fU H T pos q)(j:H a=ζ o)(l:(∃vs,o=.lst vs)\/(∃ws,o=.dK ws)\/(∃ws,o=.dT ws)\/∃C f ws,o=.ins C f ws):fU (upd H a o') T pos q:=by
 let⟨m,e,t,c⟩:=h
 let g:∀{b u},H b=ζ u->(∀k,u≠.lst k)->(∀d,u≠.dK d)->(∀d,u≠.dT d)->(∀C f d,u≠.ins C f d)->b≠a:=λ{b u} e n p r s z=>by
  subst z;rw[j] at e;cases e;rcases l with⟨_,z⟩|⟨_,z⟩|⟨_,z⟩|⟨_,_,_,z⟩
  .exact n _ z
  .exact p _ z
  .exact r _ z
  .exact s _ _ _ z
 calc⟨m,by rw[bu (g e (λ_ z=>by cases z) (λ_ z=>by cases z) (λ_ z=>by cases z) λ_ _ _ z=>by cases z)];calc e,t,c.imp id λ⟨c,v,i⟩=>⟨c,v,?_⟩⟩;rw[bu (g i (λ_ z=>by cases z) (λ_ z=>by cases z) (λ_ z=>by cases z) λ_ _ _ z=>by cases z)];calc i
structure CC where
 cs:Hp
 ct:∀{a:U}{o:HO},cs a=ζ o->∃vs,o=.tup vs
@[reducible] noncomputable def g8 (ls:-lE) (C:CC):a9 where
 ad:=ls.map (·.T)
 ok:=λH=>(∀l∈ls,fU H l.T l.pos l.qual)/\ba C.cs H
 same:=λh s=>⟨λl a=>(h.1 l a).same s,h.2.trans s⟩
 put:=λh c d=>⟨λl a=>(h.1 l a).put c d,λb o e=>by
  let:=h.2 b o e
  rw[bu λz=>by
   subst z;let⟨g,rfl⟩:=C.ct e;rw[c] at this;cases this
   rcases d with⟨_,z⟩|⟨_,z⟩|⟨_,z⟩|⟨_,_,_,z⟩<;>cases z]
  calc this⟩
 tb:=λh c=>by
  let⟨l,a,rfl⟩:=VH.mp c;let⟨f,e,_⟩:=h.1 l a;exact⟨f,e⟩
 cs:=C.cs
 ct:=C.ct
 co:=λh=>h.2
variable[a9]
structure x9(T:U)(pos:I)(q:R):Prop where
 mem:T∈a9.ad
 get:∀H:Hp,a9.ok H->fU H T pos q
 put:∀H H':Hp,a9.ok H->fU H' T pos q->(∀b o,H b=ζ o->b≠T->H' b=ζ o)->a9.ok H'
omit [a9] in
theorem NQ {ls:-lE} {l:lE} (hl:l∈ls) (nd:∀a∈ls,∀b∈ls,a.T=b.T->a=b) {C:CC}:@x9 (g8 ls C) l.T l.pos l.qual:=by
 letI:a9:=g8 ls C;refine⟨Zp hl,λH h=>h.1 l hl,λH H' h t k=>⟨λl' uz=>?_,λb o e=>?_⟩⟩
 .by_cases z:l'.T=l.T
  .rw[nd _ uz _ hl z];exact t
  .let⟨ps,e,_⟩:=h.1 l hl
   exact(h.1 l' uz).keep z ⟨ps,e⟩ k
 .refine k b o (h.2 b o e) λz=>?_
  let⟨ps,e2,_⟩:=h.1 l hl;let⟨vs,rfl⟩:=C.ct e;rw[<-z,h.2 b _ e] at e2;cases e2
structure NR(X:Cx)(T:U):Prop where
 code:∃cc,X.env.code=.ref cc/\CodeHd X.base cc T
 ng:mainGlobals≠T
 blt:X.base.BuiltinsAt X.mg T
section
variable{F H H':Hp}{ad:-U}{δ:aH}{σ:St}
theorem SR.x_(S:SR F ad δ σ H)(k:∀b o,H b=ζ o->b∉a9.ad->H' b=ζ o)(tk:a9.ok H'):SR (Nw F H H') ad δ σ H':=by
 let j:=Nw.same (H':=H') S.sub;let p:∀{a o},F a=ζ o->a∉a9.ad:=λ{a o} e t=>by rw[S.nt a t] at e;cases e
 let s:∀{i a d},ad[i]?=ζ a->δ.mu[i]?=ζ (ζ d)->a∉a9.ad:=λ{i a d} c f t=>by
  let⟨a',o,g,m,h⟩:=S.mu i d f;rw[c] at g;cases g;let⟨r,q⟩:=a9.tb S.tab t;rw[m] at q;cases q;exact h.kind _ Y
 refine⟨λa o e=>?_,λa l=>?_,S.di,S.inj,λi d e=>?_,λi x e=>?_,S.len,tk,S.nt.up j λa n=>?_⟩
 .unfold Nw at e
  cases q:H a with
  |none=>rw[q] at e;exact e
  |some u=>rw[q] at e;exact k a o (S.sub a o e) (p e)
 .let⟨i,d,c,f⟩:=l
  let⟨a',o,g,m,_⟩:=S.mu i d f;rw[c] at g;cases g;unfold Nw;rw[m];exact S.off a ⟨i,d,c,f⟩
 .let⟨a,o,c,f,h⟩:=S.mu i d e
  exact⟨a,o,c,k a o f (s c e),h.same j⟩
 .let⟨v,c,h⟩:=S.sl i x e
  exact⟨v,c,h.same j⟩
 .let⟨r,q⟩:=a9.tb S.tab n
  unfold Nw;rw[q];calc S.nt a n
theorem Ext.x_(S:SR F ad δ σ H)(k:∀b o,H b=ζ o->b∉a9.ad->H' b=ζ o)(tk:a9.ok H'):Ext F ad δ.mu H (Nw F H H') ad δ.mu H' where
 same:=Nw.same S.sub
 new:=λa o e=>by
  unfold Nw at e
  cases q:H a with
  |none=>exact .inr (.inl Y)
  |some u=>rw[q] at e;exact .inl e
 keep:=λa o e _ t=>k a o e t
 pre:=λ_ _ e=>e
 df:=λ_ l=>.inl l
 iB:=λa o e=>by
  by_cases t:a∈a9.ad
  .let⟨c,q⟩:=a9.tb tk t
   exact⟨_,q⟩
  .calc⟨o,k a o e t⟩
theorem SR.rS{sl:-(Option DV)}{mu:-(Option OV)}{a:St}{d:D}{v:V}(S:SR F ad ⟨sl,mu⟩ a H)(h:Is F d v):SR F ad ⟨ζ (.p d)::sl,mu⟩ (ζ v::a) H:=by
 refine⟨S.sub,S.off,S.di,S.inj,S.mu,λi x e=>?_,by let:=S.len;erw[wq];calc congrArg (· + 1) this,S.tab,S.nt⟩
 cases i with
 |zero=>cases(show ζ (ζ (DV.p d))=ζ (ζ x) from e);exact⟨v,Y,h⟩
 |succ i=>calc S.sl i x e
theorem Ext.nz{F' H':Hp}{b:-U}{c:-(Option OV)}{a:U}{o:HO}(S:SR F ad δ σ H)(e:Ext F ad δ.mu H F' b c H')(h:H a=ζ o)(g:∀vs,o≠.lst vs)(j:∀ws,o≠.dK ws)(k:∀ps,o≠.tbl ps)(l:∀ws,o≠.dT ws)(n:∀C m ws,o≠.ins C m ws:=by ext _ _ _ z;cases z):H' a=ζ o:=by
 refine e.keep a o h (λ⟨i,p,r,s⟩=>?_) λt=>?_
 .let⟨a',u,d,f,q⟩:=S.mu i p s
  rw[r] at d;cases d;rw[h] at f;cases f;rcases q.kd with⟨_,z⟩|⟨_,z⟩|⟨_,z⟩|⟨_,_,_,z⟩
  .exact g _ z
  .exact j _ z
  .exact l _ z
  .exact n _ _ _ z
 .let⟨v,q⟩:=a9.tb S.tab t
  rw[h] at q;calc k _ (WC q)
end
def NS(cp:-(Option Nat))(e:WE)(b:aH)(ds:-D)(a:D->LK):Prop :=
 ∀d∈ds,a d≠[]/\e ⟨ζ (.p d)::bN cp b.sl,b.mu⟩ λy c=>y=.p (.tup ((a d).map D.int))/\c.mu=b.mu
section
variable{X:Cx}{params:Arguments}{body:J}{scope:o}{h9:I}{x:R}{Nb:-R}{cp:-(Option Nat)}{fb:WE}{T:U}
structure lF(X:Cx)(params:Arguments)(body:J)(scope:o)(h9:I)(T:U)(x:R)(Nb:-R)(cp:-(Option Nat))(fb:WE):Prop where
 env:NR X T
 tbl:x9 T h9 (X.env.qual++"<lambda>")
 NU:defaultsOf params X.env=([],[])
 kind:scope.kind=.function
 names:uy X.N X.env.scope scope x Nb cp=θ
 co:scope.isCoroutine=ι
 gen:scope.isGenerator=ι
 bind:∀(cl:-(R×U))(pm cd ct u:M),bindArgs (kla_fn "<lambda>" (X.env.qual++"<lambda>") params body scope cl pm cd ct) ⟨[u],[]⟩=pure [(x,u)]
 room:∃k,bz (k+3) X.A/\∀d:LD,bz k (d.A.deeper (envX (X.env.qual++"<lambda>") scope ⇑d.s d.f d.cd d.cl))->JE (mF X (X.env.qual++"<lambda>") scope (x::Nb) d) body (tD fb)
end
structure iG(mg:R->Option M)(base:Q)(fd:FuncData)(T:U)(pos:I)(q:R):Prop where
 code:∃cc,fd.code=.ref cc/\CodeHd base cc T
 ng:mainGlobals≠T
 blt:base.BuiltinsAt mg T
 tbl:x9 T pos q
theorem hG.ya{P:ψ}{w:ω}{K:KC}{u:π->Option ν}{base:Α}{x a:π}{st:χ}{f:ξ}{n:FuncData}{N ps:-π}{k:Nat}{G:GD}(F:hG K x a st f n)(S:lU N ps (dq st))
  (e:∀(b:ν)(A:Β)(outer:-Ζ)(s:ο)(H:Hp)(E:XK),n.code=b->bz k (A.deeper (envOfC a (dq st) ⇑s f b)) →
   ∃B:WS,ee (gh fZ P w K u base N a (dq st) f b A outer s H E).kQ (gZ st) (eh B)/\∀ys aK j,↑ys=↑ps->G ys aK j->B (eu ↑aK j) ⟨ys.map ζ++VF (↑N-↑ps) η,aK.map ζ⟩) :
  cG P w K u base fZ (k+1) f n ps (lZ G ↑ps):=by
 let⟨oc,od,kV,D,pm,an,b,ct,I,rfl,J,o⟩:=F.ex;calc BI J o S (λL H Q E h=>h.1) λA c s H L Q E M h=>?_;let⟨z,O,R,l,d,j,m,g,C⟩:=h;let⟨B,T,U⟩:=e b A c s H E rfl M
 let X:↑l=↑ps:=by
  let:=m.len;rw[nW] at this;rw[<-z,this];show _=↑(l.map ζ);rw[nW]
 refine⟨_,T.kQ,O,R,⟨l.map ζ++VF (↑N-↑ps) η,d.map ζ⟩,eu ↑d j,by rw[<-z];calc m.start,U l d j X g,⟨λi h Y q σ' Z r t=>?_,λi h=>h.elim,λi h=>h.elim,λy i h v Y q σ' Z r t V=>?_,trivial⟩⟩
 .exact t4 (σ':=σ') m r t (x:=.p .non) (v:=.non) rfl h C
 .calc t4 (σ':=σ') m r t V h C
section
variable{X:Cx}{params:Arguments}{body a e:J}{scope:o}{h9 p1 p2 q1 q2 nR:I}{x:R}{Nb:-R}{cp:-(Option Nat)}{fb f:WE}{fa:WA}{T:U}
end
end L2
namespace L2
open PySem PySem.Spec PyProof.Rows PySem.W
theorem yb:∀{k l:LK}(n m:Int),k.length=↑l->HT.lexLt (k++[n]) (l++[m])=if k=l then S (n<m) else HT.lexLt k l
 |[],[],n,m,_=>by
  show(if n=m then HT.lexLt [] [] else S (n<m))=_;rw[VD Y]
  by_cases h:n=m
  .rw[VD h];subst h;simp[HT.lexLt]
  .rw[VB h]
 |[],_::_,_,_,h=>by simp at h
 |_::_,[],_,_,h=>by simp at h
 |a::k,b::l,n,m,h=>by
  rw[V9,V9,HT.lV,HT.lV,yb n m h⁻¹]
  by_cases e:a=b
  .subst e
   rw[VD Y,VD Y]
   by_cases c:k=l
   .subst c;rw[VD Y,VD Y]
   .rw[VB c,VB λz=>c (q05 z).2]
  .rw[VB e,VB e,VB λz=>e (q05 z).1]
def lG(h:Q)(L:Nat)(k:LK)(v:M):Prop:=∃a o d n b c m t,v=.ref a/\h.get? a=ζ o/\o.cls=.type "tuple" /\ o.data=.seq d n/\d.toList=[.ref b,.int m t]/\kH h c (.ref b)/\↑c=L/\k=c++[m]
section
variable{prog:X}{w:l}{A:t}{E:bt}{s:L}{Q:Bool->L->Prop}
theorem yc:∀{us:-M}{ns:-Int},IntsAre us ns->ItemsAre (intKind prog w) ns us
 |_,_,.nil=>.nil
 |_,_,.cons n t r=>.cons (Zz ..) (yc r)
theorem NV{L:Nat}{k l:LK}{x y:ν}(v:A.units<cLine)(R:lG s.heap L k x)(S:lG s.heap L l y)(h:Q (HT.lexLt k l) s):ρ (ς prog w) A (keyLt' (tuples' ι) x y) Q E s:=by
 let⟨a,o,T,n,b,g,m,t,rfl,U,_,V,z,⟨b',B,W,C,X,D,F,G,H⟩,Y,rfl⟩:=R;let⟨a',o',i,n',c,j,I,t',rfl,p,_,q,d,⟨c',J,Z,K,ec,M,N,O,P⟩,r,rfl⟩:=S;cases X
 cases ec
 let hz:T.size=2:=by rw[<-UA,z];rfl
 let u:i.size=2:=by rw[<-UA,d];rfl
 rw[yb m I (by rw[Y,r])] at h;let k1:IsTupleKey (intKind prog w) s.heap g b:=⟨B,W,C,D,F,G,yc H⟩;let k2:IsTupleKey (intKind prog w) s.heap j c:=⟨J,Z,K,M,N,O,yc P⟩;calc kat_lt U V p q ?_;rw[z,d,hz,u,YD,YD,Zd];refine kat_cons (wpAny_eqBool_tuple v k1 k2 (kat_go (λe=>?_) λe=>?_))
 .let e:g=j:=by simpa using e
  rw[VD e] at h;refine kat_yes (kat_cons (q1g (kat_go (λf=>?_) λf=>?_)))
  .let f:m=I:=XW f
   subst f;calc kat_yes (kat_nil ?_);simpa using h
  .exact kat_no (kat_one _ _ (q0l h))
 .let e:¬ g=j:=by simpa using e
  rw[VB e] at h;calc kat_no (kat_one _ _ (HT.v5 ⟨B,D,F,C,G⟩ ⟨J,M,N,K,O⟩ H P v h))
theorem NW{M:Model}{L:Nat}{vs:-ν}{ks:-LK}{Q:SortKind->ο->Prop}(q:0<↑vs)(g:↑vs=↑ks)(e:∀(i:Nat) (k:LK) (v:ν),ks[i]?=ζ k->vs[i]?=ζ v->lG s.heap L k v)(h:Q (tuples' ι) s):
  ρ M A (keyKind' vs.toArray) Q E s:=by
 let l:∀(c:-ν)(d:-LK),↑c=↑d->(∀(i:Nat)(k:LK)(v:ν),d[i]?=ζ k->c[i]?=ζ v->lG s.heap L k v)->∃f,KatTups s.heap c f/\↑f=↑c/\∀v∈f,Looks M s.heap (typeOf v) (.type "tuple"):=by
  ext c
  induction c with
  |nil=>exactλd _ _=>⟨[],.nil,Y,λv j=>nomatch j⟩
  |cons v c u =>
   ext d g e
   match d,g,e with
   |k::d,g,e =>
    let⟨f,t,r,p⟩:=u d g⁻¹ λi k v w x=>e (i+1) k v w⁻¹ x⁻¹;let⟨a,o,y,n,b,I,m,J,rfl,z,B,C,D,⟨b',K,N,O,F,G,H,P,R⟩,_⟩:=e 0 k v Y Y;cases F
    let q:y[0]?=ζ (.ref b):=by rw[<-Ws,D];rfl
    calc⟨.ref b::f,.cons z B C q t,by rw[wq,wq,r],λv j=>?_⟩;rcases Uw.mp j with rfl|j
    .rw[<-H];exact(Looks.ld G).andThen .now
    .exact p v j
 let⟨f,t,r,p⟩:=l vs ks g e;calc kat_kind (T:=.type "tuple") t ⋯ p (by decide) h
end
section
variable{X:Cx}{pins:a6}{σ:St}{H:Hp}{s:L}{A:t}{E:bt}{a:U}{vs:-M}{ks:-LK}{κ:SortKind}
theorem NX{n0:Nat}{R:PySem.Fin->ο->Prop}(I:Inv X pins σ H s)(W:cz X pins H a)(M:s.heap.get? a=ζ (seqObj "list" vs.toArray n0))(N:↑vs<64)
  (kind:∀s':ο,Inv X pins σ H s'->2<=↑vs->∀Q:SortKind->ο->Prop,Q κ s'->ρ (ς X.prog X.w) A (keyKind' vs.toArray) Q E s')
  (O:∀s':ο,Inv X pins σ H s'->∀(i j:Nat)(C:Bool->ο->Prop),i<↑vs->j<↑vs->C (HT.lexLt (ks.getD i []) (ks.getD j [])) s'->ρ (ς X.prog X.w) A (keyLt' κ (vs.getD i Wz) (vs.getD j Wz)) C (λ_ _=>False) s')
  (P:∀(p:Array Nat)(s':ο)(c:Nat),e_ ↑vs p->Up (λi=>ks.getD i []) p ↑vs->Inv X pins σ H s'->s'.heap.get? a=ζ (seqObj "list" (YU (p.toList.map λi=>vs.getD i Wz)) c)->R (.done (.ret .none)) s') :
  ρ (ς X.prog X.w) A (Builtin.«list.sort» ⟨[.ref a],[]⟩) R E s:=by
 let S:=Xa s.heap a (Xu λ_=>(#[]:Array ν));let⟨F,q⟩:∃F,(s.heap.update a (Xu λ_=>(#[]:Array ν))).get? a=ζ (seqObj "list" #[] F):=⟨_,q1G M λ_ => #[]⟩;let Y:Inv X pins σ H {s with heap:=s.heap.update a (Xu λ_=>(#[]:Array ν))}:=I.ie (t':=s.toks) W λc o n e=>(S.2 c n).trans e;rw[list_sort_plain];calc nX (listItems_at M rfl ?_);calc nX (listUpdate_at M rfl ?_ (by rw[KD,Yg];symm) (VX _));calc nX (seqEpoch_at q rfl ?_);calc nX (wpAny_newTuple ?_ (by show ↑vs<=_;rw[Yg];symm));calc nX (Z8 ?_ (VX _));calc WJ ?_;generalize US:s.heap.update a (Xu λ_=>(#[]:Array ν))=r at q Y S
 show ρ (ς X.prog X.w) A _ R E {s with heap:=(r.push (seqObj "tuple" vs.toArray 0)).push (seqObj "list" #[] 0)};let K:Inv X pins σ H {s with heap:=(r.push (seqObj "tuple" vs.toArray 0)).push (seqObj "list" #[] 0)}:=Y.kept (h':=(r.push (seqObj "tuple" vs.toArray 0)).push (seqObj "list" #[] 0)) (t':=s.toks) λb u e=>B7 _ (B7 _ e);let h:((r.push (seqObj "tuple" vs.toArray 0)).push (seqObj "list" #[] 0)).get? a=ζ (seqObj "list" #[] F):=B7 _ (B7 _ q);let kp:∀b o,b≠a->s.heap.get? b=ζ o->((r.push (seqObj "tuple" vs.toArray 0)).push (seqObj "list" #[] 0)).get? b=ζ o:=λb o n e=>B7 _ (B7 _ ((S.2 b n).trans e))
 generalize(r.push (seqObj "tuple" vs.toArray 0)).push (seqObj "list" #[] 0)=l at K h kp;dsimp only
 let m:∀(v:SortSt)(p:Array Nat),(arrOf v).map (·.2)=YU (p.toList.map λi=>vs.getD i Wz)->failedOf v=η->e_ ↑vs p->Up (λi=>ks.getD i []) p ↑vs->ρ (ς X.prog X.w) A (do
   let d:=(<- seqEpoch a) != F
   Builtin.List.listUpdate (.ref a) λ_=>(arrOf v).map (·.2)
   if let ζ e:=failedOf v then rule "list.sort.comparison-raised";throw e
   if d then rule "list.sort.modified";raiseError "ValueError" "list modified during sort"
   ret .none) R E {s with heap:=l}:=by
  ext v p y hf Z up;let hz:↑(p.toList.map λi=>vs.getD i Wz)=↑vs:=by rw[nW,UA,Z.size]
  rw[y];let s2:=Xa l a (Xu λ_=>YU (p.toList.map λi=>vs.getD i Wz));let⟨T,U⟩:∃T,(l.update a (Xu λ_=>YU (p.toList.map λi=>vs.getD i Wz))).get? a=ζ (seqObj "list" (YU (p.toList.map λi=>vs.getD i Wz)) T):=⟨_,q1G h λ_=>YU (p.toList.map λi=>vs.getD i Wz)⟩;let J:Inv X pins σ H {s with heap:=l.update a (Xu λ_=>YU (p.toList.map λi=>vs.getD i Wz))}:=K.ie (h':=l.update a (Xu λ_=>YU (p.toList.map λi=>vs.getD i Wz))) (t':=s.toks) W λc o n e=>(s2.2 c n).trans e;calc nX (seqEpoch_at h rfl ?_);refine nX (listUpdate_at h rfl ?_ (VX _) (Wq (q2G (by rw[KD,hz])) (by rw[Yg];symm)))
  rw[hf];erw[q0Q,VP,W7];exact B9 (P p _ T Z up J U)
 by_cases t:vs.toArray.size<2
 .rw[VD t,VD t]
  calc nX (B9 ?_);rw[StateT.run_pure];calc nX (B9 ?_);rw[KD] at t;refine m (SortSt.mk' general' (vs.toArray.zip vs.toArray) #[] 7 η) (Wo ↑vs).toArray ?_ rfl ⟨q3x _⟩ λi j M_ hj=>?_
  .let V:arrOf (SortSt.mk' general' (vs.toArray.zip vs.toArray) #[] 7 η)=(YU (Wo ↑vs)).map (kas_item (vs.toArray.zip vs.toArray)):=by
    let e:=kas_range (vs.toArray.zip vs.toArray);rw[show(vs.toArray.zip vs.toArray).size=↑vs by simp] at e;rw[e]
   exact kat_snds rfl V
  .let:i=j:=by symm
   subst this;exact kle_refl _
 .rw[VB t,VB t]
  rw[KD] at t;refine nX (kind _ K ⋯ _ ?_)
  refine nX (XZ (kat_run (κ:=κ) (E:=E) (Q:=λf g=>g={s with heap:=l}/\∃p:Array Nat,arrOf f=p.map (kas_item (vs.toArray.zip vs.toArray))/\failedOf f=η/\e_ ↑vs p/\Up (λi=>ks.getD i []) p ↑vs)
   (G:=λp g=>g={s with heap:=l}/\e_ ↑vs p/\Up (λi=>ks.getD i []) p ↑vs) rfl ⋯ N (λp f g L z B D=>⟨D.1,p,z,B,D.2.1,D.2.2⟩) ?_) ?_ λ_ _ x=>x)
  .refine MJ (k:=λi=>ks.getD i []) (I:=λg=>g={s with heap:=l}) (λi j C g hi hj e hC=>?_) ⋯ rfl λp g L z B=>⟨B,L,z⟩
   subst e;exact O _ K i j C hi hj (hC _ rfl)
  .ext ⟨⟨⟩,f⟩ g ⟨rfl,p,L,z,B,D⟩
   calc m f p (kat_snds rfl L) z B D
theorem DZ{l:U}{xs:-V}{Q:bt}(I:Inv X pins σ H s)
  (t:∀h:-ν->ο->Prop,(∀h' tk vs,(∀b o,s.heap.get? b=ζ o->h'.get? b=ζ o)->Vals xs vs->h vs {s with heap:=h',toks:=tk})->ρ (ς X.prog X.w) X.A.in1 (collect (.ref l)) h E s) (G:↑xs<64)
  (kind:∀(s':ο)(vs:-ν),Vals xs vs->Inv X pins σ H s'->2<=↑vs->∀Q:SortKind->ο->Prop,Q κ s'->ρ (ς X.prog X.w) X.A.in1.in1 (keyKind' vs.toArray) Q E s')
  (v:∀(s':ο)(vs:-ν),Vals xs vs->Inv X pins σ H s'->∀(i j:Nat)(C:Bool->ο->Prop),i<↑vs->j<↑vs->C (HT.lexLt (ks.getD i []) (ks.getD j [])) s'->ρ (ς X.prog X.w) X.A.in1.in1 (keyLt' κ (vs.getD i Wz) (vs.getD j Wz)) C (λ_ _=>False) s')
  (x:∀(p:Array Nat)(s':ο)(a:U),e_ ↑xs p->Up (λi=>ks.getD i []) p ↑xs->H a=η->Inv X pins σ (upd H a (.lst (p.toList.map λi=>xs.getD i .non))) s'->Q (.ref a) s') :
  ρ (ς X.prog X.w) X.A (call (.builtin "sorted") [.ref l]) Q E s:=by
 calc Zo q3m q2W q2X (q2Y _) ?_;unfold Builtin.«sorted»;calc nX (m:=checkCount "sorted" 1 1 _) (B9 ?_);calc nX (t _ λh' r d K k=>?_);let D:↑d=↑xs:=k.length.symm;calc nX (Z8 ?_ (by rw[Yg];symm));let n:Inv X pins σ H {s with heap:=h',toks:=r}:=I.kept K;let y:cz X pins H h'.objs.size:=n.i7 (B8 _) (n.bg.fresh (B8 _));let z:⇑X.s₀<=h'.objs.size:=n.sz;let L:Inv X pins σ H {s with heap:=h'.push (seqObj "list" d.toArray 0),toks:=r}:=n.kept (h':=h'.push (seqObj "list" d.toArray 0)) (t':=r) λb u e=>B7 _ e;let g:(h'.push (seqObj "list" d.toArray 0)).get? h'.objs.size=ζ (seqObj "list" d.toArray 0):=UB _ Y
 refine nX (WJ (XI q12 ⟨_,g,Y⟩ q1F ?body (q13 _)))
 case body =>
  calc NX (κ:=κ) (ks:=ks) L y g ⋯ (λf J M h N=>kind f d k J M h N) (λf J i j C B O P=>v f d k J i j C B O P) λp f c q F J e=>⟨_,Y,?_⟩;rw[D] at q F;calc B9 ⟨_,Y,x p f h'.objs.size q F y.1 (J.rQ y z ?_)⟩;let R:↑(p.toList.map λi=>xs.getD i V.non)=↑xs:=by rw[nW,UA,q.size]
  calc⟨by rw[R,Yg];symm,_,c,NP k λi B=>by rw[D];calc q.mem B,e⟩
end
def yd(ds:-D)(a:D->LK):Prop :=
 (∀d∈ds,a d≠[]/\d=.tup ((a d).map D.int))\/∃L:Nat,∀d∈ds,∃(k:LK)(n:Int),k.length=L/\d=.tup [.tup (k.map D.int),.int n]/\a d=k++[n]
def uA:-D->(D->Prop)->Prop
 |[.lst c],K=>↑c<64/\∃b:D->LK,yd c b/\∀a:-D,a.Perm c->(a.map b).Pairwise kle->K (.lst a)
 |[.tup c],K=>↑c<64/\∃b:D->LK,yd c b/\∀a:-D,a.Perm c->(a.map b).Pairwise kle->K (.lst a)
 |_,_=>False
theorem NY{ds:-D}{a:D->LK}{p:Array Nat}{n:Nat}(hn:↑ds=n)(c:e_ n p)(l:Up (λi=>(ds.map a).getD i []) p n):(p.toList.map λi=>ds.getD i .non).Perm ds/\((p.toList.map λi=>ds.getD i .non).map a).Pairwise kle:=by
 subst hn
 constructor
 .let f:=(q0G.mp c.perm).map λi=>ds.getD i D.non
  let m:(Wo ↑ds).map (λi=>ds.getD i D.non)=ds:=by
   calc Zc λi=>?_;rw[B_]
   by_cases b:i<↑ds
   .rw[Yw b,q1A,tG b,KG,tG b];rfl
   .rw[YA (by rw[Xp];symm),YA ⋯];rfl
  rw[show(Wo ↑ds).toArray.toList=Wo ↑ds from Y,m] at f;exact f
 .rw[VU,Zm]
  ext i j b d e;rw[nW,UA,c.size] at b d;let:=l i j (Xc e) d;unfold KA at this;rw[Yk,Yk]
  let g:∀{i:Nat}(h:i<↑p.toList),p.getD i 0=p.toList[i]:=λ{i} h=>by
   let o:i<p.size:=by rw[<-UA];exact h
   simp[q2p,o]
  let k:∀{i:Nat},i<↑ds->(ds.map a).getD i []=a (ds.getD i .non):=λ{i} h=>by
   rw[KG,B_,tG h,KG,tG h];rfl
  let q:=c.lt b;let r:=c.lt d;dsimp only at this;rw[k q,k r,g (by rw[UA,c.size];calc b),g (by rw[UA,c.size];calc d)] at this;calc this
theorem NZ{F:Hp}{ds:-D}{xs:-V}{p:-Nat}(h:ax F ds xs)(c:∀i∈p,i<↑ds):ax F (p.map λi=>ds.getD i .non) (p.map λi=>xs.getD i .non):=by
 calc ax.rR (by rw[nW,nW]) λi d e=>?_;rw[B_] at e ⊢;let⟨z,a,rfl⟩:=KI.mp e;rw[a];let b:=c z (WR a);calc⟨_,Y,ax.at h (getD_some b) (getD_some (by rw[↑h];calc b))⟩
section
variable[a9]{X:Cx}
theorem uB{b:a6}{d:St}{H F:Hp}{s:L}{k:LK}{v:V}{u:M}(I:Inv X b d H s)(c:ba F H)(h:Is F (.tup (k.map D.int)) v)(r:RelV v u):kH s.heap k u:=by
 erw[Is] at h;let⟨a,p,rfl,e,i⟩:=h;cases r
 rw[lB i] at e;let⟨f,g,⟨o,j,l,n,m⟩,_⟩:=I.tuple (cF.of (c _ _ e));calc⟨a,o,_,n,Y,j,l,m,by simpa using intsAre_of g⟩
theorem ye{c:a6}{l:St}{H F:Hp}{s:L}{k:LK}{m:Int}{v:V}{u:M}(I:Inv X c l H s)(d:ba F H)(h:Is F (.tup [.tup (k.map D.int),.int m]) v)(r:RelV v u):lG s.heap k.length (k++[m]) u:=by
 erw[Is,ax] at h;let⟨a,E,rfl,e,p,G,rfl,q,w,J,rfl,g,rfl⟩:=h;cases r
 let⟨x,f,⟨o,y,z,n,A⟩,_⟩:=I.tuple (cF.of (d _ _ e));let g:w=.int m:=g;subst g;let i:Is F (.tup (k.map D.int)) p:=by erw[Is];exact q
 cases f with
 |cons B f =>
  cases f with
  |cons C f =>
   cases f
   let j:=uB I d i B;let⟨b,_,_,_,rfl,_⟩:=id j;let⟨t,rfl⟩:=C;calc⟨a,o,_,n,b,k,m,t,Y,y,z,A,Y,j,Y,Y⟩
theorem D0{r:a6}{σ:St}{H F:Hp}{s:ο}{E:bt}{l:ξ}{ds:-D}{us:-V}{c:D->LK}{Q:bt}(hu:X.A.units+64<cLine)(I:Inv X r σ H s)(q:ba F H)(R:H l=ζ (.lst us)\/H l=ζ (.tup us))(hi:ax F ds us)(UT:↑ds<64)(z:yd ds c)
  (fin:∀(out:-D)(ws:-V)(a:ξ)(s':ο),out.Perm ds->(out.map c).Pairwise kle->ax F out ws->H a=η->Inv X r σ (upd H a (.lst ws)) s'->Q (.ref a) s'):ρ (ς X.prog X.w) X.A (call (.builtin "sorted") [.ref l]) Q E s:=by
 let W:∀S:-ν->ο->Prop,(∀N tk m,(∀b o,s.heap.get? b=ζ o->N.get? b=ζ o)->Vals us m->S m {s with heap:=N,toks:=tk})->ρ (ς X.prog X.w) X.A.in1 (collect (.ref l)) S E s:=λS hQ=>by
  rcases R with R|R
  .let⟨lg,f,pl,hz⟩:=I.list (bS.of R)
   let⟨o,T,U,n,o3⟩:=pl.isList;exact q20 l (.inl rfl) T U o3 (λN kp=>hQ N s.toks _ kp f⁻¹) (by rw[KD,<-↑f];calc hz)
  .let⟨lg,f,⟨o,T,U,n,o3⟩,hz⟩:=I.tuple (cF.of R)
   exact q20 l (.inr rfl) T U o3 (λN kp=>hQ N s.toks _ kp f⁻¹) (by rw[KD,<-↑f];calc hz)
 let lu:=↑hi;let N0:X.A.in1.in1.units<cLine:=by show X.A.units+1+1<cLine;symm
 let Y:∀{i:Nat},i<↑ds->(ds.map c).getD i []=c (ds.getD i .non):=λ{i} h=>by
  rw[KG,B_,tG h,KG,tG h];rfl
 let g:∀{i:Nat},i<↑ds->∀{m:-ν},Vals us m->∃v,Is F (ds.getD i .non) v/\RelV v (m.getD i Wz):=λ{i} h {m} f=>by
  let⟨u,O,Z⟩:=f.get (getD_some (l:=us) (d:=V.non) (i:=i) ⋯);let:=getD_some (l:=m) (d:=Wz) (i:=i) (by rw[<-↑f];symm);rw[this] at O;cases O;exact⟨_,ax.at hi (getD_some h) (getD_some ⋯),Z⟩
 let t:∀{i:Nat},i<↑ds->ds.getD i .non∈ds:=λ{i} h=>WR (getD_some h)
 let ke:∀{i:Nat}{k:LK},(ds.map c)[i]?=ζ k->i<↑ds/\k=c (ds.getD i .non):=λ{i k} e=>by
  let h:i<↑ds:=by let:=(pa.mp e).1;rwa [nW] at this
  calc⟨h,?_⟩;let:=getD_some (l:=ds.map c) (d:=[]) (i:=i) (by rw[nW];calc h);rw[e,Y h] at this;exact WC this
 let ve:∀{i:Nat}{v:ν}{m:-ν},m[i]?=ζ v->v=m.getD i Wz:=λ{i v m} e=>by
  rw[KG,e];rfl
 let K:∀(p:Array Nat)(G:ο)(a:ξ),e_ ↑us p->Up (λi=>(ds.map c).getD i []) p ↑us->H a=η->Inv X r σ (upd H a (.lst (p.toList.map λi=>us.getD i .non))) G->Q (.ref a) G:=λp G a hp up ha J=>by
  let⟨T,U⟩:=NY lu.symm hp up;exact fin _ _ a G T U (NZ hi λi x=>by rw[<-lu];calc hp.mem x) ha J
 rcases z with z|⟨L,z⟩
 .refine DZ (κ:=tuples' θ) (ks:=ds.map c) I W ⋯ (λG m f J h2 S hq=>?_) (λG m f J i j C x M P=>?_) K
  .refine NO (ks:=ds.map c) ⋯ (λk hk=>?_) (by rw[nW,<-↑f];symm) (λi k v O Z=>?_) hq
   .let⟨d,hd,rfl⟩:=VH.mp hk
    exact(z d hd).1
   .let⟨h,rfl⟩:=ke O
    let⟨w,y,B⟩:=g h f;rw[(z _ (t h)).2] at y;rw[<-ve Z] at B;exact uB J q y B
  .rw[<-↑f] at x M
   rw[Y ⋯,Y ⋯] at P;let⟨w,y,B⟩:=g (i:=i) ⋯ f;let⟨w',i2,r2⟩:=g (i:=j) ⋯ f;rw[(z _ (t ⋯)).2] at y i2;exact NN (uB J q y B) (uB J q i2 r2) P
 .refine DZ (κ:=tuples' ι) (ks:=ds.map c) I W ⋯ (λG m f J h2 S hq=>?_) (λG m f J i j C x M P=>?_) K
  .refine NW (L:=L) (ks:=ds.map c) ⋯ (by rw[nW,<-↑f];symm) (λi k v O Z=>?_) hq
   let⟨h,rfl⟩:=ke O;let⟨w,y,B⟩:=g h f;let⟨k,n,hk,e3,e4⟩:=z _ (t h);rw[e3] at y;rw[<-ve Z] at B;rw[e4,<-hk];exact ye J q y B
  .rw[<-↑f] at x M
   rw[Y ⋯,Y ⋯] at P;let⟨w,y,B⟩:=g (i:=i) ⋯ f;let⟨w',i2,r2⟩:=g (i:=j) ⋯ f;let⟨k,n,hk,e3,e4⟩:=z _ (t (i:=i) ⋯);let⟨k',n',D1,N3,N4⟩:=z _ (t (i:=j) ⋯);rw[e3] at y;rw[N3] at i2;rw[e4,N4] at P;let t1:=ye J q y B;let t2:=ye J q i2 r2;rw[hk] at t1;rw[D1] at t2;calc NV N0 t1 t2 P
theorem N5(t:X.A.units+64<cLine):eH X (.builtin "sorted") uA:=by
 ext w s E H G L Q I r ⟨F,M,K,c,x,q,y⟩;unfold uA at q;split at q
 .rename_i z
  let⟨d,g,i,j⟩:=q;let⟨v,rfl,a,B,rfl,k,l⟩:=iC x;let⟨u,rfl,m⟩:=vals1 r;cases m
  exact D0 t I c (.inl k) l d i λe C b D n o p f J=>⟨.ref b,_,J,Y,y _ _ _ (j e n o) (c_ f) (kD c f p)⟩
 .rename_i z
  let⟨d,g,i,j⟩:=q;let⟨v,rfl,h⟩:=iC x;let h:Is F (.tup z) v:=h;erw[Is] at h;let⟨a,B,rfl,k,l⟩:=h;let⟨u,rfl,m⟩:=vals1 r;cases m
  exact D0 t I c (.inr (c _ _ k)) l d i λe C b D n o p f J=>⟨.ref b,_,J,Y,y _ _ _ (j e n o) (c_ f) (kD c f p)⟩
 .calc q.elim
end
end L2
namespace LJ
open PySem L2 PySem.W
theorem N6{ls:-lE}{b:U}{ps:Array M}:(ls.map λl=>(l.T,(#[]:Array M))).lookup b=ζ ps->(∃l∈ls,l.T=b)/\ps = #[]:=by
 induction ls with
 |nil=>ext h;cases h
 |cons l g a =>
  ext h;rw[Uz,Wk] at h
  cases q:b==l.T with
  |true =>
   rw[q] at h;exact⟨⟨l,Ux,(XW q).symm⟩,(WC h).symm⟩
  |false =>
   rw[q] at h;let⟨⟨c,d,e⟩,f⟩:=a h;calc⟨⟨c,Uy _ d,e⟩,f⟩
theorem yf{ls:-lE}{l:lE}(h:l∈ls):(ls.map λl=>(l.T,(#[]:Array M))).lookup l.T=ζ #[]:=by
 induction ls with
 |nil=>cases h
 |cons a c b =>
  rw[Uz,Wk]
  cases q:l.T==a.T with
  |true=>rfl
  |false =>
   rcases Uw.mp h with rfl|h
   .simp at q
   .calc b h
theorem N7{l:OpenLaw}{q:ψ}{c:-π}{N:(π->Option ν)->Α->Prop}{d:DefRec}{K:Params->Frag}{as:-ξ}{e:∀P,as=(K P).map (·.1)}{ts:-ξ}{kk:Nat}(ls:-lE)(C:CC)(v:ls.map (·.T)=ts)(hn:l.most=ζ 63)(y:d.params.defaults=[])(O:bz kk callerA)
  (A:∀(w:ω)(h:Α),(K w.params).In h->Cs l.prog w C.cs h) (D:∀(w:ω)(h:Α),(K w.params).In h->∀t∈ls,∃B,CodeHd h B t.T) (E:∀P,noTabs (K P)=θ)
  (F:∀(w:ω)(g:π->Option ν)(p:ξ)(h:Α),(K w.params).In h->h.Ns mainGlobals g->g d.name=ζ (.ref p) →
   ∃r:FuncData,(∀(s:ο)(u:ν),BindsTo s r ⟨[u],[]⟩ [("script",u)])/\∀base:Α,(K w.params).In base->base.Ns mainGlobals g->(∀t∈ls,base.BuiltinsAt g t.T)->cG l.prog w (K w.params) g base fZ kk p r ["script"] (@uw (g8 ls C) (K w.params))) :
  WalkO q c N (kmHook K as e ts).says l.row.toRowW d [] (λf vs=>q3U f vs) :=
 L2.NG (n:=63) (k:=kk) (x:="script") (K:=λw=>K w.params) (CX:=λ_=>fZ) (sp:=λw=>@uw (g8 ls C) (K w.params)) (cs:=λ_=>C.cs) (Ts:=λ_=>ls.map λl=>(l.T,#[])) hn (by decide) y O (λw h Y=>km_in_of Y)
  (λw h Y b R I=>by
   let⟨⟨t,i,rfl⟩,rfl⟩:=N6 I;let L:h.get? t.T=ζ (tabObj #[]):=km_tabs_of Y t.T (by rw[<-v];calc Zp i);refine⟨L,?_,?_⟩
   .let⟨B,o,Q,_,_,_,_,_,_,_,S,U,V,W,_⟩:=D w h (km_in_of Y) t i
    exact⟨B,o,Q,S,U,V,W⟩
   .cases z:(K w.params).lookup t.T with
    |none=>rfl
    |some o =>
     let M:=km_in_of Y t.T o z;rw[L] at M;cases M;let X:=Yf.mp (E w.params) (t.T,tabObj #[]) (mem_of_lookupK z)
     calc absurd (show ι=θ from X) Wn)
  (λw h Y=>A w h (km_in_of Y))
  (λw g p h Z G J=>by
   let⟨r,hb,hF⟩:=F w g p h Z G J
   calc⟨r,hb,λj k1 k2 k3=>hF j k1 k2 λt i=>k3 t.T #[] (yf i)⟩)
  (λw H a ns I hO hQ hS=>by
   letI:a9:=g8 ls C;calc⟨a,ns,rfl,hS,I,⟨λt i=>?_,hQ⟩,λ_=>rfl⟩;rcases hO t.T with⟨R,m,z2⟩|⟨m,_⟩
   .rw[yf i] at m;cases m
    exact⟨#[],z2,trivial,.inl rfl⟩
   .rw[yf i] at m;cases m)
  λ_ _ _ _ _ z=>z
end LJ
namespace LJ
open PySem L2
variable[a9]
inductive uC (ys:-DV) (aK:-OV) (K:RV->-OV->Prop):Prop
 |mk (m:Int) (ws:-(Int×Int×Int)) (_:aI m ws) (_:ys=[.p (a7 m ws)]) (_:aK=[]) (_:K (.p .non) [])
def yg:WS:=(bj (bQ (dT (aA 1 xT (aq (aa 0) ae)))) eX cP)
theorem N8:Sem 1 0 uC yg:=by
 ext c a d-⟨m,b,W,rfl,rfl,k⟩;unfold yg;simp!;calc⟨m,b,W,Y,Y,?_⟩;simp!;calc cK k
inductive yh (ys:-DV) (aK:-OV) (K:RV->-OV->Prop):Prop
 |mk (y:Int×Int×Int) (_:ys=[.p (bJ y)]) (_:aK=[]) (_:K (.p (.tup [.int y.2.2,.int y.1,.int y.2.1])) [])
def yi:WS:=(aZ (bh (aq (d2 (aa 0) (dC (.int 2)) bc) (aq (d2 (aa 0) (dC (.int 0)) bc) (aq (d2 (aa 0) (dC (.int 1)) bc) ae)))))
theorem N9:Sem 1 0 yh yi:=by
 ext b a c-⟨y,rfl,rfl,k⟩;unfold yi;simp![bJ,dw,eB,at2];calc cK k
noncomputable def fu(ws:-(Int×Int×Int))(n:Int):LK:=[(ws.getD n.toNat (0,0,0)).2.2,(ws.getD n.toNat (0,0,0)).1,(ws.getD n.toNat (0,0,0)).2.1]
theorem N_{m:Int}{ws:-(Int×Int×Int)}(W:aI m ws){a b:Int}(f:0<=a/\a<(↑ws:Int))(g:0<=b/\b<(↑ws:Int))(e:fu ws a=fu ws b):a=b:=by
 let⟨i,rfl⟩:∃i:Nat,a=i:=⟨a.toNat,⋯⟩;let⟨j,rfl⟩:∃j:Nat,b=j:=⟨b.toNat,⋯⟩;let c:i<↑ws:=by symm
 let d:j<↑ws:=by symm
 unfold fu at e;rw[V7,V7,KG,tG c,KG,tG d] at e;erw[Option.getD_some,List.cons.injEq,XH] at e
 let q:(ws.map λy=>(y.1,y.2.1))[i]'(by rw[nW];calc c)=(ws.map λy=>(y.1,y.2.1))[j]'(by rw[nW];calc d):=by
  rw[Yk,Yk,e.2.1,e.2.2]
 let:=(Y2 W.unlike).mp q;rw[this]
inductive yj (ys:-DV) (aK:-OV) (K:RV->-OV->Prop):Prop
 |mk (m:Int) (ws:-(Int×Int×Int)) (n:Int) (_:aI m ws) (_:(0<=n/\n<(↑ws:Int))) (_:ys=[.p (a7 m ws),.p (.int n)]) (_:aK=[]) (_:K (.p (.tup ((fu ws n).map D.int))) [])
def yk:WS:=(az (b7 (d2 (d2 (aa 0) (dC (.int 1)) bc) (aa 1) bc) (dz 3 (cj (bo 2) (cj (bo 3) (cj (bo 4) dt))))) (aZ (bh (aq (aa 4) (aq (aa 2) (aq (aa 3) ae))))))
theorem Oa:Sem 2 3 yj yk:=by
 ext f a g-⟨m,h,n,W,⟨b,c⟩,rfl,rfl,k⟩;let⟨y,d,i,e,_⟩:=mE W b c;unfold yk;simp![eB,a7,e,bJ];unfold fu at k;rw[d] at k;calc cK k
noncomputable def kJ(ws:-(Int×Int×Int))(n:Int):D:=.tup [.tup ((fu ws n).map D.int),.int n]
theorem Ob{a b:LK}{n m:Int}(c:↑a=↑b)(h:kle (a++[n]) (b++[m])):kle a b:=by
 unfold kle at h ⊢;rw[yb _ _ c.symm] at h
 by_cases e:b=a
 .rw[e];exact ub a
 .rw[VB e] at h;calc h
end LJ
namespace L2
open PySem PySem.Spec PyProof.Rows
variable[a9]
noncomputable def cL{a:Type}(kvs:-(Key×a))(k:Key):Option a:=(kvs.find? λb=>S (b.1=k)).map (·.2)
noncomputable def putD{b:Type}(kvs:-(Key×b))(k:Key)(d:b):-(Key×b) :=
 if(kvs.any λa=>S (a.1=k))=θ then kvs.map (λa=>if a.1=k then(a.1,d) else a) else kvs++[(k,d)]
section
omit [a9]
variable{α:Type}{R:α->V->Prop}
theorem d4.val(k:Key):∀{a:-(Key×α)}{ws:-(Key×V)},d4 R a ws->(cL a k=η/\dh ws k=η)\/∃d v,cL a k=ζ d/\dh ws k=ζ v/\R d v
 |[],_,h=>by let h:_=[]:=h;subst h;exact .inl ⟨Y,Y⟩
 |b::r,_,⟨v,t,e,f,g⟩=>by
  subst e
  by_cases c:b.1=k
  .refine .inr ⟨b.2,v,?_,qP c,f⟩
   unfold cL;rw[ZV c⁻¹];rfl
  .rw[qQ c]
   let e:cL (b::r) k=cL r k:=by unfold cL;rw[ZW c⁻¹]
   rw[e];calc d4.val k g
theorem d4.length{κ:Type}:∀{a:-(κ×α)}{ws:-(κ×V)},d4 R a ws->↑ws=↑a
 |[],_,h=>by let h:_=[]:=h;subst h;rfl
 |c::r,_,⟨v,t,e,d,b⟩=>by subst e;rw[wq,wq,↑b]
theorem d4.any(k:Key):∀{a:-(Key×α)}{ws:-(Key×V)},d4 R a ws->(ws.any λb=>S (b.1=k))=a.any λb=>S (b.1=k)
 |[],_,h=>by let h:_=[]:=h;subst h;rfl
 |d::r,_,⟨v,t,e,f,c⟩=>by subst e;rw[We,We,c.any k]
theorem d4.jL(k:Key){d:α}{v:V}(hd:R d v):∀{b:-(Key×α)}{ws:-(Key×V)},d4 R b ws->d4 R (b.map λa=>if a.1=k then(a.1,d) else a) (ws.map λa=>if a.1=k then(a.1,v) else a)
 |[],_,h=>by let h:_=[]:=h;subst h;rfl
 |g::r,_,⟨u,t,e,i,f⟩=>by
  subst e
  by_cases c:g.1=k
  .rw[Uz,Uz,VD c,VD c]
   exact⟨v,_,Y,hd,f.jL k hd⟩
  .rw[Uz,Uz,VB c,VB c]
   calc⟨u,_,Y,i,f.jL k hd⟩
theorem d4.snoc{k:Key}{d:α}{v:V}(hd:R d v):∀{a:-(Key×α)}{ws:-(Key×V)},d4 R a ws->d4 R (a++[(k,d)]) (ws++[(k,v)])
 |[],_,h=>by let h:_=[]:=h;subst h;exact⟨v,[],Y,hd,Y⟩
 |f::r,_,⟨u,t,e,b,c⟩=>by subst e;calc⟨u,_,Y,b,c.snoc hd⟩
theorem d4.put{a:-(Key×α)}{ws:-(Key×V)}{k:Key}{d:α}{v:V}(h:d4 R a ws)(hd:R d v):d4 R (putD a k d) (putK ws k v):=by
 unfold putD putK;rw[h.any k];split
 .exact h.jL k hd
 .calc h.snoc hd
end
def ak(x:DV)(c:aH)(K:Nat->(-(Key×D)->OV)->-(Key×D)->Prop):Prop:=match x with
 |.o k=>match c.mu[k]? with
  |some (some (.dct b))=>K k OV.dct b
  |some (some (.ac a b))=>K k (OV.ac a) b
  |_=>False
 |_=>False
theorem rT{F H:Hp}{g:-U}{j:aH}{q:St}{x:DV}{v:V}{K:Nat->(-(Key×D)->OV)->-(Key×D)->Prop}(S:SR F g j q H)(p:eN F g x v)(h:ak x j K):∃k B kvs a ws,x=.o k/\K k B kvs/\v=.ref a/\g[k]?=ζ a/\H a=ζ (.dK ws)/\tP F kvs ws/\j.mu[k]?=ζ (ζ (B kvs))/\∀{F' es us},tP F' es us->fB F' a (B es) (.dK us):=by
 unfold ak at h;split at h
 .rename_i k
  split at h
  .rename_i c e
   let⟨a,d,rfl⟩:=p;let⟨a',o,f,m,l,rfl,n⟩:=S.mu k _ e;rw[d] at f;cases f;exact⟨k,_,c,a,l,Y,h,Y,d,m,n,e,λi=>⟨_,Y,i⟩⟩
  .rename_i b c e
   let⟨a,d,rfl⟩:=p;let⟨a',o,f,m,z,l,rfl,n⟩:=S.mu k _ e;rw[d] at f;cases f;exact⟨k,_,c,a,l,Y,h,Y,d,m,n,e,λi=>⟨z,_,Y,i⟩⟩
  .exact h.elim
 .calc h.elim
def ar(x:DV)(P:Int->Prop):Prop:=match x with
 |.p (.int i)=>P i
 |_=>False
theorem ym{F:Hp}{a:-U}{x:DV}{v:V}{P:Int->Prop}(b:eN F a x v)(h:ar x P):∃i,v=kV (.inl i)/\P i:=by
 unfold ar at h;split at h
 .rename_i i;exact⟨i,b,h⟩
 .calc h.elim
def aM:WE:=λa K=>K (.o ↑a.mu) ⟨a.sl,a.mu++[ζ (.dct [])]⟩
def au(b:Bool)(e fo:WE):WE:=λf K=>e f λx c=>fo c λy a=>ar x λi=>ak y a λ_ _ d=>K (.p (.bl (b != (cL d (.inl i)).isSome))) a
def aN(g fo h:WE):WS:=λK j=>g j λz c=>fo c λx e=>h e λy f=>eg z f λd a=>ar y λi=>ak x a λk B b=>↑b<1000/\K.nx ⟨a.sl,a.mu.set k (ζ (B (putD b (.inl i) d)))⟩
section
variable{X:Cx}{o i e v:J}{fo fi fv fk fe:WE}{pos:I}
theorem D2:JE X (.Dict [] [] pos) (tD aM):=jc.weak λd H Q ⟨F,e,f,K,S,q,k⟩ p b=>by
 let c:∀{a},fB F a (.dct []) (.dK []):=λ{a}=>⟨[],Y,Y⟩;calc k _ _ q _ _ _ _ (Ext.own S b) (S.own b c) ⟨p,?_,Y⟩;rw[<-S.di,My (B8 _),Xg];rfl
theorem D3{c:Bool}(l:TE)(hn:∀b H (Q:VK),(tD fi b H λy m=>tD fo b m λx H2=>∃a o,x=.ref a/\gL H2 a y o/\Q (.bl (c != o.isSome)) H2)->l b H Q):∀b H Q,tD (au c fi fo) b H Q->l b H Q:=λb H Q ⟨F,r,s,K,S,q,k⟩=>hn b H Q ⟨F,r,s,_,S,q,λx e t v w f m z A C=>⟨w,f,e,_,A,t,λy D E u U G T n p I=>by
  let⟨i,rfl,J⟩:=ym (C.ext n) E;let⟨V,B,g,a,L,rfl,M,rfl,W,N,O,X,P⟩:=rT p I J;refine⟨a,_,Y,gL.k N,?_⟩
  let R:(dh L (Yz i:Key)).isSome=(cL g (.inl i)).isSome:=by
   rcases O.val (.inl i) with⟨h,j⟩|⟨d,v,h,j,_⟩
   .rw[h,j];rfl
   .rw[h,j];rfl
  rw[R]
  calc k _ _ M _ _ _ _ (z.trans n) p Y⟩⟩
theorem D4{t:TE}{f:WE}(h:∀a H Q,tD f a H Q->t a H Q):∀a H Q,d5 (dT f) a H Q->tB t a H Q:=λa H Q ⟨F,c,d,K,S,q,k⟩↦h a H _ ⟨F,c,d,_,S,q,λx e g v o i p j l m=>by
  let⟨b,rfl,n⟩:=q_ m g
  calc⟨b,Y,k _ _ n _ _ _ j l⟩⟩
theorem Oc(d:X.A.units+64<cLine)(a:JE X i (tD fi))(b:JE X o (tD fo))(c:‹behindInMarks .In o=ι›):JT X (.Compare i [.In] [o] pos) (d5 (dT (au ι fi fo))) :=
 (Bp (Lm ⋯ a b) c).weak (D4 (D3 (qU (tD fi) (tD fo)) λe H Q h=>by erw[q31] at h;calc h))
theorem Od(d:X.A.units+64<cLine)(a:JE X i (tD fi))(b:JE X o (tD fo))(c:‹behindInMarks .NotIn o=ι›):JT X (.Compare i [.NotIn] [o] pos) (d5 (dT (au θ fi fo))) :=
 (Bp (Ln ⋯ a b) c).weak (D4 (D3 (Cq (tD fi) (tD fo)) λe H Q h=>by erw[Bool.true_bne] at h;calc h))
theorem D5[j3]{b:Ε}(hu:X.A.units+64<cLine)(E:JE X o (tD fo))(G:JE X i (tD fi))(I:JE X v (tD fv))(hs:‹swapsWith v (ζ (.Subscript o i b)) pos.line X.env=pure ι›):JS X (.Assign [.Subscript o i b] v pos) (eh (aN fv fo fi)) :=
 (Cr ⋯ E G I hs).weak λD σ H ⟨F,J,L,K,S,q,k⟩=>⟨F,J,L,_,S,q,λz c M w N e H1 O P Q=>⟨N,e,c,_,P,M,λx f R u T g H2 m U V=>⟨T,g,f,_,U,R,λy W Y t F3 Z H3 h S3 V3=>by
  let⟨d,δ4,F4,h4,n,j,i4⟩:=n_ S3 ((Q.ext m).ext h) Y;let⟨i,rfl,h5⟩:=ym V3 h4;let⟨k0,B,kvs,a,ws,rfl,p,rfl,r,e2,s,C,l⟩:=rT j ((V.ext h).ext n) h5;let oi:=l (F':=F4) (us:=putK ws (.inl i) w) (s.put i4);refine⟨a,_,rfl,ky.k e2 (kW (by rw[↑s];calc Xc p.1)),?_⟩
  calc k.nx _ p.2 _ _ _ _ ((((O.trans m).trans h).trans n).trans (Ext.put j C r)) (j.put C r oi)⟩⟩⟩
end
def mG(δ0:aH)(t:WT)(b:WS)(K:KS):Nat->aH->Prop
 |0,_=>False
 |n+1,d=>t d λe c=>if e=θ then b {nx:=λa=>mG δ0 t b K n (δ0.trim a),ct:=λa=>mG δ0 t b K n (δ0.trim a),bk:=K.nx,rt:=K.rt} c else K.nx c
def D6(t:WT)(b:WS):WS:=λK a=>∃n,mG a t b K n a
theorem Oe[j3]{X:Cx}{c:υ}{i:-χ}{t:WT}{b:WS}{pos:Ε}(I:PassesOwn (ς X.prog X.w) X.A X.env X.xe)(J:JT X c (d5 t))(L:ee X i (eh b)):JS X (.While c i [] pos) (eh (D6 t b)) :=
 (I7 I J L).weak λD V H ⟨F,v,p,K,S,⟨n,q⟩,k⟩=>by
 calc⟨λm r x=>∃u f e,Ext F v p.mu H u f e.mu x/\SR u f e r x/\mG p t b K m e,⟨n,F,v,p,.refl,S,q⟩,?_⟩;ext m r x ⟨u,f,e,M,N,h⟩
 cases m with
 |zero=>exact h.elim
 |succ m =>
  calc⟨u,f,e,_,N,h,λO y l P z W Q G=>?_⟩;let o:=M.trans Q
  cases O with
  |false =>
   dsimp only at l ⊢;rw[VB Wn] at l ⊢;exact k.nx _ l _ _ _ _ o G
  |true =>
   dsimp only at l ⊢;rw[VD Y] at l ⊢;calc⟨λg s=>∃j d a,Ext F v p.mu H j d a.mu s/\SR j d a g s/\mG p t b K m a,λg s ⟨j,d,a,R,T,U⟩↦⟨m,⋯,j,d,a,R,T,U⟩,?_⟩;calc⟨P,z,y,_,G,l,⟨λa B j d g s C E=>⟨j,_,_,(o.trans C).trim S.di,E.trim,B⟩,k.nx.ext o,λa B j d g s C E=>⟨j,_,_,(o.trans C).trim S.di,E.trim,B⟩,(k.ext o).rt,(k.ext o).kp⟩⟩
end L2
namespace LJ
open PySem L2
variable[a9]
theorem Of{kvs:-(Key×D)}{k l:Key}{d:D}(h:cL kvs k=η):cL (putD kvs k d) l=if l=k then ζ d else cL kvs l:=by
 let b:(kvs.any λa=>S (a.1=k))=ι:=by
  cases q:kvs.any λa=>S (a.1=k) with
  |false=>rfl
  |true =>
   let⟨a,f,g⟩:=q1k.mp q;unfold cL at h;rw[Option.map_eq_none_iff] at h;exact absurd g (q0r.mp h a f)
 unfold putD;rw[b,VB Wn];unfold cL;rw[List.find?_append]
 cases q:kvs.find? λa=>S (a.1=l) with
 |some a =>
  let e:=q0c q;let e:a.1=l:=by simpa using e
  rw[VB]
  .rfl
  .ext z
   subst z;let i:=q0M q;let:=YT.mp b a i;exact this e⁻¹
 |none =>
  by_cases c:l=k
  .subst c
   rw[VD Y];simp
  .rw[VB c]
   simp[show ¬ k=l fromλz=>c z.symm]
theorem Og{kvs:-(Key×D)}{k:Key}{d:D}:↑(putD kvs k d)<=↑kvs+1:=by
 unfold putD;split
 .rw[nW];symm
 .rw[qG];simp
inductive yn (ys:-DV) (aK:-OV) (K:RV->-OV->Prop):Prop
 |mk (m:Int) (ws:-(Int×Int×Int)) (ns:-Int) (_:aI m ws) (_:Nums ws ns) (_:ns.Nodup) (_:↑ns<=900) (_:ys=[.p (a7 m ws),.p (a_ ns)]) (_:aK=[]) (_:K (.p .non) [])
def yo:WS:=(az (dr (aA 1 uC (aq (aa 0) ae))) (az (bj (bQ (dT (d1 (aa 1) (cf "list")))) eX cP) (az (aJ 2 (d2 (dN (aq (d2 (aa 0) (dC (.int 1)) bc) ae) bC) (dC (.int 1)) (oI λi j=>.int (i-j)))) (az (aJ 3 aM) (bH (bW (aq (aa 1) ae)) (dz 2 (cj (bo 4) (cj (bo 5) dt))) (az (bj (eP (bQ (dT (aA 3 nv (aq (aa 5) (aq (dC (.int 0)) (aq (aa 2) ae)))))) (dT (au ι (aa 5) (aa 3)))) eX cP) (aN (dC (.bl θ)) (aa 3) (aa 5))))))))
theorem Oh:Sem 2 4 yn yo:=by
 ext P v Q-⟨m,g,a,W,w,x,R,rfl,rfl,k⟩;unfold yo;calc bf λN b=>?_;simp!;calc⟨m,g,W,Y,Y,?_⟩;show N _;subst b;calc bf λN b=>?_;simp!;rw[show a_ a=.lst (a.map D.int) from Y];simp![iz,fJ,q4O];subst b;calc bf λN b=>?_;simp![eB,a7];subst b;calc bf λN b=>?_;simp![aM];subst b
 let C:∀(j:Nat)(d:D),(iS 0 (a.map D.int))[j]?=ζ d->∃n:Int,a[j]?=ζ n/\d=D.tup [.int (j:Int),.int n]:=λj d y=>by
  let⟨e,s,A⟩:=l3 y;rw[B_] at s;let⟨n,B,rfl⟩:=KI.mp s;exact⟨n,B,by rw[A,VI]⟩
 let S:↑(iS 0 (a.map D.int))=↑a:=by rw[l0,nW]
 erw[bH,bW,aq,aa,ae,VN,VL,fE];refine jA (λi h=>∃kvs:-(Key×D),↑kvs<=i/\(∀n:Int,(cL kvs (.inl n)).isSome=μ (n∈a.take i))/\h=⟨[ζ (.p (.tup [.int m,.tup (g.map bJ)])),ζ (.p (.lst (a.map D.int))),ζ (.p (.int (↑g-1))),ζ (.o 0),η,η],[ζ (.dct kvs)]⟩) ?_ ?_ ?_
 .refine⟨[],B8 _,λn=>by simp[cL],?_⟩
  erw[nW]
 .ext j d h L E ⟨kvs,T,t,rfl⟩ F
  let⟨n,f,rfl⟩:=C j d E;let⟨G,U⟩:=w n (WR f);let H:j<↑a:=(pa.mp f).1
  let r:(cL kvs (.inl n)).isSome=ι:=by
   rw[t n];calc VC λI=>?_;let⟨i,J,u⟩:=Xq.mp I;rw[Wv] at J;rw[List.getElem_take] at u;let K:a[j]=n:=(pa.mp f).2;let:=(Y2 (h₀:=by symm) (h₁:=H) x).mp (u.trans K.symm);symm
  let M:cL kvs (.inl n)=η:=by
   cases q:cL kvs (.inl n) with
   |none=>rfl
   |some d=>rw[q] at r;cases r
  let O:uk (.int n) 0 (↑g-1)=θ:=by
   show(μ (0<=n)&&μ (n<=(↑g:Int)-1))=θ;rw[VG G,VG ⋯];rfl
  calc⟨trivial,?_⟩;erw[dz,cj,dt,bo,dH,Vz,VA,wq,VO];calc⟨trivial,?_⟩;calc bf λN b=>?_;simp!;calc⟨.int n,0,↑g-1,Y,Y,?_⟩;simp![O,au,ar,ak,r,q31];subst b;simp![aN,ar,ak];refine⟨⋯,F _ ⟨putD kvs (.inl n) (.bl θ),?_,λl=>?_,?_⟩⟩
  .let:=Og (kvs:=kvs) (k:=.inl n) (d:=.bl θ);symm
  .rw[Of M,Y3,f]
   by_cases c:l=n
   .subst c
    rw[VD Y];exact(VG (by simp)).symm
   .rw[VB (λz=>c (Zf z)),t l]
    simp[c]
  .simp!
 .ext h ⟨kvs,_,_,rfl⟩
  calc⟨trivial,cK k⟩
end LJ
namespace L2
open PySem PySem.Spec PyProof.Rows PySem.W
section
open PySem.SeqAt
open PySem.AutoSeq1 (wpAny_loadPart')
open PySem.MeetsSeq PySem.MeetsSeq2 PySem.MeetsSeq3
end
section
variable{prog:X}{w:l}{A:t}{E:bt}{s:L}{Q:Bool->L->Prop}
end
section
variable[a9]{X:Cx}
end
end L2
namespace LJ
open PySem L2
abbrev Lt:=Int×(U×-Int)
noncomputable def fV(es:-Lt):-(Key×V):=es.map λe=>(Yz e.1,V.ref e.2.1)
structure eJ(H:Hp)(es:-Lt):Prop where
 at_:∀e∈es,H e.2.1=ζ (.lst (e.2.2.map V.int))
 mH:(es.map (·.2.1)).Nodup
 mI:(es.map (·.1)).Nodup
noncomputable def strip(es:-Lt):-(Int×-Int):=es.map λe=>(e.1,e.2.2)
noncomputable def l7(g:-(Int×-Int))(x h:Int):-(Int×-Int):=if x∈g.map (·.1) then g.map (λe=>if e.1=x then(e.1,e.2++[h]) else e) else g++[(x,[h])]
noncomputable def eU(fs:-Int):Nat->-(Int×-Int)
 |0=>[]
 |i+1=>l7 (eU fs i) (fs.getD i 0) i
theorem D7(x:Int):∀es:-Lt,dh (fV es) (Yz x:Key)=(es.find? λe=>S (e.1=x)).map λe=>V.ref e.2.1
 |[]=>Y
 |e::a=>by
  by_cases c:e.1=x
  .rw[ZV c⁻¹]
   exact qP (congrArg Yz c)
  .rw[ZW c⁻¹]
   let:=D7 x a;rw[<-this];calc qQ (λz=>c (Zf z))
theorem Oi(es:-Lt):(strip es).map (·.1)=es.map (·.1):=by unfold strip;rw[VU];rfl
noncomputable def grow(es:-Lt)(x h:Int):-Lt:=es.map λe=>if e.1=x then(e.1,e.2.1,e.2.2++[h]) else e
theorem Oj(es:-Lt)(x h:Int):fV (grow es x h)=fV es:=by
 unfold fV grow;rw[VU];calc W6 λe _=>?_;show((Yz (if e.1=x then(e.1,e.2.1,e.2.2++[h]) else e).1:Key),V.ref (if e.1=x then(e.1,e.2.1,e.2.2++[h]) else e).2.1)=_;split<;>rfl
theorem Ol(es:-Lt)(x h:Int):(grow es x h).map (·.2.1)=es.map (·.2.1):=by
 unfold grow;rw[VU];calc W6 λe _=>?_;show(if e.1=x then(e.1,e.2.1,e.2.2++[h]) else e).2.1=_;split<;>rfl
theorem Om(es:-Lt)(x h:Int):(grow es x h).map (·.1)=es.map (·.1):=by
 unfold grow;rw[VU];calc W6 λe _=>?_;show(if e.1=x then(e.1,e.2.1,e.2.2++[h]) else e).1=_;split<;>rfl
theorem Oo{es:-Lt}{x h:Int}(a:x∈es.map (·.1)):strip (grow es x h)=l7 (strip es) x h:=by
 unfold l7;rw[VD (by rw[Oi];calc a)];unfold strip grow;rw[VU,VU];calc W6 λe _=>?_;show((if e.1=x then(e.1,e.2.1,e.2.2++[h]) else e).1,(if e.1=x then(e.1,e.2.1,e.2.2++[h]) else e).2.2)=if e.1=x then(e.1,e.2.2++[h]) else(e.1,e.2.2);split<;>rfl
theorem Oq{es:-Lt}(n:(es.map (·.1)).Nodup){e a:Lt}(h:e∈es)(h':a∈es)(q:e.1=a.1):e=a:=by
 let⟨i,b,rfl⟩:=Xq.mp h;let⟨j,c,rfl⟩:=Xq.mp h';let:=(Y2 (h₀:=by rw[nW];calc b) (h₁:=by rw[nW];calc c) n).mp (by rw[Yk,Yk];calc q);subst this;rfl
theorem Ot{es:-Lt}(n:(es.map (·.2.1)).Nodup){e a:Lt}(h:e∈es)(h':a∈es)(q:e.2.1=a.2.1):e=a:=by
 let⟨i,b,rfl⟩:=Xq.mp h;let⟨j,c,rfl⟩:=Xq.mp h';let:=(Y2 (h₀:=by rw[nW];calc b) (h₁:=by rw[nW];calc c) n).mp (by rw[Yk,Yk];calc q);subst this;rfl
theorem eJ.grow{H:Hp}{es:-Lt}{e:Lt}{h:Int}(L:eJ H es)(he:e∈es):eJ (upd H e.2.1 (.lst (e.2.2.map V.int++[V.int h]))) (grow es e.1 h):=by
 calc⟨λf a=>?_,by rw[Ol];calc L.mH,by rw[Om];calc L.mI⟩;unfold LJ.grow at a;let⟨d,b,rfl⟩:=VH.mp a
 by_cases c:d.1=e.1
 .obtain rfl:=Oq L.mI b he c
  rw[VD Y];show upd H d.2.1 _ d.2.1=ζ (.lst ((d.2.2++[h]).map V.int));rw[cw,VQ];rfl
 .rw[VB c]
  rw[bu λz=>c (by rw[Ot L.mH b he z])];calc L.at_ d b
theorem eJ.snoc{H H':Hp}{es:-Lt}{x h:Int}{n:U}(L:eJ H es)(hn:H n=η)(g:x∉es.map (·.1))(i:∀e∈es,H' e.2.1=H e.2.1)(h':H' n=ζ (.lst [V.int h])):eJ H' (es++[(x,n,[h])]):=by
 refine⟨λe c=>?_,?_,?_⟩
 .rcases VY.mp c with q|q
  .rw[i e q];exact L.at_ e q
  .rw[Wm.mp q];exact h'
 .rw[VQ]
  calc Xr.mpr ⟨L.mH,by simp,λa d b f z=>?_⟩;subst z;let⟨e,c,rfl⟩:=VH.mp d;let:e.2.1=n:=by simpa using f
  rw[<-this,L.at_ e c] at hn;cases hn
 .rw[VQ]
  calc Xr.mpr ⟨L.mI,by simp,λa d b f z=>?_⟩;subst z;let:a=x:=by simpa using f
  calc g (by rw[<-this];calc d)
variable[a9]
inductive D8 (ys:-DV) (aK:-OV) (K:RV->-OV->Prop):Prop
 |mk (m:Int) (ws:-(Int×Int×Int)) (ns:-Int) (_:aI m ws) (_:Nums ws ns) (_:ns.Nodup) (_:↑ns<=900) (_:ys=[.p (a7 m ws),.p (a_ ns)]) (_:aK=[]) (_:K (.p (xX ((eU (ic m ws ns) m.toNat).map (·.2)))) [])
end LJ
namespace L2
open PySem
variable[a9]
section
variable{F F' H H':Hp}{ad bV:-U}{δ δ':aH}{σ σ':St}
def D9(H:Hp)(v:V)(H':Hp):Prop:=∃a b r,v=.ref a/\H a=η/\H' a=ζ (.lst (.ref b::r))/\H b=η
end
section
variable{X:Cx}{UU UW yp UX:y}{i n:Nat}{G:GD}{fa:WA}{t:WT}{B:TS}{E:XK}
end
end L2
namespace LJ
open PySem L2
variable[a9]
def Ou:V->-V->Hp->VK->Prop:=λx c H Q=>∃(d:U)(a:-(Key×V))(k:Key)(b:V),x=.ref d/\c=[kV k,b]/\H d=ζ (.dK a)/\↑a<sizeLine/\(∀v,dh a k=ζ v->Q v H)/\(dh a k=η->Q b (upd H d (.dK (putK a k b))))
def Ov:V->-V->Hp->VK->Prop:=λx b H Q=>∃(d:U)(a:-(Key×V)),x=.ref d/\b=[]/\H d=ζ (.dK a)/\∀r,H r=η->Q (.ref r) (upd H r (jd r d))
def Ox:-V->Hp->VK->Prop:=λb H Q=>∃(r d:U)(a:-(Key×V)),b=[.ref r]/\H r=ζ (jd r d)/\H d=ζ (.dK a)/\∀l,H l=η->Q (.ref l) (upd H l (.lst (a.map (·.2))))
def Oy:TS:=eh (dr (aA 2 yn (aq (aa 0) (aq (aa 1) ae))))
def Oz(Kf:KC):TS:=me (ki Cv (nN 2)) (me (qq (Cg Kf (jG (qy (lZ uo 2) [] E0 (jG (iZ 0) (jG (iZ 1) iv))) iv)) (qm Kf 2 (vM (nN 3) (vM (nN 4) qj)))
 (Br (o_ Kf "list" wk (o_ Kf "dict" Ou (iZ 2) (jG (iZ 4) (jG (qx iv) iv))) (jG (iZ 3) iv))))
 (qg (qA Ox (jG (qF Kf "dict" Ov (iZ 2)) iv))))
theorem OA{fs:-Int}:∀{i:Nat},0<i->eU fs i≠[]
 |i+1,_,z=>by
  unfold eU l7 at z;split at z
  .rename_i c
   rw[q2d] at z;rw[z] at c;exact nomatch c
  .simp at z
theorem OB{Kf:KC}{H F0:Hp}{ad:-ξ}{vs:-V}{m:Int}{ws:-(Int×Int×Int)}{ns:-Int}{K':RV->-OV->Prop}{Q:VK}{Dd:Ends}(hl:↑vs=2)(W:aI m ws)(hn:Nums ws ns)(hd:ns.Nodup)(yq:↑ns<=900)
  (hK:K' (.p (xX ((eU (ic m ws ns) m.toNat).map (·.2)))) []) (S0:SR F0 ad ⟨[DV.p (a7 m ws),DV.p (a_ ns)].map ζ,([]:-OV).map ζ⟩ (vs.map ζ) H) (kk:∀r O,K' r O->∀v F' H',tZ F0 ad H r O v F' H'->D9 H v H'->Q v H') (hD:∀v H',Q v H'->Dd.rt v H') :
  me Oy (Oz Kf) Dd (start ["web", "ways", "lots", "house", "first"] vs) H:=by
 let ea:ad=[]:=by let:=S0.di;simpa using this
 subst ea;let P:=S0.start (N:=["web", "ways", "lots", "house", "first"]);rw[hl] at P;refine⟨F0,[],_,{nx:=fun δ'=>δ'=⟨[ζ (.p (a7 m ws)),ζ (.p (a_ ns)),η,η,η],[]⟩,rt:=λ_ _=>False},P,?_,⟨?_,λ_ h=>h.elim,λ_ h=>h.elim,λ_ _ h=>h.elim,trivial⟩⟩
 .simp!
  exact⟨m,ws,ns,W,hn,hd,yq,rfl,rfl,rfl⟩
 ext δ' rfl F1 pC σ1 H1 E1 P;let ea:pC=[]:=by let:=P.di;simpa using this
 subst ea;let⟨v0,e0,i0⟩:=P.sl 0 _ rfl;let⟨v1,e1,i1⟩:=P.sl 1 _ rfl;let s:=P.len
 let⟨w2,w3,w4,rfl⟩:∃w2 w3 w4,σ1=[ζ v0,ζ v1,w2,w3,w4]:=by
  let⟨a,r,rfl⟩:=XY s;let⟨b,r,rfl⟩:=XY (YH s);let s:=YH (YH s);let⟨c,r,rfl⟩:=XY s;let⟨d,r,rfl⟩:=XY (YH s);let⟨e,rfl⟩:=q1y.mp (YH (YH s));cases(show ζ a=ζ (ζ v0) from e0)
  cases(show ζ b=ζ (ζ v1) from e1)
  exact⟨c,d,e,rfl⟩
 ext f R
 let rU:H f=η:=by
  cases q:H f with
  |none=>rfl
  |some u=>let⟨u',h'⟩:=E1.iB f u q;rw[R] at h';cases h'
 let fl:F1 f=η:=by
  cases q:F1 f with
  |none=>rfl
  |some u=>rw[P.sub f u q] at R;cases R
 let nl:¬ Lv [] ([]:-(Option OV)) f:=λ⟨k,ov,z,_⟩↦by simp at z
 let S2:=P.other (o:=.dK []) fl nl (a9.same P.tab (c_ R));let E2:=E1.other (o:=.dK []) rU;calc⟨_,rfl,_,rfl,?_⟩;calc wY (E:=E0) (xs:=[.p (a7 m ws),.p (a_ ns)]) (K:=λr O=>r=.p (a_ (ic m ws ns))/\O=[]) S2 ⟨v0,_,rfl,i0,v1,_,rfl,i1,rfl⟩ rfl rfl rfl ⟨m,ws,ns,W,hn,.inl ⟨rfl,rfl,rfl,rfl⟩⟩ ?_;ext res O v L A ⟨er,eo⟩ X3 S3 B;subst er eo;let rV:↑(ic m ws ns)=m.toNat:=Nq;let iA:=W.iA;generalize ic m ws ns=M at hK B rV;let B:Is L (.lst (M.map D.int)) v:=B;erw[Is] at B;let⟨g,us,rfl,hg,iu⟩:=B;let OC:=lB iu;subst OC;let yr:Ext F1 [] [] (upd H1 f (.dK [])) L [] [] A:=X3;let E3:Ext F0 [] [] H L [] [] A:=E2.trans yr
 let U:∀a,¬ Lv [] ([]:-(Option OV)) a:=λa ⟨k,ov,z,_⟩↦by simp at z
 let OD:f∉a9.ad:=λz=>by let⟨ps,q⟩:=a9.tb P.tab z;rw[R] at q;cases q
 let X:A f=ζ (.dK []):=yr.keep f _ cw (U _) OD;let Y:A g=ζ (.lst (M.map V.int)):=S3.sub _ _ hg
 let OE:L f=η:=by
  cases q:L f with
  |none=>rfl
  |some u =>
   rcases yr.new f u q with z|z|z
   .rw[fl] at z;cases z
   .rw[cw] at z;cases z
   .exact absurd z (U _)
 let gd:g≠f:=λz=>by rw[z,X] at Y;cases Y
 calc⟨g,rfl,⟨_,bS.of Y⟩,?_⟩;refine Cm (K:=Kf) (a:=g) (xs:=M.map V.int) (λi σ C=>∃(n:-Lt)(w3 w4:Option V),σ=[ζ v0,ζ v1,ζ (.ref f),w3,w4]/\(∀a o,A a=ζ o->a≠f->C a=ζ o)/\a9.ok C/\C f=ζ (.dK (fV n))/\eJ C n/\(∀e∈n,A e.2.1=η)/\strip n=eU M i/\↑n<=i/\∀e∈n,↑e.2.2<=i) ?_ (λi σ C _ ⟨_,_,_,_,Z,_⟩↦bS.of (Z g _ Y gd)) ?_ ?_
 .exact⟨[],w3,w4,rfl,λa o e _=>e,S3.tab,X,⟨(λe l=>nomatch l),YK,YK⟩,(λe l=>nomatch l),rfl,B8 _,λe l=>nomatch l⟩
 .ext i x T' σ C hx ⟨n,w3,w4,rfl,Z,tk,F,L4,fr,st,le,ll⟩ OF
  rw[B_] at hx;let⟨y,ey,rfl⟩:=KI.mp hx;let hi:=(pa.mp ey).1;let eD:M.getD i 0=y:=by rw[KG,ey];rfl
  let s5:ba C (upd C T' (.tup [.int (i:Int),.int y])):=l5 OF;calc⟨T',_,rfl,cF.of cw,rfl,_,_,rfl,_,_,rfl,rfl,?_⟩;let OG:=s5 _ _ F;calc⟨_,rfl,.inr (.inr (.inl ⟨rfl,.inl ⟨_,OG⟩⟩)),_,rfl,VX _,λG D_=>?_⟩;let I:=s5.trans (l5 (o:=.lst []) D_);let uD:=I _ _ F;let rW:upd (upd C T' (.tup [.int (i:Int),.int y])) G (.lst []) G=ζ (.lst []):=cw;let w:C G=η:=s5.free D_;let J:=a9.same tk I;generalize upd (upd C T' (.tup [.int (i:Int),.int y])) G (.lst [])=H6 at I uD rW J;let L6:eJ H6 n:=⟨λe l=>I _ _ (L4.at_ e l),L4.mH,L4.mI⟩;let yt:G≠f:=λz=>by rw[z,F] at w;cases w
  let rX:A G=η:=by
   cases q:A G with
   |none=>rfl
   |some u=>rw[Z G u q yt] at w;cases w
  let fv:=D7 y n;refine⟨f,fV n,Yz y,.ref G,rfl,rfl,uD,kW (by unfold fV;rw[nW];symm),λv hv=>?_,λhv=>?_⟩
  .rw[hv] at fv
   cases ff:n.find? λe=>μ (e.1=y) with
   |none=>rw[ff] at fv;cases fv
   |some e =>
    rw[ff] at fv;obtain rfl:v=V.ref e.2.1:=by simpa using fv
    let l:e∈n:=q0M ff;let ek:e.1=y:=by simpa using q0c ff
    let uE:y∈n.map (·.1):=VH.mpr ⟨e,l,ek⟩;let yu:=L6.at_ e l;let yw:e.2.1≠f:=λz=>by let:=fr e l;rw[z,X] at this;cases this
    refine⟨.inl ⟨rfl,_,bS.of yu⟩,_,rfl,e.2.1,_,_,rfl,rfl,yu,?_,?_⟩
    .refine kW ?_
     rw[nW];let:=ll e l;symm
    .refine⟨LJ.grow n y i,_,_,rfl,λb' o eb nb=>?_,a9.put J yu (.inl ⟨_,rfl⟩),?_,?_,?_,?_,?_,?_⟩
     .rw[bu (ed eb (fr e l))];exact I _ _ (Z _ _ eb nb)
     .rw[bu (Yy yw),Oj];exact uD
     .rw[<-ek];exact L6.grow l
     .ext e' S
      unfold LJ.grow at S;let⟨d,hd,rfl⟩:=VH.mp S;let:=fr d hd;split<;>exact this
     .rw[Oo uE,st];show l7 (eU M i) y i=l7 (eU M i) (M.getD i 0) i;rw[eD]
     .unfold LJ.grow;rw[nW];symm
     .ext e' S
      unfold LJ.grow at S;let⟨d,hd,rfl⟩:=VH.mp S;let:=ll d hd;split
      .show ↑(d.2.2++[(i:Int)])<=i+1
       rw[qG,WH];symm
      .omega
  .rw[hv] at fv
   let uE:y∉n.map (·.1):=λz=>by
    let⟨e,l,ek⟩:=VH.mp z
    cases ff:n.find? λe=>μ (e.1=y) with
    |none=>exact absurd (q0r.mp ff e l) ek⁻¹
    |some e'=>rw[ff] at fv;cases fv
   let T:upd H6 f (.dK (putK (fV n) (Yz y) (.ref G))) G=ζ (.lst []):=by rw[bu yt];exact rW
   calc⟨.inl ⟨rfl,_,bS.of T⟩,_,rfl,G,_,_,rfl,rfl,T,kW (VX _),?_⟩;refine⟨n++[(y,G,[(i:Int)])],_,_,rfl,λb' o eb nb=>?_,a9.put (a9.put J uD (.inr (.inl ⟨_,rfl⟩))) T (.inl ⟨_,rfl⟩),?_,?_,?_,?_,?_,?_⟩
   .rw[bu (ed eb rX),bu nb];exact I _ _ (Z _ _ eb nb)
   .rw[bu (Yy yt),cw,La _ hv];unfold fV;rw[VQ];rfl
   .refine L4.snoc w uE (λe l=>?_) (by rw[cw];rfl)
    let ne1:e.2.1≠G:=ed (L4.at_ e l) w;let yw:e.2.1≠f:=λz=>by let:=fr e l;rw[z,X] at this;cases this
    rw[bu ne1,bu yw,L4.at_ e l];exact I _ _ (L4.at_ e l)
   .ext e l
    rcases VY.mp l with q|q
    .exact fr e q
    .rw[Wm.mp q];exact rX
   .unfold strip at st ⊢
    rw[VQ,st];show eU M i++[(y,[(i:Int)])]=l7 (eU M i) (M.getD i 0) i;unfold l7;rw[eD,VB (by rw[<-st,VU];calc uE)]
   .rw[qG,WH];symm
   .ext e l
    rcases VY.mp l with q|q
    .let:=ll e q;symm
    .rw[Wm.mp q];show 1<=i+1;symm
 .ext σ C ⟨n,w3,w4,rfl,Z,tk,F,L4,fr,st,le,ll⟩
  rw[nW,rV] at st;calc⟨_,rfl,.inr (.inr (.inl ⟨rfl,.inl ⟨_,F⟩⟩)),f,_,rfl,rfl,F,λv hv=>?_⟩;let s5:ba C (upd C v (jd v f)):=l5 hv;calc⟨v,f,_,rfl,cw,s5 _ _ F,λr Ea=>?_⟩;let I:=s5.trans (l5 (o:=.lst ((fV n).map (·.2))) Ea);let uF:C r=η:=s5.free Ea;let yx:upd (upd C v (jd v f)) r (.lst ((fV n).map (·.2))) r=ζ (.lst ((fV n).map (·.2))):=cw;let J:=a9.same tk I;generalize upd (upd C v (jd v f)) r (.lst ((fV n).map (·.2)))=H5 at I yx J;let OH:r≠f:=λz=>by rw[z,F] at uF;cases uF
  let Eb:A r=η:=by
   cases q:A r with
   |none=>rfl
   |some u=>rw[Z r u q OH] at uF;cases uF
  let non:∀{x:ξ},A x=η->H x=η:=λ{x} e=>by
   cases q:H x with
   |none=>rfl
   |some u=>let⟨u',z⟩:=E3.iB x u q;rw[e] at z;cases z
  let OI:D9 H (.ref r) H5:=by
   cases n with
   |nil=>exact absurd st.symm (OA (by let:=W.m1;symm))
   |cons e n=>exact⟨r,e.2.1,_,rfl,non Eb,yx,non (fr e Ux)⟩
  calc hD _ _ (kk _ _ hK _ (Nw L A H5) _ ?_ OI);let sm:ba L (Nw L A H5):=Nw.same S3.sub;refine⟨λa o e=>?_,E3.same.trans sm,λa o e=>?_,λa o e _ t=>?_,J,S3.nt.up sm λa ha=>?_,rfl,λj ow e=>by simp at e,λa ha=>by simp at ha,?_⟩
  .unfold Nw at e
   cases q:A a with
   |none=>rw[q] at e;exact e
   |some u =>
    rw[q] at e;let e:L a=ζ o:=e;exact I _ _ (Z _ _ (S3.sub _ _ e) λz=>by rw[z,OE] at e;cases e)
  .unfold Nw at e
   cases q:A a with
   |none =>
    refine .inr ?_
    cases q0:H a with
    |none=>rfl
    |some u=>let⟨u',h'⟩:=E3.iB a u q0;rw[q] at h';cases h'
   |some u =>
    rw[q] at e;let e:L a=ζ o:=e;rcases E3.new a o e with z|z|z
    .exact .inl z
    .exact .inr z
    .exact absurd z (U _)
  .exact I _ _ (Z _ _ (E3.keep a o e (U _) t) λz=>by rw[z,rU] at e;cases e)
  .let⟨ps,q⟩:=a9.tb S3.tab ha
   unfold Nw;rw[q];exact S3.nt a ha
  .show Is (Nw L A H5) (.lst (((eU M m.toNat).map (·.2)).map a_)) _
   erw[Is];calc⟨r,_,rfl,by unfold Nw;rw[Eb];calc yx,?_⟩;rw[<-st]
   let key:∀xs:-Lt,(∀e∈xs,e∈n)->ax (Nw L A H5) (((strip xs).map (·.2)).map a_) ((fV xs).map (·.2)):=by
    ext xs
    induction xs with
    |nil=>ext _;exact .nil
    |cons e xs ih =>
     ext h;show ax _ (a_ e.2.2::_) (V.ref e.2.1::_);erw[ax];calc⟨_,_,rfl,?_,ih λx hx=>h x (Uy _ hx)⟩;let l:=h e Ux;show Is _ (.lst (e.2.2.map D.int)) _;erw[Is];refine⟨e.2.1,e.2.2.map V.int,rfl,by unfold Nw;rw[fr e l];calc I _ _ (L4.at_ e l),mB⟩
   calc key n λ_ h=>h
noncomputable def yy(p q:Int)(fs:-Int):-Int:=fs.map λx=>if x=p then q else x
theorem OJ{p q x y:Int}:(if x=p then q else x)=(if y=p then q else y)↔x=y\/((x=p\/x=q)/\(y=p\/y=q)):=by
 by_cases a:x=p<;>by_cases b:y=p
 .rw[VD a,VD b];constructor<;>ext h<;>symm
 .rw[VD a,VB b];constructor<;>ext h<;>symm
 .rw[VB a,VD b];constructor<;>ext h<;>symm
 .rw[VB a,VB b];constructor<;>ext h<;>symm
theorem Ec{f:Int->Int}{fs:-Int}{i:Nat}(h:i<fs.length):(fs.map f).getD i 0=f (fs.getD i 0):=by
 rw[KG,B_,tG h,KG,tG h];rfl
theorem rY{a b:Int}:dEq (.int a) (.int b)=S (a=b):=by
 cases q:dEq (.int a) (.int b)
 .exact (VC λz=>by rw[z,lA] at q;cases q).symm
 .erw[dEq] at q
  calc(VG (XW q)).symm
end LJ
namespace LJ
open PySem L2
abbrev Wy:=Int×Int×Int
def uG(S:Wy->Prop)(a b:Int):Prop:=∃w,S w/\((w.1=a/\w.2.1=b)\/(w.1=b/\w.2.1=a))
inductive bA (S:Wy->Prop) (a:Int):Int->Prop
 |rf:bA S a a
 |st {b c:Int}:bA S a b->uG S b c->bA S a c
section
variable{S S':Wy->Prop}{a b c:Int}
theorem uG.symm(h:uG S a b):uG S b a:=let⟨w,c,d⟩:=h;⟨w,c,d.symm⟩
theorem bA.trans(h:bA S a b)(h':bA S b c):bA S a c:=by
 induction h' with
 |rf=>exact h
 |st _ e d=>calc .st d e
theorem bA.symm(h:bA S a b):bA S b a:=by
 induction h with
 |rf=>exact .rf
 |st _ e c=>calc(bA.st .rf e.symm).trans c
theorem bA.bind(h:bA S a b)(k:∀w,S w->bA S' w.1 w.2.1):bA S' a b:=by
 induction h with
 |rf=>exact .rf
 |st _ e c =>
  let⟨w,d,f⟩:=e;rcases f with⟨rfl,rfl⟩|⟨rfl,rfl⟩
  .exact c.trans (k w d)
  .calc c.trans (k w d).symm
theorem bA.one{w:Wy}(h:S w):bA S w.1 w.2.1:=.st .rf ⟨w,h,.inl ⟨Y,Y⟩⟩
theorem bA.mono(h:bA S a b)(k:∀w,S w->S' w):bA S' a b:=h.bind λw c=>.one (k w c)
theorem bA.none(h:bA S a b)(k:∀w,¬ S w):a=b:=by
 cases h with
 |rf=>rfl
 |st _ e=>let⟨w,c,_⟩:=e;calc absurd c (k w)
theorem bA.add{w:Wy}(k:∀v,S' v↔S v\/v=w):bA S' a b↔bA S a b\/(bA S a w.1/\bA S w.2.1 b)\/(bA S a w.2.1/\bA S w.1 b):=by
 constructor
 .ext h
  induction h with
  |rf=>exact .inl .rf
  |st _ e f =>
   rename_i b c _;let⟨v,g,n⟩:=e;rcases(k v).mp g with g|rfl
   .let l:bA S b c:=.st .rf ⟨v,g,n⟩
    rcases f with i|⟨i,j⟩|⟨i,j⟩
    .exact .inl (i.trans l)
    .exact .inr (.inl ⟨i,j.trans l⟩)
    .exact .inr (.inr ⟨i,j.trans l⟩)
   .rcases n with⟨rfl,rfl⟩|⟨rfl,rfl⟩
    .rcases f with i|⟨i,j⟩|⟨i,j⟩
     .exact .inr (.inl ⟨i,.rf⟩)
     .exact .inr (.inl ⟨i,.rf⟩)
     .exact .inl i
    .rcases f with i|⟨i,j⟩|⟨i,j⟩
     .exact .inr (.inr ⟨i,.rf⟩)
     .exact .inl i
     .exact .inr (.inr ⟨i,.rf⟩)
 .let d:∀{x y},bA S x y->bA S' x y:=λh=>h.mono λv p=>(k v).mpr (.inl p)
  let o:bA S' w.1 w.2.1:=.one ((k w).mpr (.inr Y));ext(h|⟨h,m⟩|⟨h,m⟩)
  .exact d h
  .exact ((d h).trans o).trans (d m)
  .calc ((d h).trans o.symm).trans (d m)
end
variable[a9]
def cC(n:Nat)(fs:-Int)(S:Wy->Prop):Prop:=fs.length=n/\∀i j:Nat,i<n->j<n->(fs.getD i 0=fs.getD j 0↔bA S i j)
theorem Ed{n i:Nat}(h:i<n):(bK n).getD i 0=i:=by
 unfold bK;rw[KG,B_,Yw h];rfl
theorem cC.start(n:Nat):cC n (bK n) (λ_=>False):=by
 calc⟨by unfold bK;simp,λi j a b=>?_⟩;rw[Ed a,Ed b];calc⟨λe=>by rw[e];calc .rf,λh=>h.none λ_ z=>z⟩
theorem cC.join{n i j:Nat}{fs:-Int}{S S':Wy->Prop}{w:Wy}{p q:Int}(h:cC n fs S)(e:i<n)(hj:j<n)(f:w.1=i)(g:w.2.1=j)(k:∀v,S' v↔S v\/v=w)(l:(p=fs.getD i 0/\q=fs.getD j 0)\/(p=fs.getD j 0/\q=fs.getD i 0)):cC n (yy p q fs) S':=by
 calc⟨by unfold yy;rw[nW,h.1],λx y c d=>?_⟩;unfold yy;rw[Ec (by rw[h.1];calc c),Ec (by rw[h.1];calc d),OJ,bA.add k,f,g,<-h.2 x y c d,<-h.2 x i c e,<-h.2 x j c hj,<-h.2 j y hj d,<-h.2 i y e d];rcases l with⟨rfl,rfl⟩|⟨rfl,rfl⟩
 .constructor
  .ext (h|⟨a|a,b|b⟩)
   .exact .inl h
   .exact .inl (a.trans b.symm)
   .exact .inr (.inl ⟨a,b.symm⟩)
   .exact .inr (.inr ⟨a,b.symm⟩)
   .exact .inl (a.trans b.symm)
  .ext (h|⟨a,b⟩|⟨a,b⟩)
   .exact .inl h
   .exact .inr ⟨.inl a,.inr b.symm⟩
   .exact .inr ⟨.inr a,.inl b.symm⟩
 .constructor
  .ext (h|⟨a|a,b|b⟩)
   .exact .inl h
   .exact .inl (a.trans b.symm)
   .exact .inr (.inr ⟨a,b.symm⟩)
   .exact .inr (.inl ⟨a,b.symm⟩)
   .exact .inl (a.trans b.symm)
  .ext (h|⟨a,b⟩|⟨a,b⟩)
   .exact .inl h
   .exact .inr ⟨.inr a,.inl b.symm⟩
   .calc .inr ⟨.inl a,.inr b.symm⟩
noncomputable def aO(ws:-Wy)(n:Int):Wy:=ws.getD n.toNat (0,0,0)
theorem k7(n:Nat):↑(bK n)=n:=by unfold bK;simp
structure Good(fs:-Int):Prop where
 le:∀h:Nat,h<fs.length->0<=fs.getD h 0/\fs.getD h 0<=h
 own:∀h:Nat,h<fs.length->fs.getD (fs.getD h 0).toNat 0=fs.getD h 0
theorem getD_at{fs:-Int}{h:Nat}(a:h<fs.length):fs.getD h 0=fs[h]:=by rw[KG,tG a];rfl
theorem OK{fs:-Int}{i j h:Nat}(a:h<fs.length):(hJ fs i j).getD h 0=if fs.getD h 0=max (fs.getD i 0) (fs.getD j 0) then min (fs.getD i 0) (fs.getD j 0) else fs.getD h 0:=by
 rw[getD_at (by rw[rN];calc a),getD_at a];unfold hJ;rw[Yk]
theorem OL(n:Nat):Good (bK n):=by
 let e:∀h:Nat,h<↑(bK n)->(bK n).getD h 0=h:=λh a=>by
  rw[k7] at a;rw[bK,KG,B_,Yw a];rfl
 calc⟨λh a=>by rw[e h a];symm,λh a=>?_⟩;rw[e h a,V7,e h a]
theorem Good.join{fs:-Int}(G:Good fs){i j:Nat}(f:i<fs.length)(hj:j<fs.length):Good (hJ fs i j):=by
 let o:=G.le i f;let p:=G.le j hj;let q:=G.own i f;let r:=G.own j hj;generalize l:max (fs.getD i 0) (fs.getD j 0)=g;generalize m:min (fs.getD i 0) (fs.getD j 0)=k
 let n:0<=k/\k<=g/\k.toNat<fs.length/\fs.getD k.toNat 0=k:=by
  rw[<-l,<-m];rcases Int.le_total (fs.getD i 0) (fs.getD j 0) with c|c
  .rw[q3z c,q3a c];exact⟨o.1,c,⋯,q⟩
  .rw[q3b c,q3A c];exact⟨p.1,c,⋯,r⟩
 let e:∀h,h<fs.length->(hJ fs i j).getD h 0=if fs.getD h 0=g then k else fs.getD h 0:=λh a=>by rw[OK a,l,m]
 refine⟨λh a=>?_,λh a=>?_⟩
 .rw[rN] at a
  let:=G.le h a;rw[e h a];split<;>symm
 .rw[rN] at a
  let b:=G.le h a;let c:=G.own h a;rw[e h a]
  by_cases d:fs.getD h 0=g
  .rw[VD d,e _ n.2.2.1,n.2.2.2]
   split<;>rfl
  .rw[VB d,e _ ⋯,c,VB d]
theorem uH{m:Int}{ws:-Wy}(W:aI m ws){n:Int}(e:0<=n)(a:n<(↑ws:Int)):∃i k:Nat,dO ws n=(i,k)/\(aO ws n).1=i/\(aO ws n).2.1=k/\i<m.toNat/\k<m.toNat:=by
 let⟨y,b,g,_,i,k,c,d,a,f,_⟩:=mE W e a;calc⟨i,k,?_,by unfold aO;rw[b];calc c,by unfold aO;rw[b];calc d,a,f⟩;unfold dO;rw[b,c,d,V7,V7]
theorem Ee{m:Int}{ws:-Wy}(W:aI m ws):∀(ns fs:-Int),Nums ws ns->fs.length=m.toNat->Good fs->Good (gg ws fs ns)
 |[],_,_,_,G=>G
 |n::c,d,a,f,G=>by
  let b:=a n (Ux ..);let⟨i,k,e,_,_,h,j⟩:=uH W b.1 b.2;calc Ee W c _ (λx g=>a x (Uy _ g)) (by rw[rN];calc f) ?_;show Good (hJ d (dO ws n).1 (dO ws n).2);rw[e];calc G.join ⋯ ⋯
theorem Ef{m:Int}{ws:-Wy}(W:aI m ws):∀(ns fs:-Int)(S:Wy->Prop),Nums ws ns->cC m.toNat fs S->cC m.toNat (gg ws fs ns) (λv=>S v\/∃k∈ns,v=aO ws k)
 |[],a,S,_,h=>by
  let:(λv=>S v\/∃k∈([]:-Int),v=aO ws k)=S:=funext λv=>propext (by simp);rw[this];exact h
 |n::f,a,S,g,h=>by
  let b:=g n (Ux ..);let⟨i,k,e,j,l,o,r⟩:=uH W b.1 b.2
  let c:cC m.toNat (hJ a i k) (λv=>S v\/v=aO ws n):=by
   calc cC.join (w:=aO ws n) (p:=max (a.getD i 0) (a.getD k 0)) (q:=min (a.getD i 0) (a.getD k 0)) h o r j l (λv=>Iff.rfl) ?_;symm
  let:=Ef W f _ _ (λx s=>g x (Uy _ s)) c
  let t:(λv=>(S v\/v=aO ws n)\/∃k∈f,v=aO ws k)=(λv=>S v\/∃k∈n::f,v=aO ws k):=funext λv=>propext (by
   constructor
   .ext ((h|h)|⟨k,d,h⟩)
    .exact .inl h
    .exact .inr ⟨n,Ux,h⟩
    .exact .inr ⟨k,Uy _ d,h⟩
   .ext (h|⟨k,d,h⟩)
    .exact .inl (.inl h)
    .rcases Uw.mp d with rfl|d
     .exact .inl (.inr h)
     .calc .inr ⟨k,d,h⟩)
  rw[t] at this;show cC _ (gg ws (hJ a (dO ws n).1 (dO ws n).2) f) _;rw[e];calc this
def eV(ws:-Wy)(ns:-Int):Wy->Prop:=λv=>∃k∈ns,v=aO ws k
theorem yz{m:Int}{ws:-Wy}(W:aI m ws){ns:-Int}(hn:Nums ws ns):cC m.toNat (ic m ws ns) (eV ws ns):=by
 let:=Ef W ns _ _ hn (cC.start m.toNat);let a:(λv=>False\/∃k∈ns,v=aO ws k)=eV ws ns:=funext λv=>propext (by unfold eV;simp);rw[a] at this;calc this
theorem OM{m:Int}{ws:-Wy}(W:aI m ws){ns:-Int}(hn:Nums ws ns):Good (ic m ws ns):=Ee W ns _ hn (k7 _) (OL _)
noncomputable def dj(fs:-Int)(i:Nat)(x:Int):-Int:=((Wo i).filter λh=>S (fs.getD h 0=x)).map λh:Nat=>(h:Int)
noncomputable def roots(fs:-Int)(i:Nat):-Nat:=(Wo i).filter λh=>S (fs.getD h 0=(h:Int))
theorem Eg{fs:-Int}(G:Good fs):∀i,i<=fs.length->eU fs i=(roots fs i).map λr:Nat=>((r:Int),dj fs i (r:Int))
 |0,_=>Y
 |i+1,s=>by
  let m:=Eg G i ⋯;let n:=G.le i ⋯;let f:=G.own i ⋯;show l7 (eU fs i) (fs.getD i 0) i=_;rw[m];let g:((roots fs i).map λr:Nat=>((r:Int),dj fs i (r:Int))).map (·.1)=(roots fs i).map λr:Nat=>(r:Int):=by rw[VU];rfl
  let a:∀x,dj fs (i+1) x=if fs.getD i 0=x then dj fs i x++[(i:Int)] else dj fs i x:=λx=>by
   unfold dj;rw[Zu,YO]
   by_cases c:fs.getD i 0=x
   .rw[VD c,VQ,Y4 c⁻¹];rfl
   .rw[VB c,Y5 c⁻¹,q3C,dV]
  let b:∀r,r∈roots fs i↔r<i/\fs.getD r 0=(r:Int):=λr=>by
   unfold roots;rw[Wb,Wx,VZ]
  unfold l7;rw[g]
  by_cases c:fs.getD i 0=(i:Int)
  .let o:fs.getD i 0∉(roots fs i).map λr:Nat=>(r:Int):=λz=>by
    let⟨r,j,e⟩:=VH.mp z;let:=((b r).mp j).1;symm
   rw[VB o]
   let k:roots fs (i+1)=roots fs i++[i]:=by
    unfold roots;rw[Zu,YO,Y4 c⁻¹];rfl
   rw[k,VQ];congr 1
   .refine W6 λr j=>?_
    let:=((b r).mp j).1;rw[a,VB ⋯]
   .show [(fs.getD i 0,[(i:Int)])]=[((i:Int),dj fs (i+1) i)]
    rw[a,VD c,c]
    let:dj fs i (i:Int)=[]:=by
     unfold dj;rw[q1z.mpr λh p=>?_]
     .rfl
     .let t:=Wx.mp p
      let:=G.le h ⋯;rw[VZ];symm
    rw[this];rfl
  .let⟨x,l⟩:∃x:Nat,fs.getD i 0=x:=⟨(fs.getD i 0).toNat,⋯⟩
   rw[l] at f n c ⊢;rw[V7] at f;let q:x∈roots fs i:=(b x).mpr ⟨⋯,f⟩;rw[VD (VH.mpr ⟨x,q,Y⟩)]
   let k:roots fs (i+1)=roots fs i:=by
    unfold roots;rw[Zu,YO,Y5 (by rw[l];simpa using c),q3C,dV]
   rw[k,VU];calc W6 λr j=>?_;show(if(r:Int)=(x:Int) then((r:Int),dj fs i r++[(i:Int)]) else((r:Int),dj fs i r))=((r:Int),dj fs (i+1) r);rw[a,l]
   by_cases d:(r:Int)=(x:Int)
   .rw[VD d,VD d.symm]
   .rw[VB d,VB (Yy d)]
theorem ka:∀{a b:-Int},a.Pairwise (· < ·)->b.Pairwise (· < ·)->(∀x,x∈a↔x∈b)->a=b
 |[],[],_,_,_=>Y
 |[],y::_,_,_,h=>absurd ((h y).mpr (Ux ..)) (by simp)
 |x::_,[],_,_,h=>absurd ((h x).mp (Ux ..)) (by simp)
 |x::a,y::b,j,k,h=>by
  let⟨g,l⟩:=Xt.mp j;let⟨i,m⟩:=Xt.mp k
  let d:x=y:=by
   rcases Uw.mp ((h x).mp (Ux ..)) with e|e
   .exact e
   .rcases Uw.mp ((h y).mpr (Ux ..)) with f|f
    .exact f.symm
    .let:=i x e
     let:=g y f;symm
  subst d;rw[ka l m λz=>?_]
  constructor
  .ext c
   rcases Uw.mp ((h z).mp (Uy _ c)) with e|e
   .let:=g z c;symm
   .exact e
  .ext c
   rcases Uw.mp ((h z).mpr (Uy _ c)) with e|e
   .let:=i z c;symm
   .exact e
open Classical in
noncomputable def cls (n:Nat) (S:Wy->Prop) (h:Int):List Int:=(bK n).filter λx=>decide (bA S h x)
theorem bL{n:Nat}{x:Int}:x∈bK n↔0<=x/\x<n:=by
 unfold bK
 constructor
 .ext h
  let⟨k,a,rfl⟩:=VH.mp h;let:=Wx.mp a;symm
 .ext h
  calc VH.mpr ⟨x.toNat,Wx.mpr ⋯,⋯⟩
theorem rZ(n:Nat):(bK n).Pairwise (· < ·):=by
 unfold bK;exact XN.mpr ((Yr (n:=n)).imp λh=>by symm)
open Classical in
theorem cb {n:Nat} {S:Wy->Prop} {h x:Int}:x∈cls n S h↔(0<=x/\x<n)/\bA S h x:=by
 unfold cls;rw[Wb,bL,VZ]
open Classical in
theorem r3 (n:Nat) (S:Wy->Prop) (h:Int):(cls n S h).Pairwise (· < ·):=(rZ n).filter _
structure r9(n:Nat)(S:Wy->Prop)(L:-(-Int)):Prop where
 nd:L.Nodup
 mem:∀l,l∈L↔∃h:Int,(0<=h/\h<n)/\l=cls n S h
theorem Eh{n:Nat}{S:Wy->Prop}{a b:Int}(h:bA S a b):cls n S a=cls n S b :=
 ka (r3 _ _ _) (r3 _ _ _) λx=>by
  rw[cb,cb];calc⟨λ⟨c,d⟩↦⟨c,h.symm.trans d⟩,λ⟨c,d⟩↦⟨c,h.trans d⟩⟩
theorem Ei{n:Nat}{S:Wy->Prop}{a:Int}(h:0<=a/\a<n):a∈cls n S a:=cb.mpr ⟨h,.rf⟩
theorem OO{x y:Int}{xs ys:-Int}(h:x<y):kle (x::xs) (y::ys):=by
 unfold kle;rw[HT.lV,VB ⋯];calc VC ⋯
theorem Ej{n:Nat}{fs:-Int}{S:Wy->Prop}(M:cC n fs S){r:Nat}(b:r<n)(e:fs.getD r 0=r):dj fs n r=cls n S r:=by
 refine ka ?_ (r3 _ _ _) λx=>?_
 .unfold dj
  exact XN.mpr (((Yr (n:=n)).filter _).imp λh=>by symm)
 .rw[cb]
  unfold dj
  constructor
  .ext h
   let⟨k,a,rfl⟩:=VH.mp h;rw[Wb,Wx,VZ] at a;exact⟨⋯,(M.2 r k b a.1).mp (by rw[e,a.2])⟩
  .ext ⟨⟨d,f⟩,c⟩
   let⟨k,rfl⟩:∃k:Nat,x=k:=⟨x.toNat,⋯⟩;calc VH.mpr ⟨k,?_,Y⟩;rw[Wb,Wx,VZ];let:=(M.2 r k b ⋯).mpr c;calc⟨⋯,by rw[<-this,e]⟩
noncomputable def oE(fs:-Int)(n:Nat):-(-Int):=(roots fs n).map λr:Nat=>dj fs n (r:Int)
theorem OP{fs:-Int}(G:Good fs):(eU fs fs.length).map (·.2)=oE fs fs.length:=by
 rw[Eg G fs.length (B8 _),VU];rfl
theorem uI{n:Nat}{fs:-Int}(G:Good fs)(g:fs.length=n){r:Nat}(f:r<n)(e:fs.getD r 0=r):∃t,dj fs n r=(r:Int)::t:=by
 let a:(r:Int)∈dj fs n r:=by
  unfold dj;calc VH.mpr ⟨r,?_,Y⟩;rw[Wb,Wx,VZ];exact⟨f,e⟩
 let b:(dj fs n r).Pairwise (· < ·):=by
  unfold dj;exact XN.mpr (((Yr (n:=n)).filter _).imp λh=>by symm)
 cases q:dj fs n r with
 |nil=>rw[q] at a;simp at a
 |cons x t =>
  calc⟨t,?_⟩;let c:x∈dj fs n r:=by rw[q];exact Ux
  unfold dj at c;let⟨k,d,rfl⟩:=VH.mp c;rw[Wb,Wx,VZ] at d;let l:=G.le k ⋯;rw[d.2] at l;rw[q] at a b;rcases Uw.mp a with z|z
  .rw[z]
  .let:=(Xt.mp b).1 _ z
   symm
theorem OQ{fs:-Int}(G:Good fs):(oE fs fs.length).Pairwise kle:=by
 unfold oE;refine XN.mpr ?_
 let:(roots fs fs.length).Pairwise λa b=>a<b/\(a<fs.length/\fs.getD a 0=a)/\b<fs.length/\fs.getD b 0=b:=by
  let f:(roots fs fs.length).Pairwise (· < ·):=(Yr (n:=fs.length)).filter _
  let d:∀a∈roots fs fs.length,a<fs.length/\fs.getD a 0=a:=λa c=>by
   unfold roots at c;rw[Wb,Wx,VZ] at c;exact c
  exact f.imp_of_mem λc g h=>⟨h,d _ c,d _ g⟩
 calc this.imp λ{a b} h=>?_;let⟨t,e⟩:=uI G Y h.2.1.1 h.2.1.2;let⟨u,i⟩:=uI G Y h.2.2.1 h.2.2.2;rw[e,i];calc OO ⋯
theorem OR{n:Nat}{fs:-Int}{S:Wy->Prop}(G:Good fs)(M:cC n fs S):r9 n S (oE fs n):=by
 let i:=M.1
 let f:∀a∈roots fs n,a<n/\fs.getD a 0=a:=λa d=>by
  unfold roots at d;rw[Wb,Wx,VZ] at d;exact d
 refine⟨?_,λl=>?_⟩
 .unfold oE
  calc XN.mpr ?_;let g:(roots fs n).Pairwise (· < ·):=(Yr (n:=n)).filter _;calc g.imp_of_mem λ{a b} d j h z=>?_;let⟨t,e⟩:=uI G i (f a d).1 (f a d).2;let⟨u,o⟩:=uI G i (f b j).1 (f b j).2;rw[e,o] at z;let:=(q05 z).1;symm
 .unfold oE
  constructor
  .ext h
   let⟨r,p,rfl⟩:=VH.mp h;let⟨g,q⟩:=f r p;exact⟨r,⋯,Ej M g q⟩
  .ext ⟨h,v,rfl⟩
   let⟨k,rfl⟩:∃k:Nat,h=k:=⟨h.toNat,⋯⟩;let s:=G.le k ⋯;let c:=G.own k ⋯;let⟨r,m⟩:∃r:Nat,fs.getD k 0=r:=⟨(fs.getD k 0).toNat,⋯⟩;rw[m] at s c;rw[V7] at c;refine VH.mpr ⟨r,?_,?_⟩
   .unfold roots
    rw[Wb,Wx,VZ];exact⟨⋯,c⟩
   .rw[Ej M ⋯ c]
    calc Eh ((M.2 r k ⋯ ⋯).mp (by rw[c,m]))
noncomputable def ji(m:Int)(ws:-Wy)(ns:-Int):-(-Int):=(eU (ic m ws ns) m.toNat).map (·.2)
theorem r_{m:Int}{ws:-Wy}(W:aI m ws){ns:-Int}(hn:Nums ws ns):r9 m.toNat (eV ws ns) (ji m ws ns)/\(ji m ws ns).Pairwise kle:=by
 let M:=yz W hn;let G:=OM W hn
 let e:ji m ws ns=oE (ic m ws ns) m.toNat:=by
  unfold ji;let:=OP G;rw[M.1] at this;exact this
 rw[e];calc⟨OR G M,?_⟩;let:=OQ G;rw[M.1] at this;calc this
theorem OS{n:Nat}{S:Wy->Prop}{L:-(-Int)}(h:r9 n S L){l l':-Int}{x:Int}(e:l∈L)(c:l'∈L)(f:x∈l)(d:x∈l'):l=l':=by
 let⟨a,_,rfl⟩:=(h.mem l).mp e;let⟨b,_,rfl⟩:=(h.mem l').mp c;calc Eh ((cb.mp f).2.trans (cb.mp d).2.symm)
theorem Ek{n:Nat}{S:Wy->Prop}:∀{L c:-(-Int)},r9 n S c->(∀l∈L,l∈c)->L.Nodup->L.flatten.Nodup
 |[],_,_,_,_=>YK
 |l::L,c,h,b,d=>by
  rw[Yv,Xr];rw[Yx] at d;refine⟨?_,Ek h (λx f=>b x (Uy _ f)) d.2,λx f y i e=>?_⟩
  .let⟨a,_,rfl⟩:=(h.mem l).mp (b l Ux)
   exact(r3 _ _ _).imp λh=>by symm
  .subst e
   let⟨j,g,k⟩:=q3c.mp i;calc d.1 (by rw[OS h (b l Ux) (b j (Uy _ g)) f k];calc g)
theorem OT{l:-Int}(h:l.Pairwise (· < ·)):l.Nodup:=h.imp λh=>by symm
theorem OU{xs ys:-Int}(b:xs.Nodup)(a:ys.Pairwise (· < ·))(h:∀x,x∈xs↔x∈ys):sortI xs=ys :=
 (oq ((List.perm_ext_iff_of_nodup (OT a) b).mpr λx=>(h x).symm) (a.imp λh=>by symm)).symm
theorem OW{n:Nat}{S:Wy->Prop}{L:-(-Int)}(h:r9 n S L):sortI L.flatten=bK n:=by
 calc OU (Ek h (λ_ b=>b) h.nd) (rZ n) λx=>?_;rw[q3c,bL]
 constructor
 .ext ⟨l,c,b⟩
  let⟨a,_,rfl⟩:=(h.mem l).mp c;exact(cb.mp b).1
 .ext b
  calc⟨_,(h.mem _).mpr ⟨x,b,Y⟩,Ei b⟩
theorem hU:∀us:-Int,bE (us.map D.int)=0
 |[]=>by simp[bE]
 |u::r=>by rw[Uz];erw[bE,dep];rw[hU r];rfl
theorem jj(l:-Int)(x:Int):((l.map D.int).any λe=>dEq e (.int x))=S (x∈l):=by
 rw[q42]
 cases q:S (x∈l) with
 |true=>exact q1k.mpr ⟨x,W9 q,lA _⟩
 |false =>
  calc YT.mpr λy a=>?_;show ¬ dEq (.int y) (.int x)=θ;rw[rY];ext z;let:=W9 z;subst this;calc q0s q a
theorem OX{m:Int}{ws:-Wy}(W:aI m ws){ns:-Int}(hn:Nums ws ns):↑(ji m ws ns)<=12/\(ji m ws ns).flatten.length<=12:=by
 let c:=W.iA;let⟨h,_⟩:=r_ W hn;let e:=OW h
 let k:(ji m ws ns).flatten.length=m.toNat:=by
  let:=xk (ji m ws ns).flatten;rw[e,k7] at this;exact this.symm
 refine⟨?_,⋯⟩
 let b:∀L:-(-Int),(∀l∈L,l≠[])->↑L<=↑L.flatten:=by
  ext L
  induction L with
  |nil=>ext _;simp
  |cons l r d =>
   ext h;let n:=d λx f=>h x (Uy _ f);let g:l≠[]:=h l Ux;let o:0<↑l:=q0m.mpr g;rw[Yv,qG,wq];symm
 let:=b (ji m ws ns) λl i=>by
  let⟨a,j,rfl⟩:=(h.mem l).mp i;exact q2w (Ei j)
 symm
end LJ
namespace HT
open PySem PySem.Spec PyProof.Rows
theorem OY(A:Β)(s:L)(a:Int)(t:Tok)(c:Int)(u:Tok)(prog:X)(w:l)(E:bt)(Q:bt)(h:Q (.bool (S (c<a))) s):
  G (B prog w) A (richCompare .Gt (.int a t) (.int c u)) Q E s :=
 (PyProof.Rows.gt_int h:G (B prog w) A (compareOp .Gt (.int a t) (.int c u)) Q E s)
section
open PySem.SeqAt
open PySem.AutoSeq1 (wpAny_loadPart')
open PySem.MeetsSeq PySem.MeetsSeq2 PySem.MeetsSeq3
theorem OZ(l b:ξ)(items f:Array ν)(n Q:Nat)(dd K:Option ξ)(sl L:Array (Option ν))(ns ms:-Int)(O:IntsAre items.toList ns)(hj:IntsAre f.toList ms):
  Meets (Builtin.«tuple.__gt__» ⟨[.ref l,.ref b],[]⟩)
   (λ_ R s=>s.heap.get? l=ζ {cls:=.type "tuple",dict:=dd,data:=.seq items n,slots:=sl}/\s.heap.get? b=ζ {cls:=.type "tuple",dict:=K,data:=.seq f Q,slots:=L} ∧
    R (.ok (.ret (.bool (lexLt ms ns)))) s) :=
 .of_wp λp w A R s h=>by
  let⟨F,g,d,G,H⟩:=s;let⟨hl,hb,h⟩:=h;let U:=q03;let V:items.size=↑ns:=by rw[<-↑O];simp
  let W:f.size=↑ms:=by rw[<-↑hj];simp
  wp_walk using XG hl,XG hb,q1b _ (λr b M=>b.1=η/\M=⟨F,g,d,G,H⟩/\∃(I J:-ν)(j k:-Int),r=I.zip J ∧
   IntsAre I j/\IntsAre J k/\↑j+f.size=k.length+items.size/\R (.ok (.ret (.bool (lexLt k j)))) ⟨F,g,d,G,H⟩) _
  case turn =>
   ext⟨y,x⟩ r b M ⟨B,rfl,I,J,j,k,m,C,o,i,v⟩
   cases C with
   |nil=>rw[Zd] at m;cases m
   |cons a t D =>
    cases o with
    |nil=>rw[q0B] at m;cases m
    |cons c u E =>
     rw[YD] at m;injection m with v3 la;injection v3 with hy hx;subst hy hx;rw[lV] at v;erw[wq] at i;let⟨e,S,z⟩:=BM A.in1 ⟨F,g,d,G,H⟩ a t c u;refine nX (S p w _ _ ?_)
     cases e with
     |true =>
      rw[VD (z.mp rfl).symm] at v
      wp_walk
      exact⟨rfl,rfl,_,_,_,_,la,D,E,⋯,v⟩
     |false =>
      rw[VB (λq=>absurd (z.mpr q.symm) Wn)] at v;let N:=OY A.in1 ⟨F,g,d,G,H⟩ a t c u p w
      wp_walk using N
      exact⟨_,rfl,by simpa using v⟩
  case fin =>
   ext⟨X,Y⟩ M ⟨B,rfl,I,J,j,k,m,C,o,i,v⟩;simp only at B;subst B
   let P:lexLt k j=μ (f.size<items.size):=by
    cases C with
    |nil =>
     cases o with
     |nil =>
      erw[VO] at i;rw[BJ];exact(VC ⋯).symm
     |cons c u T =>
      erw[VO,wq] at i;rw[BL];exact(VC ⋯).symm
    |cons a t P =>
     cases o with
     |nil =>
      erw[VO,wq] at i;rw[BK];exact(VG ⋯).symm
     |cons c u T =>
      rw[YD] at m;cases m
   rw[P] at v
   wp_walk
   exact⟨_,rfl,by simpa[ZY] using v⟩
  case h =>
   calc⟨rfl,rfl,items.toList,f.toList,ns,ms,rfl,O,hj,⋯,h⟩
end
section
variable{prog:X}{w:l}{A:t}{E:bt}{s:L}
theorem O0{l b:U}{items a:Array M}{ns ms:-Int}{Q:bt}(q:IsTup s.heap l items)(r:IsTup s.heap b a)(t:IntsAre items.toList ns)(hj:IntsAre a.toList ms)
  (u:A.units<cLine) (h:Q (.bool (lexLt ms ns)) s):G (ς prog w) A (compareOp .Gt (.ref l) (.ref b)) Q E s:=by
 let⟨⟨v,y,j,z⟩,k,m,n,o⟩:=id q;let⟨⟨p,f,g,i⟩,c,d,B,e⟩:=id r;simp only at m o d e;subst m o d e
 exact q1u (op:=.Gt) ⟨_,k,Y⟩ ⟨_,c,Y⟩ PySem.F.slot_tuple_gt PySem.F.entry_tuple_gt (PySem.F.args_tuple_gt_2 _ _) (OZ l b items a n B y f z i ns ms t hj)
  ⟨k,c,show Y8 (lexLt ms ns)≠q10/\Q (.bool (lexLt ms ns)) s from⟨(λx=>nomatch x),h⟩⟩ u
end
end HT
namespace L2
open PySem PySem.Spec PyProof.Rows PySem.W
noncomputable def kc:Bool->String
 |false=>"min"
 |true=>"max"
noncomputable def pJ:Bool->String
 |false=>"min.loop"
 |true=>"max.loop"
noncomputable def El:Bool->CmpOp
 |false=>.Lt
 |true=>.Gt
noncomputable def O3:String->CmpOp->Builtin:=(λ(f:String->CmpOp->Builtin) (_:f "min" .Lt=Builtin.«min.loop»)=>f) _ Y
noncomputable def O4:String->Builtin:=(λ(f:String->Builtin) (_:f "min" = Builtin.«min»)=>f) _ Y
theorem Em(mx:Bool):entryFor table (pJ mx)=ζ (O3 (kc mx) (El mx)):=by cases mx;calc PySem.F.entry_min_loop;calc PySem.F.entry_max_loop
theorem O5(mx:Bool):entryFor table (kc mx)=ζ (O4 (kc mx)):=by cases mx;calc PySem.F.entry_min;calc PySem.F.entry_max
theorem O6(mx:Bool):builtinKind (kc mx)=η:=by cases mx;calc PySem.F.kind_min;calc PySem.F.kind_max
theorem O7(mx:Bool):plainId (kc mx)=θ:=by cases mx;calc PySem.F.plain_min;calc PySem.F.plain_max
theorem pK(mx:Bool):plainId (pJ mx)=θ:=by cases mx;calc PySem.F.plain_min_loop;calc PySem.F.plain_max_loop
def mJ:Bool->LK->LK->Prop
 |false,a,b=>kle a b
 |true,a,b=>kle b a
noncomputable def yA:Bool->LK->LK->Bool
 |false,a,b=>HT.lexLt a b
 |true,a,b=>HT.lexLt b a
theorem En(mx:Bool)(a:LK):mJ mx a a:=by cases mx<;>calc kle_refl _
theorem O8{mx:Bool}{a b c:LK}(h:yA mx a b=θ)(k:mJ mx b c):mJ mx a c:=by
 cases mx
 .exact kle_trans (oA h) k
 .calc kle_trans k (oA h)
theorem O9{mx:Bool}{a b:LK}(h:¬ yA mx a b=θ):mJ mx b a:=by cases mx<;>calc Bool.eq_false_iff.mpr h
theorem O_{prog:X}{w:ω}{A:t}{E:bt}{s:L}{mx:Bool}{l b:U}{items a:Array M}{ns ms:-Int}{Q:bt}(c:IsTup s.heap l items)(d:IsTup s.heap b a)(e:IntsAre items.toList ns)(hj:IntsAre a.toList ms)
  (f:A.units<cLine) (h:Q (.bool (yA mx ns ms)) s):G (B prog w) A (richCompare (El mx) (.ref l) (.ref b)) Q E s:=by
 cases mx
 .exact HT.v5 c d e hj f h
 .calc HT.O0 c d e hj f h
theorem Pa(mx:Bool)(a v d:M):argsOk (kc mx) ⟨[a],[(Xy "key",v),(Xy "default",d)]⟩:=by cases mx<;>(unfold argsOk;kernel_rfl)
section
variable{X:Cx}{pins:a6}{σ:St}{H:Hp}{s:L}{E:bt}{l q I S:U}{P:-V->Hp->Prop}{xs:-V}{d:M}{R:Result->L->Prop}
def Pb(mx:Bool)(c:Nat->LK)(xs kvs:-V)(a:Array M):Prop :=
 (kvs=[]/\a = #[])\/∃(b:Nat)(x:V)(d:M)(t:U),b<↑kvs/\xs[b]?=ζ x/\RelV x d/\kvs[b]?=ζ (.ref t)/\a = #[d,.ref t]/\∀j,j<↑kvs->mJ mx (c b) (c j)
theorem Pc(mx:Bool)(L:Nat->LK)(hh:X.A.handled=η)(hu:X.A.units+1<cLine)(Eo:l≠I)(D:S≠I)(fI:∀H',H' I=η->cz X pins H' I)(fS:∀H',H' S=η->cz X pins H' S)
  (hl:∀kvs H',P kvs H'->H' l=ζ (.lst xs)) (hP:∀kvs H',P kvs H'->∀i,i<↑kvs->∃t,kvs[i]?=ζ (.ref t)/\H' t=ζ (.tup ((L i).map V.int)))
  (yB:∀(E:a6)(x:V)(u:ν)(kvs:-V)(H':Hp)(s':ο),xs[↑kvs]?=ζ x->RelV x u->Inv X E σ H' s'->P kvs H'->ρ (ς X.prog X.w) X.A.in1 (call (.ref q) [u]) (EP X E σ λk tQ=>P (kvs++[k]) tQ) (λ_ _=>False) s')
  (fin:∀kvs H' s',↑kvs=↑xs->P kvs H'->Inv X pins σ H' s'->(xs=[]->R (.ok (.ret d)) s')/\∀(b:Nat)(x:V)(u:ν),xs[b]?=ζ x->RelV x u->(∀j,j<↑xs->mJ mx (L b) (L j))->R (.ok (.ret u)) s') :
  ∀(r:Nat)(kvs:-V)(H':Hp)(s':ο)(h:Array ν)(c:Nat)(G:Γ),↑kvs+r=↑xs->Inv X ((S,seqObj "list" h c)::(I,G)::pins) σ H' s'->P kvs H'->G.cls=.type "list_iterator" -> G.data=.fields #[.ref l,.int ↑kvs 0]->Pb mx L xs kvs h →
   codeAny (ς X.prog X.w) X.A (.builtin (pJ mx) ⟨[.ref I,.ref q,.ref S],[(Xy "default",d)]⟩) R s':=by
 let m:(toString (kc mx)++toString ".loop" : String)=pJ mx:=by cases mx<;>decide
 ext r
 induction r with
 |zero =>
  ext a B s' h c G hr J pk U Y M;let Z:=J.pin (S,seqObj "list" h c) (V6 _ (.head _));let pI:=J.pin (I,G) (V6 _ (.tail _ (.head _)));let Jn:=J.gr.gr;let⟨g,rv,pl,_⟩:=Jn.list (bS.of (hl a B pk));let lv:↑g=↑xs:=rv.length.symm;let Pd:↑a=↑g:=by symm
  calc Xd (Em mx) ?_;rw[Xh (pK mx) _];show ρ _ X.A.in1 (seqItems? (.ref S) >>= _) _ _ _;calc nX (ZP Z.1 rfl ?_);show ρ _ X.A.in1 (tryCatch (pyNext (.ref I)) _ >>= _) _ _ _;let W:=ZA (prog:=X.prog) (w:=X.w) (A:=X.A.in1) hh I l Eo g.toArray;calc nX (q0H (W.done _ _ _ ⟨⟨G,pI.1,U,by rw[Y,KD,<-Pd]⟩,q2l pl⟩ λh' jD F=>?_));let J1:Inv X pins σ B {s' with heap:=h',toks:=jD}:=Jn.ie (fI B pI.2.1) λc o n e=>F c o n⁻¹ e;let yC:=F S _ D⁻¹ Z.1;rcases M with⟨yD,rfl⟩|⟨b,x,vb,t,M,hx,rx,ht,rfl,f⟩
  .refine nX (q1o (B9 ?_))
   refine(fin a B _ ⋯ pk J1).1 ?_
   cases xs with
   |nil=>rfl
   |cons _ _=>rw[yD] at hr;simp at hr
  .let s1:=Xa h' S (Xu λ_=>(#[]:Array ν))
   show ρ _ X.A.in1 (updateSeq S (λ_ => #[]) >>= _) _ _ _;calc nX (Zv yC rfl (nX (q14 (B9 ?_))));exact(fin a B _ ⋯ pk (J1.ie (fS B Z.2.1) λc o n e=>(s1.2 c n).trans e)).2 b x vb hx rx λj H=>f j ⋯
 |succ r ih =>
  ext a B s' h c G hr J pk U Y M;let Z:=J.pin (S,seqObj "list" h c) (V6 _ (.head _));let pI:=J.pin (I,G) (V6 _ (.tail _ (.head _)));let Jn:=J.gr.gr;let⟨g,rv,pl,_⟩:=Jn.list (bS.of (hl a B pk));let lv:↑g=↑xs:=rv.length.symm;let tX:↑a<↑g:=by symm
  calc Xd (Em mx) ?_;rw[Xh (pK mx) _];show ρ _ X.A.in1 (seqItems? (.ref S) >>= _) _ _ _;calc nX (ZP Z.1 rfl ?_);show ρ _ X.A.in1 (tryCatch (pyNext (.ref I)) _ >>= _) _ _ _;let W:=ZA (prog:=X.prog) (w:=X.w) (A:=X.A.in1) hh I l Eo g.toArray;calc nX (q0H (W.item ↑a _ _ _ (by rw[KD];calc tX) ⟨⟨G,pI.1,U,Y⟩,q2l pl⟩ λv h' jD hv yE F=>?_));let hv:g[↑a]?=ζ v:=by simpa using hv
  let⟨s,yF,N,O⟩:=id yE.1;let hi:↑a<↑xs:=by symm
  let⟨u,e1,rx⟩:=rv.get (tG hi);rw[hv] at e1;cases e1
  let hx:=tG hi;generalize xs[↑a]=x at hx rx;let yC:=F S _ D⁻¹ Z.1;let nI:∀z,s.data≠.cell z:=λz e=>by rw[O] at e;cases e
  let J1:Inv X pins σ B {s' with heap:=h',toks:=jD}:=Jn.ie (fI B pI.2.1) λc o n e=>F c o n⁻¹ e;let J2:=(J1.kI (fI B pI.2.1) yF nI).kI ((fS B Z.2.1).cons (p:=(I,s)) D.symm) yC x8;show ρ _ X.A.in1 (tryCatch (holding [v] (call (.ref q) [v])) _ >>= _) _ _ _;calc nX (q0H (WJ (XZ (yB _ x v a B _ hx rx J2 pk) (λkv s2 he=>?_) λ_ _ hF=>hF.elim)));let⟨kx,Q,J3,rk,K⟩:=he;let⟨C,et,w5⟩:=hP _ Q K ↑a (by rw[qG];calc W_ _)
  let ek:kx=.ref C:=by
   rw[My (B8 _),Xg] at et;simpa using et
  subst ek;cases rk
  let qS:=J3.pin (S,seqObj "list" h c) (V6 _ (.head _));let qI:=J3.pin (I,s) (V6 _ (.tail _ (.head _)));let Jm:=J3.gr.gr;let Ep:↑(a++[V.ref C])+r=↑xs:=by rw[qG,WH];symm
  let T:s.data=.fields #[.ref l,.int (↑(a++[V.ref C]):Nat) 0]:=by rw[O,qG];rfl
  let put:∀(b:Nat),b<↑a+1->b=↑a->(∀j,j<↑a+1->mJ mx (L b) (L j))->codeAny (ς X.prog X.w) X.A (.builtin (pJ mx) ⟨[.ref I,.ref q,.ref S],[(Xy "default",d)]⟩) R {s2 with heap:=s2.heap.update S (Xu λ_ => #[v,.ref C])}:=λb M eb f=>by
   subst eb;let s1:=Xa s2.heap S (Xu λ_ => #[v,WN C]);let⟨c2,Pe⟩:∃c2,(s2.heap.update S (Xu λ_ => #[v,WN C])).get? S=ζ (seqObj "list" #[v,.ref C] c2):=⟨_,q1G qS.1 λ_ => #[v,WN C]⟩;let J4:Inv X pins σ Q {s2 with heap:=s2.heap.update S (Xu λ_ => #[v,WN C])}:=Jm.ie (t':=s2.toks) (fS Q qS.2.1) λc o n e=>(s1.2 c n).trans e;let J5:=(J4.kI (fI Q qI.2.1) ((s1.2 I D.symm).trans qI.1) nI).kI ((fS Q qS.2.1).cons (p:=(I,s)) D.symm) Pe x8;refine ih _ Q _ _ c2 s Ep J5 K N T (.inr ⟨↑a,x,v,C,by rw[qG];calc W_ _,hx,rx,et,rfl,λj H=>f j (by rw[qG] at H;calc H)⟩)
  rcases M with⟨yD,rfl⟩|⟨b,y,vb,t,M,hy,ry,ht,rfl,f⟩
  .show ρ _ X.A.in1 (updateSeq S (λ_ => #[v,.ref C]) >>= _) _ _ _
   calc nX (Zv qS.1 rfl ?_);rw[m];calc B9 ⟨Yn (pK mx) _,put ↑a (W_ _) rfl λj H=>?_⟩;rw[yD] at H ⊢;let:j=0:=by simp at H;symm
   subst this;exact En _ _
  .let⟨t',Er,Pf⟩:=hP _ Q K b (by rw[qG];symm)
   rw[KH M,ht] at Er;cases Er
   let⟨i1,r1,Pg,_⟩:=Jm.tuple (cF.of w5);let⟨i2,r2,Ph,_⟩:=Jm.tuple (cF.of Pf);show ρ _ X.A.in1 (tryCatch (holding [v,.ref C] (richCompare _ (.ref C) (.ref t) >>= _)) _ >>= _) _ _ _;calc nX (q0H (WJ (nX ?_)));calc O_ (A:=X.A.in1) (mx:=mx) (ns:=L ↑a) (ms:=L b) Pg Ph (intsAre_of r1)⁻¹ (intsAre_of r2)⁻¹ hu ?_;calc nX (WJ (Yt ?_));calc nX (q14 (B9 ?_));split
   .rename_i hq
    calc nX (Zv qS.1 rfl (nX (q14 ?_)));rw[m];refine B9 ⟨Yn (pK mx) _,put ↑a (W_ _) rfl λj H=>?_⟩
    by_cases e:j=↑a
    .subst e;exact En _ _
    .exact O8 hq (f j ⋯)
   .rename_i hq
    calc nX (q14 ?_);rw[m];refine B9 ⟨Yn (pK mx) _,ih _ Q _ _ c s Ep J3 K N T (.inr ⟨b,y,vb,t,by rw[qG];symm,hy,ry,by rw[KH M];calc ht,rfl,λj H=>?_⟩)⟩
    by_cases e:j=↑a
    .subst e;exact O9 hq
    .calc f j (by rw[qG,WH] at H;symm)
theorem Pj(mx:Bool){Q:bt}(o:Nat->LK)(J:Inv X pins σ H s)(O:X.A.handled=η)(R:X.A.units+1<cLine)(K:P [] H)
  (L:∀kvs H',P kvs H'->H' l=ζ (.lst xs)) (S:∀kvs H',P kvs H'->∀i,i<↑kvs->∃t,kvs[i]?=ζ (.ref t)/\H' t=ζ (.tup ((o i).map V.int)))
  (g:∀(a:a6)(x:V)(u:ν)(kvs:-V)(H':Hp)(s':ο),xs[↑kvs]?=ζ x->RelV x u->Inv X a σ H' s'->P kvs H'->ρ (ς X.prog X.w) X.A.in1 (call (.ref q) [u]) (EP X a σ λk B=>P (kvs++[k]) B) (λ_ _=>False) s')
  (C:∀kvs H' s',↑kvs=↑xs->P kvs H'->Inv X pins σ H' s'->(xs=[]->Q d s')/\∀(b:Nat)(x:V)(u:ν),xs[b]?=ζ x->RelV x u->(∀j,j<↑xs->mJ mx (o b) (o j))->Q u s') :
  ρ (ς X.prog X.w) X.A (call (.builtin (kc mx)) [.ref l] [(Xy "key",.ref q),(Xy "default",d)]) Q E s:=by
 let f:(toString (kc mx)++toString ".loop" : String)=pJ mx:=by cases mx<;>decide
 let⟨T,Y,M,_⟩:=J.list (bS.of (L _ _ K));let D:=PlainL.lt M;calc kmk_tree (O6 mx) (O7 mx) (O5 mx) (Pa _ _ _ _) ?_;calc nX (q1W (show Builtin.Builtins.bindParams (kc mx) ["key", "default"] 0 ⟨[],[(Xy "key",.ref q),(Xy "default",d)]⟩=pure [ζ (.ref q),ζ d] from rfl) ?_);calc nX (B9 ?_);calc nX (Ys (q2l M) ?_);calc nX (Z8 ?_ (VX _));rw[f];calc B9 ⟨Yn (pK mx) _,?_⟩;let r:Inv X pins σ H {s with heap:=s.heap.push {cls:=.type "list_iterator",data:=.fields #[.ref l,.int 0 0]}}:=J.kept (h':=s.heap.push {cls:=.type "list_iterator",data:=.fields #[.ref l,.int 0 0]}) (t':=s.toks) λb u e=>B7 _ e
 let v:(s.heap.push {cls:=.type "list_iterator",data:=.fields #[.ref l,.int 0 0]}).get? ⇑s=ζ {cls:=.type "list_iterator",data:=.fields #[.ref l,.int 0 0]}:=UB _ rfl;let y:(s.heap.push {cls:=.type "list_iterator",data:=.fields #[.ref l,.int 0 0]}).objs.size≠⇑s:=λz=>X8 _ (Nat.lt_of_lt_of_eq (Vy v) z);let F:∀c,c ⇑s=η->cz X pins c ⇑s:=λc e=>J.i7 (B8 _) e;let h:H ⇑s=η:=J.bg.fresh (B8 _);let m:l≠⇑s:=VE D;generalize ⇑s=I at v y F h m;generalize s.heap.push {cls:=.type "list_iterator",data:=.fields #[.ref l,.int 0 0]}=n at r v y
 let N:∀c,c n.objs.size=η->cz X pins c n.objs.size:=λc e=>r.i7 (B8 _) e;let G:H n.objs.size=η:=r.bg.fresh (B8 _);let U:Inv X pins σ H {s with heap:=n.push (seqObj "list" #[] 0)}:=r.kept (h':=n.push (seqObj "list" #[] 0)) (t':=s.toks) λb u e=>B7 _ e;let W:=(U.kI (F H h) (B7 _ v) (λz e=>by cases e)).kI ((N H G).cons (p:=(I,_)) y.symm) (UB _ rfl) x8;calc Pc mx o O R m y F N L S g C ↑xs [] H _ #[] 0 _ (by simp) W K rfl rfl (.inl ⟨rfl,rfl⟩)
end
variable[a9]
def mK(mx:Bool)(cp:-(Option Nat))(b:WE)(c:aH)(ds:-D)(K:D->Prop):Prop :=
 ∃a:D->LK,NS cp b c ds a/\(ds=[]->K .non)/\∀d∈ds,(∀e∈ds,mJ mx (a d) (a e))->K d
def mL(mx:Bool)(cp:-(Option Nat))(b:WE)(x:DV)(c:aH)(K:D->Prop):Prop:=∃a,x=.p (.lst a)/\mK mx cp b c a K
theorem Pk{mx:Bool}{cp:-(Option Nat)}{a:WE}{x:DV}{b:aH}{K:D->Prop}(h:mL mx cp a x b K):∃ds,x=.p (.lst ds)/\mK mx cp a b ds K:=h
def yG(mx:Bool)(f:WE)(cp:-(Option Nat))(b:WE):WE:=λc K=>f c λx a=>mL mx cp b x a λd=>K (.p d) a
noncomputable def uJ(mx:Bool):R:=Xy (kc mx)
section
variable{X:Cx}{params:Arguments}{body:J}{scope:o}{h9:I}{x:R}{Nb:-R}{cp:-(Option Nat)}{fb:WE}{T:U}
theorem Pl{mx:Bool}{M:a6}{σ:St}{H:Hp}{s:ο}{E:bt}{l:ξ}{F:Hp}{m:-ξ}{p:aH}{ds:-D}{xs:-V}{N O pos j p2}{Q:VK}(L:lF X params body scope h9 T x Nb cp fb)(hu:X.A.units+64<cLine)
  (I:Inv X M σ H s) (S:SR F m p σ H) (hl:F l=ζ (.lst xs)) (hx:ax F ds xs)
  (hs:mK mx cp fb p ds λd=>∀v F' H',Ext F m p.mu H F' m p.mu H'->SR F' m p σ H'->Is F' d v->Q v H') :
  ρ (ς X.prog X.w) X.A (evalAll ((backToKw pos (keywordEach [⟨ζ "key",.Lambda params body scope h9,N⟩,⟨ζ "default",.Constant .none j p2,O⟩] X.env)).map (·.2))) (λkvs s₂=>ρ (ς X.prog X.w) X.A (call (.builtin (kc mx)) [.ref l] (((backToKw pos (keywordEach [⟨ζ "key",.Lambda params body scope h9,N⟩,⟨ζ "default",.Constant .none j p2,O⟩] X.env)).filterMap (·.1)).zip kvs)) (EP X M σ Q) E s₂) E s:=by
 let⟨key,hk,K0,K⟩:=hs;let⟨k,U,J⟩:=L.room;let⟨cc,W,hC⟩:=L.env.code;show ρ _ _ (evalAll [do let v <- eval (.Lambda params body scope h9) X.env;standAt pos;pure v,do let v <- eval (.Constant .none j p2) X.env;standAt pos;pure v]) _ _ _;calc evalAll_cons (nX ?_);let Y:=L.names;unfold uy at Y;erw[Xn,Yf,VZ] at Y;let SC:=x5Y L.kind Y.1.1.1;let⟨cl,yH,Pm,Pn⟩:=Ca (scope:=scope) (env:=X.env) λy hy e=>I.ok.has y.1 (SC.free y hy e);refine NJ I (L.tbl.get H S.tab) L.NU yH W (hC.keeps I.bk) L.env.ng (I.mod.glob.keeps I.bk) (L.env.blt.keeps I.bk) λf H1 s1 c I1 t1 k1 UY hf hc=>?_
 calc nX (Zr (B9 ?_));calc evalAll_cons (nX (B9 ?_));calc nX (Zr (B9 ?_));calc evalAll_nil ?_;show ρ _ _ (call (.builtin (kc mx)) [.ref l] [(Xy "key",.ref f),(Xy "default",.none)]) _ _ _;let kT:∀b o,H b=ζ o->b∉a9.ad->H1 b=ζ o:=λb o e t=>k1 b o e λz=>t (by rw[z];calc L.tbl.mem);let Es:=L.tbl.put H H1 S.tab t1 k1;let S1:=S.x_ kT Es;let E1:=Ext.x_ S kT Es;let lx:=↑hx;let r1:bz (k+2) X.A.in1:=bz.in1 (k:=k+2) U;let gd:∀{i:Nat}{d:D},ds[i]?=ζ d->ds.getD i .non=d:=λ{i d} e=>by rw[KG,e];rfl
 refine Pj mx (l:=l) (xs:=xs) (d:=.none) (λi=>key (ds.getD i .non)) (P:=λa g=>∃n,Ext F m p.mu H n m p.mu g/\SR n m p σ g/\g f=ζ (jP f "<lambda>" (X.env.qual++"<lambda>") params body scope cl ((X.mg "__name__").getD .none) (.ref c))/\g c=ζ (l6 c (X.env.qual++"<lambda>"))/\↑a<=↑ds/\∀(i:Nat)(d:D)(kv:V),ds[i]?=ζ d->a[i]?=ζ kv->Is n (.tup ((key d).map D.int)) kv)
  I1 r1.hd ⋯ ⟨_,E1,S1,hf,hc,VX _,λi d kv _ e=>by simp at e⟩ (λa g ⟨n,q,h,_⟩↦h.sub _ _ (q.same _ _ hl)) (λa g ⟨n,q,h,B,C,hle,G⟩ i r=>?_) (λnA v u a g s' hv rv I' ⟨n,q,h,B,C,hle,G⟩=>?_) λa g s' uz ⟨n,q,h,B,C,hle,G⟩ I'=>⟨λh0=>?_,λb y u hy ry best=>?_⟩
 .let R:=tG (show i<↑ds by symm)
  let is:=G i _ _ R (tG r);erw[Is] at is;let⟨t,us,e1,Z,e3⟩:=is;calc⟨t,by rw[tG r,e1],?_⟩;rw[gd R,<-lB e3];exact h.sub _ _ Z
 .let r:↑a<↑ds:=by rw[<-lx];exact(pa.mp hv).1
  let R:=tG r;let Po:Is n ds[↑a] v:=ax.at (hx.same q.same) R hv;let⟨UZ,Pp⟩:=hk _ (Yh r);calc NK I' B C (by rw[show X.A.in1.frames=X.A.frames from rfl];calc I'.ok.frames) r1.hd (bz.depth (r1.mono (by symm:k+1<=k+2))) L.kind L.names L.co L.gen Pm Pn (λct=>L.bind cl _ _ ct u) rv (J ⟨X.A.in1,cl,f,.ref c,s',g⟩ ((r1.mono (by symm:k+1<=k+2)).deeper _)) ?_;calc⟨n,m,_,_,(h.rm (cp:=cp)).rS Po,Pp,?_⟩;ext y δ' ⟨ey,em⟩ w F2 Et H2 E2 S2 V2;subst ey
  let ea:Et=m:=by
   let l2:↑Et=↑m:=by rw[S2.di,em,h.di]
   refine Zc λi=>?_
   by_cases r:i<↑m
   .rw[tG r];exact E2.pre i _ (tG r)
   .rw[YA ⋯,YA ⋯]
  subst ea;let⟨U0,gi⟩:=δ';let em:gi=p.mu:=em;subst em;refine⟨F2,q.trans E2,SR.back h E2 S2,E2.nz h B (λ_ z=>by cases z) (λ_ z=>by cases z) (λ_ z=>by cases z) (λ_ z=>by cases z),E2.nz h C (λ_ z=>by cases z) (λ_ z=>by cases z) (λ_ z=>by cases z) (λ_ z=>by cases z),by rw[qG,WH];calc r,λi d kv e1 Z=>?_⟩
  by_cases Pq:i<↑a
  .rw[KH Pq] at Z
   exact Is.same E2.same (G i d kv e1 Z)
  .let:i=↑a:=by
    let:=(pa.mp Z).1;rw[qG,WH] at this;symm
   subst this;rw[My (B8 _),Xg] at Z;cases(show ζ w=ζ kv from Z)
   rw[R] at e1;cases e1;exact V2
 .let Pr:ds=[]:=XQ.mp (by rw[<-lx,h0];rfl)
  exact⟨.non,g,I',rfl,K0 Pr _ n g q h (by erw[Is])⟩
 .let hb:b<↑ds:=by rw[<-lx];exact(pa.mp hy).1
  let R:=tG hb;calc⟨y,g,I',ry,K ds[b] (Yh hb) (λe he=>?_) _ n g q h (ax.at (hx.same q.same) R hy)⟩;let⟨j,hj,rfl⟩:=Xq.mp he;let:=best j ⋯;rw[gd R,gd (tG hj)] at this;calc this
variable{e:J}{f:WE}{p1 q1 nR sb:I}
theorem Pt{j Z}(mx:Bool)(L:lF X params body scope h9 T x Nb cp fb)(hu:X.A.units+64<cLine)(y:Gl X (uJ mx))(hs:X.mg (uJ mx)=η)(z:bootBuiltins (uJ mx)=ζ (.builtin (kc mx)))(ha:JA X [e] (cX (aq f ae)))
  (he:‹starEach [e] X.env=[(ι,eval e X.env)]›):JE X (.Call (.Name (uJ mx) p1) [e] [⟨ζ "key",.Lambda params body scope h9,nR⟩,⟨ζ "default",.Constant .none j Z,sb⟩] q1) (tD (yG mx f cp fb)) :=
 ⟨λi s U H Q I ⟨F,W,Y,K,S,q,k⟩=>by
  calc YM (m8 I y hs z ?_ (hn:=by cases mx<;>decide) (hd:=by cases mx<;>decide));calc callWith_kw ?_ (he:=by rw[he];rfl) (hplain:=by rw[he];rfl);refine bF (ha q1 i s U H (λB o=>∃(l:ξ)(g:Hp)(c:-ξ)(b:aH)(h:-D)(m:-V),B=[.ref l]/\g l=ζ (.lst m)/\ax g h m/\Ext F W Y.mu H g c b.mu o/\SR g c b U o/\mK mx cp fb b h λd=>K (.p d) b) I ?_) λm s1 C=>?_
  .refine⟨F,W,Y,λn b=>match n with
    |[x]=>mL mx cp fb x b λd=>K (.p d) b
    |_=>False,S,q,λn b E B g c o t G V1=>?_⟩
   cases n with
   |nil=>exact E.elim
   |cons x n =>
    cases n with
    |cons _ _=>exact E.elim
    |nil =>
     let⟨v,r,rfl,w,J⟩:=V1;let J:r=[]:=J;subst J;let⟨h,rfl,h2⟩:=Pk E;let w:Is g (.lst h) v:=w;erw[Is] at w;let⟨a,m,rfl,g1,g2⟩:=w;exact⟨a,g,c,b,h,m,rfl,g1,g2,t,G,h2⟩
  .let⟨B,o,I1,r1,l,g,c,b,h,ws,ev,hl,hi,t,G,M⟩:=C
   subst ev;let⟨u,rfl,rx⟩:=vals1 r1;cases rx
   calc Pl L hu I1 G hl hi ?_;let⟨N,hk,K0,hK⟩:=M
   calc⟨N,hk,λh0 v F' H' O P R=>k _ _ (K0 h0) _ _ _ _ (t.trans O) P R,λd hd hb v F' H' O P R=>k _ _ (hK d hd hb) _ _ _ _ (t.trans O) P R⟩⟩
end
end L2
namespace LJ
open PySem L2
variable[a9]
noncomputable def oF:D->D
 |.tup [.int i,_]=>.int i
 |_=>.non
noncomputable def oG(p:Int->Bool):D->Bool
 |.tup [.int i,_]=>p i
 |_=>ι
theorem uK(p:Int->Bool):∀(ds:-D)(i:Nat),((iS i ds).filter (oG p)).map oF=((q0Y i ↑ds).filter λk:Nat=>p k).map λk:Nat=>D.int k
 |[],_=>Y
 |d::r,i=>by
  let a:=uK p r (i+1);show(((D.tup [.int i,d])::iS (i+1) r).filter _).map _=_;rw[wq,q3d,XA,XA];show(if p i=θ then _ else _:-D).map _=_
  cases q:p i with
  |true=>erw[Xj,Uz,a];rfl
  |false=>erw[VP,W7,a]
noncomputable def gs(l:-Int)(y:Wy):Bool:=S (y.1∈l) != S (y.2.1∈l)
noncomputable def dJ(ws:-Wy)(l:-Int):-Int:=(bK ↑ws).filter λn=>gs l (aO ws n)
inductive yI (ys:-DV) (aK:-OV) (K:RV->-OV->Prop):Prop
 |mk (y:Wy) (l:-Int) (_:ys=[.p (bJ y),.p (a_ l)]) (_:aK=[]) (_:K (.p (.bl (gs l y))) [])
def yJ:WS:=(aZ (d2 (d2 (d2 (aa 0) (dC (.int 0)) bc) (aa 1) (dn ι)) (d2 (d2 (aa 0) (dC (.int 1)) bc) (aa 1) (dn ι)) fF))
theorem Pu:Sem 2 0 yI yJ:=by
 ext b a c-⟨y,l,rfl,rfl,k⟩;unfold yJ;simp![bJ,a_,dw,eB];let d:=hU l;calc⟨⋯,⋯,?_⟩;rw[jj,jj];unfold gs at k;generalize S (y.1∈l)=p at k;generalize S (y.2.1∈l)=q at k;cases p<;>cases q<;>calc cK k
inductive uL (ys:-DV) (aK:-OV) (K:RV->-OV->Prop):Prop
 |mk (m:Int) (ws:-Wy) (l:-Int) (_:aI m ws) (_:ys=[.p (a7 m ws),.p (a_ l)]) (_:aK=[]) (_:K (.p (a_ (dJ ws l))) [])
def yK:WS:=(aZ (cx (bW (aq (d2 (aa 0) (dC (.int 1)) bc) ae)) [η,η,ζ 1] (dz 2 (cj (bo 0) (cj (bo 1) dt))) (dT (aA 2 yI (aq (aa 1) (aq (aa 2) ae)))) (aa 0)))
theorem Pw:Sem 2 0 uL yK:=by
 ext v h w-⟨m,a,l,W,rfl,rfl,k⟩;let j:=W.jE;unfold yK;simp![a7,eB];refine j8 (oG λi=>gs l (aO a i)) oF (by rw[l0,nW];symm) trivial ?_ ?_
 .ext d n o x p b c
  let⟨z,r⟩:=VJ.mp n;let⟨e,f,g⟩:=l3 r;rw[B_] at f;let⟨y,s,rfl⟩:=KI.mp f;rw[VI] at g;subst g;let t:aO a (z:Int)=y:=by unfold aO;rw[V7,KG,s];rfl
  erw[oG,oF] at b c;rw[t] at b c;simp!;calc⟨y,l,Y,Y,?_⟩;simp!
  cases q:gs l y with
  |true=>simp!;exact⟨p,b q⟩
  |false=>simp!;exact c q
 .let e:=uK (λi=>gs l (aO a i)) (a.map bJ) 0
  let u:(dJ a l).map D.int=((q0Y 0 ↑(a.map bJ)).filter λk:Nat=>gs l (aO a k)).map λk:Nat=>D.int k:=by
   unfold dJ bK;rw[Yd,VU,nW,<-Zh];rfl
  rw[<-u] at e;rw[e];calc cK k
inductive uM (ys:-DV) (aK:-OV) (K:RV->-OV->Prop):Prop
 |mk (m:Int) (ws:-Wy) (ns:-Int) (_:aI m ws) (_:Nums ws ns) (_:ys=[.p (a7 m ws),.p (a_ ns)]) (_:aK=[]) (_:(ns=[]->K (.p .non) [])) (_:∀n∈ns,(∀e∈ns,kle (fu ws n) (fu ws e))->K (.p (.int n)) [])
def yL:WS:=(aZ (yG ι (aa 1) [ζ 0] (aA 1 yh (aq (d2 (d2 (aa 1) (dC (.int 1)) bc) (aa 0) bc) ae))))
theorem Px:Sem 2 0 uM yL:=by
 ext t c u-⟨m,f,g,W,i,rfl,rfl,j,k⟩;unfold yL;simp![yG,mL,a7,a_]
 refine⟨g.map D.int,Y,λd=>match d with
  |.int n=>fu f n
  |_=>[],λd b=>?_,λl=>?_,λd b a=>?_⟩
 .let⟨n,h,rfl⟩:=VH.mp b
  let⟨o,p⟩:=i n h;let⟨y,q,v,r,_⟩:=mE W o p;calc⟨(by ext z;cases z),?_⟩;simp![eB,r];calc⟨y,Y,Y,?_⟩;simp!;unfold fu;rw[q];rfl
 .exact cK (j (q2d.mp l))
 .let⟨n,h,rfl⟩:=VH.mp b
  exact cK (k n h λe s=>a _ (VH.mpr ⟨e,s,Y⟩))
open Classical in
noncomputable def k8 (ws:List Wy) (ns:List Int):Int:=if h:∃n,n∈ns/\∀e∈ns,kle (fu ws n) (fu ws e) then q7N h else 0
theorem yM{m:Int}{ws:-Wy}(W:aI m ws){ns:-Int}(hn:Nums ws ns){n:Int}(h:n∈ns)(b:∀e∈ns,kle (fu ws n) (fu ws e)):k8 ws ns=n:=by
 unfold k8;let a:∃n,n∈ns/\∀e∈ns,kle (fu ws n) (fu ws e):=⟨n,h,b⟩;rw[dif_pos a];let⟨c,d⟩:=q1P a;calc N_ W (hn _ c) (hn _ h) (Dw (d n h) (b _ c))
theorem pL{ws:-Wy}{l:-Int}:Nums ws (dJ ws l):=λn h=>uu (Wb.mp h).1
theorem Py{ws:-Wy}{l:-Int}:↑(dJ ws l)<=↑ws:=by
 unfold dJ;let:=WZ (λn=>gs l (aO ws n)) (bK ↑ws);rw[k7] at this;calc this
noncomputable def oH(ws:-Wy)(ls:-(-Int)):-Int:=((ls.map (dJ ws)).filter λo=>S (o≠[])).map (k8 ws)
theorem Pz{ws:-Wy}{ls:-(-Int)}:↑(oH ws ls)<=↑ls:=by
 unfold oH;rw[nW];let:=WZ (λo:-Int=>S (o≠[])) (ls.map (dJ ws));rw[nW] at this;calc this
noncomputable def g9(m:Int)(ws:-Wy)(us:-Int):-Int:=sortI (fc (oH ws (ji m ws us)))
noncomputable def pM(f:-Int->D):D->D
 |.lst a=>match intsOf a with
  |some l=>f l
  |none=>.non
 |_=>.non
noncomputable def sd(f:-Int->Bool):D->Bool
 |.lst a=>match intsOf a with
  |some l=>f l
  |none=>ι
 |_=>ι
theorem uN(f:-Int->D)(l:-Int):pM f (a_ l)=f l:=by
 unfold a_;erw[pM,j7]
theorem yN(f:-Int->Bool)(l:-Int):sd f (a_ l)=f l:=by
 unfold a_;erw[sd,j7]
inductive sf (ys:-DV) (aK:-OV) (K:RV->-OV->Prop):Prop
 |mk (m:Int) (ws:-Wy) (us:-Int) (_:aI m ws) (_:Nums ws us) (_:us.Nodup) (_:↑us<=900) (_:ys=[.p (a7 m ws),.p (a_ us)]) (_:aK=[]) (_:K (.p (a_ (g9 m ws us))) [])
def yO:WS:=(az (aJ 2 (cx (bp (aA 2 D8 (aq (aa 0) (aq (aa 1) ae)))) [η,ζ 0] (bo 0) bI (aA 2 uL (aq (aa 1) (aq (aa 0) ae))))) (aZ (dN (aq (cx (bp (aa 2)) [η,ζ 0] (bo 0) (dT (d2 (dN (aq (aa 0) ae) bC) (dC (.int 0)) (oI λi j=>.bl (S (j<i))))) (aA 2 uM (aq (aa 1) (aq (aa 0) ae)))) ae) gf)))
theorem PA:Sem 2 1 sf yO:=by
 ext G s H-⟨m,ws,a,W,r,t,u,rfl,rfl,k⟩;let v:=W.jE;let⟨w,x⟩:=OX W r;unfold yO;calc bf λN y=>?_;simp!;calc⟨m,ws,a,W,r,t,u,Y,Y,?_⟩;rw[show((eU (ic m ws a) m.toNat).map (·.2))=ji m ws a from Y,show xX (ji m ws a)=.lst ((ji m ws a).map a_) from Y];unfold g9 at k;generalize ji m ws a=ls at k w x;simp!;refine j9 (pM λl=>a_ (dJ ws l)) (by rw[nW];symm) trivial ?_ ?_
 .ext d g i A j h
  let⟨l,_,rfl⟩:=VH.mp g;rw[uN] at h;simp!;calc⟨m,ws,l,W,Y,Y,?_⟩;simp!;exact⟨j,h⟩
 let e:(ls.map a_).map (pM λl=>a_ (dJ ws l))=(ls.map (dJ ws)).map a_:=by
  rw[VU,VU];exact W6 λl _=>uN _ l
 rw[e];subst y;simp!;refine L2.j8 (sd λo=>S (o≠[])) (pM λo=>.int (k8 ws o)) (by rw[nW,nW];symm) trivial ?_ ?_
 .ext d g i A j f p
  let⟨o,B,rfl⟩:=VH.mp g;let⟨l,_,rfl⟩:=VH.mp B;rw[uN,yN] at f;rw[yN] at p;let q:=pL (ws:=ws) (l:=l);generalize dJ ws l=o at f p q;rw[show a_ o=.lst (o.map D.int) from Y];simp!
  by_cases c:o=[]
  .subst c
   rw[show S ((0:Int)<(↑([]:-Int):Nat))=ι from Y];simp!;exact p Y
  .let C:S ((0:Int)<(↑o:Nat))=θ:=VG (by let:=q0m.mpr c;symm)
   rw[C];simp!;calc⟨m,ws,o,W,q,Y,Y,(λz=>absurd z c),λn E b=>?_⟩;rw[yM W q E b] at f;simp!;exact⟨j,f (VG c)⟩
 .let F:(((ls.map (dJ ws)).map a_).filter (sd λo=>S (o≠[]))).map (pM λo=>.int (k8 ws o))=(oH ws ls).map D.int:=by
   unfold oH;rw[Yd,VU,VU];rw[show(sd λo=>S (o≠[]))∘a_=λo=>S (o≠[]) from funext λo=>yN _ o];exact W6 λo _=>uN _ o
  let I:=Pz (ws:=ws) (ls:=ls);rw[F];simp![j7];calc⟨⋯,cK k⟩
theorem uO(ns:-Int):∀i,i<=↑ns->(LJS.hX ns i).Nodup/\∀x,x∈LJS.hX ns i↔x∈ns.take i
 |0,_=>⟨YK,λx=>by simp[LJS.hX]⟩
 |i+1,h=>by
  let⟨n,m⟩:=uO ns i ⋯
  let e:ns.take (i+1)=ns.take i++[ns.getD i 0]:=by
   rw[Y3,KG,tG (show i<↑ns by symm)];rfl
  rw[e];unfold LJS.hX LJS.once;split
  .rename_i c
   calc⟨n,λx=>?_⟩;rw[m x,VY,Wm];calc⟨.inl,λz=>z.elim id λz=>?_⟩;subst z;exact(m _).mp c
  .rename_i c
   refine⟨Xr.mpr ⟨n,by simp,λa d b f z=>?_⟩,λx=>?_⟩
   .subst z;rw[Wm.mp f] at d;exact c d
   .rw[VY,VY,m x]
theorem Eu{ws:-Wy}:∀{ns:-Int},ns≠[]->∃n,n∈ns/\∀e∈ns,kle (fu ws n) (fu ws e)
 |[],h=>absurd Y h
 |[a],_=>⟨a,Ux,λe c=>by rw[Wm.mp c];calc kle_refl _⟩
 |a::b::r,_=>by
  let⟨n,f,d⟩:=Eu (ws:=ws) (ns:=b::r) (by simp)
  cases q:HT.lexLt (fu ws n) (fu ws a) with
  |true=>exact⟨n,Uy _ f,λe c=>(Uw.mp c).elim (λz=>by rw[z];calc oA q) (d e)⟩
  |false=>calc⟨a,Ux,λe c=>(Uw.mp c).elim (λz=>by rw[z];calc kle_refl _) λz=>kle_trans q (d e z)⟩
theorem Ew{ws:-Wy}{ns:-Int}(h:ns≠[]):k8 ws ns∈ns/\∀e∈ns,kle (fu ws (k8 ws ns)) (fu ws e):=by
 let a:=Eu (ws:=ws) h;unfold k8;rw[dif_pos a];calc q1P a
theorem PB{ws:-Wy}{ls:-(-Int)}{n:Int}:n∈oH ws ls↔∃l∈ls,dJ ws l≠[]/\n=k8 ws (dJ ws l):=by
 unfold oH;rw[VH]
 constructor
 .ext ⟨o,c,rfl⟩
  let⟨a,d⟩:=Wb.mp c;let⟨l,b,rfl⟩:=VH.mp a;exact⟨l,b,W9 d,Y⟩
 .ext ⟨l,b,a,rfl⟩
  calc⟨_,Wb.mpr ⟨VH.mpr ⟨l,b,Y⟩,VG a⟩,Y⟩
theorem Ex(ns:-Int)(x:Int):x∈fc ns↔x∈ns:=by
 let:=(uO ns _ (B8 _)).2 x;rw[VW] at this;calc this
theorem gu{m:Int}{ws:-Wy}{us:-Int}{n:Int}:n∈g9 m ws us↔∃l∈ji m ws us,dJ ws l≠[]/\n=k8 ws (dJ ws l):=by
 unfold g9;rw[(sortI_perm _).mem_iff,Ex,PB]
theorem PC{m:Int}{ws:-Wy}{us:-Int}:(g9 m ws us).Nodup:=(sortI_perm _).nodup_iff.mpr (uO _ _ (B8 _)).1
theorem Ey{m:Int}{ws:-Wy}{us:-Int}{n:Int}(h:n∈g9 m ws us):∃l∈ji m ws us,n∈dJ ws l/\∀e∈dJ ws l,kle (fu ws n) (fu ws e):=by
 let⟨l,a,b,rfl⟩:=gu.mp h;calc⟨l,a,Ew b⟩
theorem PD{m:Int}{ws:-Wy}{us:-Int}:Nums ws (g9 m ws us):=λn h=>by
 let⟨l,_,a,_⟩:=Ey h;calc pL n a
theorem PE{m:Int}{ws:-Wy}(W:aI m ws){us:-Int}(b:Nums ws us){l:-Int}(d:l∈ji m ws us){n:Int}(h:n∈dJ ws l):¬ bA (eV ws us) (aO ws n).1 (aO ws n).2.1:=λc=>by
 let⟨g,_,rfl⟩:=((r_ W b).1.mem l).mp d;let⟨e,a⟩:=Wb.mp h;let⟨f,j⟩:=uu e;let⟨i,k,_,o,r,s,t⟩:=uH W f j;unfold gs at a
 by_cases p:(aO ws n).1∈cls m.toNat (eV ws us) g
 .let q:(aO ws n).2.1∈cls m.toNat (eV ws us) g:=cb.mpr ⟨⋯,(cb.mp p).2.trans c⟩
  rw[VG p,VG q] at a;cases a
 .let q:¬ (aO ws n).2.1∈cls m.toNat (eV ws us) g:=λz=>p (cb.mpr ⟨⋯,(cb.mp z).2.trans c.symm⟩)
  rw[VC p,VC q] at a;cases a
theorem PF{m:Int}{ws:-Wy}(W:aI m ws){us:-Int}(a:Nums ws us){n:Int}(h:n∈g9 m ws us):n∉us:=λz=>by
 let⟨l,b,c,_⟩:=Ey h;calc PE W a b c (.one ⟨n,z,Y⟩)
theorem yP{m:Int}{ws:-Wy}(W:aI m ws){us:-Int}(c:Nums ws us)(d:us.Nodup):Nums ws (us++g9 m ws us)/\(us++g9 m ws us).Nodup :=
 ⟨λn h=>(VY.mp h).elim (c n) (PD n),Xr.mpr ⟨d,PC,λa e b f z=>PF W c (by rw[z];calc f) e⟩⟩
theorem uP{ws:-Wy}{us:-Int}(a:Nums ws us)(b:us.Nodup):↑us<=↑ws:=by
 let h:us.Subset (bK ↑ws):=λn h=>by
  let:=a n h;exact bL.mpr this
 let:=List.Nodup.length_le_of_subset b h;rw[k7] at this;calc this
theorem PG{δ0:aH}{t:WT}{b:WS}{K:KS}{n:Nat}{d:aH}(h:∀A B:aH->Prop,A=b {nx:=λa=>mG δ0 t b K n (δ0.trim a),ct:=λa=>mG δ0 t b K n (δ0.trim a),bk:=K.nx,rt:=K.rt}->B=K.nx->t d λe c=>if e=θ then A c else B c):mG δ0 t b K (n+1) d:=h _ _ Y Y
noncomputable def nB(m:Int)(ws:-Wy):Nat->-Int->-(-Int)
 |0,_=>[]
 |n+1,b=>match g9 m ws b with
  |[]=>[]
  |a::r=>(a::r)::nB m ws n (b++a::r)
noncomputable def pN(m:Int)(ws:-Wy):-(-Int):=nB m ws (↑ws+1) []
inductive yQ (ys:-DV) (aK:-OV) (K:RV->-OV->Prop):Prop
 |mk (m:Int) (ws:-Wy) (_:aI m ws) (_:ys=[.p (a7 m ws)]) (_:aK=[]) (_:K (.n ((pN m ws).map a_)) [])
def yR:WS:=(az (aJ 1 (eI ae)) (az (aJ 2 (bG ae)) (az (aJ 3 (aA 2 sf (aq (aa 0) (aq (aa 2) ae)))) (az (D6 (dT (d2 (dN (aq (aa 3) ae) bC) (dC (.int 0)) (oI λi j=>.bl (S (j<i))))) (az (dr (bU (aa 1) (aq (aa 3) ae))) (az (aJ 2 (d2 (aa 2) (aa 3) bX)) (aJ 3 (aA 2 sf (aq (aa 0) (aq (aa 2) ae))))))) (aZ (aa 1))))))
theorem PH:Sem 1 3 yQ yR:=by
 ext O F u-⟨m,b,W,rfl,rfl,k⟩;let G:=W.jE;unfold yR;calc bf λN f=>?_;simp!;subst f;calc bf λN f=>?_;simp!;subst f;calc bf λN f=>?_;simp!;calc⟨m,b,[],W,(λn h=>nomatch h),YK,VX _,Y,Y,?_⟩;simp!;subst f;refine bf λN f=>?_
 let v:∀x y,N ⟨[ζ (.p (a7 m b)),ζ (.o 0),ζ (.p x),ζ (.p y)],[ζ (.lst ((pN m b).map a_))]⟩:=λx y=>by
  subst f;simp!;exact⟨[],Y,Y,.inl k⟩
 refine⟨↑b+1,?_⟩
 let H:∀(n:Nat)(c:-Int)(d:-(-Int)),Nums b c->c.Nodup->↑b<↑c+n->↑d+n<=↑b+1->d++nB m b n c=pN m b →
   mG ⟨[ζ (.p (a7 m b)),ζ (.o 0),ζ (.p (.lst [])),ζ (.p (a_ (g9 m b [])))],[ζ (.lst [])]⟩ (dT (d2 (dN (aq (aa 3) ae) bC) (dC (D.int 0)) (oI λi j=>D.bl (S (j<i)))))
    (az (dr (bU (aa 1) (aq (aa 3) ae))) (az (aJ 2 (d2 (aa 2) (aa 3) bX)) (aJ 3 (aA 2 sf (aq (aa 0) (aq (aa 2) ae))))))
    {nx:=N,rt:=(eu ↑([]:-OV) u).rt,bk:=(eu ↑([]:-OV) u).bk,ct:=(eu ↑([]:-OV) u).ct} n
    ⟨[ζ (.p (a7 m b)),ζ (.o 0),ζ (.p (.lst (c.map D.int))),ζ (.p (a_ (g9 m b c)))],[ζ (.lst (d.map a_))]⟩:=by
  ext n
  induction n with
  |zero =>
   ext c d w z h _ _;let:=uP w z;symm
  |succ n I =>
   ext c d w z h P e;let⟨l,s⟩:=yP W w z;let C:=uP l s;calc PG λA B J K=>?_;unfold nB at e;rw[show a_ (g9 m b c)=.lst ((g9 m b c).map D.int) from Y];simp!
   cases q:g9 m b c with
   |nil =>
    rw[q] at e;rw[show S ((0:Int)<(↑([]:-Int):Nat))=ι from Y];simp!;rw[show d++[]=d from dV d] at e;rw[e,K];exact v _ _
   |cons a r =>
    rw[q] at e l s C;let E:S ((0:Int)<(↑(a::r):Nat))=θ:=VG (by rw[wq];symm);let L:0<↑(a::r):=by rw[wq];symm
    dsimp only at e;generalize a::r=t at e l s C E L;rw[qG] at C;rw[E];simp!;subst J;calc bf λM g=>?_;simp!;calc⟨⋯,?_⟩;subst g;calc bf λM g=>?_;simp!;calc⟨⋯,?_⟩;subst g;rw[<-VQ];simp!;calc⟨m,b,c++t,W,l,s,by rw[qG];symm,Y,Y,?_⟩;simp!;let:=I (c++t) (d++[t]) l s (by rw[qG];symm) (by rw[qG,WH];symm) (by rw[X0];calc e);rw[show(d++[t]).map a_=d.map a_++[a_ t] from VQ] at this;exact this
 let:=H (↑b+1) [] [] (λn h=>nomatch h) YK (by simp) (by simp) Y;calc this
end LJ
namespace L2
open PySem PySem.Spec PyProof.Rows PySem.W
theorem Ez(a:Nat->Int):∀k,argBest (λi j=>S (a i<a j)) k<=k/\∀j,j<=k->a (argBest (λi j=>S (a i<a j)) k)<=a j
 |0=>⟨B8 _,λj b=>by
  let e:j=0:=by symm
  subst e
  calc q15 _⟩
 |k+1=>by
  let⟨f,d⟩:=Ez a k;show(if S (a (k+1)<a (argBest _ k))=θ then k+1 else argBest _ k)<=k+1/\∀j,j<=k+1->a (if S (a (k+1)<a (argBest _ k))=θ then k+1 else argBest _ k)<=a j
  by_cases c:a (k+1)<a (argBest (λi j=>S (a i<a j)) k)
  .rw[VD (VG c)]
   refine⟨B8 _,λj b=>?_⟩
   by_cases e:j=k+1
   .subst e;exact q15 _
   .let:=d j ⋯;symm
  .rw[VB (by rw[VC c];decide)]
   refine⟨⋯,λj b=>?_⟩
   by_cases e:j=k+1
   .subst e;symm
   .calc d j ⋯
section
variable{X:Cx}
theorem PJ(D:X.calm=θ):g6 X (.builtin "min") (λxs H Q=>∃(l:ξ)(ns:-Int),xs=[.ref l]/\bS X.K H l (ns.map V.int)/\ns≠[]/\∀x∈ns,(∀y∈ns,x<=y)->Q (.int x) H):=by
 ext m s Y H W Z Q I r h;let⟨l,a,rfl,E,F,q⟩:=h;let⟨u,rfl,G⟩:=vals1 r;cases G
 let⟨d,n,J,_⟩:=I.list E;let g:=↑n;rw[nW] at g;let k:=J.isList;let p:l<⇑s:=by let⟨o,e,_⟩:=k;exact Vy e
 let L:l≠⇑s:=VE p;let M:0<↑a:=q0m.mpr F;let w:d.toArray.size=↑a:=by rw[KD];exact g.symm
 let f:∀(i:Nat)(v:ν),d.toArray[i]?=ζ v->∃t,v=Xl (a.getD i 0) t:=λi v c=>by
  rw[YC] at c;let A:i<↑a:=by rw[g];exact(pa.mp c).1
  let⟨u,B,t,N⟩:=n.get (x:=V.int (a.getD i 0)) (i:=i) (by rw[B_,tG A,KG,tG A];rfl);rw[c] at B;cases B
  exact⟨t,N⟩
 calc call_min_walk (Ys k ?_);refine⟨⇑s,_,_,_,_,_,λi j=>μ (a.getD i 0<a.getD j 0),rfl,ZA (by rw[ZD];calc I.ok.hd D) ⇑s l L _,⟨⟨_,UB _ rfl,rfl,rfl⟩,k.push _⟩,λb C=>?_,by rw[w];calc M,CmpOf.ints_lt (λi=>a.getD i 0) f,λv h' O c P=>?_⟩
 .erw[Uw,Ww,YB] at C
  rw[XF];rcases C with e|e
  .rw[e];exact W_ _
  .rw[e];exact WQ p
 .let⟨t,rfl⟩:=f _ v c
  rw[w] at c ⊢;let⟨b1,R⟩:=Ez (λi=>a.getD i 0) (↑a-1);let S:∀{i:Nat},i<↑a->a.getD i 0∈a:=λ{i} h=>by rw[KG,tG h];exact Yh h
  refine⟨.int _,H,I.kept (t':=O) λb o e=>P b o (λz=>?_) (B7 _ e),⟨t,rfl⟩,q _ (S ⋯) λy T=>?_⟩
  .let:=Vy e
   rw[Wm.mp z] at this;exact X8 _ this
  .let⟨j,U,rfl⟩:=Xq.mp T
   let:=R j ⋯;rw[show a.getD j 0=a[j] by rw[KG,tG U];rfl] at this;calc this
end
def pO:-D->(D->Prop)->Prop
 |[.lst b],K=>match intsOf b with
  |some a=>a≠[]/\∀x∈a,(∀y∈a,x<=y)->K (.int x)
  |none=>False
 |_,_=>False
variable[a9]{X:Cx}
theorem EA(f:X.calm=θ):eH X (.builtin "min") pO:=by
 ext b s g H o h Q I r ⟨F,p,K,i,j,q,k⟩;unfold pO at q;split at q
 .rename_i t
  split at q
  .rename_i l e
   let⟨v,rfl,a,u,rfl,c,d⟩:=iC j;rw[nr e] at d;rw[lB d] at c;exact PJ f b s g H _ h Q I r ⟨a,l,Y,bS.of c,q.1,λx m n=>k _ _ _ (q.2 x m n) (λ_ _ e=>e) Y⟩
  .exact q.elim
 .calc q.elim
end L2
namespace LJ
open PySem L2
variable[a9]
end LJ
namespace L2
open PySem PySem.Spec PyProof.Rows PySem.W
section
variable{X:Cx}{pins:a6}{σ:St}{H:Hp}{s:L}{E:bt}{l I S:U}{ts:-U}{d:M}{R:Result->L->Prop}
end
variable[a9]
section
variable{X:Cx}{e:J}{f:WE}{p1 q1 sb:I}
end
end L2
namespace LJ
open PySem L2
variable[a9]
end LJ
namespace LJ
open PySem L2
noncomputable def lH(ws:-Wy)(us:-Int):-Int:=us.map (λn=>(aO ws n).1)++us.map λn=>(aO ws n).2.1
section
variable{ws:-Wy}{us ns vs:-Int}{a b c x n:Int}
end
end LJ
namespace L2
open PySem PySem.Spec PyProof.Rows
variable[a9]
section
variable{X:Cx}{fa:WA}
end
end L2
namespace LJ
open PySem L2
variable[a9]
inductive uQ (ys:-DV) (aK:-OV) (K:RV->-OV->Prop):Prop
 |mk (m:Int) (ws:-Wy) (us:-Int) (_:aI m ws) (_:Nums ws us) (_:↑us<=400) (_:ys=[.p (a7 m ws),.p (a_ us)]) (_:aK=[]) (_:K (.p (a_ (lH ws us))) [])
def yS:WS:=(aZ (d2 (cx (bp (aa 1)) [η,ζ 0] (bo 0) bI (d2 (d2 (d2 (aa 1) (dC (.int 1)) bc) (aa 0) bc) (dC (.int 0)) bc)) (cx (bp (aa 1)) [η,ζ 0] (bo 0) bI (d2 (d2 (d2 (aa 1) (dC (.int 1)) bc) (aa 0) bc) (dC (.int 1)) bc)) bX))
theorem EB{ws:-Wy}{n:Int}(h:0<=n/\n<(↑ws:Int)):eW (ws.map bJ) n=ζ (bJ (aO ws n)):=by
 let⟨i,rfl⟩:∃i:Nat,n=i:=⟨n.toNat,⋯⟩;let a:i<↑ws:=by symm
 calc iP ?_;rw[B_,tG a];unfold aO;rw[V7,KG,tG a];rfl
theorem PK:Sem 2 0 uQ yS:=by
 ext o l p-⟨m,a,b,W,j,q,rfl,rfl,k⟩;unfold yS;rw[show a_ b=.lst (b.map D.int) from Y];simp!
 refine L2.j9 (λd=>match d with
  |.int n=>.int (aO a n).1
  |_=>.non) (by rw[nW];symm) trivial ?_ ?_
 .ext d c f L g h
  let⟨n,i,rfl⟩:=VH.mp c;simp![a7,eB,EB (j n i),bJ,dw];exact⟨g,h⟩
 refine L2.j9 (λd=>match d with
  |.int n=>.int (aO a n).2.1
  |_=>.non) (by rw[nW];symm) trivial ?_ ?_
 .ext d c f L g h
  let⟨n,i,rfl⟩:=VH.mp c;simp![a7,eB,EB (j n i),bJ];exact⟨g,h⟩
 simp!;refine⟨⋯,?_⟩
 let e:(b.map D.int).map (λd=>match d with
  |.int n=>D.int (aO a n).1
  |_=>.non)++(b.map D.int).map (λd=>match d with
  |.int n=>D.int (aO a n).2.1
  |_=>.non)=(lH a b).map D.int:=by
  unfold lH;rw[VU,VU,VQ,VU,VU];rfl
 rw[e];calc cK k
section
variable{m:Int}{ws:-Wy}{us:-Int}
end
end LJ
namespace LJS
open PySem PySem.SetTable PyProof.Rows
theorem EC(ns:-Int){i:Nat}:∀{n:Nat},i<=n->↑(hX ns i)<=↑(hX ns n)
 |0,h=>by
  obtain rfl:i=0:=by symm
  exact B8 _
 |n+1,h=>by
  by_cases c:i=n+1
  .subst c;exact B8 _
  .let:=EC ns (i:=i) (n:=n) ⋯
   show _<=↑(once (hX ns n) (ns.getD n 0));unfold once;split
   .exact this
   .rw[qG];symm
section
variable{prog:X}{w:l}{A:t}{R:Result->L->Prop}{I S:U}{fp wr:-U}{G:Array GenState->Array GenState->Prop}{n:Nat}{P:Nat->M->Prop}{St:Nat->L->Prop}
theorem ED(W:WalksS prog w A.in1 I fp wr G n P St)(out:S∉fp){led:Bool}(ns:-Int)(f:∀i v,P i v->∃t,v=.int (ns.getD i 0) t)(E:↑(hX ns n)<60):
  ∀(a i:Nat)(s:ο),i+a=n->St i s->d8 s.heap S led (hX ns i)->(∀s',Moved (S::wr) G s s'->d8 s'.heap S led (hX ns n)->R (.ok (.ret .none)) s') →
   codeAny (ς prog w) A (.builtin "set.update.loop" ⟨[.ref S,.ref I],[]⟩) R s:=by
 let c:S∉wr:=λz=>out (W.sub _ z);let d:∀b,b∈wr->b∈S::wr:=λb g=>Uy _ g;ext a
 induction a with
 |zero =>
  ext i s H m p h;obtain rfl:i=n:=by symm
  calc Xd Yi ?_;rw[Xh Xm _];show ρ _ A.in1 (pyNext (.ref I) >>= _) _ _ s;calc nX (W.done s _ _ m λB j=>?_);show ρ _ A.in1 (ret Wz) _ _ B;exact B9 (h B (j.mono d) (p9 p λo e=>j.heap S o c e))
 |succ a J =>
  ext i s H m p h;let q:i<n:=by symm
  calc Xd Yi ?_;rw[Xh Xm _];show ρ _ A.in1 (pyNext (.ref I) >>= _) _ _ s;calc nX (W.item i s _ _ q m λv l K r j=>?_);let⟨t,rfl⟩:=f i v K;show ρ _ A.in1 (holding [Xl (ns.getD i 0) t] (setAdd S (.int (ns.getD i 0) t)) >>= _) _ _ l;calc nX (WJ ?_);unfold setAdd;calc WJ (nX ((intKind prog w).pyHash (k:=ns.getD i 0) (Zz _ _ _ _) ?_));let C:=EC ns (i:=i) (n:=n) ⋯;calc add_int (s:={l with toks:=l.toks+1}) (p9 p λo e=>j.heap S o c e) ⋯ λb N D u=>?_;let L:∀b,b∈fp->b≠S:=λb g z=>out (by rw[<-z];calc g);refine B9 ⟨Yn Xm _,J (i+1) _ ⋯ (W.frame _ l _ _ r (Y1 _ _) λb g o e=>by rw[D.2 b (L b g)];calc e) u λM x y=>?_⟩
  calc h M (q3i W.gtrans ((j.mono d).then_heap (Y1 _ _) λb o g e=>?_) x) y;rw[D.2 b (λz=>g (by rw[z];calc Ux))];calc e
end
section
variable{prog:X}{w:l}{A:t}{E:bt}{s:L}
set_option maxHeartbeats 3200000 in
theorem PL {l:U} {items:Array M} {Q:bt} (ns:-Int) (hh:A.handled=η) (isL:s.heap.IsList l items\/s.heap.IsTuple l items) (isInt:∀(i:Nat)(v:M),items[i]?=ζ v->∃t,v=.int (ns.getD i 0) t) (sT:↑(hX ns items.size)<60)
  (fin:∀(h':Α)(tk:Nat),d8 h' ⇑s (gI w) (hX ns items.size)->(∀b o,b<⇑s->s.heap.get? b=ζ o->h'.get? b=ζ o)->Q (.ref ⇑s) {s with heap:=h',toks:=tk}) :
  G (B prog w) A (call (.type "set") [.ref l]) Q E s:=by
 let⟨c,tl,p_⟩:=W5.mro;let m1:=W5.made;let m2:=W5.sub;let m3:=W5.notType;let m4:=W5.canCreate;let m5:=q1c (.ref l);calc q0v (q0e ?_);show G _ _ (callAny (.type "set") _) _ _ _;calc B9 ⟨q0w _ (by decide +kernel),Xd q0P ?_⟩;rw[q0x (Z0 "set" [.ref l] []) Y]
 repeat(any_goals (first|assumption|wp_step))
 refine YE (Bd (.ref l) (E:=E) (Q₁:=λr s1=>r=.ref ⇑s/\s1={s with heap:=s.heap.push (cn (gI w))}) ⟨Y,Y⟩) λr s1 hr=>?_
 cases r with
 |error e=>exact hr
 |ok fl =>
  cases fl with
  |ret obj =>
   let⟨rfl,rfl⟩:=hr;generalize vB:gI w=led at fin ⊢;let gS:(s.heap.push (cn led)).get? ⇑s=ζ (cn led):=UB _ Y;let tS:q2h {s with heap:=s.heap.push (cn led)} (.ref ⇑s) "set" := ⟨_,gS,Y⟩;let m6:=W5.init.lookup;let m7:=W5.init.bind (.ref ⇑s)
   repeat(any_goals (first|assumption|wp_step))
   refine YE (Z_ (R:=wants (λr s2=>r=.none/\∃h' tk,s2={s with heap:=h',toks:=tk}/\d8 h' ⇑s led (hX ns items.size) ∧
     ∀b o,b<⇑s->s.heap.get? b=ζ o->h'.get? b=ζ o) E) W5.init.plain q1d (q1e tS ?_)) λr2 s2 iU=>?_
   .let h3:A.in1.in1.in1.handled=η:=by simp[hh]
    let ez:(s.heap.push (cn led)).objs.size=⇑s+1:=XF ..;let ll:l<⇑s:=by rcases isL with⟨ol,gl,_⟩|⟨ol,gl,_⟩<;>exact Vy gl
    let nI:l≠(s.heap.push (cn led)).objs.size:=by rw[ez];exact VE (WQ ll)
    let out:⇑s∉[(s.heap.push (cn led)).objs.size,l]:=by
     erw[Uw,Ww,YB,q1p,ez];exact⟨VE (W_ _),Yb ll⟩
    unfold Builtin.«set.__init__» noKeywords Y_;generalize oZ:pyIter=PI;rcases isL with isL|isL
    .let⟨ol,gl,cl,nl,dl⟩:=isL
     let⟨c0,d0,vz,nG⟩:=ol;simp only at cl dl;subst cl;subst dl;let nH:(s.heap.push (cn led)).get? l=ζ {cls:=.type "list",dict:=d0,data:=.seq items nl,slots:=nG}:=B7 _ gl;let x1:=q1V;let x2:=q0a;let x3:(XR "list" == XR "dict")=ι:=by decide
     let g5:(s.heap.push (cn led)).IsList l items:=⟨_,nH,Y,nl,Y⟩
     wp_walk
     subst oZ;refine Ys g5 (nX (Ze ?_))
     refine ED ((ZA h3 _ l nI items).toS) (S:=s.heap.objs.size) out (led:=led) ns (λi v hv=>isInt i v hv) sT items.size 0 _ (VI _)
      ⟨⟨_,UB _ Y,Y,Y⟩,g5.push _⟩ (vA (led:=led) (B7 _ gS)) ?fin
     ext s' mv se;let⟨h',g',d',jD,nJ⟩:=s';obtain rfl:g'=s.gens:=mv.gens;obtain rfl:d'=s.drawn:=mv.drawn;obtain rfl:nJ=s.os:=mv.os;show G _ _ _ _ _ _;calc B9 ?_;show G _ _ (ret Wz) _ _ _;calc B9 ⟨Y,h',jD,Y,se,λb o hb e=>?_⟩;calc mv.heap b o ?_ (B7 _ (B7 _ e));erw[Uw,Ww,YB,q1p,ez];exact⟨VE hb,VE (WQ hb)⟩
    .let⟨ol,gl,cl,nl,dl⟩:=isL
     let⟨c0,d0,vz,nG⟩:=ol;simp only at cl dl;subst cl;subst dl;let nH:(s.heap.push (cn led)).get? l=ζ {cls:=.type "tuple",dict:=d0,data:=.seq items nl,slots:=nG}:=B7 _ gl;let x1:=F.sub_tuple_set;let x2:=F.sub_tuple_frozenset;let x3:(XR "tuple" == XR "dict")=ι:=by decide
     let g5:(s.heap.push (cn led)).IsTuple l items:=⟨_,nH,Y,nl,Y⟩
     wp_walk
     subst oZ;refine Y9 g5 (nX (Ze ?_))
     refine ED ((Walks.tuple h3 _ l nI items).toS) (S:=s.heap.objs.size) out (led:=led) ns (λi v hv=>isInt i v hv) sT items.size 0 _ (VI _)
      ⟨⟨_,UB _ Y,Y,Y⟩,g5.push _⟩ (vA (led:=led) (B7 _ gS)) ?fin2
     ext s' mv se;let⟨h',g',d',jD,nJ⟩:=s';obtain rfl:g'=s.gens:=mv.gens;obtain rfl:d'=s.drawn:=mv.drawn;obtain rfl:nJ=s.os:=mv.os;show G _ _ _ _ _ _;calc B9 ?_;show G _ _ (ret Wz) _ _ _;calc B9 ⟨Y,h',jD,Y,se,λb o hb e=>?_⟩;calc mv.heap b o ?_ (B7 _ (B7 _ e));erw[Uw,Ww,YB,q1p,ez];exact⟨VE hb,VE (WQ hb)⟩
   .cases r2 with
    |error e=>exact iU
    |ok qa =>
     cases qa with
     |ret r =>
      let⟨rfl,h',jD,rfl,se,kp⟩:=iU
      repeat(any_goals (first|assumption|wp_step))
      exact fin _ _ se kp
     |next=>exact iU
     |brk=>exact iU
     |cont=>exact iU
  |next=>exact hr
  |brk=>exact hr
  |cont=>calc hr
end
end LJS
namespace L2
open PySem PySem.Spec PyProof.Rows
variable[a9]{X:Cx}{fa:WA}
def aL:-D->(D->Prop)->Prop
 |[.lst b],K=>match intsOf b with
  |some a=>↑(fc a)<60/\K (.lst ((sortI (fc a)).map D.int))
  |none=>False
 |[.tup b],K=>match intsOf b with
  |some a=>↑(fc a)<60/\K (.lst ((sortI (fc a)).map D.int))
  |none=>False
 |_,_=>False
theorem PM(E:X.calm=θ):g6 X (.type "set") (λxs H Q=>∃(l:U)(ns:-Int),xs=[.ref l]/\(bS X.K H l (ns.map V.int)\/cF X.K H l (ns.map V.int))/\↑(fc ns)<60/\∀p,H p=η->Q (.ref p) (upd H p (mC (LJS.gI X.w) p (fc ns)))):=by
 ext z s P H O R Q I r h;let⟨l,d,rfl,f,k,q⟩:=h;let⟨u,rfl,F⟩:=vals1 r;cases F
 let⟨a,c,g⟩:∃a:-ν,Vals (d.map V.int) a/\(s.heap.IsList l a.toArray\/s.heap.IsTuple l a.toArray):=by
  rcases f with f|f
  .let⟨a,c,g,_⟩:=I.list f
   exact⟨a,c,.inl g.isList⟩
  .let⟨a,c,g,_⟩:=I.tuple f
   exact⟨a,c,.inr g⟩
 let G:=↑c;rw[nW] at G;let e:a.toArray.size=↑d:=by rw[KD];symm
 refine LJS.PL d (I.ok.hd E) g (λi v m=>?_) (by rw[e];calc k) λJ L A M=>?_
 .rw[YC] at m
  let B:=(pa.mp m).1;let⟨x,C,D⟩:=pD c (j:=i) (by rw[KD];calc B);rw[show a.toArray[i]'(by rw[KD];calc B)=v by simpa using(pa.mp m).2] at D;rw[B_] at C;let⟨n,N,rfl⟩:=KI.mp C;let⟨t,rfl⟩:=D;rw[KG,N];exact⟨t,Y⟩
 .let y:LJS.d8 J ⇑s (LJS.gI X.w) (fc d):=by rw[e] at A;exact A
  calc⟨.ref ⇑s,upd H ⇑s (mC (LJS.gI X.w) ⇑s (fc d)),I.laid (t':=L) (λb o e=>M b o (Vy e) e) (B8 _) (DH y),Y,q _ (I.bg.fresh (B8 _))⟩
theorem yT{a:υ}{J n L o:Ε}(E:X.calm=θ)(s:Gl X "sorted")(M:X.mg "sorted" = η)(t:bootBuiltins "sorted" = ζ (.builtin "sorted"))(u:Gl X "set")(c:X.mg "set" = η)(x:bootBuiltins "set" = ζ (.type "set"))(N:JA X [a] (cX fa))
  (he:‹starEach [a] X.env=[(ι,eval a X.env)]›) (y:‹starEach [.Call (.Name "set" n) [a] [] o] X.env=[(ι,eval (.Call (.Name "set" n) [a] [] o) X.env)]›):JE X (.Call (.Name "sorted" J) [.Call (.Name "set" n) [a] [] o] [] L) (tD (dN fa aL)) :=
 (o9 (DI E) s M t (jK (ml (PM E) u c x N (he:=he)) bY) (he:=y)).weak λY H Q ⟨F,O,P,K,S,q,k⟩=>⟨F,O,P,_,S,q,λZ R T G F1 U m I g V=>by
  let⟨ds,b,h⟩:=pj g V T;unfold aL at b;split at b
  .split at b
   .rename_i W d e
    let⟨v,rfl,a,G,rfl,i,j⟩:=iC h;rw[nr e] at j;rw[lB j] at i;calc⟨a,d,rfl,.inl (bS.of i),b.1,λp z=>⟨p,fc d,rfl,cw,⋯,λr A B C c=>?_⟩⟩;let l:ba m (upd m p (mC (LJS.gI X.w) p (fc d))):=c_ z;let f:=g.al l;let D:=Ext.al g l;calc k _ _ b.2 _ _ _ _ ((I.trans D).trans (Ext.al f (c_ c))) (f.al (c_ c)) ?_;rw[<-oq B C];exact kD f.sub c mB
   .exact b.elim
  .split at b
   .rename_i W d e
    let⟨v,rfl,a,G,rfl,i,j⟩:=iC h;rw[nr e] at j;rw[lB j] at i;calc⟨a,d,rfl,.inr (cF.of (g.sub _ _ i)),b.1,λp z=>⟨p,fc d,rfl,cw,⋯,λr A B C c=>?_⟩⟩;let l:ba m (upd m p (mC (LJS.gI X.w) p (fc d))):=c_ z;let f:=g.al l;let D:=Ext.al g l;calc k _ _ b.2 _ _ _ _ ((I.trans D).trans (Ext.al f (c_ c))) (f.al (c_ c)) ?_;rw[<-oq B C];exact kD f.sub c mB
   .exact b.elim
  .calc b.elim⟩
end L2
namespace LJ
open PySem L2
variable[a9]
abbrev Up(us:-Int):Prop:=us.Pairwise (· < ·)
noncomputable def tupI(ns:-Int):D:=.tup (ns.map D.int)
noncomputable def oD:Option Int->D
 |none=>.non
 |some n=>.int n
noncomputable def gv(ns:-Int):-Int:=sortI (fc ns)
theorem PN(ns:-Int):(fc ns).Nodup:=(uO ns ↑ns (B8 _)).1
theorem bB{ns:-Int}{x:Int}:x∈gv ns↔x∈ns:=(sortI_perm _).mem_iff.trans (Ex ns x)
theorem sg{ns:-Int}(c:ns.Nodup):Up (sortI ns):=((Dl _).and ((sortI_perm ns).nodup_iff.mpr c)).imp λz=>by let a:=z.1;let b:=z.2;symm
theorem nC(ns:-Int):Up (gv ns):=sg (PN ns)
theorem EE{ns:-Int}(a:ns.Nodup):sortI ns=gv ns:=ka (sg a) (nC ns) λx=>(sortI_perm _).mem_iff.trans bB.symm
theorem Up.nd{us:-Int}(h:Up us):us.Nodup:=h.imp λz=>by symm
theorem sh{us:-Int}{n:Nat}(h:Up us)(r:∀x∈us,0<=x/\x<n):↑us<=n:=by
 let e:us=(bK n).filter λx=>S (x∈us):=ka h ((rZ n).filter _) λx=>by
  rw[Wb,bL,VZ];exact⟨λa=>⟨r x a,a⟩,λa=>a.2⟩
 rw[e];calc Wq (WZ _ _) ?_;rw[k7];calc B8 _
theorem EF{ns:-Int}{n:Nat}(r:∀x∈ns,0<=x/\x<n):↑(gv ns)<=n:=sh (nC ns) λx a=>r x (bB.mp a)
theorem uR{ns:-Int}{n:Nat}(r:∀x∈ns,0<=x/\x<n)(h:n<=30):↑(fc ns)<60:=by
 let:=EF r;unfold gv at this;rw[xk] at this;symm
abbrev gH:=Option (Option Int×Int)
structure Nt where
 p:-Int
 k:-Int
 s:-Int
 q:-gH
noncomputable def gw(p k s:-Int):D:=.tup [tupI p,tupI k,tupI s]
noncomputable def a5(m:Int)(ws:-Wy)(p:-Int)(h:Int):-Int:=cls m.toNat (eV ws p) h
noncomputable def fW(ws:-Wy)(l:-Int):Option Int:=if dJ ws l=[] then η else ζ (k8 ws (dJ ws l))
noncomputable def fw(ws:-Wy)(p k:-Int):-Int:=(bK ↑ws).filter λn=>S (n∉p++k)
noncomputable def lI(ws:-Wy)(us l:-Int):-Int:=(lH ws us).filter λh=>S (h∈l)
noncomputable def mM(ws:-Wy)(l:-Int):-Int:=(bK ↑ws).filter λn=>S ((aO ws n).1∈l)&&S ((aO ws n).2.1∈l)
noncomputable def jQ(ws:-Wy)(l p:-Int):-Int:=(mM ws l).filter λn=>S (n∉p)
noncomputable def oJ(m:Int)(ws:-Wy)(p k:-Int)(h:Int):-Int:=gv (k++jQ ws (a5 m ws p h) p)
noncomputable def si(m:Int)(ws:-Wy)(p k:-Int)(h:Int):Int:=2*((↑(a5 m ws p h):Int)-1)+2*(↑(lI ws (fw ws p k) (a5 m ws p h)):Int)
noncomputable def yU(m:Int)(ws:-Wy)(p:-Int)(w:Int):Int:=min (↑(a5 m ws p (aO ws w).1):Int) (↑(a5 m ws p (aO ws w).2.1):Int)
noncomputable def lJ(m:Int)(ws:-Wy)(N:Nt)(fo:Option Int)(h:Int):Option Int×Int:=match fo with
 |none=>if h∈N.s then(η,0) else(η,(↑(a5 m ws N.p h):Int)-1)
 |some w=>if w∈N.p then(η,0) else(ζ w,1+yU m ws N.p w)
noncomputable def dA(m:Int)(ws:-Wy)(N:Nt)(fo:Option Int)(h:Int):Nt:=match fo with
 |none=>if h∈N.s then N else⟨N.p,N.k,gv (N.s++a5 m ws N.p h),N.q⟩
 |some w=>if w∈N.p then N else⟨gv (N.p++[w]),N.k,N.s,N.q⟩
inductive cM where
 |wake (h:Int)|fin (i:Nat)
noncomputable def hV:cM->D
 |.wake h=>.tup [.str "wake",.int h]
 |.fin i=>.tup [.str "end",.int i]
noncomputable def jR(t:Option Int×Int):D:=.tup [oD t.1,.int t.2]
noncomputable def Nt.step(m:Int)(ws:-Wy)(N:Nt):cM->Nt
 |.wake h=>if h∈N.s then⟨N.p,N.k,N.s,N.q++[η]⟩ else⟨N.p,oJ m ws N.p N.k h,N.s,N.q++[ζ (fW ws (a5 m ws N.p h),h)]⟩
 |.fin i=>match N.q[i]? with
  |some (some (a,h))=>dA m ws ⟨N.p,N.k,N.s,N.q.set i η⟩ a h
  |_=>N
noncomputable def Nt.tell(m:Int)(ws:-Wy)(N:Nt):cM->Option Int×Int
 |.wake h=>if h∈N.s then(η,0) else(η,si m ws N.p N.k h)
 |.fin i=>match N.q[i]? with
  |some (some (a,h))=>lJ m ws N a h
  |_=>(η,0)
def gW(m:Int)(N:Nt):cM->Prop
 |.wake h=>0<=h/\h<m
 |.fin i=>∃a h,N.q[i]?=ζ (ζ (a,h))
noncomputable def runN(m:Int)(ws:-Wy):Nt->-cM->Nt
 |N,[]=>N
 |N,e::r=>runN m ws (N.step m ws e) r
noncomputable def kK(m:Int)(ws:-Wy):Nt->-cM->-(Option Int×Int)
 |_,[]=>[]
 |N,e::r=>N.tell m ws e::kK m ws (N.step m ws e) r
noncomputable def iH(m:Int)(ws:-Wy):Nt->-cM->Prop
 |_,[]=>True
 |N,e::r=>gW m N e/\iH m ws (N.step m ws e) r
theorem oK{m:Int}{ws:-Wy}:∀{N:Nt}{a:-cM}{e:cM},runN m ws N (a++[e])=(runN m ws N a).step m ws e
 |N,[],e=>Y
 |N,x::a,e=>oK (N:=N.step m ws x) (a:=a)
theorem yV{m:Int}{ws:-Wy}:∀{N:Nt}{a:-cM}{e:cM},kK m ws N (a++[e])=kK m ws N a++[(runN m ws N a).tell m ws e]
 |N,[],e=>Y
 |N,x::a,e=>by
  show _::kK m ws (N.step m ws x) (a++[e])=_;rw[yV (N:=N.step m ws x) (a:=a)];rfl
theorem EG{m:Int}{ws:-Wy}:∀{N:Nt}{a:-cM}{e:cM},iH m ws N a->gW m (runN m ws N a) e->iH m ws N (a++[e])
 |N,[],e,_,h=>⟨h,trivial⟩
 |N,x::a,e,⟨b,c⟩,h=>⟨b,EG (N:=N.step m ws x) (a:=a) c h⟩
theorem yW{m:Int}{ws:-Wy}:∀{N:Nt}{a:-cM},↑(kK m ws N a)=↑a
 |N,[]=>Y
 |N,x::a=>by show↑(kK m ws _ a)+1=_;rw[yW];rfl
structure dc(m:Int)(ws:-Wy)(N:Nt):Prop where
 pu:Up N.p
 pn:Nums ws N.p
 ku:Up N.k
 kn:Nums ws N.k
 su:Up N.s
 sn:∀x∈N.s,0<=x/\x<m
 ju:∀n∈N.k,bA (eV ws N.p) (aO ws n).1 (aO ws n).2.1
 sc:∀n,0<=n/\n<(↑ws:Int)->((aO ws n).1∈N.s↔(aO ws n).2.1∈N.s)
 q:∀(i:Nat)(fo:Option Int)(h:Int),N.q[i]?=ζ (ζ (fo,h))->(0<=h/\h<m)/\(∀w,fo=ζ w->0<=w/\w<(↑ws:Int))/\(fo=η->dJ ws (a5 m ws N.p h)=[])
noncomputable def cg:Nt:=⟨[],[],[],[]⟩
theorem lK(m:Int)(ws:-Wy):dc m ws cg:=⟨.nil,(λ_ h=>nomatch h),.nil,(λ_ h=>nomatch h),.nil,(λ_ h=>nomatch h),(λ_ h=>nomatch h),λ_ _=>⟨(λh=>nomatch h),(λh=>nomatch h)⟩,λi a h e=>by simp[cg] at e⟩
section
variable{m:Int}{ws:-Wy}{N:Nt}
theorem PQ{p:-Int}{n:Int}(h:n∈p):bA (eV ws p) (aO ws n).1 (aO ws n).2.1:=.one ⟨n,h,Y⟩
theorem jB(W:aI m ws){p:-Int}{h x:Int}:x∈a5 m ws p h↔(0<=x/\x<m)/\bA (eV ws p) h x:=by
 let:=W.m1;unfold a5;rw[cb];calc and_congr_left' ⟨λz=>by symm,λz=>by symm⟩
theorem yX(W:aI m ws){n:Int}(hn:0<=n/\n<(↑ws:Int)):(0<=(aO ws n).1/\(aO ws n).1<m)/\(0<=(aO ws n).2.1/\(aO ws n).2.1<m):=by
 let⟨i,k,_,a,b,c,d⟩:=uH W hn.1 hn.2;symm
theorem EH(W:aI m ws){p:-Int}{h n:Int}(hn:0<=n/\n<(↑ws:Int))(c:bA (eV ws p) (aO ws n).1 (aO ws n).2.1):(aO ws n).1∈a5 m ws p h↔(aO ws n).2.1∈a5 m ws p h:=by
 let⟨a,b⟩:=yX W hn;rw[jB W,jB W];calc⟨λz=>⟨b,z.2.trans c⟩,λz=>⟨a,z.2.trans c.symm⟩⟩
theorem EI{l:-Int}{y:Wy}(h:y.1∈l↔y.2.1∈l):gs l y=ι:=by
 unfold gs
 by_cases c:y.1∈l
 .rw[VG c,VG (h.mp c)];rfl
 .rw[VC c,VC λz=>c (h.mpr z)];rfl
theorem EJ{l:-Int}{y:Wy}(h:gs l y=ι):y.1∈l↔y.2.1∈l:=by
 unfold gs at h
 by_cases c:y.1∈l<;>by_cases d:y.2.1∈l<;>simp[c,d] at h ⊢
theorem gx{l:-Int}{n:Int}:n∈dJ ws l↔(0<=n/\n<(↑ws:Int))/\gs l (aO ws n)=θ:=by
 unfold dJ;rw[Wb,bL]
theorem EK{l:-Int}(h:dJ ws l=[]){n:Int}(hn:0<=n/\n<(↑ws:Int)):(aO ws n).1∈l↔(aO ws n).2.1∈l:=by
 refine EJ ?_
 cases q:gs l (aO ws n) with
 |false=>rfl
 |true=>let:=gx.mpr ⟨hn,q⟩;rw[h] at this;calc nomatch this
theorem PR(ws:-Wy)(l:-Int):Up (dJ ws l):=(rZ _).filter _
theorem yY{p:-Int}(h:Nums ws p){l:-Int}(i:∀n,0<=n/\n<(↑ws:Int)->((aO ws n).1∈l↔(aO ws n).2.1∈l)){a b:Int}(c:bA (eV ws p) a b)(j:a∈l):b∈l:=by
 induction c with
 |rf=>exact j
 |st _ e d =>
  let⟨w,⟨k,m,rfl⟩,o⟩:=e;let:=i k (h k m);rcases o with⟨f,g⟩|⟨f,g⟩
  .rw[<-g];rw[<-f] at d;exact this.mp d
  .rw[<-f];rw[<-g] at d;calc this.mpr d
theorem oM(m:Int)(ws:-Wy)(p:-Int)(h:Int):Up (a5 m ws p h):=r3 _ _ _
theorem pP(W:aI m ws){p:-Int}{h:Int}:↑(a5 m ws p h)<=12:=by
 let:=W.iA;calc Wq (sh (n:=m.toNat) (oM m ws p h) λx a=>by let:=((jB W).mp a).1;symm) ⋯
theorem EL(W:aI m ws){p:-Int}{h:Int}(a:0<=h/\h<m):h∈a5 m ws p h:=(jB W).mpr ⟨a,.rf⟩
theorem EM{p d:-Int}(h:∀x∈p,x∈d){a b:Int}(c:bA (eV ws p) a b):bA (eV ws d) a b:=c.mono λv ⟨k,f,e⟩↦⟨k,h k f,e⟩
theorem yZ(W:aI m ws){p b:-Int}(c:Nums ws b)(h:∀x∈p,x∈b){a:Int}(f:0<=a/\a<m)(e:dJ ws (a5 m ws p a)=[]):a5 m ws b a=a5 m ws p a:=by
 refine ka (oM ..) (oM ..) λx=>⟨λd=>?_,λd=>?_⟩
 .exact yY c (λn g=>EK e g) ((jB W).mp d).2 (EL W f)
 .let⟨i,j⟩:=(jB W).mp d
  calc(jB W).mpr ⟨i,EM h j⟩
theorem fX{l p:-Int}{n:Int}:n∈jQ ws l p↔((0<=n/\n<(↑ws:Int))/\(aO ws n).1∈l/\(aO ws n).2.1∈l)/\n∉p:=by
 unfold jQ mM;rw[Wb,Wb,bL,VZ,Xn,VZ,VZ]
theorem PS(W:aI m ws){l:-Int}{w:Int}(h:fW ws l=ζ w):0<=w/\w<(↑ws:Int):=by
 unfold fW at h;split at h
 .cases h
 .rename_i a
  cases h
  calc pL _ (Ew a).1
theorem dc.step(W:aI m ws)(O:dc m ws N){e:cM}(he:gW m N e):dc m ws (N.step m ws e):=by
 cases e with
 |wake h =>
  unfold Nt.step;dsimp only;split
  .refine⟨O.pu,O.pn,O.ku,O.kn,O.su,O.sn,O.ju,O.sc,λi d b e=>?_⟩
   let e:(N.q++[η])[i]?=ζ (ζ (d,b)):=e
   by_cases c:i<↑N.q
   .rw[KH c] at e;exact O.q i d b e
   .rw[My ⋯] at e
    cases z:i-↑N.q with
    |zero=>rw[z] at e;cases e
    |succ j=>rw[z] at e;simp at e
  .refine⟨O.pu,O.pn,nC _,λn f=>?_,O.su,O.sn,λn f=>?_,O.sc,λi d h' e=>?_⟩
   .rcases VY.mp (bB.mp f) with z|z
    .exact O.kn n z
    .exact (fX.mp z).1.1
   .rcases VY.mp (bB.mp f) with z|z
    .exact O.ju n z
    .let⟨⟨_,A,B⟩,_⟩:=fX.mp z
     exact((jB W).mp A).2.symm.trans ((jB W).mp B).2
   .let e:(N.q++[ζ (fW ws (a5 m ws N.p h),h)])[i]?=ζ (ζ (d,h')):=e
    by_cases c:i<↑N.q
    .rw[KH c] at e;exact O.q i d h' e
    .rw[My ⋯] at e
     cases z:i-↑N.q with
     |zero =>
      rw[z] at e;let e:ζ (fW ws (a5 m ws N.p h),h)=ζ (d,h'):=by simpa using e
      cases e
      calc⟨he,λw l=>PS W l,λz=>?_⟩;unfold fW at z;split at z
      .assumption
      .cases z
     |succ j=>rw[z] at e;simp at e
 |fin i =>
  let⟨d,h,o⟩:=he;let⟨D,l,f⟩:=O.q i d h o
  let k:∀j a b,(N.q.set i η)[j]?=ζ (ζ (a,b))->N.q[j]?=ζ (ζ (a,b)):=λj a b e=>by
   by_cases c:i=j
   .subst c
    rw[Xf (pa.mp o).1] at e;cases e
   .rwa [Xi c] at e
  unfold Nt.step;dsimp only;rw[o];dsimp only;unfold dA
  cases d with
  |none =>
   dsimp only;split
   .exact⟨O.pu,O.pn,O.ku,O.kn,O.su,O.sn,O.ju,O.sc,λj a b e=>O.q j a b (k j a b e)⟩
   .refine⟨O.pu,O.pn,O.ku,O.kn,nC _,λx g=>?_,O.ju,λn s=>?_,λj a b e=>O.q j a b (k j a b e)⟩
    .rcases VY.mp (bB.mp g) with z|z
     .exact O.sn x z
     .exact ((jB W).mp z).1
    .rw[bB,bB,VY,VY]
     exact or_congr (O.sc n s) (EK (f Y) s)
  |some w =>
   dsimp only;split
   .exact⟨O.pu,O.pn,O.ku,O.kn,O.su,O.sn,O.ju,O.sc,λj a b e=>O.q j a b (k j a b e)⟩
   .let t:∀x∈N.p,x∈gv (N.p++[w]):=λx g=>bB.mpr (XC _ g)
    let u:Nums ws (gv (N.p++[w])):=λx g=>by
     rcases VY.mp (bB.mp g) with z|z
     .exact O.pn x z
     .rw[Wm.mp z];exact l w Y
    calc⟨nC _,u,O.ku,O.kn,O.su,O.sn,λn r=>EM t (O.ju n r),O.sc,λj a b e=>?_⟩;let⟨v,C,y⟩:=O.q j a b (k j a b e);calc⟨v,C,λz=>?_⟩;show dJ ws (a5 m ws (gv (N.p++[w])) b)=[];rw[yZ W u t v (y z)];calc y z
theorem dc.run(W:aI m ws):∀{N:Nt}{es:-cM},dc m ws N->iH m ws N es->dc m ws (runN m ws N es)
 |_,[],O,_=>O
 |N,e::r,O,⟨a,b⟩=>dc.run W (N:=N.step m ws e) (es:=r) (dc.step W O a) b
theorem dc.pl(W:aI m ws)(O:dc m ws N):↑N.p<=30:=Wq (sh O.pu O.pn) W.jE
theorem dc.kl(W:aI m ws)(O:dc m ws N):↑N.k<=30:=Wq (sh O.ku O.kn) W.jE
theorem dc.sl(W:aI m ws)(O:dc m ws N):↑N.s<=12:=by
 let:=W.iA;calc Wq (sh (n:=m.toNat) O.su λx a=>by let:=O.sn x a;symm) ⋯
end
end LJ
namespace L2
open PySem PySem.Spec PyProof.Rows
variable[a9]
inductive RK where
 |p (d:D)|w (a:U)|n (ds:-D)|u (t:Bool) (fs:-FV)
abbrev GK:=-DV->-OV->(RK->-OV->-OV->Prop)->Prop
def oN(F' H H':Hp)(e:-U)(f:-(Option OV))(v:V):RK->Prop
 |.p d=>Is F' d v
 |.w a=>v=.ref a
 |.u t g=>∃b c,v=.ref b/\F' b=ζ (mw t c)/\fK F' g c
 |.n h=>∃b c,v=.ref b/\H b=η/\H' b=ζ (.lst c)/\F' b=η/\ax F' h c/\¬ Lv e f b
structure y6(F:Hp)(ad:-U)(aK:-OV)(H:Hp)(r:RK)(ows news:-OV)(v:V)(F':Hp)(bV:-U)(H':Hp):Prop where
 ext:Ext F ad (aK.map ζ) H F' bV ((ows++news).map ζ) H'
 sr:SR F' bV ⟨[],(ows++news).map ζ⟩ [] H'
 len:↑ows=↑aK
 res:oN F' H H' bV ((ows++news).map ζ) v r
inductive kL (G:GK) (n:Nat) (vs:-V) (H:Hp) (Q:VK) (_:XK):Prop
 |mk (hl:↑vs=n) (F:Hp) (ad:-U) (ys:-DV) (aK:-OV) (K:RK->-OV->-OV->Prop) (S:SR F ad ⟨ys.map ζ,aK.map ζ⟩ (vs.map ζ) H) (g:G ys aK K) (k:∀r ows news,K r ows news->∀v F' bV H',y6 F ad aK H r ows news v F' bV H'->Q v H')
def oO(n:Nat)(K:RK->-OV->-OV->Prop)(x:DV)(e:aH):Prop:=∃c b f,e.mu=(c++b).map ζ++f/\↑c=n/\match x with
 |.p d=>K (.p d) c b
 |.w a=>K (.w a) c b
 |.u t g=>K (.u t g) c b
 |.o k=>↑(c++b)<=k/\match e.mu[k]? with
  |some (some (.lst h))=>K (.n h) c b
  |_=>False
 |.t _ _=>False
noncomputable def af(n:Nat)(K:RK->-OV->-OV->Prop):KS where
 nx:=oO n K (.p .non)
 rt:=oO n K
section
variable{F F' H H':Hp}{ad bV:-U}{σ σ':St}{δ:aH}{mu gi:-(Option OV)}
theorem pQ{b:Type}{l:-b}{n k:Nat}{a:b}(e:(l.take n)[k]?=ζ a):k<n/\l[k]?=ζ a:=by
 let c:k<n:=by
  let:=(pa.mp e).1;rw[Wv] at this;symm
 rw[W0 c] at e;calc⟨c,e⟩
theorem SR.cut(m:Nat)(S:SR F ad δ σ H):SR F (ad.take m) ⟨[],δ.mu.take m⟩ [] H:=by
 refine⟨S.sub,λa x=>S.off a x.take,?_,λk l a w f b c d g=>S.inj k l a w f (pQ b).2 (pQ c).2 (pQ d).2 (pQ g).2,λk j e=>?_,λi x e=>by simp at e,Y,S.tab,S.nt⟩
 .show ↑(ad.take _)=↑(δ.mu.take _)
  rw[Wv,Wv,S.di]
 .let⟨b,c⟩:=pQ e
  let⟨a,o,d,h⟩:=S.mu k j c;calc⟨a,o,by rw[W0 b];calc d,h⟩
theorem Ext.cut{m:Nat}(e:Ext F ad mu H F' bV gi H')(b:↑ad<=m):Ext F ad mu H F' (bV.take m) (gi.take m) H' :=
 ⟨e.same,e.new,e.keep,λk a h=>by rw[W0 (VR (pa.mp h).1 b)];calc e.pre k a h,λa x=>e.df a x.take,e.iB⟩
theorem EN{aK:-OV}{x:DV}{v:V}{K:RK->-OV->-OV->Prop}{Q:VK}{sl:-(Option DV)}{G:St}(I:SR F ad ⟨sl,aK.map ζ⟩ G H)(E:Ext F ad (aK.map ζ) H F' bV δ.mu H')(S:SR F' bV δ σ' H')(V:eN F' bV x v)
  (h:oO ↑aK K x δ) (k:∀r c b,K r c b->∀v F' bV H',y6 F ad aK H r c b v F' bV H'->Q v H'):Q v H':=by
 let⟨c,b,R,s,e,h⟩:=h;let B:↑ad=↑aK:=by let:=I.di;rwa [nW] at this
 let J:δ.mu.take ↑(c++b)=(c++b).map ζ:=by rw[s,List.take_left' (by rw[nW])]
 let f:=E.cut (m:=↑(c++b)) (by rw[B,qG];symm);let g:=S.cut ↑(c++b);rw[J] at f g
 cases x with
 |p d=>exact k _ _ _ h _ _ _ _ ⟨f,g,e,V⟩
 |w a=>exact k _ _ _ h _ _ _ _ ⟨f,g,e,V⟩
 |u t T=>exact k _ _ _ h _ _ _ _ ⟨f,g,e,V⟩
 |t _ _=>exact h.elim
 |o i =>
  let⟨L,h⟩:=h;split at h
  .rename_i U l
   let⟨a,n,rfl⟩:=V;let⟨a',o,C,M,N,rfl,O⟩:=S.mu i _ l;rw[n] at C;cases C;refine k _ _ _ h _ _ _ _ ⟨f,g,e,a,N,Y,?_,M,S.off a ⟨i,_,n,l⟩,O,λ⟨j,D,y,P⟩=>?_⟩
   .rcases E.df a ⟨i,_,n,l⟩ with⟨j,D,z,_⟩|z
    .let q:j<↑c:=by rw[e,<-B];exact(pa.mp z).1
     let A:δ.mu[j]?=ζ (ζ c[j]):=by
      rw[s,KH (by rw[nW,qG];symm),B_,KH q,tG q];rfl
     let:=S.inj i j a _ _ n (E.pre j a z) l A;rw[qG] at L;symm
    .exact z
   .have ⟨q,y⟩:=pQ y
    let A:δ.mu[j]?=ζ (ζ D):=by
     rw[s,KH (by rw[nW];calc q)];exact P
    let:=S.inj i j a _ _ n y l A;symm
  .calc h.elim
end
theorem hG.y7{P:X}{w:ω}{K:KC}{r:π->Option ν}{base:Α}{x a:π}{st:χ}{f:U}{t:FuncData}{N ps:-π}{k:Nat}{G:GK}(F:hG K x a st f t)(S:lU N ps (dq st))
  (e:∀(b:ν)(A:Β)(outer:-Ζ)(s:ο)(H:Hp)(E:XK),bz k (A.deeper (envOfC a (dq st) ⇑s f b)) →
   ∃B:WS,ee (gh fZ P w K r base N a (dq st) f b A outer s H E).kQ (gZ st) (eh B)/\∀ys aK j,↑ys=↑ps->G ys aK j->B (af ↑aK j) ⟨ys.map ζ++VF (↑N-↑ps) η,aK.map ζ⟩) :
  cG P w K r base fZ (k+1) f t ps (kL G ↑ps) :=
 F.qJ S (λC H Q E h=>h.1) λb A c s H C Q E D h=>by
  let⟨u,I,J,m,d,j,l,g,z⟩:=h;let⟨B,L,M⟩:=e b A c s H E D
  let O:↑m=↑ps:=by
   let:=l.len;rw[nW] at this;rw[<-u,this];rw[nW]
  refine⟨_,L,I,J,⟨m.map ζ++VF (↑N-↑ps) η,d.map ζ⟩,af ↑d j,by rw[<-u];calc l.start,M m d j O g,⟨λi h R n σ' T o q=>?_,λi h=>h.elim,λi h=>h.elim,λy i h v R n σ' T o q V=>?_,trivial⟩⟩
  .exact EN (σ':=σ') l o q (x:=.p .non) (v:=.non) Y h z
  .calc EN (σ':=σ') l o q V h z
def sj(mu:-(Option OV)):-(Nat×OV)->Prop
 |[]=>True
 |(k,a)::r=>mu[k]?=ζ (ζ a)/\sj mu r
theorem EO{mu:-(Option OV)}:∀{es:-(Nat×OV)},sj mu es->∀a∈es,mu[a.1]?=ζ (ζ a.2)
 |(k,c)::r,h,a,b=>by
  rcases Uw.mp b with rfl|b
  .exact h.1
  .calc EO h.2 a b
section
variable{F F' H H':Hp}{ad bV:-U}{δ:aH}{σ σ':St}
theorem PT{xs:-DV}{vs:-V}{r:-DV×-(Nat×OV)}{es:-(Nat×OV)}(S:SR F ad δ σ H)(V:dG F ad xs vs)(hp:passes δ.mu xs 0=ζ r)(he:sj δ.mu es)(nd:d6 (r.2++es)=θ):
  ∃as:-ξ,↑as=↑(r.2++es)/\SR F as ⟨r.1.map ζ,((r.2++es).map (·.2)).map ζ⟩ (vs.map ζ) H/\∀res x g v F' C H',y6 F as ((r.2++es).map (·.2)) H res x g v F' C H' →
   Ext F ad δ.mu H F' (ad++C.drop ↑(r.2++es)) (b3 δ.mu (r.2++es) x++g.map ζ) H'/\SR F' (ad++C.drop ↑(r.2++es)) ⟨δ.sl,b3 δ.mu (r.2++es) x++g.map ζ⟩ σ H'/\oN F' H H' (ad++C.drop ↑(r.2++es)) (b3 δ.mu (r.2++es) x++g.map ζ) v res:=by
 let⟨PU,W,b0,c⟩:=pz S.mu hp V;let⟨_,c1,c2⟩:=c [] rfl;let⟨y8,ER⟩:∃y8:-ξ,y8=es.map λs=>(ad[s.1]?).getD 0:=⟨_,rfl⟩;let⟨U,Y⟩:∃U,U=PU++y8:=⟨_,rfl⟩;let⟨f,R⟩:∃f,f=r.2++es:=⟨_,rfl⟩;rw[<-R] at nd ⊢
 let b:∀(i:Nat)(s:Nat×OV),f[i]?=ζ s->δ.mu[s.1]?=ζ (ζ s.2)/\∃a o,U[i]?=ζ a/\ad[s.1]?=ζ a/\H a=ζ o/\fB F a s.2 o:=λi s e=>by
  rw[R] at e
  by_cases G:i<↑r.2
  .rw[KH G] at e
   let⟨J,a,o,L,z3⟩:=b0 i s e;exact⟨J,a,o,by rw[Y,KH (by rw[W];calc G)];calc L,z3⟩
  .let G:↑r.2<=i:=by symm
   rw[My G] at e;let m:=EO he s (WR e);let⟨a,o,J,L⟩:=S.mu _ _ m;calc⟨m,a,o,?_,J,L⟩;rw[Y,My (by rw[W];calc G),W,ER,B_,e];show ζ ((ad[s.1]?).getD 0)=ζ a;rw[J];rfl
 let al:↑U=↑f:=by rw[Y,R,qG,qG,W,ER,nW]
 let K:∀(i:Nat)(a:ξ),U[i]?=ζ a->Lv ad δ.mu a/\∃s,f[i]?=ζ s/\ad[s.1]?=ζ a/\δ.mu[s.1]?=ζ (ζ s.2):=λi a e=>by
  let G:i<↑f:=by rw[<-al];exact(pa.mp e).1
  let⟨m1,a',o,A,B,_,_⟩:=b i _ (tG G);rw[e] at A;cases A;exact⟨⟨_,_,B,m1⟩,_,tG G,B,m1⟩
 let PV:∀(i:Nat)(O:OV),((f.map (·.2)).map ζ)[i]?=ζ (ζ O)->∃s,f[i]?=ζ s/\s.2=O:=λi O e=>by
  let e:=ro e;rw[B_] at e;let⟨s,A,B⟩:=KI.mp e;exact⟨s,A,B⟩
 refine⟨U,al,⟨S.sub,λa ⟨i,O,A,B⟩↦S.off a (K i a A).1,by rw[al];rw[nW,nW],λi j a O D A B _ _=>?_,λi O e=>?_,λi y e=>?_,?_,S.tab,S.nt⟩,λres x g v F' C H' P=>?_⟩
 .let⟨_,s,k1,k2,k3⟩:=K i a A
  let⟨_,kp,p1,p2,p3⟩:=K j a B;let:s.1=kp.1:=S.inj _ _ a _ _ k2 p2 k3 p3;exact wV nd i j s.1 s.2 kp.2 k1 (by rw[this];calc p1)
 .let⟨s,A,rfl⟩:=PV i O e
  let⟨_,a,o,B,_,Z,e5⟩:=b i s A;exact⟨a,o,B,Z,e5⟩
 .let⟨v,A,B⟩:=c2 i y (ro e)
  calc⟨v,rp A,?_⟩;rw[Wc] at B;exact B.pre λk a h _=>by rw[Y,KH (pa.mp h).1];exact h
 .show ↑(vs.map ζ)=↑(r.1.map ζ)
  rw[nW,nW,c1]
 .let X:=P.ext
  let T:=P.sr;let ol:↑x=↑f:=by rw[P.len,nW]
  let di:↑C=↑f+↑g:=by
   let:=T.di;rw[this];show↑((x++g).map ζ)=_;rw[nW,qG,ol]
  let rz:∀a,Lv U ((f.map (·.2)).map ζ) a->Lv ad δ.mu a:=λa ⟨i,_,e,_⟩↦(K i a e).1
  let U1:∀(i:Nat)(a:ξ),U[i]?=ζ a->Lv U ((f.map (·.2)).map ζ) a:=λi a e=>by
   let⟨_,s,k1,_⟩:=K i a e;exact⟨i,s.2,e,rp (by rw[B_,k1];rfl)⟩
  let pre:∀(i:Nat)(a:ξ),U[i]?=ζ a->C[i]?=ζ a:=X.pre;let mo:∀(i:Nat)(D:OV),x[i]?=ζ D->((x++g).map ζ)[i]?=ζ (ζ D):=λi D e=>rp (by rw[KH (pa.mp e).1];calc e);let mn:∀(j:Nat)(w:OV),g[j]?=ζ w->((x++g).map ζ)[↑f+j]?=ζ (ζ w):=λj w e=>rp (by rw[My ⋯,ol,ZI];calc e);let M:↑(b3 δ.mu f x)=↑ad:=by rw[wW,S.di]
  let ju:∀(l:Nat)(D:OV),(b3 δ.mu f x++g.map ζ)[l]?=ζ (ζ D)->(∃(i:Nat)(s:Nat×OV),l<↑ad/\f[i]?=ζ s/\s.1=l/\x[i]?=ζ D)\/(l<↑ad/\(∀s∈f,s.1≠l)/\δ.mu[l]?=ζ (ζ D))\/(↑ad<=l/\g[l-↑ad]?=ζ D):=λl D e=>by
   by_cases E:l<↑ad
   .rw[KH (by rw[M];calc E)] at e
    by_cases z:∃s∈f,s.1=l
    .let⟨s,hk,rfl⟩:=z
     let⟨i,G⟩:=VJ.mp hk;let y9:i<↑x:=by rw[ol];exact(pa.mp G).1
     let:=wX (mu:=δ.mu) nd G (tG y9) (pa.mp (b i s G).1).1;rw[e] at this;cases this
     exact .inl ⟨i,s,E,G,rfl,tG y9⟩
    .let z':∀s∈f,s.1≠l:=λs hk q=>z ⟨s,hk,q⟩
     rw[rq _ _ _ _ z'] at e;exact .inr (.inl ⟨E,z',e⟩)
   .rw[My (by rw[M];symm),M] at e
    exact .inr (.inr ⟨⋯,ro e⟩)
  let gn:∀(l:Nat)(a:ξ),↑ad<=l->(ad++C.drop ↑f)[l]?=ζ a->C[↑f+(l-↑ad)]?=ζ a:=λl a E e=>by
   rw[My E,q2x] at e;exact e
  let go:∀(l:Nat)(a:ξ),l<↑ad->(ad++C.drop ↑f)[l]?=ζ a->ad[l]?=ζ a:=λl a E e=>by
   rw[KH E] at e;exact e
  let Q:∀(l:Nat)(D:OV)(a:ξ),(ad++C.drop ↑f)[l]?=ζ a->(b3 δ.mu f x++g.map ζ)[l]?=ζ (ζ D)->(Lv ad δ.mu a/\l<↑ad/\ad[l]?=ζ a/\∃w,δ.mu[l]?=ζ (ζ w))\/(↑ad<=l/\C[↑f+(l-↑ad)]?=ζ a/\((x++g).map ζ)[↑f+(l-↑ad)]?=ζ (ζ D)):=λl D a A B=>by
   rcases ju l D B with⟨i,s,E,G,rfl,_⟩|⟨E,_,q⟩|⟨E,q⟩
   .exact .inl ⟨⟨_,_,go _ _ E A,(b i s G).1⟩,E,go _ _ E A,_,(b i s G).1⟩
   .exact .inl ⟨⟨_,_,go _ _ E A,q⟩,E,go _ _ E A,_,q⟩
   .exact .inr ⟨E,gn l a E A,mn _ _ q⟩
  let I:∀a,Lv ad δ.mu a->∃o,H a=ζ o/\a∉a9.ad:=λa ⟨k,O,A,B⟩=>by
   let⟨a',o,e3,Z,h⟩:=S.mu k O B;rw[A] at e3;cases e3;calc⟨o,Z,λt=>?_⟩;let⟨ps,q⟩:=a9.tb S.tab t;rw[Z] at q;exact h.kind ps (WC q)
  let y_:∀a,Lv ad δ.mu a->F' a=η:=λa l=>by
   cases q:F' a with
   |none=>rfl
   |some u =>
    rcases X.new a u q with y|y|⟨i,O,y,_⟩
    .rw[S.off a l] at y;cases y
    .let⟨o,z,_⟩:=I a l
     rw[y] at z;cases z
    .let⟨_,s,k1,_⟩:=K i a y
     let G:i<↑x:=by rw[ol];exact(pa.mp k1).1
     rw[T.off a ⟨i,x[i],pre i a y,mo i _ (tG G)⟩] at q;cases q
  let ES:∀(j:Nat)(a:ξ)(w:OV),C[↑f+j]?=ζ a->((x++g).map ζ)[↑f+j]?=ζ (ζ w)->¬ Lv ad δ.mu a:=λj a w A B l=>by
   rcases X.df a ⟨_,w,A,B⟩ with⟨i,O,y,_⟩|y
   .let G:i<↑x:=by rw[ol,<-al];exact(pa.mp y).1
    let:=T.inj _ _ a _ _ A (pre i a y) B (mo i _ (tG G));symm
   .let⟨o,z,_⟩:=I a l
    rw[y] at z;cases z
  let ex:Ext F ad δ.mu H F' (ad++C.drop ↑f) (b3 δ.mu f x++g.map ζ) H':=by
   refine⟨X.same,λa o e=>?_,λa o e n t=>X.keep a o e (λz=>n (rz a z)) t,λk a e=>by rw[KH (pa.mp e).1];calc e,λa ⟨l,D,A,B⟩=>?_,X.iB⟩
   .rcases X.new a o e with z|z|z
    .exact .inl z
    .exact .inr (.inl z)
    .exact .inr (.inr (rz a z))
   .rcases Q l D a A B with⟨z,_⟩|⟨_,J,L⟩
    .exact .inl z
    .rcases X.df a ⟨_,_,J,L⟩ with z|z
     .exact .inl (rz a z)
     .exact .inr z
  let sr:SR F' (ad++C.drop ↑f) ⟨δ.sl,b3 δ.mu f x++g.map ζ⟩ σ H':=by
   refine⟨T.sub,λa ⟨l,D,A,B⟩=>?_,?_,λk l a O D A B e3 Z=>?_,λl D e=>?_,λi y e=>?_,S.len,T.tab,T.nt⟩
   .rcases Q l D a A B with⟨z,_⟩|⟨_,J,L⟩
    .exact y_ a z
    .exact T.off a ⟨_,_,J,L⟩
   .show ↑(ad++C.drop ↑f)=↑(b3 δ.mu f x++g.map ζ)
    rw[qG,qG,M,YJ,di,nW,ZI]
   .rcases Q k O a A e3 with⟨z,_,y1,w1,y2⟩|⟨D1,J,L⟩
    .rcases Q l D a B Z with⟨_,_,y3,w2,y4⟩|⟨_,J,L⟩
     .exact S.inj k l a _ _ y1 y3 y2 y4
     .exact (ES _ _ _ J L z).elim
    .rcases Q l D a B Z with⟨z,_⟩|⟨uz,z3,z4⟩
     .exact (ES _ _ _ J L z).elim
     .let:=T.inj _ _ a _ _ J z3 L z4
      symm
   .rcases ju l D e with⟨i,s,E,G,rfl,ho⟩|⟨E,z,q⟩|⟨E,q⟩
    .let⟨_,a,o,A,B,_,_⟩:=b i s G
     let⟨a',o',e3,Z,h5⟩:=T.mu i D (mo i D ho);rw[pre i a A] at e3;cases e3;exact⟨a,o',by rw[KH E];calc B,Z,h5⟩
    .let⟨a,o,A,B,h⟩:=S.mu l D q
     let lv:Lv ad δ.mu a:=⟨l,D,A,q⟩;calc⟨a,o,by rw[KH E];calc A,X.keep a o B (λ⟨i,_,y,_⟩=>?_) (I a lv).choose_spec.2,h.same X.same⟩;let⟨_,s,k1,k2,k3⟩:=K i a y;exact z s (VJ.mpr ⟨i,k1⟩) (S.inj _ _ a _ _ k2 A k3 q)
    .let⟨a,o,A,B,h⟩:=T.mu _ _ (mn _ _ q)
     exact⟨a,o,by rw[My E,q2x];calc A,B,h⟩
   .let⟨v,A,h⟩:=S.sl i y e
    exact⟨v,A,h.ext ex⟩
  calc⟨ex,sr,?_⟩;let N:=P.res
  cases res with
  |p d=>exact N
  |w a=>exact N
  |u t fs=>exact N
  |n ds =>
   let⟨c,us,rfl,n1,n2,n3,n4,n5⟩:=N;calc⟨c,us,rfl,n1,n2,n3,n4,?_⟩;ext ⟨l,D,A,B⟩;rcases Q l D c A B with⟨z,_⟩|⟨_,J,L⟩
   .let⟨o,y,_⟩:=I c z
    rw[n1] at y;cases y
   .calc n5 ⟨_,_,J,L⟩
theorem PW{xs:-DV}{vs:-V}{r:-DV×-(Nat×OV)}{es:-(Nat×OV)}{G:GK}{n:Nat}{Q:VK}{E:XK}{K:RK->-OV->-OV->Prop}(S:SR F ad δ σ H)(V:dG F ad xs vs)(hn:↑vs=n)(m:passes δ.mu xs 0=ζ r)(he:sj δ.mu es)(o:d6 (r.2++es)=θ)(g:G r.1 ((r.2++es).map (·.2)) K)
  (i:∀res e d v F' f H',K res e d->Ext F ad δ.mu H F' f (b3 δ.mu (r.2++es) e++d.map ζ) H'->SR F' f ⟨δ.sl,b3 δ.mu (r.2++es) e++d.map ζ⟩ σ H'->oN F' H H' f (b3 δ.mu (r.2++es) e++d.map ζ) v res->Q v H'):kL G n vs H Q E:=by
 let⟨p,_,q,l⟩:=PT S V m he o;calc⟨hn,F,p,r.1,(r.2++es).map (·.2),K,q,g,λh e d s v j f k P=>let⟨a,b,c⟩:=l h e d v j f k P;i h e d v j _ k s a b c⟩
end
def ai(f:aH)(c:-(Nat×OV))(K:DV->aH->Prop)(r:RK)(e b:-OV):Prop:=match r with
 |.p d=>K (.p d) ⟨f.sl,b3 f.mu c e++b.map ζ⟩
 |.w a=>K (.w a) ⟨f.sl,b3 f.mu c e++b.map ζ⟩
 |.u t g=>K (.u t g) ⟨f.sl,b3 f.mu c e++b.map ζ⟩
 |.n h=>K (.p (.lst h)) ⟨f.sl,b3 f.mu c e++b.map ζ⟩
def aG(d:aH)(b:-(Nat×OV))(K:DV->aH->Prop)(r:RK)(c a:-OV):Prop:=match r with
 |.n e=>K (.o ↑(b3 d.mu b c++a.map ζ)) ⟨d.sl,b3 d.mu b c++a.map ζ++[ζ (.lst e)]⟩
 |_=>False
def oP(o:Bool)(n:Nat)(G:GK)(xs:-DV)(b:aH)(K:DV->aH->Prop):Prop:=∃a,sj b.mu a/\match passes b.mu xs 0 with
 |some r=>(d6 (r.2++a)=θ/\↑r.1=n)/\G r.1 ((r.2++a).map (·.2)) (if o then aG b (r.2++a) K else ai b (r.2++a) K)
 |none=>False
section
variable{F F1 H H1:Hp}{ad pC:-U}{δ δ1:aH}{σ:St}{K:DV->aH->Prop}{Q:VK}{xs:-DV}{vs:-V}{n:Nat}{G:GK}{E:XK}{o:Bool}
theorem sk(kk:∀x e,K x e->∀v F' f H',Ext F ad δ.mu H F' f e.mu H'->SR F' f e σ H'->eN F' f x v->Q v H')(g:oP o n G xs δ1 K)(i:Ext F ad δ.mu H F1 pC δ1.mu H1)(L:SR F1 pC δ1 σ H1)(I:dG F1 pC xs vs):kL G n vs H1 Q E:=by
 let⟨M,N,g⟩:=g;split at g
 .rename_i r J
  let⟨⟨O,P⟩,g⟩:=g;refine PW L I (by rw[↑I,<-pA J,P]) J N O g λj y k v R z U c l h b=>?_
  cases o with
  |false =>
   cases j with
   |p d=>exact kk _ _ c _ _ _ _ (i.trans l) h b
   |w a=>exact kk _ _ c _ _ _ _ (i.trans l) h b
   |u t S=>exact kk _ _ c _ _ _ _ (i.trans l) h b
   |n s =>
    let⟨a,m,rfl,A,B,q,C,D⟩:=b;calc kk _ _ c _ _ _ _ (i.trans (l.adopt (o:=.lst m) A q)) (h.adopt q B D) ?_;show Is _ (.lst s) _;exact⟨a,m,Y,cw,C.same (c_ q)⟩
  |true =>
   cases j with
   |p d=>exact c.elim
   |w a=>exact c.elim
   |u t S=>exact c.elim
   |n s =>
    let⟨a,m,rfl,A,B,q,C,D⟩:=b;let T:fB R a (.lst s) (.lst m):=⟨m,Y,C⟩;calc kk _ _ c _ _ _ _ (i.trans (l.dU (ov:=.lst s) A h.di)) (h.dU q B D T) ⟨a,?_,Y⟩;let:=h.di;rw[<-show ↑z=↑(b3 δ1.mu (r.2++M) y++k.map ζ) from this,My (B8 _),Xg];rfl
 .calc g.elim
end
def aD(o:Bool)(n:Nat)(G:GK)(b:WA):WE:=λc K=>b c λd a=>oP o n G d a K
def aB(o:Bool)(C:U)(m:R)(n:Nat)(G:GK)(fo:WE)(e:WA):WE:=λf K=>fo f λx b=>(∃(a:U)(k:Nat)(d:-(R×FV)),x=.w a/\b.mu[k]?=ζ (ζ (.ins a C d))/\d.lookup m=η)/\e b λg c=>oP o n G (x::g) c K
def aF(C:U)(n:Nat)(G:GK)(d:WA):WE:=λe K=>d e λf b=>∀a,oP ι n G (.w a::f) ⟨b.sl,b.mu++[ζ (.ins a C [])]⟩ λx c=>x=.p .non/\K (.w a) c
theorem d4.look{a:Type}{R:a->V->Prop}{x:π}:∀{fs:-(π×a)}{ws:-(π×V)},d4 R fs ws->(fs.lookup x=η/\ws.lookup x=η)\/∃f v,fs.lookup x=ζ f/\ws.lookup x=ζ v/\R f v
 |[],b,h=>by let h:b=[]:=h;subst h;exact .inl ⟨Y,Y⟩
 |(y,g)::r,b,⟨v,t,e,c,d⟩=>by
  subst e;rw[Wk,Wk]
  cases q:x==y with
  |true=>exact .inr ⟨_,_,Y,Y,c⟩
  |false=>calc d4.look d
theorem je.v{F:Hp}{a:-U}{v:V}:∀{f:FV},je F f v->eN F a f.v v
 |.p _,h=>h
 |.w _,h=>h
noncomputable def lL(f:R)(v:FV):-(R×FV)->-(R×FV)
 |[]=>[(f,v)]
 |(g,x)::r=>if g=f then(g,v)::r else(g,x)::lL f v r
theorem lY.put{F:Hp}{x:R}{g:FV}{v:V}(a:je F g v):∀{fs:-(R×FV)}{ws:-(R×V)},lY F fs ws->lY F (lL x g fs) (dR x v ws)
 |[],b,h=>by let h:b=[]:=h;subst h;exact⟨v,[],Y,a,Y⟩
 |(y,f)::r,b,⟨u,t,e,d,c⟩=>by
  subst e;unfold lL dR;split
  .exact⟨v,t,Y,a,c⟩
  .calc⟨u,_,Y,d,lY.put a c⟩
def ag(C:U)(x:R)(f:WE):WE:=λd K=>f d λy b=>∃(a:U)(k:Nat)(c:-(R×FV))(v:FV),(y=.w a/\b.mu[k]?=ζ (ζ (.ins a C c))/\c.lookup x=ζ v)/\K v.v b
noncomputable def za:OV->Option U
 |.al a _=>ζ a
 |.ac a _=>ζ a
 |.av a _=>ζ a
 |_=>η
def ah(f:WE):WE:=λd K=>f d λy b=>∃(a:U)(k:Nat)(c:OV),(y=.w a/\b.mu[k]?=ζ (ζ c)/\za c=ζ a)/\K (.o k) b
def toF(x:DV)(b:aH)(K:FV->aH->Prop):Prop:=match x with
 |.p d=>K (.p d) b
 |.w a=>K (.w a) b
 |.o k=>match b.mu[k]? with
  |some (some (.lst e))=>∀a,K (.w a) ⟨b.sl,b.mu.set k (ζ (.al a e))⟩
  |some (some (.dct c))=>∀a,K (.w a) ⟨b.sl,b.mu.set k (ζ (.ac a c))⟩
  |_=>False
 |.u _ _=>False
 |.t _ _=>False
def aE(C:U)(x:R)(f fo:WE):WS:=λK h=>f h λz c=>fo c λy d=>toF z d λg b=>∃(a:U)(k:Nat)(e:-(R×FV)),(y=.w a/\b.mu[k]?=ζ (ζ (.ins a C e))/\↑e<1000)/\K.nx ⟨b.sl,b.mu.set k (ζ (.ins a C (lL x g e)))⟩
section
variable{F H:Hp}{ad:-U}{δ:aH}{σ:St}
theorem ET{H:Hp}{a:U}{o:HO}(h:H a=ζ o):upd H a o=H:=by
 funext b
 by_cases c:b=a
 .subst c;rw[cw,h]
 .rw[bu c]
theorem zb{x:DV}{v:V}{K:FV->aH->Prop}(S:SR F ad δ σ H)(V:eN F ad x v)(h:toF x δ K):∃f b,K f b/\Ext F ad δ.mu H F ad b.mu H/\SR F ad b σ H/\je F f v:=by
 cases x with
 |p d=>exact⟨_,_,h,.refl,S,V⟩
 |w a=>exact⟨_,_,h,.refl,S,V⟩
 |u _ _=>exact h.elim
 |t _ _=>exact h.elim
 |o k =>
  let⟨a,g,rfl⟩:=V;unfold toF at h;dsimp only at h;split at h
  .rename_i i e
   let⟨a',o,j,l,c,rfl,m⟩:=S.mu k _ e;rw[g] at j;cases j;let n:fB F a (.al a i) (.lst c):=⟨Y,c,Y,m⟩;let E:=Ext.put (ov:=.al a i) (o:=.lst c) S e g;let T:=S.put e g n;rw[ET l] at E T;exact⟨_,_,h a,E,T,Y⟩
  .rename_i i e
   let⟨a',o,j,l,c,rfl,m⟩:=S.mu k _ e;rw[g] at j;cases j;let n:fB F a (.ac a i) (.dK c):=⟨Y,c,Y,m⟩;let E:=Ext.put (ov:=.ac a i) (o:=.dK c) S e g;let T:=S.put e g n;rw[ET l] at E T;exact⟨_,_,h a,E,T,Y⟩
  .calc h.elim
theorem uS{k:Nat}{a C:U}{fs:-(R×FV)}(S:SR F ad δ σ H)(h:δ.mu[k]?=ζ (ζ (.ins a C fs))):∃b ws,ad[k]?=ζ a/\H a=ζ (.ins C b ws)/\lY F fs ws:=by
 let⟨g,o,d,e,rfl,b,c,rfl,f⟩:=S.mu k _ h;calc⟨b,c,d,e,f⟩
end
section
variable{X:Cx}{a b o v:J}{f fo fv:WE}{fa:WA}{C:U}{x m:R}{pos pos' apos p:I}{G:GK}{n k:Nat}{g:U}{fd:FuncData}{ps:-R}{e:J}{es:-J}
theorem kf(c:i8 X.K C)(e:dF X.K C x)(he:JE X a (tD f))(g:‹attributeBase a x X.env (eval a X.env)=eval a X.env›):JE X (.Attribute a x pos) (tD (ag C x f)) :=
 (JQ he g).weak λL H Q ⟨F,h,j,K,S,q,k⟩↦⟨F,h,j,_,S,q,λy l m u M n N o d p=>by
  let⟨a,i,O,w,⟨rfl,r,b⟩,s⟩:=m;let⟨t,A,P,B,D⟩:=uS d r;rcases D.look (x:=x) with⟨z,_⟩|⟨f,E,G,I,J⟩
  .rw[z] at b;cases b
  .rw[G] at b;cases b
   calc⟨a,C,t,A,E,p,B,c,e,I,k _ _ s _ _ _ _ o d J.v⟩⟩
theorem mN(he:JE X a (tD f)):JE X a (tD (ah f)) :=
 he.weak λz H Q ⟨F,l,m,K,S,q,k⟩↦⟨F,l,m,_,S,q,λy n p u A r B s e t=>by
  let⟨a,i,g,⟨rfl,v,c⟩,w⟩:=p;let⟨h,o,x,C,d⟩:=e.mu i g v
  let:h=a:=by
   cases g with
   |al b j=>cases c;exact d.1.symm
   |ac b j=>cases c;exact d.1.symm
   |av b j=>cases c;exact d.1.symm
   |lst _=>cases c
   |dct _=>cases c
   |dtt _=>cases c
   |ins _ _ _=>cases c
  subst this
  calc k _ _ w _ _ _ _ s e ⟨h,x,t⟩⟩
theorem oQ[j3](c:i8 X.K C)(p:dF X.K C x)(r:JE X o (tD fo))(s:JE X v (tD fv))(hs:‹swapsWith v (ζ (.Attribute o x pos')) pos.line X.env=pure ι›):JS X (.Assign [.Attribute o x pos'] v pos) (eh (aE C x fv fo)) :=
 (JR r s hs).weak λD σ H ⟨F,t,A,K,S,q,k⟩↦⟨F,t,A,_,S,q,λz b B u E d H1 G I J=>⟨E,d,b,_,I,B,λy L M w N O H2 j P Q=>by
  let⟨g,R,T,U,e,V⟩:=zb P (J.ext j) M;let⟨a,i,W,⟨rfl,f,Y⟩,Z⟩:=T;let⟨h,l,m,e2,n⟩:=uS e f;let oi:fB N a (.ins a C (lL x g W)) (.ins C h (dR x u l)):=⟨rfl,h,_,rfl,lY.put V n⟩
  calc⟨a,C,h,l,Q,e2,c,p,by rw[↑n];calc Y,k.nx _ Z _ _ _ _ (((G.trans j).trans U).trans (Ext.put e f m)) (e.put f m oi)⟩⟩⟩
theorem PX(o:Bool)(c:cG X.prog X.w X.K X.mg X.base fZ k g fd ps (kL G n))(d:bz k X.A)(f:Gl X x)(h:X.mg x=ζ (.ref g))(i:Xz X.K (.ref g)=θ)(j:Binds X.K fd ps [])
  (l:JA X (e::es) (cX fa)) (a: ~~~(cy x)) (he:‹dE X e es›) (b:‹dQ X pos es›) :
  JE X (.Call (.Name x p) (e::es) [] pos) (tD (aD o n G fa)):=(qz c d f h i j .nil mr l a he b).weak λC H Q ⟨F,m,r,K,S,q,s⟩↦⟨F,m,r,_,S,q,λD t u E I v J y z B=>by
   rw[dV];calc sk s u y z B⟩
theorem PY{r:Bool}{E:XK}:∀b H Q,tD (aB r C m n G fo fa) b H Q->vZ C m (kL G n) [] E (tD fo) (cX fa) b H Q:=λb H Q ⟨F,k,l,K,S,q,o⟩=>⟨F,k,l,_,S,q,λy c p u s d R t e g=>by
  let⟨⟨a,i,T,rfl,v,h⟩,w⟩:=p;let⟨A,B,U,D,I⟩:=uS e v;rcases I.look (x:=m) with⟨_,z⟩|⟨f,V,J,W,X⟩
  .refine⟨a,A,B,g,D,z,s,d,c,_,e,w,λY L M Z F2 N H2 j O P=>?_⟩
   rw[dV];exact sk o M (t.trans j) O ⟨_,_,rfl,g.ext j,P⟩
  .rw[J] at h;cases h⟩
theorem PZ {pl:Sem Bool} (r:Bool) (c:i8 X.K C) (d:Meth X.K C m g) (h:cG X.prog X.w X.K X.mg X.base fZ k g fd ps (kL G n)) (i:bz k X.A) (j:Binds X.K fd ps []) (l:JE X o (tD fo)) (p:JA X (e :: es) (cX fa))
  (a:‹dE X e es›) (b:‹dQ X pos es›)
  (q:‹eval (.Call (.Attribute o m apos) (e :: es) [] pos) X.env=(do
   let ov <- eval o X.env
   standAt apos.atName
   let (f,first) <- holding [ov] (getMethod ov m pl)
   callWith pos f first (backTo pos (starEach (e :: es) X.env)) (backToKw pos (keywordEach [] X.env)))›) :
  JE X (.Call (.Attribute o m apos) (e :: es) [] pos) (tD (aB r C m n G fo fa)):=(J0 l c d h i j .nil mr p a b q).weak PY
theorem P0 {pl:Sem Bool} (r:Bool) (c:i8 X.K C) (j:Meth X.K C m g) (l:cG X.prog X.w X.K X.mg X.base fZ k g fd ps (kL G n)) (p:bz k X.A) (s:Binds X.K fd ps []) (t:JE X o (tD fo))
  (v:‹eval (.Call (.Attribute o m apos) [] [] pos) X.env=(do
   let ov <- eval o X.env
   standAt apos.atName
   let (f,first) <- holding [ov] (getMethod ov m pl)
   callWith pos f first (backTo pos (starEach [] X.env)) (backToKw pos (keywordEach [] X.env)))›) :
  JE X (.Call (.Attribute o m apos) [] [] pos) (tD (aB r C m n G fo ae)):=(J6 t c j l p s .nil mr v).weak λV H Q ⟨F,B,D,K,S,q,E⟩↦⟨F,B,D,_,S,q,λy b I u W J Y L d e=>by
  let⟨⟨a,i,Z,rfl,M,h⟩,N⟩:=I;let⟨O,P,e1,R,T⟩:=uS d M;rcases T.look (x:=m) with⟨_,z⟩ | ⟨f,w',U,z2,z3⟩
  .exact⟨a,O,P,e,R,z,sk (xs:=[.w a]) (vs:=[u]) E (show oP r n G [.w a] b K from N) L d ⟨_,_,rfl,e,rfl⟩⟩
  .rw[U] at h;cases h⟩
theorem P5{F H l f:Hp}{m g:-U}{q b:aH}{r:St}{K:DV->aH->Prop}{Q:VK}{E:XK}{xs:-DV}{vs:-V}(kk:∀x c,K x c->∀v F' d H',Ext F m q.mu H F' d c.mu H'->SR F' d c r H'->eN F' d x v->Q v H')
  (B:∀a,oP ι n G (.w a::xs) ⟨b.sl,b.mu++[ζ (.ins a C [])]⟩ λx i=>x=.p .non/\K (.w a) i) (D:Ext F m q.mu H l g b.mu f) (s:SR l g b r f) (I:dG l g xs vs) {x e:U} (nx:f x=η) (j:f e=η) (J:e≠x) :
  kL G n (.ref x::vs) (upd (upd f e (.own x)) x (.ins C e [])) (λv H2=>v=.non/\Q (.ref x) H2) E:=by
 let t:=s.al (c_ (o:=.own x) j);let u:=Ext.al s (c_ (o:=.own x) j);let k:upd f e (.own x) x=η:=by rw[bu λz=>J z.symm];exact nx
 let L:fB (Nw l f (upd f e (.own x))) x (.ins x C []) (.ins C e []):=⟨Y,e,[],Y,Y⟩;let M:=t.own k L;let A:=Ext.own (o:=.ins C e []) (ov:=.ins x C []) t k;calc sk (K:=λy i=>y=.p .non/\K (.w x) i) (λy c h v N d O X T V=>?_) (B x) ((D.trans u).trans A) M ⟨_,_,Y,Y,(I.ext u).ext A⟩;let⟨rfl,h⟩:=h;calc⟨V,kk _ _ h _ _ _ _ X T Y⟩
theorem P6(M:Mk X.K C g)(d:cG X.prog X.w X.K X.mg X.base fZ k g fd ps (kL G n))(f:bz (k+1) X.A)(h:Gl X x)(i:X.mg x=ζ (.ref C))(j:Binds X.K fd ps [])
  (l:JA X (e::es) (cX fa)) (a: ~~~(cy x)) (he:‹dE X e es›) (b:‹dQ X pos es›) :
  JE X (.Call (.Name x p) (e::es) [] pos) (tD (aF C n G fa)):=(J8 M d f h i j .nil mr l a he b).weak λE H Q ⟨F,m,o,K,S,q,r⟩↦⟨F,m,o,_,S,q,λI s t J L u N v y z x O B c D=>by
   rw[dV];calc P5 r t v y z B c D⟩
end
end L2
namespace L2
open PySem PySem.Spec PyProof.Rows
section
variable{M:Model}{A:t}{E:bt}{s:ο}{env:u}{outer:-u}{base:Α}{L a C:U}{dx T:Option U}{Q:Unit->ο->Prop}
end
section
variable{X:Cx}{P:ψ}{w:l}{K:KC}{mg:R->Option M}{base:Q}{N:-R}{qual:R}{scope:o}{f:U}{cd:M}{A:t}{outer:-u}{s:L}{H:Hp}{E:XK}
end
section
variable{X:Cx}{pins nA:a6}{σ:St}{H:Hp}{s:L}{E:bt}
theorem Inv.so(I:Inv X pins σ H s):Inv {X with pn:=X.pn++pins,xe:=E} [] σ H s :=
 ⟨⟨I.ok.mod,I.ok.kind,I.ok.glob,I.ok.blt,I.ok.above,I.ok.inj,I.ok.has,I.ok.mY,I.ok.hd,I.ok.frames,I.ok.o6,I.ok.sY,I.ok.bs,I.ok.k_,I.ok.iY,I.ok.kh,I.ok.fj,I.ok.lT⟩,I.os,I.bare,I.base,I.loc,I.cell,I.free,I.dB,λp a=>I.pin p a⁻¹,I.bg,I.len⟩
theorem Inv.kg(I:Inv {X with pn:=X.pn++pins,xe:=E} nA σ H s):Inv X pins σ H s :=
 ⟨⟨I.ok.mod,I.ok.kind,I.ok.glob,I.ok.blt,I.ok.above,I.ok.inj,I.ok.has,I.ok.mY,I.ok.hd,I.ok.frames,I.ok.o6,I.ok.sY,I.ok.bs,I.ok.k_,I.ok.iY,I.ok.kh,I.ok.fj,I.ok.lT⟩,I.os,I.bare,I.base,I.loc,I.cell,I.free,I.dB,λp a=>I.pin p (XC _ a),I.bg,I.len⟩
end
section
variable{X:Cx}{body EU:-y}{b0:y}{x n:R}{p1 p2 pos:I}{L:U}{i:Nat}{tb:XK->TS}{th:TS}
end
variable[a9]
section
variable{X:Cx}{body:-y}{h0:ExceptHandler}{hs:-ExceptHandler}{pos:I}
theorem P7{t:TS}(i:∀pn,ee {X with pn:=pn,xe:=λ_ _=>False} body t):JS X (.Try body (h0::hs) [] [] pos) t:=by
 calc⟨?_⟩;ext d s j H D I h;calc wpAny_Try_except ?_;refine XZ (i (X.pn++d) [] s j H D I.so h) (λf k g=>?_) (λe k z=>z.elim)
 cases f with
 |next =>
  let⟨a,b,c,q⟩:=g;exact Zw ⟨a,b,c.kg,q⟩
 |brk=>let⟨a,b,c,q⟩:=g;exact⟨a,b,c.kg,q⟩
 |cont=>let⟨a,b,c,q⟩:=g;exact⟨a,b,c.kg,q⟩
 |ret u=>let⟨v,a,b,c,r,q⟩:=g;calc⟨v,a,b,c.kg,r,q⟩
theorem P8[j3]{G:WS}(a:∀pn,ee {X with pn:=pn,xe:=λ_ _=>False} body (eh G)):JS X (.Try body (h0::hs) [] [] pos) (eh G):=P7 a
end
noncomputable def kM{a:Type}(kvs:-(Key×a))(k:Key):-(Key×a):=kvs.filter λb=>S (b.1≠k)
omit [a9] in
theorem d4.drop {α:Type} {R:α->V->Prop} (k:Key):∀{EV:-(Key×α)}{ws:-(Key×V)},d4 R EV ws->d4 R (kM EV k) (ni ws k)
 |[],_,h=>by let h:_=[]:=h;subst h;rfl
 |kd::r,_,⟨v,t,e,h1,h2⟩=>by
  subst e;unfold kM ni;rw[XA,XA];split
  .exact⟨v,_,Y,h1,h2.drop k⟩
  .calc h2.drop k
def aR(fo e:WE):WE:=λf K=>fo f λx b=>ak x b λ_ _ _=>e b λy a=>ar y λi=>ak x a λk B c=>match cL c (.inl i) with
 |some d=>K (.p d) ⟨a.sl,a.mu.set k (ζ (B (kM c (.inl i))))⟩
 |none=>False
def aj(x:R)(f:WE):WE:=λd K=>f d λy b=>∃(a:U)(k:Nat)(c:-(Key×FV))(v:FV),(y=.w a/\b.mu[k]?=ζ (ζ (.av a c))/\cL c (.inr x)=ζ v)/\K v.v b
def aP(x:R)(f fo:WE):WS:=λK h=>f h λz d=>fo d λy e=>toF z e λg b=>∃(a:U)(k:Nat)(c:-(Key×FV)),(y=.w a/\b.mu[k]?=ζ (ζ (.av a c))/\↑c<1000)/\K.nx ⟨b.sl,b.mu.set k (ζ (.av a (putD c (.inr x) g)))⟩
def aQ:-(R×WE)->aH->(-(Key×FV)->aH->Prop)->Prop
 |[],a,K=>K [] a
 |(x,f)::r,a,K=>f a λy b=>toF y b λg c=>aQ r c λd e=>K ((.inr x,g)::d) e
def aS(es:-(R×WE)):WE:=λd K=>aQ es ⟨d.sl,d.mu++[ζ (.dct [])]⟩ λc b=>(b.mu[↑d.mu]?=ζ (ζ (.dct []))/\↑c<=15)/\∀a,K (.w a) ⟨b.sl,b.mu.set ↑d.mu (ζ (.av a (c.foldl (λe f=>putD e f.1 f.2) [])))⟩
section
variable{F H:Hp}{ad:-U}{δ:aH}{σ:St}
theorem EW{k:Nat}{a:U}{kvs:-(Key×FV)}(S:SR F ad δ σ H)(h:δ.mu[k]?=ζ (ζ (.av a kvs))):∃ws,ad[k]?=ζ a/\H a=ζ (.dK ws)/\lY F kvs ws:=by
 let⟨f,o,c,d,rfl,b,rfl,e⟩:=S.mu k _ h;calc⟨b,c,d,e⟩
variable{X:Cx}{o i e v:J}{fo fi fv f:WE}{pos apos:I}{x:R}
theorem P9(C:JE X o (tD fo))(D:JE X i (tD fi))(m:M1 X o "pop" apos i pos:=by calc⟨rfl,rfl,rfl,rfl⟩):JE X (.Call (.Attribute o "pop" apos) [i] [] pos) (tD (aR fo fi)) :=
 (Lw C D m).weak fun σ H Q ⟨F,E,G,K,S,q,k⟩=>⟨F,E,G,_,S,q,λx f I v J g H1 L n p=>by
  let⟨k0,B,M,a,N,rfl,O,rfl,e1,P,i1,m1,R⟩:=rT n p I;calc⟨a,rfl,.inl ⟨N,.inl P⟩,J,g,f,_,n,O,λy T U u V W H2 r h Y=>?_⟩;let⟨i,rfl,Z⟩:=ym Y U;let⟨k1,B',s,b,c,ek,e,eb,t,f2,w,z,j⟩:=rT h (p.ext r) Z;cases ek
  cases eb
  rcases w.val (.inl i) with⟨l,A⟩|⟨d,v,l,A,z3⟩
  .rw[l] at e;exact e.elim
  .rw[l] at e
   let oi:=j (F':=V) (us:=ni c (.inl i)) (w.drop (.inl i))
   calc⟨c,.inl i,v,f2,rfl,A,k _ _ e _ _ _ _ ((L.trans r).trans (Ext.put h z t)) (h.put z t oi) z3⟩⟩
theorem jC{c:Nat}{d:Ε}(J:X.A.units+64<cLine)(g:JE X o (tD fo))(hs:n6 (.Constant (.str x) c d):=by ext _ _;rfl):JE X (.Subscript o (.Constant (.str x) c d) pos) (tD (aj x fo)) :=
 (Ll ⋯ g sZ hs).weak λL H Q ⟨F,h,j,K,S,q,k⟩↦⟨F,h,j,_,S,q,λy l m v M n N p e r=>by
  let⟨a,i,s,w,⟨rfl,t,b⟩,u⟩:=m;let⟨O,P,B,C⟩:=EW e t;rcases C.val (.inr x) with⟨z,_⟩|⟨f,D,E,G,I⟩
  .rw[z] at b;cases b
  .rw[E] at b;cases b
   calc⟨a,D,r,by rw[<-G];calc gL.k (k:=q0S x) B,k _ _ u _ _ _ _ p e I.v⟩⟩
theorem zc[j3]{j:Nat}{l b:Ε}(hu:X.A.units+64<cLine)(r:JE X o (tD fo))(s:JE X v (tD fv))(hs:‹swapsWith v (ζ (.Subscript o (.Constant (.str x) j l) b)) pos.line X.env=pure ι›):JS X (.Assign [.Subscript o (.Constant (.str x) j l) b] v pos) (eh (aP x fv fo)) :=
 (Cr ⋯ r sZ s hs).weak λD σ H ⟨F,t,B,K,S,q,k⟩↦⟨F,t,B,_,S,q,λz c C u E d H1 G I J=>⟨E,d,c,_,I,C,λy L M w N O H2 m P Q=>by
  let⟨g,R,T,U,e,V⟩:=zb P (J.ext m) M;let⟨a,i,f,⟨rfl,h,W⟩,Y⟩:=T;let⟨Z,n,e2,p⟩:=EW e h;let oi:fB N a (.av a (putD f (.inr x) g)) (.dK (putK Z (.inr x) u)):=⟨rfl,_,rfl,d4.put p V⟩
  calc⟨a,_,Q,ky.k (k:=q0S x) e2 (kW (by rw[↑p];calc Xc W)),k.nx _ Y _ _ _ _ (((G.trans m).trans U).trans (Ext.put e h n)) (e.put h n oi)⟩⟩⟩
structure uT(X:Cx)(pos:I)(keys:-(Option J))(values:-J)(es:-(R×WE)):Prop where
 sq:∃sq,qV X pos keys values sq/\∀σ H (Q:-(V×V)->Hp->Prop) F ad δ K,SR F ad δ σ H->aQ es δ K →
  (∀kvs δ',K kvs δ'->∀ws F' bV H',Ext F ad δ.mu H F' bV δ'.mu H'->SR F' bV δ' σ H'->lY F' kvs ws->Q (ws.map λkv=>(kV kv.1,kv.2)) H')->tM sq σ H Q
theorem P_{pos:I}:uT X pos [] [] []:=⟨[],Lo,λa H Q F b c K S q k=>k _ _ q [] _ _ _ .refl S Y⟩
theorem uU{d:Nat}{e:Ε}{ks:-(Option υ)}{vs:-υ}{es:-(π×WE)}(h:JE X v (tD f))(i:uT X pos ks vs es):uT X pos (ζ (.Constant (.str x) d e)::ks) (v::vs) ((x,f)::es):=by
 let⟨j,l,m⟩:=i.sq;calc⟨_,Lp sZ h l,λn H Q F o p K S q k=>?_⟩;calc⟨F,o,p,_,S,q,λy r s u P t w z A B=>?_⟩;let⟨g,a,C,D,E,G⟩:=zb A B s;calc m n w _ _ _ a _ E C λI J L b R M T c N O=>?_;exact k _ _ L ((.inr x,u)::b) _ _ _ ((z.trans D).trans c) N ⟨u,b,Y,je.same c.same _ _ G,O⟩
omit [a9] in
theorem d4.merge {α:Type} {R:α->V->Prop}:∀{more:-(Key×α)}{rs:-(Key×V)}{kvs:-(Key×α)}{ws:-(Key×V)},d4 R more rs->d4 R kvs ws->d4 R (more.foldl (λacc kv=>putD acc kv.1 kv.2) kvs) (n7 ws rs)
 |[],_,_,_,h,q=>by let h:_=[]:=h;subst h;exact q
 |kd::r,_,kvs,ws,⟨v,t,e,h1,h2⟩,q=>by
  subst e;let:=d4.merge (more:=r) (rs:=t) (kvs:=putD kvs kd.1 kd.2) (ws:=putK ws kd.1 v) h2 (d4.put q h1);calc this
theorem Qa{keys:-(Option υ)}{a:-υ}{es:-(π×WE)}(h:uT X pos keys a es)(b:‹keys.all (·.isSome)=θ›)(v:‹↑keys=↑a›)(w:keys≠[]:=by simp)(c:↑keys<=15:=by simp):JE X (.Dict keys a pos) (tD (aS es)):=by
 let⟨x,y,z⟩:=h.sq;calc(Lr y b v w c).weak ?_;ext A H Q ⟨F,l,B,K,S,q,k⟩ p j;let C:fB F p (.dct []) (.dK []):=⟨[],Y,Y⟩;let D:(l++[p])[↑B.mu]?=ζ p:=by rw[<-S.di,My (B8 _),Xg];rfl
 calc z A _ _ F (l++[p]) _ _ (S.own j C) q ?_;ext d E ⟨⟨f,I⟩,J⟩ m n G R r e s;let g:=r.pre _ _ D;let⟨p',o,t,L,M,rfl,N⟩:=e.mu _ _ f;rw[g] at t;cases t;let O:M=[]:=N;subst O;let P:fB n p (.av p (d.foldl (λi u=>putD i u.1 u.2) [])) (.dK (n7 [] m)):=⟨Y,_,Y,s.merge (show d4 (je n) [] [] from Y)⟩;calc⟨L,m,Y,by rw[↑s];calc I,?_⟩;calc k _ _ (J p) _ _ _ _ (((Ext.own S j).trans r).trans (Ext.put e f g)) (e.put f g P) Y
end
end L2
namespace LJ
open PySem L2
variable[a9]
noncomputable def l8(x:Option Int×Int):D:=.tup [.int x.2,oD x.1]
noncomputable def cN:Nat->-gH->-(Key×D)
 |_,[]=>[]
 |i,none::r=>cN (i+1) r
 |i,some x::r=>(.inl (i:Int),l8 x)::cN (i+1) r
theorem zd:∀{i:Nat}{q:-gH},cN i (q++[η])=cN i q
 |i,[]=>Y
 |i,none::r=>zd (i:=i+1) (q:=r)
 |i,some x::r=>congrArg (_ :: ·) (zd (i:=i+1) (q:=r))
theorem ze{x:Option Int×Int}:∀{i:Nat}{q:-gH},cN i (q++[ζ x])=cN i q++[(.inl ((i+↑q:Nat):Int),l8 x)]
 |i,[]=>Y
 |i,none::r=>by
  let:=ze (x:=x) (i:=i+1) (q:=r);rw[show i+1+↑r=i+↑(η::r:-gH) by rw[wq];symm] at this;exact this
 |i,some y::r=>by
  let:=ze (x:=x) (i:=i+1) (q:=r);rw[show i+1+↑r=i+↑(ζ y::r:-gH) by rw[wq];symm] at this;calc congrArg (_ :: ·) this
theorem sv:∀{i:Nat}{q:-gH}{a:Key×D},a∈cN i q->∃j:Nat,a.1=.inl (j:Int)/\i<=j/\j<i+↑q
 |i,[],a,h=>nomatch h
 |i,none::r,a,h=>by
  let⟨j,e,b,c⟩:=sv (i:=i+1) (q:=r) h;exact⟨j,e,⋯,by rw[wq];symm⟩
 |i,some x::r,a,h=>by
  rcases Uw.mp h with rfl|h
  .exact⟨i,Y,B8 _,by rw[wq];symm⟩
  .let⟨j,e,b,c⟩:=sv (i:=i+1) (q:=r) h
   calc⟨j,e,⋯,by rw[wq];symm⟩
theorem Qb{q:-gH}{x:Option Int×Int}:putD (cN 0 q) (.inl (↑q:Int)) (l8 x)=cN 0 (q++[ζ x]):=by
 unfold putD;rw[VB ?_,ze,VI];ext h;let⟨c,b,a⟩:=q1k.mp h;let⟨j,e,_,d⟩:=sv b;rw[e] at a;let:=Zf (W9 a);symm
theorem zf:∀{i:Nat}{q:-gH},↑(cN i q)<=↑q
 |i,[]=>B8 _
 |i,none::r=>q21 (zf (i:=i+1) (q:=r))
 |i,some x::r=>Z5 (zf (i:=i+1) (q:=r))
theorem zg{x:Option Int×Int}:∀{i j:Nat}{q:-gH},q[j]?=ζ (ζ x)->cL (cN i q) (.inl ((i+j:Nat):Int))=ζ (l8 x)
 |i,j,[],h=>by simp at h
 |i,0,none::r,h=>by simp at h
 |i,0,some y::r,h=>by
  cases(show ζ y=ζ x by simpa using h)
  unfold cL cN;rw[ZV (by calc VG Y)];rfl
 |i,j+1,none::r,h=>by
  let:=zg (x:=x) (i:=i+1) (j:=j) (q:=r) h⁻¹;rw[show i+1+j=i+(j+1) by symm] at this;exact this
 |i,j+1,some y::r,h=>by
  let:=zg (x:=x) (i:=i+1) (j:=j) (q:=r) h⁻¹;rw[show i+1+j=i+(j+1) by symm] at this;unfold cL cN;rw[ZW]
  .exact this
  .ext z
   let:=Zf (W9 z);symm
theorem EX{kvs:-(Key×D)}{k:Key}(h:∀a∈kvs,a.1≠k):kM kvs k=kvs:=by
 unfold kM;calc q2b.mpr λa b=>VG (h a b)
theorem zh:∀{i j:Nat}{q:-gH},kM (cN i q) (.inl ((i+j:Nat):Int))=cN i (q.set j η)
 |i,j,[]=>Y
 |i,0,none::r=>by
  show kM (cN (i+1) r) _=cN (i+1) r;calc EX λc a e=>?_;let⟨l,b,d,_⟩:=sv a;rw[b] at e;let:=Zf e;symm
 |i,0,some y::r=>by
  show kM ((.inl (i:Int),l8 y)::cN (i+1) r) _=cN (i+1) r
  let e:kM (cN (i+1) r) (.inl ((i+0:Nat):Int))=cN (i+1) r:=EX λc a e=>by
   let⟨l,b,d,_⟩:=sv a;rw[b] at e;let:=Zf e;symm
  unfold kM at e ⊢;rw[Y5,e];ext z;exact W9 z Y
 |i,j+1,none::r=>by
  let:=zh (i:=i+1) (j:=j) (q:=r);rw[show i+1+j=i+(j+1) by symm] at this;exact this
 |i,j+1,some y::r=>by
  let:=zh (i:=i+1) (j:=j) (q:=r);rw[show i+1+j=i+(j+1) by symm] at this;show kM ((.inl (i:Int),l8 y)::cN (i+1) r) _=(.inl (i:Int),l8 y)::cN (i+1) (r.set j η);unfold kM at this ⊢;rw[Y4,this];calc VG λz=>?_;let:=Zf z;symm
noncomputable def lM(ws:-Wy)(g:-Int)(a:Int):-Int:=(bK ↑ws).filter λn=>(S (a=(aO ws n).1)||S (a=(aO ws n).2.1))&&S (n∉g)
noncomputable def jk(ws:-Wy)(g l:-Int):-Int:=l.flatMap (lM ws g)
theorem gy{ws:-Wy}{g l:-Int}{n:Int}:n∈jk ws g l↔((0<=n/\n<(↑ws:Int))/\n∉g)/\((aO ws n).1∈l\/(aO ws n).2.1∈l):=by
 unfold jk lM;rw[q28]
 constructor
 .ext ⟨d,b,a⟩
  rw[Wb,bL,Xn,q0f,VZ,VZ,VZ] at a;let⟨a,c,e⟩:=a;calc⟨⟨a,e⟩,?_⟩;rcases c with rfl|rfl
  .exact .inl b
  .exact .inr b
 .ext ⟨⟨b,a⟩,c⟩
  rcases c with h|h
  .refine⟨_,h,?_⟩
   rw[Wb,bL,Xn,q0f,VZ,VZ,VZ];exact⟨b,.inl Y,a⟩
  .refine⟨_,h,?_⟩
   rw[Wb,bL,Xn,q0f,VZ,VZ,VZ];calc⟨b,.inr Y,a⟩
section
variable{m:Int}{ws:-Wy}{N:Nt}{h:Int}
theorem Qc(W:aI m ws)(O:dc m ws N):(gv (jk ws (N.p++N.k) (a5 m ws N.p h))).filter (λn=>gs (a5 m ws N.p h) (aO ws n))=dJ ws (a5 m ws N.p h):=by
 calc ka ((nC _).filter _) (PR _ _) λn=>?_;rw[Wb,bB,gy,gx]
 constructor
 .ext ⟨⟨⟨a,_⟩,_⟩,b⟩;exact⟨a,b⟩
 .ext ⟨a,b⟩
  let e:∀z:(aO ws n).1∈a5 m ws N.p h↔(aO ws n).2.1∈a5 m ws N.p h,False:=λz=>by rw[EI z] at b;cases b
  refine⟨⟨⟨a,λz=>?_⟩,?_⟩,b⟩
  .rcases VY.mp z with z|z
   .exact e (EH W a (PQ z))
   .exact e (EH W a (O.ju n z))
  .by_cases c:(aO ws n).1∈a5 m ws N.p h
   .exact .inl c
   .by_cases d:(aO ws n).2.1∈a5 m ws N.p h
    .exact .inr d
    .calc (e ⟨λz=>absurd z c,λz=>absurd z d⟩).elim
theorem Qd(W:aI m ws)(O:dc m ws N){i:-Int}(o:i.Perm (dJ ws (a5 m ws N.p h))):sortI (N.k++(gv (jk ws (N.p++N.k) (a5 m ws N.p h))).filter λn=>S (n∉i))=oJ m ws N.p N.k h:=by
 let l:∀n,n∈(gv (jk ws (N.p++N.k) (a5 m ws N.p h))).filter (λn=>S (n∉i))↔((0<=n/\n<(↑ws:Int))/\n∉N.p++N.k)/\((aO ws n).1∈a5 m ws N.p h/\(aO ws n).2.1∈a5 m ws N.p h):=λn=>by
  rw[Wb,bB,gy,VZ,o.mem_iff,gx]
  constructor
  .ext ⟨⟨f,d⟩,g⟩
   refine⟨f,?_⟩
   let:gs (a5 m ws N.p h) (aO ws n)=ι:=by
    cases q:gs (a5 m ws N.p h) (aO ws n) with
    |false=>rfl
    |true=>exact absurd ⟨f.1,q⟩ g
   let z:=EJ this;rcases d with d|d
   .exact⟨d,z.mp d⟩
   .exact⟨z.mpr d,d⟩
  .ext ⟨f,d,g⟩
   exact⟨⟨f,.inl d⟩,λz=>by rw[EI ⟨λ_=>g,λ_=>d⟩] at z;cases z.2⟩
 let r:(N.k++(gv (jk ws (N.p++N.k) (a5 m ws N.p h))).filter λn=>S (n∉i)).Nodup:=by
  calc Xr.mpr ⟨O.ku.nd,Up.nd ((nC _).filter _),λa s b t e=>?_⟩;subst e;exact((l a).mp t).1.2 (V6 _ s)
 unfold oJ;calc ka (sg r) (nC _) λn=>?_;rw[(sortI_perm _).mem_iff,bB,VY,VY,l n,fX]
 constructor
 .ext (z|⟨⟨f,d⟩,g,j⟩)
  .exact .inl z
  .exact .inr ⟨⟨f,g,j⟩,λz=>d (XC _ z)⟩
 .ext (z|⟨⟨f,g,j⟩,d⟩)
  .exact .inl z
  .by_cases c:n∈N.k
   .exact .inl c
   .calc .inr ⟨⟨f,λz=>(VY.mp z).elim d c⟩,g,j⟩
theorem Qe(W:aI m ws){l b:-Int}(p:b.Perm (dJ ws l))(c:(b.map (fu ws)).Pairwise kle):b.head?=fW ws l:=by
 unfold fW
 cases b with
 |nil=>rw[List.nil_perm.mp p,VD Y];rfl
 |cons a r =>
  let d:dJ ws l≠[]:=λz=>by rw[z] at p;exact absurd p.length_eq (by simp)
  rw[VB d];rw[Uz,Xt] at c;let:=yM W pL (p.mem_iff.mp Ux) λe f=>(Uw.mp (p.mem_iff.mpr f)).elim (λz=>by rw[z];calc kle_refl _) λz=>c.1 _ (Zp z);rw[this];rfl
theorem zi{b:Type}(p q:b->Bool):∀l:-b,↑(l.filter λx=>p x||q x)+↑(l.filter λx=>p x&&q x)=↑(l.filter p)+↑(l.filter q)
 |[]=>Y
 |a::r=>by
  let c:=zi p q r;rw[XA,XA,XA,XA];cases d:p a<;>cases e:q a<;>simp<;>symm
theorem zj{a:Type}(p:a->Bool)(l:-a)(h:∀x∈l,p x=ι):↑(l.filter p)=0:=by
 rw[XQ,q1z];calcλx b z=>by rw[h x b] at z;cases z
theorem zk(f:Int->Int)(us:-Int):∀{l:-Int},l.Nodup->(l.map λa=>↑(us.filter λn=>S (a=f n))).sum=↑(us.filter λn=>S (f n∈l))
 |[],_=>by
  rw[V8,List.sum_nil];exact(zj _ _ λx _=>by simp).symm
 |a::r,b=>by
  let⟨d,e⟩:=Yx.mp b;rw[Uz,q4n,zk f us e];let:=zi (λn=>S (a=f n)) (λn=>S (f n∈r)) us
  rw[zj (λn=>S (a=f n)&&S (f n∈r)) us (λx _=>by
   by_cases c:a=f x
   .rw[VG c,VC (by rw[<-c];calc d)];rfl
   .rw[VC c];rfl)] at this
  rw[q49] at this;rw[<-this];congr 2;funext n;rw[<-Bool.decide_or];congr 1;rw[Uw,@eq_comm _ a (f n)]
theorem Qf(W:aI m ws)(p k l:-Int)(e:l.Nodup):↑(jk ws (p++k) l)=↑(lI ws (fw ws p k) l):=by
 let d:∀a,↑(lM ws (p++k) a)=↑((fw ws p k).filter λn=>S (a=(aO ws n).1))+↑((fw ws p k).filter λn=>S (a=(aO ws n).2.1)):=λa=>by
  let:=zi (λn=>S (a=(aO ws n).1)) (λn=>S (a=(aO ws n).2.1)) (fw ws p k);rw[zj (λn=>S (a=(aO ws n).1)&&S (a=(aO ws n).2.1)) _ (λx b=>?_)] at this
  .rw[<-this,q49]
   unfold lM fw;rw[List.filter_filter]
  .let b:=uu (Wb.mp b).1
   let⟨y,f,_,_,i,j,d,g,_,_,u⟩:=mE W b.1 b.2;let h:aO ws x=y:=f;rw[h,d,g]
   by_cases c:a=i
   .rw[VG c,VC ⋯];rfl
   .rw[VC c];rfl
 unfold jk lI lH;rw[List.length_flatMap,YO,qG,Yd,Yd,nW,nW];let o:=zk (λn=>(aO ws n).1) (fw ws p k) e;let q:=zk (λn=>(aO ws n).2.1) (fw ws p k) e
 let t:∀l:-Int,(l.map λa=>↑(lM ws (p++k) a)).sum=(l.map λa=>↑((fw ws p k).filter λn=>S (a=(aO ws n).1))).sum+(l.map λa=>↑((fw ws p k).filter λn=>S (a=(aO ws n).2.1))).sum:=λl=>by
  induction l with
  |nil=>rfl
  |cons a r s =>
   erw[Uz,q4n];rw[s,d a];symm
 rw[t l,o,q];rfl
theorem Qg(W:aI m ws)(O:dc m ws N)(hs:h∉N.s):(N.s++a5 m ws N.p h).Nodup:=by
 calc Xr.mpr ⟨O.su.nd,(oM ..).nd,λa c b d e=>?_⟩;subst e;calc hs (yY O.pn O.sc ((jB W).mp d).2.symm c)
theorem Qh{p:-Int}(u:Up p){w:Int}(d:w∉p):(p++[w]).Nodup:=Xr.mpr ⟨u.nd,by simp,λa f b c e=>by
 rw[Wm] at c
 subst e;subst c;calc d f⟩
end
section
variable{m:Int}{ws:-Wy}{N:Nt}
theorem Qi(W:aI m ws){p:-Int}{a b:Int}(h:b∈a5 m ws p a):a5 m ws p b=a5 m ws p a:=by
 calc ka (oM ..) (oM ..) λx=>?_;rw[jB W,jB W];let c:=((jB W).mp h).2;calc and_congr_right λ_=>⟨λz=>c.trans z,λz=>c.symm.trans z⟩
def kN(m:Int)(ws:-Wy)(N:Nt):Prop:=∀h∈N.s,dJ ws (a5 m ws N.p h)=[]
theorem kN.step(W:aI m ws)(O:dc m ws N)(S:kN m ws N){e:cM}(he:gW m N e):kN m ws (N.step m ws e):=by
 let a:=dc.step W O he
 cases e with
 |wake h =>
  unfold Nt.step at a ⊢;dsimp only at a ⊢;split<;>exact S
 |fin i =>
  let⟨d,h,f⟩:=he;let⟨k,l,g⟩:=O.q i d h f;unfold Nt.step at a ⊢;dsimp only at a ⊢;rw[f] at a ⊢;dsimp only at a ⊢;unfold dA at a ⊢
  cases d with
  |none =>
   dsimp only at a ⊢;split
   .exact S
   .ext x b
    rcases VY.mp (bB.mp b) with z|z
    .exact S x z
    .show dJ ws (a5 m ws N.p x)=[]
     rw[Qi W z];exact g Y
  |some w =>
   dsimp only at a ⊢;split
   .exact S
   .rename_i c
    rw[VB c] at a;ext x b;let e:=S x b;show dJ ws (a5 m ws (gv (N.p++[w])) x)=[];rw[yZ W a.pn (λy j=>bB.mpr (XC _ j)) (O.sn x b) e];calc e
theorem kN.run(W:aI m ws):∀{N:Nt}{es:-cM},dc m ws N->kN m ws N->iH m ws N es->kN m ws (runN m ws N es)
 |_,[],_,S,_=>S
 |N,e::r,O,S,⟨a,b⟩=>kN.run W (N:=N.step m ws e) (es:=r) (dc.step W O a) (kN.step W O S a) b
theorem zm(m:Int)(ws:-Wy):kN m ws cg:=λ_ h=>nomatch h
structure fh(m:Int)(ws:-Wy)(N:Nt)(is:-Nat)(N':Nt):Prop where
 p:∀x,x∈N'.p↔x∈N.p\/∃i∈is,∃h,N.q[i]?=ζ (ζ (ζ x,h))
 k:N'.k=N.k
 s:∀x,x∈N'.s↔x∈N.s\/∃i∈is,∃h,N.q[i]?=ζ (ζ (η,h))/\x∈a5 m ws N.p h
 q:∀j,N'.q[j]?=if j∈is then N.q[j]?.map λ_=>η else N.q[j]?
theorem zo(W:aI m ws):∀{is:-Nat}{N:Nt},dc m ws N->is.Nodup->(∀i∈is,∃fo h,N.q[i]?=ζ (ζ (fo,h)))->iH m ws N (is.map .fin)/\fh m ws N is (runN m ws N (is.map .fin))
 |[],N,O,_,_=>⟨trivial,⟨λx=>⟨.inl,λz=>z.elim id λ⟨_,h,_⟩↦nomatch h⟩,Y,λx=>⟨.inl,λz=>z.elim id λ⟨_,h,_⟩↦nomatch h⟩,λj=>by rw[VB Ww];rfl⟩⟩
 |i::r,N,O,I,F=>by
  let⟨v,J⟩:=Yx.mp I;let⟨b,h,l⟩:=F i Ux;let⟨T,U,V⟩:=O.q i b h l;let G:gW m N (.fin i):=⟨b,h,l⟩;let C:=dc.step W O G
  let y:N.step m ws (.fin i)=⟨(dA m ws N b h).p,(dA m ws N b h).k,(dA m ws N b h).s,N.q.set i η⟩:=by
   unfold Nt.step;dsimp only;rw[l];cases b<;>unfold dA<;>dsimp only<;>split<;>rfl
  let⟨g,t⟩:∃g,g=N.step m ws (.fin i):=⟨_,Y⟩;rw[<-t] at C y;let A:∀j,j≠i->g.q[j]?=N.q[j]?:=λj a=>by rw[y];exact Xi λz=>a z.symm
  let K:g.q[i]?=ζ η:=by rw[y];exact Xf (pa.mp l).1
  let H:∀x,x∈g.p↔x∈N.p\/b=ζ x:=λx=>by
   rw[y]
   cases b with
   |none=>unfold dA;dsimp only;split<;>simp
   |some w =>
    unfold dA;dsimp only;split
    .rename_i c
     exact⟨.inl,λz=>z.elim id λz=>by cases z;calc c⟩
    .show x∈gv (N.p++[w])↔_
     rw[bB,VY,Wm];exact Zi ⟨λz=>by rw[z],λz=>by cases z;rfl⟩
  let L:g.k=N.k:=by
   rw[y];cases b<;>unfold dA<;>dsimp only<;>split<;>rfl
  let M:∀x,x∈g.s↔x∈N.s\/b=η/\x∈a5 m ws N.p h:=λx=>by
   rw[y]
   cases b with
   |some w=>unfold dA;dsimp only;split<;>simp
   |none =>
    unfold dA;dsimp only;split
    .rename_i c
     exact⟨.inl,λz=>z.elim id λz=>yY O.pn O.sc ((jB W).mp z.2).2 c⟩
    .show x∈gv (N.s++a5 m ws N.p h)↔_
     rw[bB,VY];exact Zi ⟨λz=>⟨Y,z⟩,λz=>z.2⟩
  let o:∀f,0<=f/\f<m->dJ ws (a5 m ws N.p f)=[]->a5 m ws g.p f=a5 m ws N.p f:=λf r e=>yZ W C.pn (λx u=>(H x).mpr (.inl u)) r e
  let⟨P,B⟩:=zo W (is:=r) (N:=g) C J λj a=>by
   let n:j≠i:=λz=>v (by rw[<-z];calc a);rw[A j n];exact F j (Uy _ a)
  let Q:runN m ws N ((i::r).map .fin)=runN m ws g (r.map .fin):=by rw[t];rfl
  rw[Q];refine⟨⟨G,by rw[<-t];calc P⟩,⟨λx=>?_,by rw[B.k,L],λx=>?_,λj=>?_⟩⟩
  .rw[B.p,H,or_assoc]
   refine Zi ⟨?_,?_⟩
   .ext (z|⟨j,a,f,e⟩)
    .exact⟨i,Ux,h,by rw[l,z]⟩
    .let n:j≠i:=λz=>v (by rw[<-z];calc a)
     rw[A j n] at e;exact⟨j,Uy _ a,f,e⟩
   .ext ⟨j,a,h',e⟩
    rcases Uw.mp a with rfl|a
    .rw[l] at e;cases e;exact .inl Y
    .let n:j≠i:=λz=>v (by rw[<-z];calc a)
     exact .inr ⟨j,a,h',by rw[A j n];calc e⟩
  .rw[B.s,M,or_assoc]
   refine Zi ⟨?_,?_⟩
   .ext (⟨R,S⟩|⟨j,a,f,e,u⟩)
    .exact⟨i,Ux,h,by rw[l,R],S⟩
    .let n:j≠i:=λz=>v (by rw[<-z];calc a)
     rw[A j n] at e;let⟨D,_,E⟩:=O.q j _ _ e;rw[o f D (E Y)] at u;exact⟨j,Uy _ a,f,e,u⟩
   .ext ⟨j,a,h',e,u⟩
    rcases Uw.mp a with rfl|a
    .rw[l] at e;cases e;exact .inl ⟨Y,u⟩
    .let n:j≠i:=λz=>v (by rw[<-z];calc a)
     let⟨D,_,E⟩:=O.q j _ _ e;exact .inr ⟨j,a,h',by rw[A j n];calc e,by rw[o h' D (E Y)];calc u⟩
  .rw[B.q]
   by_cases c:j=i
   .subst c
    rw[VB v,VD Ux,K,l];rfl
   .rw[A j c]
    by_cases d:j∈r
    .rw[VD d,VD (Uy _ d)]
    .rw[VB d,VB λz=>(Uw.mp z).elim c d]
theorem fh.eq(W:aI m ws){is b:-Nat}{A B:Nt}(e:dc m ws A)(f:dc m ws B)(c:fh m ws N is A)(d:fh m ws N b B)(p:∀i,i∈is↔i∈b):A.p=B.p/\A.k=B.k/\A.s=B.s :=
 ⟨ka e.pu f.pu λx=>by rw[c.p,d.p];calc Zi ⟨λ⟨i,a,r⟩↦⟨i,(p i).mp a,r⟩,λ⟨i,a,r⟩↦⟨i,(p i).mpr a,r⟩⟩,
  c.k.trans d.k.symm,
  ka e.su f.su λx=>by rw[c.s,d.s];calc Zi ⟨λ⟨i,a,r⟩↦⟨i,(p i).mp a,r⟩,λ⟨i,a,r⟩↦⟨i,(p i).mpr a,r⟩⟩⟩
theorem uV:∀{hs:-Int}{N:Nt},(∀h∈hs,0<=h/\h<m)->iH m ws N (hs.map .wake)/\∃k,runN m ws N (hs.map .wake)=⟨N.p,k,N.s,N.q++hs.map λh=>if h∈N.s then η else ζ (fW ws (a5 m ws N.p h),h)⟩
 |[],N,_=>⟨trivial,N.k,by rw[V8,V8,dV];rfl⟩
 |h::r,N,b=>by
  let a:∃k,N.step m ws (.wake h)=⟨N.p,k,N.s,N.q++[if h∈N.s then η else ζ (fW ws (a5 m ws N.p h),h)]⟩:=by
   unfold Nt.step;dsimp only
   by_cases c:h∈N.s
   .rw[VD c,VD c];exact⟨_,Y⟩
   .rw[VB c,VB c];exact⟨_,Y⟩
  let⟨k,a⟩:=a;let⟨e,f,g⟩:=uV (hs:=r) (N:=N.step m ws (.wake h)) λx d=>b x (Uy _ d);calc⟨⟨b h Ux,e⟩,f,?_⟩;show runN m ws (N.step m ws (.wake h)) (r.map .wake)=_;rw[g,a,Uz,X0];rfl
end
end LJ
namespace L2
open PySem PySem.Spec PyProof.Rows
variable[a9]
def aU(x:DV)(c:aH)(K:FV->aH->Prop):Prop:=match x with
 |.w a=>K (.w a) c
 |y=>eg y c λd b=>K (.p d) b
def aw:-DV->aH->(-FV->aH->Prop)->Prop
 |[],a,K=>K [] a
 |x::d,a,K=>aU x a λf b=>aw d b λe c=>K (f::e) c
def aV(t:Bool)(d:WA):WE:=λe K=>d e λf a=>aw f a λc b=>↑c<=1000/\K (.u t c) b
def oR(f g:WE):WE:=λd K=>f d λx a=>g a λy b=>∃t c i v,(x=.u t c/\y=.p (.int i)/\eW c i=ζ v)/\K v.v b
abbrev uW:=-FV->aH->(aH->Prop)->Prop
def aW:uW:=λa b K=>match a with
 |[]=>K b
 |_=>False
def aX(g:WG)(g':uW):uW:=λb c K=>match b with
 |f::r=>g f.v c λa=>g' r a K
 |[]=>False
def aY(n:Nat)(g:uW):WG:=λx b K=>match x with
 |.u true a=>↑a=n/\g a b K
 |_=>False
section
variable{F H:Hp}{ad:-U}{δ:aH}{σ:St}
omit [a9] in
theorem fK.length {F:Hp}:∀{fs:-FV}{us:-V},fK F fs us->↑us=fs.length
 |[],_,h=>by let h:_=[]:=h;rw[h];rfl
 |_::_,_,⟨v,t,e,_,h2⟩=>by rw[e,wq,wq,fK.length h2]
omit [a9] in
theorem fK.get {F:Hp}:∀{fs:-FV}{us:-V}{j:Nat}{f:FV},fK F fs us->fs[j]?=ζ f->∃v,us[j]?=ζ v/\je F f v
 |[],_,j,f,_,e=>by simp at e
 |g::r,_,0,f,⟨v,t,e,h1,h2⟩,q=>by subst e;cases(show ζ g=ζ f by simpa using q);exact⟨v,Y,h1⟩
 |g::r,_,j+1,f,⟨v,t,e,h1,h2⟩,q=>by subst e;simpa using fK.get h2 (show r[j]?=ζ f by simpa using q)
theorem Qj{x:DV}{v:V}{K:FV->aH->Prop}(S:SR F ad δ σ H)(V:eN F ad x v)(h:aU x δ K):∃f b F',K f b/\Ext F ad δ.mu H F' ad b.mu H/\SR F' ad b σ H/\je F' f v:=by
 cases x with
 |w a=>exact⟨_,_,F,h,.refl,S,V⟩
 |p d=>let⟨d,b,e,g,i,j,l⟩:=n_ S V (show eg (.p d) δ (λd c=>K (.p d) c) from h);exact⟨_,_,e,g,i,j,l⟩
 |o k=>let⟨d,b,e,g,i,j,l⟩:=n_ S V (show eg (.o k) δ (λd c=>K (.p d) c) from h);exact⟨_,_,e,g,i,j,l⟩
 |u _ _=>exact h.elim
 |t _ _=>calc h.elim
theorem EY:∀{xs:-DV}{vs:-V}{F:Hp}{b:aH}{K:-FV->aH->Prop},SR F ad b σ H->dG F ad xs vs->aw xs b K->∃fs a F',K fs a/\Ext F ad b.mu H F' ad a.mu H/\SR F' ad a σ H/\fK F' fs vs
 |[],_,F,b,K,S,V,h=>⟨[],b,F,h,.refl,S,V⟩
 |x::u,_,F,b,K,S,⟨v,r,e,j,k⟩,h=>by
  subst e;let⟨f,l,w,m,d,n,o⟩:=Qj S j h;let⟨i,c,p,q,g,s,t⟩:=EY n (k.ext d) m;calc⟨f::i,c,p,q,d.trans g,s,v,r,Y,je.same g.same _ _ o,t⟩
variable{X:Cx}{a b e:J}{es:-J}{f g:WE}{fa:WA}{pos:I}
theorem Qk{j g:Hp}{a:-U}{c:aH}{t:Bool}{K:DV->aH->Prop}{Q:VK}{xs:-DV}{vs:-V}(k:∀x d,K x d->∀v F' f H',Ext F ad δ.mu H F' f d.mu H'->SR F' f d σ H'->eN F' f x v->Q v H')(q:aw xs c λfs h=>fs.length<=1000/\K (.u t fs) h)(r:Ext F ad δ.mu H j a c.mu g)(s:SR j a c σ g)(w:dG j a xs vs):↑vs<=sizeLine/\∀p,g p=η->Q (.ref p) (upd g p (mw t vs)):=by
 let⟨B,h,C,⟨y,z⟩,A,i,m⟩:=EY s w q;calc⟨kY (by rw[↑m];calc y),λp l=>?_⟩;let n:ba g (upd g p (mw t vs)):=c_ l;calc k _ _ z _ _ _ _ ((r.trans A).trans (Ext.al i n)) (i.al n) ?_;rw[Nw.upd i.sub l];calc⟨p,vs,Y,cw,m.same λb o e=>by rw[bu (ed (i.sub b o e) l)];calc e⟩
theorem Ql{a}(b:JA X es (cX fa)):JE X (.Tuple es a pos) (tD (aV θ fa)):=(BB b).weak λl H Q ⟨F,c,d,K,S,q,k⟩ ↦
 ⟨F,c,d,_,S,q,λm e f n o g p h i j=>Qk (t:=true) k f h i j⟩
end
end L2
namespace LJ
open PySem L2 PySem.Spec PySem.W PyProof.Rows
structure Ev where
 P:X
 w:l
 K:KC
 mg:R->Option M
 base:Q
section
variable[a9]
structure Fx(V:Ev)(k:Nat)(x:R)(ps:-R)(n:Nat)(G:GD):Prop where
 ex:∃f fd,Fn V.P V.w V.K V.mg V.base k x ps (lZ G n) f fd
def Dx(V:Ev)(x:R)(st:y):Prop:=∃f a,V.mg x=ζ (.ref f)/\hG V.K x x st f a
def uX(V:Ev)(x:R)(st:y)(T:U)(pos:I)(q:R):Prop:=∃f a,(V.mg x=ζ (.ref f)/\hG V.K x x st f a)/\iG V.mg V.base a T pos q
def Ct(V:Ev)(x:R)(i:Int):Prop:=∃u,V.mg x=ζ u/\RelV (.int i) u
section
variable{X:Cx}{x:R}{ps:-R}{G:GD}{e:J}{es:-J}{fa:WA}{p pos:I}{j k n:Nat}
theorem cS(F:Fx ⟨X.prog,X.w,X.K,X.mg,X.base⟩ j x ps n G)(c:bz k X.A)(d:JA X (e::es) (cX fa))(hj:‹q17 j k=θ›)(f:‹Gl X x›)(a: ~~~(cy x))(he:‹dE X e es›)(b:‹dQ X pos es›):
  JE X (.Call (.Name x p) (e::es) [] pos) (tD (aA n G fa)):=let⟨_,_,F⟩:=F.ex;L9 F.ok (c.mono (X7 hj)) f F.ph F.kp F.bd d a he b
theorem Qm(F:Fx ⟨X.prog,X.w,X.K,X.mg,X.base⟩ j x ps n G)(c:bz k X.A)(d:JA X (e::es) (cX fa))(hj:‹q17 j k=θ›)(f:‹Gl X x›)(a: ~~~(cy x))(he:‹dE X e es›)(b:‹dQ X pos es›):
  JE X (.Call (.Name x p) (e::es) [] pos) (tD (fM n G fa)):=let⟨_,_,F⟩:=F.ex;L_ F.ok (c.mono (X7 hj)) f F.ph F.kp F.bd d a he b
theorem Qn{i:Int}(C:Ct ⟨X.prog,X.w,X.K,X.mg,X.base⟩ x i)(c:‹Gl X x›)(hd: ~~~(cy x)):JE X (.Name x pos) (tD (dC (.int i))):=let⟨_,a,b⟩:=C;LU c a b hd
end
theorem _root_.L2.iG.env{d:R->Option M}{base:Q}{c:FuncData}{T:U}{e:I}{q:R}{a:M}(L:iG d base c T e q)(h:c.code=a):∃b,a=.ref b/\CodeHd base b T:=let⟨b,f,g⟩:=L.code;⟨b,h.symm.trans f,g⟩
noncomputable def Qo:NameKind->Bool
 |.local=>θ
 |.cell=>θ
 |_=>ι
noncomputable def Qp:NameKind->Bool
 |.free=>ι
 |_=>θ
noncomputable def Qq:ScopeKind->Bool
 |.function=>θ
 |_=>ι
noncomputable def oS(N P:-R)(a:o):Bool:=Qq a.kind && !a.isCoroutine && !a.isGenerator&&S N.Nodup&&S (N.take ↑P=P)&&(P.all λx=>match a.names.lookup x with
 |some k=>Qo k
 |none=>ι)&&a.names.all λy=>Qp y.2
theorem gz{N P:-R}{a:o}(h:oS N P a=θ):lU N P a:=by
 unfold oS at h;erw[Xn,ZU,VZ,Yf] at h;let⟨⟨⟨⟨⟨⟨b,c⟩,d⟩,f⟩,g⟩,i⟩,j⟩:=h;refine⟨?_,c,d,f,g,λx l=>?_,λy m z=>?_⟩
 .cases q:a.kind<;>rw[q] at b<;>first|rfl|cases b
 .let:=i x l
  split at this
  .rename_i k e
   rw[e];cases k<;>first|exact .inl Y|exact .inr Y|cases this
  .cases this
 .let:=j y m
  rw[z] at this;cases this
def jm(x:R)(st:y)(ps:-R):Prop:=∀(d a e:M)(f:Option U)(b g:M)(c:-M),↑c=↑ps->bindArgs (Xs x x (jw st) (gZ st) (dq st) .none d a e f b g) ⟨c,[]⟩=pure (ps.zip c)
section
theorem zp{us:-M}(h:↑us=1):∃a,us=[a]:=q1y.mp h
theorem zq{us:-M}(h:↑us=2):∃a b,us=[a,b]:=by
 cases us with
 |nil=>cases h
 |cons a r=>let⟨b,rfl⟩:=zp (YH h);calc⟨a,b,Y⟩
theorem EZ{us:-M}(h:↑us=3):∃a b c,us=[a,b,c]:=by
 cases us with
 |nil=>cases h
 |cons a r=>let⟨b,c,rfl⟩:=zq (YH h);calc⟨a,b,c,Y⟩
theorem Qr{us:-M}(h:↑us=4):∃a b c d,us=[a,b,c,d]:=by
 cases us with
 |nil=>cases h
 |cons a r=>let⟨b,c,d,rfl⟩:=EZ (YH h);calc⟨a,b,c,d,Y⟩
theorem mO{x:R}{st:y}{ps:-R}(h:‹∀(d b e:M) (f:Option U) (c ct a:M),bindArgs (Xs x x (jw st) (gZ st) (dq st) .none d b e f c ct) ⟨[a],[]⟩=pure (ps.zip [a])›)(i:‹↑ps=1›):jm x st ps:=λd b e f c g k j=>by
 let⟨a,rfl⟩:=zp (j.trans i);calc h d b e f c g a
theorem g_{x:R}{st:y}{ps:-R}(h:‹∀(e c f:M) (g:Option U) (d ct a b:M),bindArgs (Xs x x (jw st) (gZ st) (dq st) .none e c f g d ct) ⟨[a,b],[]⟩=pure (ps.zip [a,b])›)(j:‹↑ps=2›):jm x st ps:=λe c f g d i l k=>by
 let⟨a,b,rfl⟩:=zq (k.trans j);calc h e c f g d i a b
theorem jn{x:R}{st:y}{ps:-R}(h:‹∀(f d g:M) (i:Option U) (e ct a b c:M),bindArgs (Xs x x (jw st) (gZ st) (dq st) .none f d g i e ct) ⟨[a,b,c],[]⟩=pure (ps.zip [a,b,c])›)(k:‹↑ps=3›):jm x st ps:=λf d g i e j m l=>by
 let⟨a,b,c,rfl⟩:=EZ (l.trans k);calc h f d g i e j a b c
theorem E4{x:R}{st:y}{ps:-R}(h:‹∀(g e i:M) (j:Option U) (f ct a b c d:M),bindArgs (Xs x x (jw st) (gZ st) (dq st) .none g e i j f ct) ⟨[a,b,c,d],[]⟩=pure (ps.zip [a,b,c,d])›)(l:‹↑ps=4›):jm x st ps:=λg e i j f k n m=>by
 let⟨a,b,c,d,rfl⟩:=Qr (m.trans l);calc h g e i j f k a b c d
variable{V:Ev}{x:R}{st:y}{N ps:-R}{k:Nat}{G:GD}
theorem d9(D:Dx V x st)(i:jm x st ps)(h:∀{b:M} {A:t} {outer:-u} {s:L} {H:Hp} {E:XK} {f:U},bz k (A.deeper (envOfC x (dq st) ⇑s f b))->N.Nodup->(A.deeper (envOfC x (dq st) ⇑s f b)).units+64<cLine →
   ∃B:WS,ee (gh fZ V.P V.w V.K V.mg V.base N x (dq st) f b A outer s H E).kQ (gZ st) (eh B)/\∀ys aK d,↑ys=↑ps->G ys aK d->B (eu ↑aK d) ⟨ys.map ζ++VF (↑N-↑ps) η,aK.map ζ⟩)(e:autoParam (oS N ps (dq st)=θ) qz3._auto_1):Fx V (k+1) x ps ↑ps G :=
 let⟨f,j,a,F⟩:=D
 ⟨f,j,F.L3 (gz e) λb A c s H E g=>h g (gz e).nd g.units,a,F.kp,F.binds i⟩
theorem Qs{T:U}{e:I}{q:R}(D:uX V x st T e q)(l:jm x st ps)(h:∀{b:M} {A:t} {outer:-u} {s:L} {H:Hp} {E:XK} {f:U} {c:FuncData},iG V.mg V.base c T e q->c.code=b->bz k (A.deeper (envOfC x (dq st) ⇑s f b))->N.Nodup->(A.deeper (envOfC x (dq st) ⇑s f b)).units+64<cLine →
   ∃B:WS,ee (gh fZ V.P V.w V.K V.mg V.base N x (dq st) f b A outer s H E).kQ (gZ st) (eh B)/\∀ys aK g,↑ys=↑ps->G ys aK g->B (eu ↑aK g) ⟨ys.map ζ++VF (↑N-↑ps) η,aK.map ζ⟩)(i:autoParam (oS N ps (dq st)=θ) qz3._auto_1):Fx V (k+1) x ps ↑ps G :=
 let⟨f,c,⟨a,F⟩,m⟩:=D
 ⟨f,c,F.ya (gz i) λb A d s H E n j=>h m n j (gz i).nd j.units,a,F.kp,F.binds l⟩
end
end
section
variable{K:KC}{h:Q}{mg:R->Option M}
def Dk(K:KC)(x:R)(st:y):Prop:=∃f a,Ye K mainGlobals x=ζ (ζ (.ref f))/\hG K x x st f a
inductive iI (K:KC):-(R×y)->Prop
 |nil:iI K []
 |cons {x st r}:Dk K x st->iI K r->iI K ((x,st)::r)
theorem zr{x:R}{st:y}{r:-(R×y)}{f:U}{od c:Option U}{sl:Array (Option M)}{oc d e g b ct:M}(a:Ye K mainGlobals x=ζ (ζ (.ref f)))(l:K.lookup f=ζ ⟨oc,od,.func (Xs x x (jw st) (gZ st) (dq st) .none d e g c b ct),sl⟩)(q:Zg K b x=θ)(k:Xz K (.ref f)=θ)(h:iI K r):iI K ((x,st)::r) :=
 .cons ⟨f,_,a,tH l q k⟩ h
theorem iI.at{ds:-(R×y)}(h:iI K ds)(i:Nat){x:R}{st:y}(e:ds[i]?=ζ (x,st)):Dk K x st:=by
 induction h generalizing i with
 |nil=>cases e
 |cons d _ a=>cases i with
  |zero=>cases e;exact d
  |succ i=>calc a i e
def uY(K:KC)(x:R)(st:y)(T:U):Prop:=∃f a,(Ye K mainGlobals x=ζ (ζ (.ref f))/\hG K x x st f a)/\∃b,a.code=.ref b/\q3f K b T=θ
inductive gA (K:KC):-(R×y×U)->Prop
 |nil:gA K []
 |cons {x st T r}:uY K x st T->gA K r->gA K ((x,st,T)::r)
theorem sx{x:R}{st:y}{T:U}{r:-(R×y×U)}{f b:U}{od d:Option U}{sl:Array (Option M)}{oc e g i ct:M}(a:Ye K mainGlobals x=ζ (ζ (.ref f)))(l:K.lookup f=ζ ⟨oc,od,.func (Xs x x (jw st) (gZ st) (dq st) .none e g i d (.ref b) ct),sl⟩)(q:Zg K (.ref b) x=θ)(k:Xz K (.ref f)=θ)(c:q3f K b T=θ)(h:gA K r):gA K ((x,st,T)::r) :=
 .cons ⟨f,_,⟨a,tH l q k⟩,b,Y,c⟩ h
theorem gA.at{ds:-(R×y×U)}(h:gA K ds)(i:Nat){x:R}{st:y}{T:U}(e:ds[i]?=ζ (x,st,T)):uY K x st T:=by
 induction h generalizing i with
 |nil=>cases e
 |cons d _ a=>cases i with
  |zero=>cases e;exact d
  |succ i=>calc a i e
theorem gA.code{ds:-(R×y×U)}(h:gA K ds){c:Q}(X:K.In c):∀T∈ds.map (·.2.2),∃b,q32 c b T:=by
 induction h with
 |nil=>ext T a;exact nomatch a
 |cons d _ f =>
  ext T a;rcases Uw.mp a with rfl|a
  .let⟨_,_,_,b,_,e⟩:=d
   exact⟨b,q2e X e⟩
  .calc f T a
theorem Qt{x:R}{r:-R}(a:Ye K mainGlobals x=ζ η)(h:∀y∈r,Ye K mainGlobals y=ζ η):∀y∈x::r,Ye K mainGlobals y=ζ η:=λy b=>by
 rcases Uw.mp b with rfl|b
 .exact a
 .calc h y b
theorem Qu{ls:-lE}(g:(ls.map (·.T)).Nodup):∀{a b:lE},a∈ls->b∈ls->a.T=b.T->a=b:=by
 induction ls with
 |nil=>ext a b h;exact nomatch h
 |cons c r i =>
  ext a b h j e;rw[Uz,Yx] at g;rcases Uw.mp h with rfl|d<;>rcases Uw.mp j with rfl|f
  .rfl
  .exact absurd (VH.mpr ⟨b,f,e.symm⟩) g.1
  .exact absurd (VH.mpr ⟨a,d,e⟩) g.1
  .calc i g.2 d f e
theorem Dk.v{P:ψ}{w:l}{base:Q}{x:R}{st:y}(d:Dk K x st)(X:K.In h)(G:h.Ns mainGlobals mg):Dx ⟨P,w,K,mg,base⟩ x st :=
 let⟨f,b,a,F⟩:=d
 ⟨f,b,Zt X G a,F⟩
theorem uY.v{P:ψ}{w:ω}{base:Q}{x:R}{st:y}{ls:-lE}{C:CC}{T:U}{g:I}{q:R}(d:uY K x st T)(X:K.In h)(G:h.Ns mainGlobals mg)(i:K.In base)(j:∀t∈ls,base.BuiltinsAt mg t.T)(k:(ls.map (·.T)).Nodup)(l:∀t∈ls,mainGlobals≠t.T)(c:⟨T,g,q⟩∈ls):@uX (g8 ls C) ⟨P,w,K,mg,base⟩ x st T g q :=
 let⟨f,m,⟨a,F⟩,n,o,p⟩:=d
 letI:a9:=g8 ls C
 ⟨f,m,⟨Zt X G a,F⟩,⟨n,o,q2e i p⟩,l _ c,j _ c,NQ c λa r b s e=>Qu k r s e⟩
def Ck(K:KC)(x:R)(i:Int):Prop:=∃u,Ye K mainGlobals x=ζ (ζ u)/\RelV (.int i) u
theorem Ck.v{P:ψ}{w:l}{base:Q}{x:R}{i:Int}(d:Ck K x i)(X:K.In h)(G:h.Ns mainGlobals mg):Ct ⟨P,w,K,mg,base⟩ x i :=
 let⟨u,a,r⟩:=d
 ⟨u,Zt X G a,r⟩
noncomputable def zt:-R:=["len", "range", "list", "tuple", "set", "sorted", "min", "max", "sum", "all", "any", "enumerate", "zip", "isinstance", "int", "bool", "str", "repr"]
theorem Qv(X:K.In h)(G:h.Ns mainGlobals mg)(N:∀x∈zt,Ye K mainGlobals x=ζ η):BT mg :=
 have n:∀i x,zt[i]?=ζ x->mg x=η:=λi x e=>PySem.W.mg_none_of X G (N x (WR e))
 ⟨n 0 _ Y,n 1 _ Y,n 2 _ Y,n 3 _ Y,n 4 _ Y,n 5 _ Y,n 6 _ Y,n 7 _ Y,n 8 _ Y,n 9 _ Y,n 10 _ Y,n 11 _ Y,n 12 _ Y,n 13 _ Y,n 14 _ Y,n 15 _ Y,n 16 _ Y,n 17 _ Y⟩
end
section
variable[a9]
structure Kx(K:KC)(C:U)(fs:-R):Prop where
 c:i8 K C
 n:∀f∈fs,dF K C f
theorem Kx.at{K:KC}{C:U}{fs:-R}(h:Kx K C fs)(f:R)(e:‹fs.contains f=θ›):dF K C f:=h.n f (q1J.mp e)
structure Fk(V:Ev)(C:U)(k:Nat)(m:R)(ps:-R)(n:Nat)(G:GK):Prop where
 ex:∃f fd,Meth V.K C m f/\cG V.P V.w V.K V.mg V.base fZ k f fd ps (kL G n)/\Binds V.K fd ps []
structure Fq(V:Ev)(k:Nat)(x:R)(ps:-R)(n:Nat)(G:GK):Prop where
 ex:∃f fd,Fn V.P V.w V.K V.mg V.base k x ps (kL G n) f fd
structure Fc(V:Ev)(C:U)(k:Nat)(x:R)(ps:-R)(n:Nat)(G:GK):Prop where
 ex:∃f fd,V.mg x=ζ (.ref C)/\Mk V.K C f/\cG V.P V.w V.K V.mg V.base fZ k f fd ps (kL G n)/\Binds V.K fd ps []
def Dm(V:Ev)(C:U)(m q:R)(st:y):Prop:=∃f a,Meth V.K C m f/\hG V.K m q st f a
def Dc(V:Ev)(C:U)(x q:R)(st:y):Prop:=∃f a,(V.mg x=ζ (.ref C)/\Mk V.K C f)/\hG V.K "__init__" q st f a
section
variable{X:Cx}{C:U}{x m:R}{ps:-R}{G:GK}{e o:J}{es:-J}{fa:WA}{fo:WE}{p pos apos:I}{j k n:Nat}
theorem hE(r:Bool)(F:Fq ⟨X.prog,X.w,X.K,X.mg,X.base⟩ j x ps n G)(c:bz k X.A)(d:JA X (e::es) (cX fa))(hj:‹q17 j k=θ›)(f:‹Gl X x›)(a: ~~~(cy x))(he:‹dE X e es›)(b:‹dQ X pos es›):
  JE X (.Call (.Name x p) (e::es) [] pos) (tD (aD r n G fa)):=let⟨_,_,F⟩:=F.ex;PX r F.ok (c.mono (X7 hj)) f F.ph F.kp F.bd d a he b
theorem oT(F:Fc ⟨X.prog,X.w,X.K,X.mg,X.base⟩ C j x ps n G)(d:bz k X.A)(f:JA X (e::es) (cX fa))(hj:‹q17 (j+1) k=θ›)(g:‹Gl X x›)(b: ~~~(cy x))(he:‹dE X e es›)(c:‹dQ X pos es›):
  JE X (.Call (.Name x p) (e::es) [] pos) (tD (aF C n G fa)):=let⟨_,_,a,M,F,B⟩:=F.ex;P6 M F (d.mono (X7 hj)) g a B f b he c
theorem jS {pl:q7O Bool} (r:Bool) (c:i8 X.K C) (F:Fk ⟨X.prog,X.w,X.K,X.mg,X.base⟩ C j m ps n G) (d:bz k X.A) (g:JE X o (tD fo)) (h:JA X (e :: es) (cX fa)) (hj:‹q17 j k=θ›)
  (a:‹dE X e es›) (b:‹dQ X pos es›)
  (i:‹eval (.Call (.Attribute o m apos) (e :: es) [] pos) X.env=(do
   let ov <- eval o X.env
   standAt apos.atName
   let (f,first) <- holding [ov] (getMethod ov m pl)
   callWith pos f first (backTo pos (starEach (e :: es) X.env)) (backToKw pos (keywordEach [] X.env)))›) :
  JE X (.Call (.Attribute o m apos) (e :: es) [] pos) (tD (aB r C m n G fo fa)):=let ⟨_,_,M,F,B⟩:=F.ex; PZ r c M F (d.mono (X7 hj)) B g h a b i
theorem oU {pl:q7O Bool} (r:Bool) (c:i8 X.K C) (F:Fk ⟨X.prog,X.w,X.K,X.mg,X.base⟩ C j m ps n G) (a:bz k X.A) (b:JE X o (tD fo)) (hj:‹q17 j k=θ›)
  (d:‹eval (.Call (.Attribute o m apos) [] [] pos) X.env=(do
   let ov <- eval o X.env
   standAt apos.atName
   let (f,first) <- holding [ov] (getMethod ov m pl)
   callWith pos f first (backTo pos (starEach [] X.env)) (backToKw pos (keywordEach [] X.env)))›) :
  JE X (.Call (.Attribute o m apos) [] [] pos) (tD (aB r C m n G fo ae)):=let ⟨_,_,M,F,B⟩:=F.ex; P0 r c M F (a.mono (X7 hj)) B b d
end
def mP(x q:R)(st:y)(ps:-R):Prop:=∀(d a e:M)(f:Option U)(b g:M)(c:-M),↑c=↑ps->bindArgs (Xs x q (jw st) (gZ st) (dq st) .none d a e f b g) ⟨c,[]⟩=pure (ps.zip c)
theorem E5{x q:R}{st:y}{ps:-R}(h:‹∀(d b e:M) (f:Option U) (c ct a:M),bindArgs (Xs x q (jw st) (gZ st) (dq st) .none d b e f c ct) ⟨[a],[]⟩=pure (ps.zip [a])›)(i:‹↑ps=1›):mP x q st ps:=λd b e f c g k j=>by
 let⟨a,rfl⟩:=zp (j.trans i);calc h d b e f c g a
theorem zu{x q:R}{st:y}{ps:-R}(h:‹∀(e c f:M) (g:Option U) (d ct a b:M),bindArgs (Xs x q (jw st) (gZ st) (dq st) .none e c f g d ct) ⟨[a,b],[]⟩=pure (ps.zip [a,b])›)(j:‹↑ps=2›):mP x q st ps:=λe c f g d i l k=>by
 let⟨a,b,rfl⟩:=zq (k.trans j);calc h e c f g d i a b
section
variable{V:Ev}{C:U}{x m q:R}{st:y}{N ps:-R}{k:Nat}{G:GK}
abbrev zv(V:Ev)(N ps:-R)(q:R)(st:y)(k:Nat)(G:GK):Prop:=∀{a:M}{A:t}{b:-u}{s:L}{H:Hp}{E:XK}{f:U},bz k (A.deeper (envOfC q (dq st) ⇑s f a))->N.Nodup->(A.deeper (envOfC q (dq st) ⇑s f a)).units+64<cLine →
   ∃B:WS,ee (gh fZ V.P V.w V.K V.mg V.base N q (dq st) f a A b s H E).kQ (gZ st) (eh B)/\∀d c e,↑d=↑ps->G d c e->B (af ↑c e) ⟨d.map ζ++VF (↑N-↑ps) η,c.map ζ⟩
theorem uZ(D:Dm V C m q st)(e:mP m q st ps)(h:zv V N ps q st k G)(c:autoParam (oS N ps (dq st)=θ) qz3._auto_1):Fk V C (k+1) m ps ↑ps G :=
 let⟨f,g,a,F⟩:=D
 ⟨f,g,a,F.y7 (gz c) λi A b s H E d=>h d (gz c).nd d.units,F.binds e⟩
theorem Qw(D:Dc V C x q st)(e:mP "__init__" q st ps)(h:zv V N ps q st k G)(c:autoParam (oS N ps (dq st)=θ) qz3._auto_1):Fc V C (k+1) x ps ↑ps G :=
 let⟨f,g,a,F⟩:=D
 ⟨f,g,a.1,a.2,F.y7 (gz c) λi A b s H E d=>h d (gz c).nd d.units,F.binds e⟩
theorem k9(D:Dx V x st)(e:jm x st ps)(h:zv V N ps x st k G)(c:autoParam (oS N ps (dq st)=θ) qz3._auto_1):Fq V (k+1) x ps ↑ps G :=
 let⟨f,g,a,F⟩:=D
 ⟨f,g,F.y7 (gz c) λi A b s H E d=>h d (gz c).nd d.units,a,F.kp,F.binds e⟩
end
end
inductive iJ (K:KC) (C:U):-(R×R×y)->Prop
 |nil:iJ K C []
 |cons {m q st r}:(∃f fd,Meth K C m f/\hG K m q st f fd)->iJ K C r->iJ K C ((m,q,st)::r)
theorem allM{K:KC}{C:U}{m q:R}{st:y}{r:-(R×R×y)}{f:U}{od d:Option U}{sl:Array (Option M)}{oc e g j b ct:M}(a:XS K (.ref C) m=ζ (ζ (.ref f)))(i:q1s K (.ref f)=θ)(l:K.lookup f=ζ ⟨oc,od,.func (Xs m q (jw st) (gZ st) (dq st) .none e g j d b ct),sl⟩)(c:Zg K b q=θ)(k:Xz K (.ref f)=θ)(h:iJ K C r):iJ K C ((m,q,st)::r) :=
 .cons ⟨f,_,⟨a,i,k⟩,tH l c k⟩ h
theorem iJ.at{K:KC}{C:U}{ds:-(R×R×y)}(h:iJ K C ds)(i:Nat){m q:R}{st:y}(e:ds[i]?=ζ (m,q,st)):∃f a,Meth K C m f/\hG K m q st f a:=by
 induction h generalizing i with
 |nil=>cases e
 |cons d _ b=>cases i with
  |zero=>cases e;exact d
  |succ i=>calc b i e
end LJ
namespace L2
open PySem PySem.Spec PyProof.Rows
variable[a9]
theorem Qx{X:Cx}{x:R}{p pos:I}{G:GK}{k:Nat}{g:U}{b:FuncData}{ps:-R}(o:Bool)(c:cG X.prog X.w X.K X.mg X.base fZ k g b ps (kL G 0))(d:bz k X.A)(e:Gl X x)(f:X.mg x=ζ (.ref g))(h:Xz X.K (.ref g)=θ)(i:Binds X.K b ps [])
  (a: ~~~(cy x)) :
  JE X (.Call (.Name x p) [] [] pos) (tD (aD o 0 G ae)):=(JZ c d e f h i .nil mr a).weak λm H Q ⟨F,n,j,K,S,q,l⟩↦sk (xs:=[]) (vs:=[]) l (show oP o 0 G [] j K from q) .refl S Y
end L2
namespace LJ
open PySem L2 PySem.Spec PySem.W PyProof.Rows
variable[a9]
theorem Qy{X:Cx}{x:R}{ps:-R}{G:GK}{p pos:I}{j k:Nat}(r:Bool)(F:Fq ⟨X.prog,X.w,X.K,X.mg,X.base⟩ j x ps 0 G)(b:bz k X.A)(hj:‹q17 j k=θ›)(c:‹Gl X x›)(a: ~~~(cy x)):
  JE X (.Call (.Name x p) [] [] pos) (tD (aD r 0 G ae)):=let⟨_,_,F⟩:=F.ex;Qx r F.ok (b.mono (X7 hj)) c F.ph F.kp F.bd a
theorem Qz{x:R}{st:y}{ps:-R}(h:‹∀(c a d:M) (e:Option U) (b ct:M),bindArgs (Xs x x (jw st) (gZ st) (dq st) .none c a d e b ct) ⟨[],[]⟩=pure (ps.zip [])›)(g:‹↑ps=0›):jm x st ps:=λc a d e b f j i=>by
 obtain rfl:=XQ.mp (i.trans g);calc h c a d e b f
end LJ
open Lean in
local macro_rules
 |`(tactic|simp![$ls,*] $[$l:location]?)=>do
  let a:=ls.getElems
  let some n:=a[0]?.bind λx=>x.raw[2].isNatLit?|Macro.throwUnsupported
  let t←((("ag ah aE toF aB aD aF ai aG FV.v af dV kb aj aP aS aQ aM aR aN au ar ak aL aV aU aw aY aX aW mq nV".splitOn " ").take (if n==0 then 32 else 13)).toArray).mapM λs=>`(Parser.Tactic.simpLemma|$(mkIdent s.toName):ident)
  let b:Syntax.TSepArray [`Lean.Parser.Tactic.simpStar,`Lean.Parser.Tactic.simpErase,`Lean.Parser.Tactic.simpLemma] ",":=⟨(Syntax.SepArray.ofElems (sep:=",") (t.map (·.raw)++(a.extract 1 a.size).map (·.raw))).elemsAndSeps⟩
  `(tactic|simp![$b,*] $[$l]?)
namespace LJ
open PySem L2
variable[a9]
inductive zw (ys:-DV) (aK:-OV) (K:RV->-OV->Prop):Prop
 |mk (m:Int) (ws:-Wy) (ns:-Int) (_:aI m ws) (_:Nums ws ns) (_:ys=[.p (a7 m ws),.p (tupI ns)]) (_:aK=[]) (_:K (.p (a_ (ic m ws ns))) [])
def zx:WS:=(az (aJ 2 (ft (aq (d2 (aa 0) (dC (.int 0)) bc) ae))) (az (bH (bp (aa 1)) (bo 3) (az (aJ 4 (d2 (d2 (aa 0) (dC (.int 1)) bc) (aa 3) bc)) (aJ 2 (aA 3 rO (aq (aa 2) (aq (d2 (aa 4) (dC (.int 0)) bc) (aq (d2 (aa 4) (dC (.int 1)) bc) ae))))))) (aZ (aa 2))))
theorem QA:Sem 2 3 zw zx:=by
 ext H s I-⟨m,a,b,W,t,rfl,rfl,k⟩;let J:=W.m1;let u:=W.iA;let v:↑(bK m.toNat)=m.toNat:=by unfold bK;simp
 let w:dm 0 m.toNat=(bK m.toNat).map D.int:=ou m.toNat;unfold zx tupI;calc bf λN e=>?_;simp![dw,a7];calc⟨⟨⋯,⋯⟩,?_⟩;subst e;rw[w];calc bf λN e=>j_ λK M O x f z=>?_;simp!;subst x f z;refine jA (λi g=>g=⟨[ζ (.p (.tup [.int m,.tup (a.map bJ)])),ζ (.p (.tup (b.map D.int))),ζ (.p (.lst ((gg a (bK m.toNat) (b.take i)).map D.int))),η,η],[]⟩) Y ?_ ?_
 .ext j d g L l rfl A
  rw[B_] at l;let⟨n,c,rfl⟩:=KI.mp l;let⟨B,C⟩:=t n (WR c);let⟨y,E,P,F,i,k,o,q,Q,R,_⟩:=mE W B C;calc⟨trivial,?_⟩;erw[bo,Vz,VA];calc bf λS h=>?_;simp![eB,F];subst h;simp![dw,eB,bJ];let r:↑(gg a (bK m.toNat) (b.take j))=m.toNat:=by rw[rP,v]
  refine⟨gg a (bK m.toNat) (b.take j),i,k,by rw[o,q];rfl,Y,⋯,⋯,⋯,?_⟩
  let G:hJ (gg a (bK m.toNat) (b.take j)) i k=gg a (bK m.toNat) (b.take (j+1)):=by
   let:b.take (j+1)=b.take j++[n]:=by rw[Y3,c];rfl
   rw[this];unfold gg;rw[q0X];show _=hJ _ (dO a n).1 (dO a n).2
   let:dO a n=(i,k):=by
    unfold dO;rw[E,o,q,V7,V7]
   rw[this]
  rw[G];exact A _ Y
 .ext g rfl
  rw[nW,Xb (B8 _)];calc⟨trivial,?_⟩;show N _;subst e;simp!;calc cK k
inductive sy (ys:-DV) (aK:-OV) (K:RV->-OV->Prop):Prop
 |mk (m:Int) (ws:-Wy) (us:-Int) (h:Int) (_:aI m ws) (_:Nums ws us) (_:(0<=h/\h<m)) (_:ys=[.p (a7 m ws),.p (tupI us),.p (.int h)]) (_:aK=[]) (_:K (.p (a_ (a5 m ws us h))) [])
def zy:WS:=(az (aJ 3 (aA 2 zw (aq (aa 0) (aq (aa 1) ae)))) (aZ (cx (bW (aq (aa 3) ae)) [η,η,ζ 3,ζ 2] (dz 2 (cj (bo 0) (cj (bo 1) dt))) (dT (d2 (aa 1) (d2 (aa 2) (aa 3) bc) oEq)) (aa 0))))
open Classical in
theorem QB:Sem 3 1 sy zy:=by
 rintro ys aK K'-⟨m,ws,us,h,W,hu,hh,rfl,rfl,k⟩;have iA:=W.iA;obtain⟨i,rfl⟩:=Yl hh.1;have hi:i<m.toNat:=by symm
 unfold zy;refine bf λN hN=>?_;simp!;refine⟨m,ws,us,W,hu,rfl,rfl,?_⟩;have mo:=yz W hu;generalize ic m ws us=fs at mo;have a1:=oC (ns:=fs) (i:=i) (by rw[mo.1];exact hi);rw[show a_ fs=.lst (fs.map D.int) from rfl];simp!;subst hN;simp!;refine L2.j8 (oG λx=>decide (bA (eV ws us) i x)) oF (by rw[l0,nW,mo.1];symm) trivial ?_ ?_
 .intro d hd acc L' ha h1 h2
  obtain⟨z,hz⟩:=VJ.mp hd;obtain⟨e,z1,z2⟩:=l3 hz;rw[B_] at z1;obtain⟨y,z3,rfl⟩:=KI.mp z1;rw[VI] at z2;subst z2;have zl:z<m.toNat:=by rw[<-mo.1];exact(pa.mp z3).1
  have ez:fs.getD z 0=y:=by rw[KG,z3];rfl
  simp only[oG,oF] at h1 h2;simp![a1];rw[rY]
  by_cases c:bA (eV ws us) i z
  .rw[VG (show y=fs.getD i 0 by rw[<-ez];exact((mo.2 i z hi zl).mpr c).symm)]
   simp!;exact⟨ha,h1 (VG c)⟩
  .rw[VC (show ¬ y=fs.getD i 0 fromλe=>c ((mo.2 i z hi zl).mp (by rw[<-e,ez])))]
   simp!;exact h2 (VC c)
 .have e:=uK (λx=>decide (bA (eV ws us) i x)) (fs.map D.int) 0
  have e2:(cls m.toNat (eV ws us) i).map D.int=((q0Y 0 (fs.map D.int).length).filter λk:Nat=>decide (bA (eV ws us) i k)).map λk:Nat=>D.int k:=by
   unfold cls bK;rw[Yd,VU,nW,<-Zh,mo.1];rfl
  rw[<-e2] at e;rw[e];exact cK k
noncomputable def zz(t:Bool)(ns:-Int):D:=if t=θ then tupI ns else a_ ns
inductive sA (ys:-DV) (aK:-OV) (K:RV->-OV->Prop):Prop
 |mk (t:Bool) (ns:-Int) (_:↑(fc ns)<60) (_:ys=[.p (zz t ns)]) (_:aK=[]) (_:K (.p (tupI (gv ns))) [])
def zA:WS:=(aZ (dN (aq (dN (aq (aa 0) ae) aL) ae) fP))
theorem QC:Sem 1 0 sA zA:=by
 ext c a d-⟨t,b,h,rfl,rfl,k⟩;unfold zA;let e:↑(sortI (fc b))<60:=by rw[xk];exact h
 cases t
 all_goals
  simp![0,zz,tupI,a_,j7];calc⟨h,?_⟩;calc cK k
inductive zB (ys:-DV) (aK:-OV) (K:RV->-OV->Prop):Prop
 |mk (m:Int) (ws:-Wy) (p k s l:-Int) (_:aI m ws) (_:↑p<=30) (_:k.length<=30) (_:↑l<=12) (_:ys=[.p (a7 m ws),.p (gw p k s),.p (a_ l)]) (_:aK=[]) (_:K (.p (.int (2*((↑l:Int)-1)+2*(↑(lI ws (fw ws p k) l):Int)))) [])
def zC:WS:=(az (aJ 3 (d2 (d2 (aa 1) (dC (.int 0)) bc) (d2 (aa 1) (dC (.int 1)) bc) bX)) (az (aJ 4 (cx (eA (aq (dN (aq (d2 (aa 0) (dC (.int 1)) bc) ae) bC) ae)) [η,ζ 3] (bo 0) (dT (d2 (aa 0) (aa 1) (dn θ))) (aa 0))) (az (aJ 5 (cx (bp (aA 2 uQ (aq (aa 0) (aq (aa 4) ae)))) [η,ζ 2] (bo 0) (dT (d2 (aa 0) (aa 1) (dn ι))) (aa 0))) (aZ (d2 (d2 (dC (.int 2)) (d2 (dN (aq (aa 2) ae) bC) (dC (.int 1)) (oI λi j=>.int (i-j))) bO) (d2 (dC (.int 2)) (dN (aq (aa 5) ae) bC) bO) bX)))))
theorem QD(ws:-Wy)(p k:-Int):Nums ws (fw ws p k):=λn h=>uu (Wb.mp h).1
theorem QE(ws:-Wy)(p k:-Int):↑(fw ws p k)<=↑ws:=by
 let:=WZ (λn=>S (n∉p++k)) (bK ↑ws);rw[k7] at this;calc this
theorem QF(ws:-Wy)(us:-Int):↑(lH ws us)=↑us+↑us:=by unfold lH;rw[qG,nW,nW]
noncomputable def mQ(p:Int->Bool):D->Bool
 |.int n=>p n
 |_=>ι
theorem u1(p:Int->Bool)(us:-Int):((us.map D.int).filter (mQ p)).map (λd=>d)=(us.filter p).map D.int:=by
 rw[List.map_id',Yd];rfl
theorem QG:Sem 3 3 zB zC:=by
 ext x t y-⟨m,b,p,k,s,l,W,z,A,B,rfl,rfl,i⟩;let u:=W.jE;let C:bE ((p++k).map D.int)=0:=hU _;let a:=hU l;unfold zC;calc bf λN e=>?_;simp![gw,tupI,dw,eB]
 calc⟨⋯,?_⟩;rw[<-VQ];subst e;calc bf λN e=>?_;simp![a7,eB];refine⟨⋯,?_⟩
 rw[V7,ou];refine L2.j8 (mQ λn=>S (n∉p++k)) (λd=>d) (by rw[nW,k7];symm) trivial ?_ ?_
 .ext d j o L q f g
  let⟨n,v,rfl⟩:=VH.mp j;erw[mQ] at f g;simp!;calc⟨⋯,?_⟩;rw[jj]
  by_cases c:n∈p++k
  .rw[VG c];simp!;exact g (VC (q06 c))
  .rw[VC c];simp!;exact⟨q,f (VG c)⟩
 rw[u1];let r:=QD b p k;let w:=QE b p k;rw[show(bK ↑b).filter (λn=>S (n∉p++k))=fw b p k from Y];unfold lI at i;generalize fw b p k=h at r w i ⊢;subst e;calc bf λN e=>?_;simp!
 calc⟨m,b,h,W,r,⋯,Y,Y,?_⟩;rw[show a_ (lH b h)=.lst ((lH b h).map D.int) from Y];simp![a_]
 let E:=QF b h;refine L2.j8 (mQ λn=>S (n∈l)) (λd=>d) (by rw[nW];symm) trivial ?_ ?_
 .ext d j o L q f g
  let⟨n,v,rfl⟩:=VH.mp j;erw[mQ] at f g;simp![a];rw[jj]
  by_cases c:n∈l
  .rw[VG c];simp!;exact⟨q,f (VG c)⟩
  .rw[VC c];simp!;exact g (VC c)
 rw[u1];subst e;simp!;let F:=WZ (λn=>S (n∈l)) (lH b h);calc⟨by unfold kj;symm,by unfold kj;symm,cK i⟩
inductive zD (ys:-DV) (aK:-OV) (K:RV->-OV->Prop):Prop
 |mk (m:Int) (ws:-Wy) (l:-Int) (_:aI m ws) (_:ys=[.p (a7 m ws),.p (a_ l)]) (_:aK=[]) (_:K (.p (a_ (mM ws l))) [])
def zE:WS:=(aZ (cx (bW (aq (d2 (aa 0) (dC (.int 1)) bc) ae)) [η,η,ζ 1] (dz 2 (cj (bo 0) (cj (bo 1) dt))) (bT (dT (d2 (d2 (aa 1) (dC (.int 0)) bc) (aa 2) (dn ι))) (dT (d2 (d2 (aa 1) (dC (.int 1)) bc) (aa 2) (dn ι)))) (aa 0)))
theorem QH:Sem 2 0 zD zE:=by
 ext w n x-⟨m,a,l,W,rfl,rfl,k⟩;let o:=W.jE;let A:=hU l;unfold zE;simp![a7,eB];refine L2.j8 (oG λi=>S ((aO a i).1∈l)&&S ((aO a i).2.1∈l)) oF (by rw[l0,nW];symm) trivial ?_ ?_
 .ext d p q B r f b
  let⟨z,s⟩:=VJ.mp p;let⟨e,g,h⟩:=l3 s;rw[B_] at g;let⟨y,t,rfl⟩:=KI.mp g;rw[VI] at h;subst h;let u:aO a (z:Int)=y:=by unfold aO;rw[V7,KG,t];rfl
  erw[oG,oF] at f b;rw[u] at f b;simp![a_,bJ,dw,eB];calc⟨⋯,?_⟩;rw[jj]
  by_cases c:y.1∈l
  .rw[VG c] at f b ⊢
   simp!;calc⟨⋯,?_⟩;rw[jj]
   by_cases j:y.2.1∈l
   .rw[VG j] at f b ⊢;simp!;exact⟨r,f Y⟩
   .rw[VC j] at f b ⊢;simp!;exact b Y
  .rw[VC c] at f b ⊢
   simp!;exact b Y
 .let e:=uK (λi=>S ((aO a i).1∈l)&&S ((aO a i).2.1∈l)) (a.map bJ) 0
  let v:(mM a l).map D.int=((q0Y 0 ↑(a.map bJ)).filter λk:Nat=>S ((aO a (k:Int)).1∈l)&&S ((aO a (k:Int)).2.1∈l)).map λk:Nat=>D.int k:=by
   unfold mM bK;rw[Yd,VU,nW,<-Zh];rfl
  rw[<-v] at e;rw[e];calc cK k
inductive zF (ys:-DV) (aK:-OV) (K:RV->-OV->Prop):Prop
 |mk (m:Int) (ws:-Wy) (N:Nt) (h:Int) (_:aI m ws) (_:dc m ws N) (_:(0<=h/\h<m)) (_:ys=[.p (a7 m ws),.p (gw N.p N.k N.s),.p (.int h)]) (_:aK=[]) (_:K (.p (.tup [oD (fW ws (a5 m ws N.p h)),.int (si m ws N.p N.k h),gw N.p (oJ m ws N.p N.k h) N.s])) [])
def zG:WS:=(az (aJ 3 (aA 3 sy (aq (aa 0) (aq (d2 (aa 1) (dC (.int 0)) bc) (aq (aa 2) ae))))) (az (aJ 4 (aA 2 uM (aq (aa 0) (aq (aA 2 uL (aq (aa 0) (aq (aa 3) ae))) ae)))) (az (aJ 5 (cx (bp (aA 2 zD (aq (aa 0) (aq (aa 3) ae)))) [η,ζ 1] (bo 0) (dT (d2 (aa 0) (d2 (aa 1) (dC (.int 0)) bc) (dn θ))) (aa 0))) (az (aJ 6 (bh (aq (d2 (aa 1) (dC (.int 0)) bc) (aq (aA 1 sA (aq (d2 (dN (aq (d2 (aa 1) (dC (.int 1)) bc) ae) e7) (aa 5) bX) ae)) (aq (d2 (aa 1) (dC (.int 2)) bc) ae))))) (aZ (bh (aq (aa 4) (aq (aA 3 zB (aq (aa 0) (aq (aa 1) (aq (aa 3) ae)))) (aq (aa 6) ae)))))))))
theorem QI:Sem 3 4 zF zG:=by
 ext G q H-⟨m,a,N,h,W,O,r,rfl,rfl,k⟩;let g:=W.jE;let t:=O.pl W;let u:=O.kl W;let v:=pP W (p:=N.p) (h:=h);let w:=hU N.p
 let y:↑(mM a (a5 m a N.p h))<=↑a:=by
  let:=WZ (λn=>S ((aO a n).1∈a5 m a N.p h)&&S ((aO a n).2.1∈a5 m a N.p h)) (bK ↑a);rw[k7] at this;exact this
 let I:↑(jQ a (a5 m a N.p h) N.p)<=↑a:=Wq (WZ _ _) y
 let B:∀x∈N.k++jQ a (a5 m a N.p h) N.p,0<=x/\x<(↑a:Int):=λx A=>by
  rcases VY.mp A with z|z
  .exact O.kn x z
  .exact (fX.mp z).1.1
 unfold zG;calc bf λM f=>?_;simp![gw,dw];calc⟨m,a,N.p,h,W,O.pn,r,Y,Y,?_⟩;simp!;subst f;calc bf λM f=>?_;simp!;calc⟨m,a,a5 m a N.p h,W,Y,Y,?_⟩;simp!
 let j:∀d,d=oD (fW a (a5 m a N.p h))->M ⟨[ζ (.p (a7 m a)),ζ (.p (.tup [tupI N.p,tupI N.k,tupI N.s])),ζ (.p (.int h)),ζ (.p (a_ (a5 m a N.p h))),ζ (.p d),η,η],[]⟩:=by
  ext d rfl;subst f;calc bf λM f=>?_;simp!;calc⟨m,a,a5 m a N.p h,W,Y,Y,?_⟩;rw[show a_ (mM a (a5 m a N.p h))=.lst ((mM a (a5 m a N.p h)).map D.int) from Y];simp!;refine L2.j8 (mQ λn=>S (n∉N.p)) (λd=>d) (by rw[nW];symm) trivial ?_ ?_
  .ext d C E L F l o
   let⟨n,i,rfl⟩:=VH.mp C;erw[mQ] at l o;simp![dw,tupI,w];rw[jj]
   by_cases c:n∈N.p
   .rw[VG c];simp!;exact o (VC (q06 c))
   .rw[VC c];simp!;exact⟨F,l (VG c)⟩
  rw[u1,show(mM a (a5 m a N.p h)).filter (λn=>S (n∉N.p))=jQ a (a5 m a N.p h) N.p from Y];subst f;calc bf λM f=>?_;simp![dw,eB,at2,tupI];calc⟨⋯,?_⟩;rw[<-VQ];calc⟨ι,N.k++jQ a (a5 m a N.p h) N.p,uR B g,Y,Y,?_⟩;simp!;subst f;simp!;calc⟨m,a,N.p,N.k,N.s,a5 m a N.p h,W,t,u,v,Y,Y,?_⟩;simp!;exact cK k
 refine⟨m,a,dJ a (a5 m a N.p h),W,pL,Y,Y,λe=>?_,λn i b=>?_⟩
 .refine j _ ?_
  unfold fW;rw[VD e];rfl
 .refine j _ ?_
  unfold fW;rw[VB (q2w i),yM W pL i b];rfl
inductive zH (ys:-DV) (aK:-OV) (K:RV->-OV->Prop):Prop
 |mk (m:Int) (ws:-Wy) (N:Nt) (w:Int) (_:aI m ws) (_:dc m ws N) (_:(0<=w/\w<(↑ws:Int))) (_:ys=[.p (a7 m ws),.p (gw N.p N.k N.s),.p (.int w)]) (_:aK=[]) (_:K (.p (.tup [.int w,.int (1+yU m ws N.p w),gw (gv (N.p++[w])) N.k N.s])) [])
def zI:WS:=(az (aJ 3 (cx (bp (aA 2 uQ (aq (aa 0) (aq (bG (aq (aa 2) ae)) ae)))) [η,ζ 0,ζ 1] (bo 0) bI (dN (aq (aA 3 sy (aq (aa 1) (aq (d2 (aa 2) (dC (.int 0)) bc) (aq (aa 0) ae)))) ae) bC))) (aZ (bh (aq (aa 2) (aq (d2 (dC (.int 1)) (dN (aq (aa 3) ae) pO) bX) (aq (bh (aq (aA 1 sA (aq (d2 (d2 (aa 1) (dC (.int 0)) bc) (bh (aq (aa 2) ae)) bX) ae)) (aq (d2 (aa 1) (dC (.int 1)) bc) (aq (d2 (aa 1) (dC (.int 2)) bc) ae)))) ae))))))
theorem E6{a b x:Int}(h:x∈[a,b])(c:∀y∈[a,b],x<=y):x=min a b:=by
 let d:=c a (by simp);let e:=c b (by simp);erw[Uw,Ww,YB] at h;symm
theorem QJ:Sem 3 1 zH zI:=by
 ext B j C-⟨m,a,N,w,W,O,e,rfl,rfl,k⟩;let f:=W.jE;let D:=O.pl W;let⟨l,o⟩:=yX W e
 let q:∀x∈N.p++[w],0<=x/\x<(↑a:Int):=λx g=>by
  rcases VY.mp g with z|z
  .exact O.pn x z
  .rw[Wm.mp z];exact e
 unfold zI;calc bf λM r=>?_;simp!;calc⟨m,a,[w],W,λn s=>by rw[Wm.mp s];calc e,by show 1<=400;decide,Y,Y,?_⟩;rw[show a_ (lH a [w])=.lst [.int (aO a w).1,.int (aO a w).2.1] from Y];simp!
 refine L2.j9 (λd=>match d with|.int x=>.int (↑(a5 m a N.p x):Int)|_=>.non) (by show 2<=1000;decide) trivial ?_ ?_
 .ext d i t L u h
  let⟨x,v,rfl⟩:∃x:Int,(0<=x/\x<m)/\d=.int x:=by
   erw[Uw,Ww,YB] at i;rcases i with rfl|rfl
   .exact⟨_,l,Y⟩
   .exact⟨_,o,Y⟩
  simp![gw,dw];calc⟨m,a,N.p,x,W,O.pn,v,Y,Y,?_⟩;simp![a_];exact⟨u,h⟩
 simp!;subst r;unfold aZ bh;calc pG λy c=>?_;simp!;subst c;dsimp only;calc pG λy c=>?_;simp![pO,intsOf];calc⟨by simp,λx g b=>?_⟩;let A:=E6 g b;subst c;simp![gw,dw,eB,at2,tupI];refine⟨⋯,θ,N.p++[w],uR q f,?_,Y,?_⟩
 .unfold zz tupI
  rw[VQ];rfl
 simp!;calc cK ?_;rw[A];calc k
inductive zJ (ys:-DV) (aK:-OV) (K:RV->-OV->Prop):Prop
 |mk (m:Int) (ws:-Wy) (N:Nt) (h:Int) (_:aI m ws) (_:dc m ws N) (_:(0<=h/\h<m)) (_:ys=[.p (a7 m ws),.p (gw N.p N.k N.s),.p (.int h)]) (_:aK=[]) (_:K (.p (.tup [.non,.int ((↑(a5 m ws N.p h):Int)-1),gw N.p N.k (gv (N.s++a5 m ws N.p h))])) [])
def zK:WS:=(az (aJ 3 (aA 3 sy (aq (aa 0) (aq (d2 (aa 1) (dC (.int 0)) bc) (aq (aa 2) ae))))) (aZ (bh (aq (dC .non) (aq (d2 (dN (aq (aa 3) ae) bC) (dC (.int 1)) (oI λi j=>.int (i-j))) (aq (bh (aq (d2 (aa 1) (dC (.int 0)) bc) (aq (d2 (aa 1) (dC (.int 1)) bc) (aq (aA 1 sA (aq (d2 (dN (aq (d2 (aa 1) (dC (.int 2)) bc) ae) e7) (aa 3) bX) ae)) ae)))) ae))))))
theorem QK:Sem 3 1 zJ zK:=by
 ext i b j-⟨m,a,N,h,W,O,c,rfl,rfl,k⟩;let d:=W.iA;let l:=O.sl W;let n:=pP W (p:=N.p) (h:=h)
 let f:∀x∈N.s++a5 m a N.p h,0<=x/\x<((m.toNat:Nat):Int):=λx e=>by
  rcases VY.mp e with z|z
  .let:=O.sn x z;symm
  .let:=((jB W).mp z).1;symm
 unfold zK;calc bf λM g=>?_;simp![gw,dw];calc⟨m,a,N.p,h,W,O.pn,c,Y,Y,?_⟩;rw[show a_ (a5 m a N.p h)=.lst ((a5 m a N.p h).map D.int) from Y];simp!;subst g;simp![dw,eB,at2,tupI];calc⟨⋯,?_⟩;rw[<-VQ];calc⟨ι,N.s++a5 m a N.p h,uR f ⋯,Y,Y,?_⟩;simp!;calc cK k
inductive zL (ys:-DV) (aK:-OV) (K:RV->-OV->Prop):Prop
 |mk (m:Int) (ws:-Wy) (N:Nt) (fo:Option Int) (h:Int) (_:aI m ws) (_:dc m ws N) (_:(0<=h/\h<m)) (_:(∀w,fo=ζ w->0<=w/\w<(↑ws:Int))) (_:ys=[.p (a7 m ws),.p (gw N.p N.k N.s),.p (.int h),.p (oD fo)]) (_:aK=[]) (_:K (.p (.tup [oD (lJ m ws N fo h).1,.int (lJ m ws N fo h).2,gw (dA m ws N fo h).p (dA m ws N fo h).k (dA m ws N fo h).s])) [])
def zM:WS:=(az (bj (bT (dT (d2 (aa 3) (dC .non) cu)) (dT (d2 (aa 2) (d2 (aa 1) (dC (.int 2)) bc) (dn θ)))) (aZ (aA 3 zJ (aq (aa 0) (aq (aa 1) (aq (aa 2) ae))))) cP) (az (bj (bT (dT (d2 (aa 3) (dC .non) fT)) (dT (d2 (aa 3) (d2 (aa 1) (dC (.int 0)) bc) (dn θ)))) (aZ (aA 3 zH (aq (aa 0) (aq (aa 1) (aq (aa 3) ae))))) cP) (aZ (bh (aq (dC .non) (aq (dC (.int 0)) (aq (aa 1) ae)))))))
theorem QL:Sem 4 0 zL zM:=by
 ext r i t-⟨m,f,N,j,h,W,O,l,n,rfl,rfl,k⟩;let o:=hU N.s;let a:=hU N.p;unfold zM;unfold lJ dA at k;calc bf λM b=>?_;refine iD λA B q g=>?_
 cases j with
 |none =>
  simp![oD,gw,at2,tupI,o];rw[jj];dsimp only at k
  by_cases c:h∈N.s
  .rw[VG c]
   rw[VD c,VD c] at k;simp!;subst g;show M _;subst b;simp!
   exact cK k
  .rw[VC c]
   rw[VB c,VB c] at k;simp!;subst q;simp!
   calc⟨m,f,N,h,W,O,l,Y,Y,?_⟩;simp!;exact cK k
 |some w =>
  simp![oD];dsimp only at k;subst g;show M _;subst b;calc bf λM b=>?_;refine iD λu v d e=>?_
  simp![gw,dw,tupI,a];rw[jj]
  by_cases c:w∈N.p
  .rw[VG c]
   rw[VD c,VD c] at k;simp!;subst e;show M _;subst b;simp!
   exact cK k
  .rw[VC c]
   rw[VB c,VB c] at k;simp!;subst d;simp!
   calc⟨m,f,N,w,W,O,n w Y,Y,Y,?_⟩;simp!;calc cK k
noncomputable def nO(C a b:U)(m:Int)(ws:-Wy)(N:Nt):OV:=.ins a C [("town",.p (a7 m ws)),("latest",.p (gw N.p N.k N.s)),("begun",.p (.int (↑N.q:Int))),("going",.w b)]
noncomputable def gO(b:U)(N:Nt):OV:=.ac b (cN 0 N.q)
inductive sC (C:U) (ys:-DV) (aK:-OV) (K:RK->-OV->-OV->Prop):Prop
 |mk (a:U) (m:Int) (ws:-Wy) (_:aI m ws) (_:ys=[.w a,.p (a7 m ws)]) (_:aK=[.ins a C []]) (_:∀b,K (.p .non) [nO C a b m ws cg] [gO b cg])
def zN(c_Night:U):WS:=(az (dr (aA 1 uC (aq (aa 1) ae))) (az (aE c_Night "town" (aa 1) (aa 0)) (az (aE c_Night "latest" (dC (.tup [(.tup []),(.tup []),(.tup [])])) (aa 0)) (az (aE c_Night "begun" (dC (.int 0)) (aa 0)) (aE c_Night "going" aM (aa 0))))))
theorem QM(C:U):∀ys aK d,↑ys=2->sC C ys aK d->zN C (af ↑aK d) ⟨ys.map ζ++VF 0 η,aK.map ζ⟩:=by
 ext g e d-⟨a,m,f,W,rfl,rfl,k⟩;unfold zN;calc bf λN c=>?_;simp![1];calc⟨m,f,W,Y,Y,?_⟩;simp![1];subst c;calc bf λN c=>?_;simp![1];calc⟨a,0,_,⟨Y,Y,by decide⟩,?_⟩;subst c;calc bf λN c=>?_;simp![1];calc⟨a,0,_,⟨Y,Y,by show 1<1000;decide⟩,?_⟩;subst c;calc bf λN c=>?_;simp![1];refine⟨a,0,_,⟨Y,Y,by show 2<1000;decide⟩,?_⟩
 subst c;simp![0];ext b;calc⟨a,0,_,⟨Y,Y,by show 3<1000;decide⟩,?_⟩;calc⟨_,[gO b cg],[],Y,Y,k b⟩
inductive sD (C:U) (ys:-DV) (aK:-OV) (K:RK->-OV->-OV->Prop):Prop
 |mk (a b:U) (m:Int) (ws:-Wy) (N:Nt) (h:Int) (_:aI m ws) (_:dc m ws N) (_:(0<=h/\h<m)) (_:↑N.q<900) (_:ys=[.w a,.p (.int h)]) (_:aK=[nO C a b m ws N,gO b N]) (_:K (.p (jR (N.tell m ws (.wake h)))) [nO C a b m ws (N.step m ws (.wake h)),gO b (N.step m ws (.wake h))] [])
def zO(c_Night:U):WS:=(az (bj (bQ (dT (aA 3 nv (aq (aa 1) (aq (dC (.int 0)) (aq (d2 (d2 (ag c_Night "town" (aa 0)) (dC (.int 0)) bc) (dC (.int 1)) (oI λi j=>.int (i-j))) ae)))))) eX cP) (az (aJ 2 (ag c_Night "begun" (aa 0))) (az (aE c_Night "begun" (d2 (aa 2) (dC (.int 1)) bX) (aa 0)) (az (bj (dT (d2 (aa 1) (d2 (ag c_Night "latest" (aa 0)) (dC (.int 2)) bc) (dn ι))) (aZ (bh (aq (dC .non) (aq (dC (.int 0)) ae)))) cP) (az (aJ 3 (aA 3 zF (aq (ag c_Night "town" (aa 0)) (aq (ag c_Night "latest" (aa 0)) (aq (aa 1) ae))))) (az (aN (bh (aq (aa 1) (aq (d2 (aa 3) (dC (.int 0)) bc) ae))) (ah (ag c_Night "going" (aa 0))) (aa 2)) (az (aE c_Night "latest" (d2 (aa 3) (dC (.int 2)) bc) (aa 0)) (aZ (bh (aq (dC .non) (aq (d2 (aa 3) (dC (.int 1)) bc) ae)))))))))))
theorem QN(C:U):∀ys aK f,↑ys=2->sD C ys aK f->zO C (af ↑aK f) ⟨ys.map ζ++VF 2 η,aK.map ζ⟩:=by
 ext r j f-⟨a,b,m,e,N,h,W,O,g,t,rfl,rfl,k⟩;let l:=hU N.s;let u:=zf (i:=0) (q:=N.q);unfold zO;calc bf λM d=>?_;simp![1];calc⟨a,0,_,.p (a7 m e),⟨Y,Y,Y⟩,?_⟩;simp![1,a7,dw];calc⟨.int h,0,m-1,Y,Y,?_⟩;simp![1];rw[rM g.1 ⋯];simp![1];subst d;calc bf λM d=>?_;simp![1];calc⟨a,0,_,.p (.int (↑N.q:Int)),⟨Y,Y,Y⟩,?_⟩;subst d
 calc bf λM d=>?_;simp![1];calc⟨a,0,_,⟨Y,Y,by show 4<1000;decide⟩,?_⟩;subst d;calc bf λM d=>?_;calc iD λA B n o=>?_;simp![1];calc⟨a,0,_,.p (gw N.p N.k N.s),⟨Y,Y,Y⟩,?_⟩;simp![1,gw,at2,tupI,l];rw[jj];unfold Nt.tell Nt.step at k;dsimp only at k
 by_cases c:h∈N.s
 .rw[VG c]
  rw[VD c,VD c] at k;simp![1];subst n;simp![1];calc⟨[_,_],[],[],Y,Y,?_⟩;unfold nO gO at k;dsimp only at k;rw[zd,qG] at k;exact k
 .rw[VC c]
  rw[VB c,VB c] at k;simp![1];subst o;show M _;subst d;calc bf λM d=>?_;simp![1];calc⟨a,0,_,.p (a7 m e),⟨Y,Y,Y⟩,a,0,_,.p (gw N.p N.k N.s),⟨Y,Y,Y⟩,?_⟩;simp![1];calc⟨m,e,N,h,W,O,g,Y,Y,?_⟩;simp![1];subst d;calc bf λM d=>?_;simp![0,dw];refine⟨a,0,_,.w b,⟨Y,Y,Y⟩,b,1,gO b N,⟨Y,Y,Y⟩,?_⟩
  simp![0,gO];calc⟨⋯,?_⟩;rw[show D.tup [.int h,oD (fW e (a5 m e N.p h))]=l8 (fW e (a5 m e N.p h),h) from Y,Qb];subst d;calc bf λM d=>?_;simp![1,at2];calc⟨a,0,_,⟨Y,Y,by show 4<1000;decide⟩,?_⟩;subst d;simp![1,eB];calc⟨[_,_],[],[],Y,Y,?_⟩;unfold nO gO at k;dsimp only at k;rw[qG] at k;calc k
inductive pR (C:U) (ys:-DV) (aK:-OV) (K:RK->-OV->-OV->Prop):Prop
 |mk (a b:U) (m:Int) (ws:-Wy) (N:Nt) (i:Nat) (_:aI m ws) (_:dc m ws N) (_:gW m N (.fin i)) (_:ys=[.w a,.p (.int (i:Int))]) (_:aK=[nO C a b m ws N,gO b N]) (_:K (.p (jR (N.tell m ws (.fin i)))) [nO C a b m ws (N.step m ws (.fin i)),gO b (N.step m ws (.fin i))] [])
def zP(c_Night:U):WS:=(az (bj (eP (bQ (dT (aA 1 um (aq (aa 1) ae)))) (dT (au θ (aa 1) (ah (ag c_Night "going" (aa 0)))))) eX cP) (az (aJ 2 (aR (ah (ag c_Night "going" (aa 0))) (aa 1))) (az (aJ 3 (aA 4 zL (aq (ag c_Night "town" (aa 0)) (aq (ag c_Night "latest" (aa 0)) (aq (d2 (aa 2) (dC (.int 0)) bc) (aq (d2 (aa 2) (dC (.int 1)) bc) ae)))))) (az (aE c_Night "latest" (d2 (aa 3) (dC (.int 2)) bc) (aa 0)) (aZ (bh (aq (d2 (aa 3) (dC (.int 0)) bc) (aq (d2 (aa 3) (dC (.int 1)) bc) ae))))))))
theorem zQ{m:Int}{ws:-Wy}{N:Nt}{q:-gH}(fo:Option Int)(h:Int):dA m ws ⟨N.p,N.k,N.s,q⟩ fo h=⟨(dA m ws N fo h).p,(dA m ws N fo h).k,(dA m ws N fo h).s,q⟩:=by
 cases fo<;>unfold dA<;>dsimp only<;>split<;>rfl
theorem QO(C:U):∀ys aK d,↑ys=2->pR C ys aK d->zP C (af ↑aK d) ⟨ys.map ζ++VF 2 η,aK.map ζ⟩:=by
 ext x n d-⟨a,b,m,g,N,i,W,O,⟨e,h,f⟩,rfl,rfl,k⟩;let⟨o,r,y⟩:=O.q i e h f;let l:cL (cN 0 N.q) (.inl (i:Int))=ζ (l8 (e,h)):=by let:=zg (i:=0) f;rwa [VI] at this
 let t:kM (cN 0 N.q) (.inl (i:Int))=cN 0 (N.q.set i η):=by let:=zh (i:=0) (j:=i) (q:=N.q);rwa [VI] at this
 unfold Nt.tell Nt.step at k;dsimp only at k;rw[f] at k;dsimp only at k;rw[zQ] at k;unfold zP;calc bf λM c=>?_;calc iD λA B z u=>?_;simp![0];calc⟨.int i,Y,Y,?_⟩;simp![0,xI];calc⟨a,0,_,.w b,⟨Y,Y,Y⟩,b,1,gO b N,⟨Y,Y,Y⟩,?_⟩;simp![0,gO,l,q0E,q0Q];subst u;show M _
 subst c;calc bf λM c=>?_;simp![0];calc⟨a,0,_,.w b,⟨Y,Y,Y⟩,b,1,gO b N,⟨Y,Y,Y⟩,?_⟩;simp![0,gO,l,t];subst c;calc bf λM c=>?_;simp![1];calc⟨a,0,_,.p (a7 m g),⟨Y,Y,Y⟩,a,0,_,.p (gw N.p N.k N.s),⟨Y,Y,Y⟩,?_⟩;simp![1,l8,dw,eB];calc⟨m,g,N,e,h,W,O,o,r,Y,Y,?_⟩;simp![1]
 subst c;calc bf λM c=>?_;simp![1,at2];calc⟨a,0,_,⟨Y,Y,by show 4<1000;decide⟩,?_⟩;subst c;simp![1,dw,eB];calc⟨[_,_],[],[],Y,Y,?_⟩;unfold nO gO at k;dsimp only at k;rw[XU] at k;calc k
section
variable{m:Int}{ws:-Wy}
theorem pS:∀{N:Nt}{es:-cM}{i:Nat}{e:cM},iH m ws N es->es[i]?=ζ e->gW m (runN m ws N (es.take i)) e/\iH m ws N (es.take i)
 |_,[],_,_,_,h=>by simp at h
 |N,x::r,0,e,h,q=>by cases(show ζ x=ζ e by simpa using q);exact⟨h.1,trivial⟩
 |N,x::r,i+1,e,h,q=>by
  let:=pS (N:=N.step m ws x) (es:=r) (i:=i) (e:=e) h.2 q⁻¹;calc⟨this.1,h.1,this.2⟩
theorem QP(N:Nt)(e:cM):(N.step m ws e).q.length<=↑N.q+1:=by
 cases e with
 |wake h =>
  unfold Nt.step;dsimp only;split
  .show ↑(N.q++[η])<=_;rw[qG];exact B8 _
  .show ↑(N.q++[ζ _])<=_;rw[qG];exact B8 _
 |fin i =>
  unfold Nt.step;dsimp only;split
  .rename_i a h _
   rw[zQ (N:=N) a h];show↑(N.q.set i η)<=_;rw[XU];symm
  .omega
theorem oV:∀{N:Nt}{es:-cM},(runN m ws N es).q.length<=↑N.q+↑es
 |_,[]=>B8 _
 |N,x::r=>by
  let:=oV (N:=N.step m ws x) (es:=r);let:=QP (m:=m) (ws:=ws) N x;show(runN m ws (N.step m ws x) r).q.length<=_;rw[wq];symm
theorem pT{b:Type}{l:-b}{i:Nat}{a:b}(h:l[i]?=ζ a):l.take (i+1)=l.take i++[a]:=by
 rw[List.take_add_one,h];rfl
end
inductive zR (C:U) (ys:-DV) (aK:-OV) (K:RK->-OV->-OV->Prop):Prop
 |mk (a b:U) (m:Int) (ws:-Wy) (N:Nt) (e:cM) (_:aI m ws) (_:dc m ws N) (_:gW m N e) (_:↑N.q<900) (_:ys=[.w a,.p (hV e)]) (_:aK=[nO C a b m ws N,gO b N]) (_:K (.p (jR (N.tell m ws e))) [nO C a b m ws (N.step m ws e),gO b (N.step m ws e)] [])
def zS(c_Night:U):WS:=(az (bj (bT (dT (aA 2 pH (aq (aa 1) (aq (dC (.int 2)) ae)))) (dT (d2 (d2 (aa 1) (dC (.int 0)) bc) (dC (.str "wake")) oEq))) (aZ (aB ι c_Night "wake" 2 (sD c_Night) (aa 0) (aq (d2 (aa 1) (dC (.int 1)) bc) ae))) cP) (az (bj (bT (dT (aA 2 pH (aq (aa 1) (aq (dC (.int 2)) ae)))) (dT (d2 (d2 (aa 1) (dC (.int 0)) bc) (dC (.str "end")) oEq))) (aZ (aB ι c_Night "end" 2 (pR c_Night) (aa 0) (aq (d2 (aa 1) (dC (.int 1)) bc) ae))) cP) eX))
theorem QQ(C:U):∀ys aK d,↑ys=2->zR C ys aK d->zS C (af ↑aK d) ⟨ys.map ζ++VF 0 η,aK.map ζ⟩:=by
 ext s n d-⟨a,b,m,c,N,e,W,O,g,o,rfl,rfl,k⟩;let p:dEq (.str "wake") (.str "wake")=θ:=Y;let q:dEq (.str "end") (.str "wake")=ι:=Y;let r:dEq (.str "end") (.str "end")=θ:=Y;unfold zS;refine bf λM j=>iD λA B f l=>?_
 cases e with
 |wake h =>
  simp![1,hV];calc⟨.tup [.str "wake",.int h],2,Y,Y,?_⟩;simp![1,oB,dw,p,q1H,q0I];subst f;simp![1];calc⟨⟨a,0,_,Y,Y,Y⟩,?_⟩;simp![1,eB];calc⟨[(0,nO C a b m c N),(1,gO b N)],⟨Y,Y,trivial⟩,?_⟩;simp![1];calc⟨a,b,m,c,N,h,W,O,g,o,Y,Y,?_⟩;simp![1];exact⟨[_,_],[],[],Y,Y,k⟩
 |fin i =>
  simp![1,hV];calc⟨.tup [.str "end",.int i],2,Y,Y,?_⟩;simp![1,oB,dw,q,q1H,q0I];subst l;simp![1];subst j;calc bf λM j=>iD λA B f l=>?_;simp![1];calc⟨.tup [.str "end",.int i],2,Y,Y,?_⟩;simp![1,oB,dw,r,q1H,q0I];subst f;simp![1];calc⟨⟨a,0,_,Y,Y,Y⟩,?_⟩;simp![1,eB]
  calc⟨[(0,nO C a b m c N),(1,gO b N)],⟨Y,Y,trivial⟩,?_⟩;simp![1];calc⟨a,b,m,c,N,i,W,O,g,Y,Y,?_⟩;simp![1];calc⟨[_,_],[],[],Y,Y,k⟩
inductive zT (C:U) (ys:-DV) (aK:-OV) (K:RK->-OV->-OV->Prop):Prop
 |mk (a b:U) (m:Int) (ws:-Wy) (es:-cM) (_:aI m ws) (_:iH m ws cg es) (_:↑es<900) (_:ys=[.w a,.p (.lst (es.map hV))]) (_:aK=[nO C a b m ws cg,gO b cg]) (_:K (.n ((kK m ws cg es).map jR)) [nO C a b m ws (runN m ws cg es),gO b (runN m ws cg es)] [])
def zU(c_Night:U):WS:=(az (aJ 2 (eI ae)) (az (bH (bW (aq (aa 1) ae)) (dz 2 (cj (bo 3) (cj (bo 4) dt))) (dr (bU (aa 2) (aq (aD ι 2 (zR c_Night) (aq (aa 0) (aq (aa 4) ae))) ae)))) (aZ (aa 2))))
theorem QR(C:U):∀ys aK g,↑ys=2->zT C ys aK g->zU C (af ↑aK g) ⟨ys.map ζ++VF 3 η,aK.map ζ⟩:=by
 ext J z g-⟨a,b,m,ws,es,W,A,B,rfl,rfl,k⟩;unfold zU;calc bf λM h=>?_;simp![1];subst h;calc bf λM h=>j_ λK O P D j E=>?_;simp![1];subst D j E;refine jA (λi l=>l=⟨[ζ (.w a),ζ (.p (.lst (es.map hV))),ζ (.o 2),η,η],[ζ (nO C a b m ws (runN m ws cg (es.take i))),ζ (gO b (runN m ws cg (es.take i))),ζ (.lst ((kK m ws cg (es.take i)).map jR))]⟩) Y ?_ ?_
 .ext i d l L F rfl G
  let⟨Q,s,t⟩:=l3 F;rw[VI] at t;subst t;rw[B_] at s;let⟨e,n,rfl⟩:=KI.mp s;let H:i<↑es:=(pa.mp n).1;let⟨u,I⟩:=pS A n;let f:=oV (m:=m) (ws:=ws) (N:=cg) (es:=es.take i);let x:=yW (m:=m) (ws:=ws) (N:=cg) (a:=es.take i);rw[Wv,q1I (Xc H)] at f x;let f:(runN m ws cg (es.take i)).q.length<=i:=by let:=f;erw[cg,VO,VI] at this;exact this
  let y:=dc.run W (lK m ws) I;let r:∀c,c=_->L c:=G;rw[pT n,oK,yV] at r;generalize runN m ws cg (es.take i)=N at y u f r ⊢;calc⟨trivial,?_⟩;erw[dz,cj,dt,bo,wq,VO,Vz,VA,VI,Wr,XB];simp![1,bR];calc⟨[(0,nO C a b m ws N),(1,gO b N)],⟨Y,Y,trivial⟩,?_⟩;simp![1];calc⟨a,b,m,ws,N,e,W,y,u,⋯,Y,Y,?_⟩;simp![1,b3];calc⟨by rw[x];symm,?_⟩;calc r _ ?_;rw[VQ];rfl
 .ext l rfl
  calc⟨trivial,?_⟩;show M _;subst h;simp![1];calc⟨[_,_],[],[ζ (.lst _)],Y,Y,B8 _,?_⟩;rw[l0,nW,VW];calc k
end LJ
namespace PySem
open Sem (wp)
section
variable{prog:X}{w:l}{A:t}{E:bt}{s:L}{z TI TO i j:U}{fp gp:-U}{n m k:Nat}{P P':Nat->M->Prop}{St U2:Nat->Q->Prop}{a b:M}
end
section
variable{prog:X}{w:l}{A:t}{E:bt}{s:L}
end
end PySem
namespace L2
open PySem PySem.Spec PyProof.Rows
section
variable{X:Cx}{pins:a6}{σ:St}{H:Hp}{s:L}
end
section
variable{X:Cx}{elts:-J}{x1:Nat}{tp:I}
end
section
variable[a9]{X:Cx}{a b:J}{fa:WA}
end
end L2
namespace LJ
open PySem L2
variable[a9]
inductive zV (ys:-DV) (aK:-OV) (K:RV->-OV->Prop):Prop
 |mk (m:Int) (ws:-Wy) (l:-Int) (n:Int) (_:aI m ws) (_:(0<=n/\n<(↑ws:Int))) (_:ys=[.p (a7 m ws),.p (a_ l),.p (.int n)]) (_:aK=[]) (_:K (.p (.bl (gs l (aO ws n)))) [])
def zW:WS:=(az (b7 (b9 (d2 (d2 (aa 0) (dC (.int 1)) bc) (aa 2) bc) b8 (eZ (dC (.int 2)))) (dz 2 (cj (bo 3) (cj (bo 4) dt)))) (aZ (d2 (d2 (aa 3) (aa 1) (dn ι)) (d2 (aa 4) (aa 1) (dn ι)) fF)))
theorem QS:Sem 3 2 zV zW:=by
 ext j a o-⟨m,b,l,n,W,⟨c,d⟩,rfl,rfl,k⟩;let⟨y,e,r,f,_⟩:=mE W c d;let g:aO b n=y:=e;rw[g] at k;unfold zW;calc bf λN h=>?_;let i:cutD [D.int y.1,D.int y.2.1,D.int y.2.2] η (ζ 2)=[D.int y.1,D.int y.2.1]:=Y;simp![a7,eB,f,bJ,i];subst h;simp![a_];let s:=hU l;calc⟨⋯,⋯,?_⟩;rw[jj,jj];unfold gs at k;generalize S (y.1∈l)=p at k;generalize S (y.2.1∈l)=q at k;cases p<;>cases q<;>calc cK k
noncomputable def sE:D->D
 |.tup [_,n]=>n
 |_=>.non
inductive sF (ys:-DV) (aK:-OV) (K:RV->-OV->Prop):Prop
 |mk (m:Int) (ws:-Wy) (us:-Int) (h:Int) (_:aI m ws) (_:Nums ws us) (_:(0<=h/\h<m)) (_:ys=[.p (a7 m ws),.p (a_ us),.p (.int h)]) (_:aK=[]) (_:K (.p (a_ (a5 m ws us h))) [])
def zX:WS:=(az (aJ 3 (aA 2 xW (aq (aa 0) (aq (aa 1) ae)))) (aZ (cx (eA (aq (d2 (aa 0) (dC (.int 0)) bc) ae)) [η,ζ 3,ζ 2] (bo 0) (dT (d2 (d2 (aa 1) (aa 0) bc) (d2 (aa 1) (aa 2) bc) oEq)) (aa 0))))
open Classical in
theorem QT:Sem 3 1 sF zX:=by
 rintro ys aK K'-⟨m,ws,us,h,W,hu,hh,rfl,rfl,k⟩;obtain⟨i,rfl⟩:=Yl hh.1;have hi:i<m.toNat:=by symm
 have iA:=W.iA;have mo:=yz W hu;have a1:=oC (ns:=ic m ws us) (i:=i) (by rw[mo.1];exact hi);unfold a5 at k;unfold zX;refine bf λN hN=>?_;simp!;refine⟨m,ws,us,W,hu,.inl ⟨rfl,rfl,?_⟩⟩;generalize ic m ws us=fs at mo a1;rw[show a_ fs=.lst (fs.map D.int) from rfl];simp!;subst hN;simp![a7,dw];refine⟨⋯,?_⟩
 refine L2.j8 (λd=>match d with
  |.int x=>decide (bA (eV ws us) i x)
  |_=>false) id (by rw[lz];symm) trivial ?_ ?_
 .intro d hd acc L' ha h1 h2
  obtain⟨z,hz⟩:=VJ.mp hd;obtain⟨zl,rfl⟩:=ly hz;rw[q2U] at h1 h2 ⊢;have a2:=oC (ns:=fs) (i:=z) (by rw[mo.1];exact zl);dsimp only at h1 h2;simp![a1,a2];rw[rY]
  by_cases q:bA (eV ws us) i z
  .rw[VG ((mo.2 z i zl hi).mpr q.symm)]
   simp!;exact⟨ha,h1 (VG q)⟩
  .rw[VC λy=>q ((mo.2 z i zl hi).mp y).symm]
   simp!;exact h2 (VC q)
 have e:((dm 0 m.toNat).filter λd=>match d with
  |.int x=>decide (bA (eV ws us) i x)
  |_=>false).map id=(cls m.toNat (eV ws us) i).map D.int:=by
  unfold cls;rw[q0W,ou,Yd];rfl
 rw[e];exact cK k
inductive zY (ys:-DV) (aK:-OV) (K:RV->-OV->Prop):Prop
 |mk (m:Int) (ws:-Wy) (l us:-Int) (_:aI m ws) (_:Nums ws us) (_:↑us<=30) (_:ys=[.p (a7 m ws),.p (a_ l),.p (a_ us)]) (_:aK=[]) (_:∀os:-Int,os.Perm (us.filter λn=>gs l (aO ws n))->(os.map (fu ws)).Pairwise kle->K (.p (a_ os)) [])
def zZ:WS:=(az (aJ 3 (cx (bp (aa 2)) [η,ζ 0,ζ 1] (bo 0) (dT (aA 3 zV (aq (aa 1) (aq (aa 2) (aq (aa 0) ae))))) (bh (aq (aA 2 yj (aq (aa 1) (aq (aa 0) ae))) (aq (aa 0) ae))))) (aZ (cx (bp (dN (aq (aa 3) ae) uA)) [η,η] (dz 2 (cj (bo 0) (cj (bo 1) dt))) bI (aa 1))))
theorem QU:Sem 3 1 zY zZ:=by
 ext H z I-⟨m,c,l,j,W,A,o,rfl,rfl,k⟩;let t:↑(j.filter λn=>gs l (aO c n))<=30:=Wq (WZ _ _) o;unfold zZ;calc bf λN B=>?_;rw[show a_ j=.lst (j.map D.int) from Y];simp!
 refine j8 (λd=>match d with
  |.int n=>gs l (aO c n)
  |_=>ι) (λd=>match d with
  |.int n=>kJ c n
  |_=>.non) (by rw[nW];symm) trivial ?_ ?_
 .ext d g p L r u v
  let⟨n,C,rfl⟩:=VH.mp g;let w:=A n C;dsimp only at u v;simp!;calc⟨m,c,l,n,W,w,Y,Y,?_⟩;simp!
  cases q:gs l (aO c n) with
  |false=>simp!;exact v q
  |true =>
   simp!;calc⟨m,c,n,W,w,Y,Y,?_⟩;simp!;exact⟨r,u q⟩
 let e:((j.map D.int).filter λd=>match d with
  |.int n=>gs l (aO c n)
  |_=>ι).map (λd=>match d with
  |.int n=>kJ c n
  |_=>.non)=(j.filter λn=>gs l (aO c n)).map (kJ c):=by
  rw[Yd,VU];rfl
 rw[e];generalize j.filter (λn=>gs l (aO c n))=E at t k;subst B;simp![uA]
 refine⟨⋯,λd=>match d with
  |.tup [.tup F,.int n]=>(match intsOf F with
   |some l=>l++[n]
   |none=>[])
  |_=>[],.inr ⟨3,λd g=>?_⟩,λi x s=>?_⟩
 .let⟨n,_,rfl⟩:=VH.mp g
  refine⟨fu c n,n,Y,Y,?_⟩
  show(match intsOf ((fu c n).map D.int) with
   |some l=>l++[n]
   |none=>[])=_
  rw[j7]
 .let⟨f,rfl,y⟩:∃f:-Int,i=f.map (kJ c)/\f.Perm E:=by
   refine⟨i.map λd=>match d with
    |.tup [_,.int n]=>n
    |_=>0,?_,?_⟩
   .rw[VU]
    calc(q0W i).symm.trans (W6 λd g=>?_);let⟨n,_,rfl⟩:=VH.mp (x.mem_iff.mp g);rfl
   .let:=x.map λd=>match d with
     |.tup [_,.int n]=>n
     |_=>0
    rw[VU] at this;exact this.trans (List.Perm.of_eq ((W6 λn _=>Y).trans (q0W _)))
  let J:↑f<=30:=by rw[y.length_eq];exact t
  let G:(f.map (fu c)).Pairwise kle:=by
   rw[VU] at s;rw[XN] at s ⊢;refine s.imp λ{a b} h=>?_
   let h:kle ((match intsOf ((fu c a).map D.int) with
    |some l=>l++[a]
    |none=>[])) ((match intsOf ((fu c b).map D.int) with
    |some l=>l++[b]
    |none=>[])):=h
   rw[j7,j7] at h;exact Ob Y h
  refine L2.j9 sE (by rw[nW];symm) trivial ?_ ?_
  .ext d g p L r h
   let⟨n,_,rfl⟩:=VH.mp g;simp![kJ];exact⟨r,h⟩
  .let e:(f.map (kJ c)).map sE=f.map D.int:=by rw[VU];rfl
   rw[e];calc cK (k f y G)
noncomputable def fx:gH->D
 |none=>.non
 |some x=>.tup [oD x.1,.int x.2]
noncomputable def lO(a b:U)(N:Nt):OV:=.av a [(.inr "put",.p (a_ N.p)),(.inr "known",.p (a_ N.k)),(.inr "sure",.p (a_ N.s)),(.inr "searches",.w b)]
noncomputable def sO(b:U)(N:Nt):OV:=.al b (N.q.map fx)
def z5(C:U):GK:=λd c K=>d=[]/\c=[]/\∀a b,K (.w a) [] [lO a b cg,sO b cg]
def z6(c_Night:U):WS:=(aZ (aS [("put",(bG ae)),("known",(bG ae)),("sure",(bG ae)),("searches",(eI ae))]))
theorem QV(C:U):∀ys aK c,↑ys=0->z5 C ys aK c->z6 C (af ↑aK c) ⟨ys.map ζ++VF 0 η,aK.map ζ⟩:=by
 ext e d c-⟨rfl,rfl,k⟩;unfold z6;simp![0];ext b a;calc⟨[],[lO a b cg,sO b cg],[],Y,Y,k a b⟩
noncomputable def cv:Nat->-gH->-Int
 |_,[]=>[]
 |i,none::r=>cv (i+1) r
 |i,some _::r=>(i:Int)::cv (i+1) r
theorem sG:∀{i:Nat}{q:-gH}{x:Int},x∈cv i q->∃j fo h,x=((i+j:Nat):Int)/\q[j]?=ζ (ζ (fo,h))
 |i,[],x,h=>nomatch h
 |i,none::r,x,h=>by
  let⟨j,a,b,e,g⟩:=sG (i:=i+1) (q:=r) h;exact⟨j+1,a,b,by rw[e];congr 1;symm,by simpa using g⟩
 |i,some y::r,x,h=>by
  rcases Uw.mp h with rfl|h
  .exact⟨0,y.1,y.2,Y,Y⟩
  .let⟨j,a,b,e,g⟩:=sG (i:=i+1) (q:=r) h
   calc⟨j+1,a,b,by rw[e];congr 1;symm,by simpa using g⟩
theorem sH:∀{i:Nat}{q:-gH},↑(cv i q)<=↑q
 |i,[]=>B8 _
 |i,none::r=>q21 (sH (i:=i+1) (q:=r))
 |i,some x::r=>Z5 (sH (i:=i+1) (q:=r))
noncomputable def lN:D->Bool
 |.tup [_,.non]=>ι
 |_=>θ
noncomputable def iK:D->D
 |.tup [x,_]=>x
 |_=>.non
theorem z7:∀{i:Nat}{q:-gH},(((iS i (q.map fx)).filter lN).map iK)=(cv i q).map D.int
 |i,[]=>Y
 |i,none::r=>by
  show((D.tup [.int i,.non]::iS (i+1) (r.map fx)).filter lN).map iK=_;rw[Y5 (by simp[lN])];exact z7 (i:=i+1) (q:=r)
 |i,some y::r=>by
  show((D.tup [.int i,.tup [oD y.1,.int y.2]]::iS (i+1) (r.map fx)).filter lN).map iK=_;rw[Y4 (by rfl),Uz,z7 (i:=i+1) (q:=r)];rfl
inductive z8 (C:U) (ys:-DV) (aK:-OV) (K:RK->-OV->-OV->Prop):Prop
 |mk (a b:U) (N:Nt) (_:↑N.q<900) (_:ys=[.w a]) (_:aK=[lO a b N,sO b N]) (_:K (.p (a_ (cv 0 N.q))) [lO a b N,sO b N] [])
def z9(c_Night:U):WS:=(aZ (cx (bW (aq (ah (aj "searches" (aa 0))) ae)) [η,η] (dz 2 (cj (bo 0) (cj (bo 1) dt))) (dT (d2 (aa 1) (dC .non) fT)) (aa 0)))
theorem QW(C:U):∀ys aK c,↑ys=1->z8 C ys aK c->z9 C (af ↑aK c) ⟨ys.map ζ++VF 0 η,aK.map ζ⟩:=by
 ext p j c-⟨a,b,N,q,rfl,rfl,k⟩;unfold z9;simp![0];calc⟨a,0,_,.w b,⟨Y,Y,Y⟩,b,1,sO b N,⟨Y,Y,Y⟩,?_⟩;simp![0,sO];refine L2.j8 lN iK ?_ ?_ ?_ ?_
 .rw[l0,nW];symm
 .trivial
 .ext d l m L n f g
  let⟨i,o⟩:=VJ.mp l;let⟨e,h,rfl⟩:=l3 o;rw[B_] at h;let⟨s,r,rfl⟩:=KI.mp h;rw[VI] at f g ⊢;simp![0]
  cases s with
  |none=>simp![0,fx];exact g Y
  |some y=>simp![0,fx];exact⟨n,f Y⟩
 .rw[z7]
  calc⟨[_,_],[],[],Y,Y,k⟩
theorem z_{a b:U}{N:Nt}:∃kvs,lO a b N=.av a kvs/\cL kvs (.inr "put")=ζ (.p (a_ N.p))/\cL kvs (.inr "known")=ζ (.p (a_ N.k))/\cL kvs (.inr "sure")=ζ (.p (a_ N.s))/\cL kvs (.inr "searches")=ζ (.w b)/\↑kvs=4
 /\ (∀d,putD kvs (.inr "put") d=[(.inr "put",d),(.inr "known",.p (a_ N.k)),(.inr "sure",.p (a_ N.s)),(.inr "searches",.w b)])
 /\ (∀d,putD kvs (.inr "known") d=[(.inr "put",.p (a_ N.p)),(.inr "known",d),(.inr "sure",.p (a_ N.s)),(.inr "searches",.w b)])
 /\ (∀d,putD kvs (.inr "sure") d=[(.inr "put",.p (a_ N.p)),(.inr "known",.p (a_ N.k)),(.inr "sure",d),(.inr "searches",.w b)]) :=
 ⟨_,Y,Y,Y,Y,Y,Y,λ_=>Y,λ_=>Y,λ_=>Y⟩
theorem QX(l:-Int):((l.map D.int).any λe=>dEq e .non)=ι:=by
 rw[q42];calc YT.mpr λx _=>by simp[dEq]
noncomputable def sI(a:Int)(g:-Int):D->Bool
 |.tup [.int n,.tup [.int i,.int j,_]]=>(S (a=i)||S (a=j))&&S (n∉g)
 |_=>ι
theorem QY(ws:-Wy)(b:Int)(g:-Int):((iS 0 (ws.map bJ)).filter (sI b g)).map iK=(lM ws g b).map D.int:=by
 let d:∀(a:-Wy)(c:-Wy),ws=a++c->((iS ↑a (c.map bJ)).filter (sI b g)).map iK=(((q0Y ↑a ↑c).map λ(i:Nat)=>(i:Int)).filter λn=>(S (b=(aO ws n).1)||S (b=(aO ws n).2.1))&&S (n∉g)).map D.int:=by
  ext a c
  induction c generalizing a with
  |nil=>ext _;rfl
  |cons y r f =>
   ext e;let h:=f (a++[y]) (by rw[X0];calc e);rw[qG,WH] at h
   let j:aO ws (↑a:Int)=y:=by
    unfold aO;rw[V7,e,KG,My (B8 _),Xg];rfl
   show((D.tup [.int (↑a:Nat),bJ y]::iS (↑a+1) (r.map bJ)).filter (sI b g)).map iK=_;rw[wq,q3d,Uz,XA,XA,j];show(if((S (b=y.1)||S (b=y.2.1))&&S ((↑a:Int)∉g))=θ then _ else _:-D).map iK=_;split
   .rw[Uz,Uz,h];rfl
   .exact h
 let:=d [] ws Y;rw[VO] at this;rw[this];unfold lM bK;rw[Zh]
theorem E7(ws:-Wy)(g l:-Int):↑(jk ws g l)<=↑l*↑ws:=by
 unfold jk
 induction l with
 |nil=>simp
 |cons x r a =>
  rw[q22,qG,wq,q4N]
  let:↑(lM ws g x)<=↑ws:=by
   unfold lM;calc Wq (WZ _ _) ?_;rw[k7];exact B8 _
  symm
inductive Aa (C:U) (ys:-DV) (aK:-OV) (K:RK->-OV->-OV->Prop):Prop
 |mk (a b:U) (m:Int) (ws:-Wy) (N:Nt) (h:Int) (_:aI m ws) (_:dc m ws N) (_:(0<=h/\h<m)) (_:↑N.q<900) (_:ys=[.p (a7 m ws),.w a,.p (.int h)]) (_:aK=[lO a b N,sO b N]) (_:K (.p (jR (N.tell m ws (.wake h)))) [lO a b (N.step m ws (.wake h)),sO b (N.step m ws (.wake h))] [])
def Ab(c_Night:U):WS:=(az (bj (dT (d2 (aa 2) (aj "sure" (aa 1)) (dn ι))) (az (dr (bU (ah (aj "searches" (aa 1))) (aq (dC .non) ae))) (aZ (bh (aq (dC .non) (aq (dC (.int 0)) ae))))) cP) (az (aJ 3 (aA 3 sF (aq (aa 0) (aq (aj "put" (aa 1)) (aq (aa 2) ae))))) (az (aJ 4 (d2 (aj "put" (aa 1)) (aj "known" (aa 1)) bX)) (az (aJ 5 (eI ae)) (az (bH (bp (aa 3)) (bo 6) (dr (cJ (aa 5) (aq (cx (bW (aq (d2 (aa 0) (dC (.int 1)) bc) ae)) [η,η,ζ 6,ζ 4] (dz 2 (cj (bo 0) (cj (bo 1) dt))) (bT (dT (d2 (aa 2) (b9 (aa 1) b8 (eZ (dC (.int 2)))) (dn ι))) (dT (d2 (aa 0) (aa 3) (dn θ)))) (aa 0)) ae)))) (az (aJ 7 (aA 3 zY (aq (aa 0) (aq (aa 3) (aq (dN (aq (aa 5) ae) aL) ae))))) (az (aP "known" (dN (aq (d2 (aj "known" (aa 1)) (cx (bp (dN (aq (aa 5) ae) aL)) [η,ζ 7] (bo 0) (dT (d2 (aa 0) (aa 1) (dn θ))) (aa 0)) bX) ae) kE) (aa 1)) (az (dr (bU (ah (aj "searches" (aa 1))) (aq (bh (aq (fD (dT (d2 (aa 7) (bG ae) fF)) (d2 (aa 7) (dC (.int 0)) bc) (dC .non)) (aq (aa 2) ae))) ae))) (aZ (bh (aq (dC .non) (aq (d2 (d2 (dC (.int 2)) (d2 (dN (aq (aa 3) ae) bC) (dC (.int 1)) (oI λi j=>.int (i-j))) bO) (d2 (dC (.int 2)) (dN (aq (aa 5) ae) bC) bO) bX) ae))))))))))))
theorem QZ(C:ξ):∀ys aK Q,↑ys=3->Aa C ys aK Q->Ab C (af ↑aK Q) ⟨ys.map ζ++VF 5 η,aK.map ζ⟩:=by
 ext ys aK Q-⟨a,b,m,ws,N,h,W,O,hh,ql,rfl,rfl,k⟩;let z:=W.jE;let d0:=hU N.s;let pl:=O.pl W;let kl:=O.kl W;let ll:=pP W (p:=N.p) (h:=h);unfold Ab;calc bf λM t=>?_;calc iD λA B hA hB=>?_;simp![0];calc⟨a,0,_,.p (a_ N.s),⟨rfl,rfl,rfl⟩,?_⟩;simp![0,a_];calc⟨⋯,?_⟩;rw[jj];unfold Nt.tell Nt.step at k;dsimp only at k
 by_cases c:h∈N.s
 .rw[VG c]
  rw[VD c,VD c] at k;simp![0];subst hA;calc bf λM2 U=>?_;simp![0];calc⟨a,0,_,.w b,⟨rfl,rfl,rfl⟩,b,1,sO b N,⟨rfl,rfl,rfl⟩,?_⟩;simp![0,sO];calc⟨⋯,?_⟩;subst U;simp![0];refine⟨[_,_],[],[],rfl,rfl,?_⟩
  unfold lO sO at k;dsimp only at k;rw[VQ] at k;exact k
 .rw[VC c]
  rw[VB c,VB c] at k;simp![0];subst hB;show M _;subst t;calc bf λM t=>?_;simp![0];calc⟨a,0,_,.p (a_ N.p),⟨rfl,rfl,rfl⟩,?_⟩;simp![0];calc⟨m,ws,N.p,h,W,O.pn,hh,rfl,rfl,?_⟩;simp![0]
  subst t;let⟨l,F⟩:∃l,l=a5 m ws N.p h:=⟨_,rfl⟩;rw[<-F] at ll;rw[<-F];calc bf λM t=>?_;simp![0];calc⟨a,0,_,.p (a_ N.p),⟨rfl,rfl,rfl⟩,a,0,_,.p (a_ N.k),⟨rfl,rfl,rfl⟩,?_⟩;simp![0,a_,nW];calc⟨⋯,?_⟩;rw[<-VQ];subst t;calc bf λM t=>?_;simp![0];subst t;let⟨g,hg⟩:∃g,g=N.p++N.k:=⟨_,rfl⟩
  rw[<-hg];let dg:=hU g;let al:=E7 ws g l;let U3:↑l*↑ws<=12*30:=q33 ll z;calc bf λM t=>j_ λg' b' K2 V X hK=>?_;simp![0];subst V X hK;refine jA (λi Y=>Y=⟨[ζ (.p (a7 m ws)),ζ (.w a),ζ (.p (.int h)),ζ (.p (.lst (l.map D.int))),ζ (.p (.lst (g.map D.int))),ζ (.o 2),η,η],[ζ (lO a b N),ζ (sO b N),ζ (.lst ((jk ws g (l.take i)).map D.int))]⟩) rfl ?_ ?_
  .ext i d Y L hi rfl hL
   rw[B_] at hi;let⟨f,ho,rfl⟩:=KI.mp hi;calc⟨trivial,?_⟩;let U4:=E7 ws g (l.take i);let il:i<↑l:=(pa.mp ho).1;let U5:↑(l.take i)*↑ws<=12*30:=q33 (by rw[Wv];symm) z
   let U6:↑(lM ws g f)<=↑ws:=by
    unfold lM;calc Wq (WZ _ _) ?_;rw[k7];exact B8 _
   erw[bo,Vz,VA];simp![0,a7,eB];refine L2.j8 (sI f g) iK (by rw[l0,nW];symm) trivial ?_ ?_
   .ext d Z acc L' ha G u
    let⟨j,hj⟩:=VJ.mp Z;let⟨e,g1,rfl⟩:=l3 hj;rw[B_] at g1;let⟨y,hy,rfl⟩:=KI.mp g1;let c2:cutD [D.int y.1,D.int y.2.1,D.int y.2.2] η (ζ 2)=[D.int y.1,D.int y.2.1]:=rfl;erw[sI,bJ,VI] at G u;simp![0,bJ,c2]
    let e1:(dEq (.int y.1) (.int f)||dEq (.int y.2.1) (.int f))=(μ (f=y.1)||μ (f=y.2.1)):=by
     rw[rY,rY,decide_eq_decide.mpr (@eq_comm _ y.1 f),decide_eq_decide.mpr (@eq_comm _ y.2.1 f)]
    rw[e1]
    cases q:(μ (f=y.1)||μ (f=y.2.1)) with
    |false =>
     rw[q] at u;simp![0];exact u rfl
    |true =>
     rw[q] at G u;simp![0];calc⟨⋯,?_⟩;rw[jj]
     by_cases R:(j:Int)∈g
     .rw[VG R]
      simp![0];exact u (by rw[q2k];calc VC (q06 R))
     .rw[VC R]
      simp![0];exact⟨ha,G (by rw[q2k];calc VG R)⟩
   .rw[QY]
    simp![0];calc⟨⋯,?_⟩;calc hL _ ?_;rw[pT ho];unfold jk;rw[List.flatMap_append,VQ,q22,List.flatMap_nil,dV];rfl
  .ext Y rfl
   calc⟨trivial,?_⟩;show M _;rw[nW,VW];let am:∀x∈jk ws g l,0<=x/\x<(↑ws:Int):=λx hx=>(gy.mp hx).1.1;let I:=uR am z;let rl:↑(gv (jk ws g l))<=↑ws:=EF am;let rn:Nums ws (gv (jk ws g l)):=λx hx=>am x (bB.mp hx);let ec:=Qf W N.p N.k l (by rw[F];calc(oM ..).nd);let eo:=Qc (h:=h) W O;let ek:=@Qd _ _ _ _ h W O;let S:=@Qe _ m ws W l;rw[<-F] at eo ek;rw[<-hg] at eo ek ec;let J:Q (.p (jR (η,si m ws N.p N.k h))) [lO a b ⟨N.p,oJ m ws N.p N.k h,N.s,N.q++[ζ (fW ws l,h)]⟩,sO b ⟨N.p,oJ m ws N.p N.k h,N.s,N.q++[ζ (fW ws l,h)]⟩] []:=by rw[F];exact k
   let hc:si m ws N.p N.k h=2*((↑l:Int)-1)+2*(↑(jk ws g l):Int):=by
    unfold si;rw[ec,<-F]
   rw[hc] at J;generalize jk ws g l=E at *;subst t;calc bf λM t=>?_;simp![0];rw[j7];dsimp only;calc⟨I,?_⟩;calc⟨m,ws,l,gv E,W,rn,⋯,rfl,rfl,λH T up=>?_⟩;rw[eo] at T;let ol:=(Py (ws:=ws) (l:=l));let U7:=T.length_eq;let U8:=hU H;simp![0];subst t;calc bf λM t=>?_;simp![0]
   calc⟨a,0,_,.p (a_ N.k),⟨rfl,rfl,rfl⟩,?_⟩;simp![0];rw[j7];dsimp only;calc⟨I,?_⟩;refine L2.j8 (mQ λn=>μ (n∉H)) (λd=>d) (by rw[nW];calc Wq rl ⋯) trivial ?_ ?_
   .ext d Z acc L ha G u
    let⟨n,hn,rfl⟩:=VH.mp Z;erw[mQ] at G u;simp![0,a_];calc⟨⋯,?_⟩;rw[jj]
    by_cases c:n∈H
    .rw[VG c];simp![0];exact u (VC (q06 c))
    .rw[VC c];simp![0];exact⟨ha,G (VG c)⟩
   rw[u1];let fl:=WZ (λn=>μ (n∉H)) (gv E);let K:=ek T
   change sortI (N.k++(sortI (fc E)).filter _)=_ at K
   change ↑((sortI (fc E)).filter _)<=↑(sortI (fc E)) at fl
   change ↑(sortI (fc E))<=_ at rl
   simp![0,a_];calc⟨⋯,?_⟩;rw[<-VQ];unfold kE;dsimp only;rw[j7];dsimp only;calc⟨by rw[qG];symm,?_⟩;rw[K];let⟨kvs,e1,e2,e3,e4,e5,e6,p1,p2,p3⟩:=z_ (a:=a) (b:=b) (N:=N);calc⟨a,0,kvs,⟨rfl,by rw[e1];rfl,⋯⟩,?_⟩;rw[p2];subst t;calc bf λM t=>?_;let S:=S T up
   let go:∀fd,fd=oD (fW ws l)->M ⟨[ζ (.p (.tup [.int m,.tup (ws.map bJ)])),ζ (.w a),ζ (.p (.int h)),ζ (.p (.lst (l.map D.int))),ζ (.p (.lst (g.map D.int))),ζ (.o 2),η,ζ (.p (.lst (H.map D.int)))],[ζ (.av a [(.inr "put",.p (a_ N.p)),(.inr "known",.p (a_ (oJ m ws N.p N.k h))),(.inr "sure",.p (a_ N.s)),(.inr "searches",.w b)]),ζ (.al b (N.q.map fx++[.tup [fd,.int h]])),ζ (.lst (E.map D.int))]⟩:=by
    ext fd rfl;subst t;simp![0];calc⟨.inl ⟨by decide,by decide⟩,.inl ⟨by decide,by decide⟩,?_⟩;calc⟨[_,_],[],[ζ _],rfl,rfl,?_⟩;unfold lO sO at J;dsimp only at J;rw[VQ] at J;exact J
   cases H with
   |nil =>
    simp![0,a7];calc⟨a,0,_,.w b,⟨rfl,rfl,rfl⟩,b,1,sO b N,⟨rfl,rfl,rfl⟩,?_⟩;simp![0,sO,dEq,dW];calc⟨⋯,?_⟩;exact go _ (by rw[<-S];rfl)
   |cons x r =>
    let P:dEq (.lst ((x::r).map D.int)) (.lst [])=ι:=by simp[dEq,dW]
    let a0:eW ((x::r).map D.int) 0=ζ (.int x):=dw;let Q0:=hU (x::r);generalize(x::r).map D.int=xr at P a0 Q0 go ⊢;simp![0,a7];calc⟨a,0,_,.w b,⟨rfl,rfl,rfl⟩,b,1,sO b N,⟨rfl,rfl,rfl⟩,?_⟩;simp![0,sO,P,a0];calc⟨⋯,?_⟩;calc⟨⋯,?_⟩;calc go _ (by rw[<-S];rfl)
inductive Ac (C:U) (ys:-DV) (aK:-OV) (K:RK->-OV->-OV->Prop):Prop
 |mk (a b:U) (m:Int) (ws:-Wy) (N:Nt) (i:Nat) (_:aI m ws) (_:dc m ws N) (_:gW m N (.fin i)) (_:ys=[.p (a7 m ws),.w a,.p (.int (i:Int))]) (_:aK=[lO a b N,sO b N]) (_:K (.p (jR (N.tell m ws (.fin i)))) [lO a b (N.step m ws (.fin i)),sO b (N.step m ws (.fin i))] [])
def Ad(c_Night:U):WS:=(az (b7 (d2 (ah (aj "searches" (aa 1))) (aa 2) bc) (dz 2 (cj (bo 3) (cj (bo 4) dt)))) (az (e8 (dC .non) (ah (aj "searches" (aa 1))) (aa 2)) (az (bj (eP (bT (dT (d2 (aa 3) (dC .non) cu)) (dT (d2 (aa 4) (aj "sure" (aa 1)) (dn ι)))) (dT (d2 (aa 3) (aj "put" (aa 1)) (dn ι)))) (aZ (bh (aq (dC .non) (aq (dC (.int 0)) ae)))) cP) (az (bj (dT (d2 (aa 3) (dC .non) cu)) (az (aJ 5 (aA 3 sF (aq (aa 0) (aq (aj "put" (aa 1)) (aq (aa 4) ae))))) (az (aP "sure" (dN (aq (d2 (aj "sure" (aa 1)) (aa 5) bX) ae) kE) (aa 1)) (aZ (bh (aq (dC .non) (aq (d2 (dN (aq (aa 5) ae) bC) (dC (.int 1)) (oI λi j=>.int (i-j))) ae)))))) cP) (az (aJ 6 (cx (bp (b9 (d2 (d2 (aa 0) (dC (.int 1)) bc) (aa 3) bc) b8 (eZ (dC (.int 2))))) [η,ζ 0,ζ 1] (bo 0) bI (dN (aq (aA 3 sF (aq (aa 1) (aq (aj "put" (aa 2)) (aq (aa 0) ae)))) ae) bC))) (az (aP "put" (dN (aq (d2 (aj "put" (aa 1)) (bG (aq (aa 3) ae)) bX) ae) kE) (aa 1)) (aZ (bh (aq (aa 3) (aq (d2 (dC (.int 1)) (dN (aq (aa 6) ae) pO) bX) ae))))))))))
theorem Q1{q:-gH}{i:Nat}{s:gH}(h:q[i]?=ζ s):eW (q.map fx) (i:Int)=ζ (fx s):=iP (by rw[B_,h];rfl)
theorem Q2{q:-gH}{i:Nat}{s:gH}(h:q[i]?=ζ s):i_ ↑q (i:Int)=ζ i:=by
 let:=(pa.mp h).1;unfold i_;rw[VD ⋯,VD ⋯,V7]
theorem Q3(C:ξ):∀ys aK t,↑ys=3->Ac C ys aK t->Ad C (af ↑aK t) ⟨ys.map ζ++VF 4 η,aK.map ζ⟩:=by
 ext ys P t-⟨a,b,m,j,N,i,W,O,⟨E,h,r⟩,rfl,rfl,k⟩;let⟨Q,l,hn⟩:=O.q i E h r;let ds:=hU N.s;let dp:=hU N.p;let R:=W.jE;let pl:=O.pl W;let sl:=O.sl W;let ll:=pP W (p:=N.p) (h:=h);unfold Nt.tell Nt.step at k;dsimp only at k;rw[r] at k;dsimp only at k;rw[zQ] at k;unfold Ad;calc bf λM e=>?_;simp![0];calc⟨a,0,_,.w b,⟨rfl,rfl,rfl⟩,b,1,sO b N,⟨rfl,rfl,rfl⟩,?_⟩;simp![0,sO,Q1 r,fx]
 subst e;calc bf λM e=>?_;simp![0];calc⟨a,0,_,.w b,⟨rfl,rfl,rfl⟩,b,1,.al b (N.q.map fx),⟨rfl,rfl,rfl⟩,?_⟩;simp![0,Q2 r]
 let S:(N.q.map fx).set i .non=(N.q.set i η).map fx:=by
  show(N.q.map fx).set i (fx η)=_;exact q4_.symm
 rw[S];unfold lJ dA at k;subst e;refine bf λM e=>iD λA B n o=>?_
 cases E with
 |none =>
  dsimp only at k;simp![0,oD];calc⟨a,0,_,.p (a_ N.s),⟨rfl,rfl,rfl⟩,?_⟩;simp![0,a_];calc⟨⋯,?_⟩;rw[jj]
  by_cases c:h∈N.s
  .rw[VG c]
   rw[VD c,VD c] at k;simp![0];subst n;simp![0];exact⟨[_,_],[],[],rfl,rfl,k⟩
  .rw[VC c]
   rw[VB c,VB c] at k;simp![0];calc⟨a,0,_,.p (a_ N.p),⟨rfl,rfl,rfl⟩,?_⟩;simp![0,a_];calc⟨⋯,?_⟩;rw[QX];simp![0];subst o;show M _;subst e;calc bf λM e=>iD λA B n o=>?_;simp![0]
   subst n;calc bf λT f=>?_;simp![0];calc⟨a,0,_,.p (a_ N.p),⟨rfl,rfl,rfl⟩,?_⟩;simp![0];calc⟨m,j,N.p,h,W,O.pn,Q,rfl,rfl,?_⟩;simp![0];subst f;let⟨g,u,U,V,X,Y,Z,F,p2,G⟩:=z_ (a:=a) (b:=b) (N:=N);let z:sortI (N.s++a5 m j N.p h)=gv (N.s++a5 m j N.p h):=EE (Qg W O c);refine bf λT f=>?_
   simp![0];calc⟨a,0,_,.p (a_ N.s),⟨rfl,rfl,rfl⟩,?_⟩;simp![0,a_];calc⟨⋯,?_⟩;rw[<-VQ];unfold kE;dsimp only;rw[j7];dsimp only;calc⟨by rw[qG];symm,?_⟩;rw[z];calc⟨a,0,g,⟨rfl,by rw[u];rfl,⋯⟩,?_⟩;rw[G];subst f;simp![0,nW];exact⟨[_,_],[],[],rfl,rfl,k⟩
 |some w =>
  let l:=l w rfl;dsimp only at k;simp![0,oD];calc⟨a,0,_,.p (a_ N.p),⟨rfl,rfl,rfl⟩,?_⟩;simp![0,a_];calc⟨⋯,?_⟩;rw[jj]
  by_cases c:w∈N.p
  .rw[VG c]
   rw[VD c,VD c] at k;simp![0];subst n;simp![0];exact⟨[_,_],[],[],rfl,rfl,k⟩
  .rw[VC c]
   rw[VB c,VB c] at k;simp![0];subst o;show M _;subst e;calc bf λM e=>iD λA B n o=>?_;simp![0];subst o;show M _;subst e;let⟨H,I⟩:=yX W l;let⟨y,ey,hy,ea,_⟩:=mE W l.1 l.2;let J:aO j w=y:=ey;let c2:cutD [D.int y.1,D.int y.2.1,D.int y.2.2] η (ζ 2)=[D.int y.1,D.int y.2.1]:=rfl;let l1:=pP W (p:=N.p) (h:=y.1);let l2:=pP W (p:=N.p) (h:=y.2.1);rw[J] at H I;refine bf λM e=>?_
   simp![0,a7,eB,ea,bJ,c2]
   refine L2.j9 (λd=>match d with|.int x=>.int (↑(a5 m j N.p x):Int)|_=>.non) (by show 2<=1000;decide) trivial ?_ ?_
   .ext d K acc L ha hL
    let⟨x,rx,rfl⟩:∃x:Int,(0<=x/\x<m)/\d=.int x:=by
     erw[Uw,Ww,YB] at K;rcases K with rfl|rfl
     .exact⟨_,H,rfl⟩
     .exact⟨_,I,rfl⟩
    simp![0];calc⟨a,0,_,.p (a_ N.p),⟨rfl,rfl,rfl⟩,?_⟩;simp![0];calc⟨m,j,N.p,x,W,O.pn,rx,rfl,rfl,?_⟩;simp![0,a_];exact⟨ha,hL⟩
   simp![0];subst e;let⟨g,u,U,V,X,Y,Z,F,p2,G⟩:=z_ (a:=a) (b:=b) (N:=N);let z:sortI (N.p++[w])=gv (N.p++[w]):=EE (Qh O.pu c);calc bf λM e=>?_;simp![0];calc⟨a,0,_,.p (a_ N.p),⟨rfl,rfl,rfl⟩,?_⟩;simp![0,a_];calc⟨⋯,?_⟩;unfold kE;dsimp only;rw[show N.p.map D.int++[D.int w]=(N.p++[w]).map D.int by rw[VQ];rfl,j7]
   dsimp only;calc⟨by rw[qG];simp;symm,?_⟩;rw[z];calc⟨a,0,g,⟨rfl,by rw[u];rfl,⋯⟩,?_⟩;rw[F];subst e;simp![0,pO,intsOf];calc⟨by simp,λx hx bx=>?_⟩;let ex:=E6 hx bx;calc⟨[_,_],[],[],rfl,rfl,?_⟩;unfold yU at k;rw[J,<-ex] at k;calc k
theorem Q4{a b c k:Int}(h:0<=k/\k<3):∃p,eW [D.int a,D.int b,D.int c] k=ζ (.int p)/\(p=a\/p=b\/p=c):=by
 let⟨t,rfl⟩:=Yl h.1;let d:t<3:=by symm
 match t,d with
 |0,_=>exact⟨a,iP Y,.inl Y⟩
 |1,_=>exact⟨b,iP Y,.inr (.inl Y)⟩
 |2,_=>calc⟨c,iP Y,.inr (.inr Y)⟩
theorem Q5{us:-Int}{k:Int}(b:0<=k)(c:k<↑us):∃x,x∈us/\eW (us.map D.int) k=ζ (.int x):=by
 let⟨t,rfl⟩:=Yl b;let a:t<↑us:=by symm
 calc⟨us[t],Yh a,iP (by rw[B_,tG a];rfl)⟩
inductive Ae (C:U) (ys:-DV) (aK:-OV) (K:RK->-OV->-OV->Prop):Prop
 |mk (n:Int) (a b:U) (m:Int) (ws:-Wy) (N:Nt) (sJ:Int) (o:OV) (_:aI m ws) (_:↑N.q<900) (_:ys=[.o 0,.p (a7 m ws),.w a,.p (.int sJ)]) (_:aK=[o,lO a b N,sO b N]) (_:bw n o) (_:n+10<2 ^ 30) (_:∀e o',gW m N e->bw (n+4) o'->K (.p (hV e)) [o',lO a b N,sO b N] [])
def Af(c_Night:U):WS:=(az (aJ 4 (aA 2 h8 (aq (aa 0) (aq (dC (.int 6)) ae)))) (az (aJ 5 (aA 2 h8 (aq (aa 0) (aq (d2 (aa 1) (dC (.int 0)) bc) ae)))) (az (aJ 6 (aD ι 1 (z8 c_Night) (aq (aa 2) ae))) (az (bj (eP (dT (d2 (aa 6) (bG ae) oEq)) (dT (d2 (aa 4) (aa 3) oLt))) (aZ (bh (aq (dC (.str "wake")) (aq (aa 5) ae)))) cP) (aZ (bh (aq (dC (.str "end")) (aq (d2 (aa 6) (d2 (bG (aq (dC (.int 0)) (aq (d2 (dN (aq (aa 6) ae) bC) (dC (.int 1)) (oI λi j=>.int (i-j))) (aq (aA 2 h8 (aq (aa 0) (aq (dN (aq (aa 6) ae) bC) ae))) ae)))) (aA 2 h8 (aq (aa 0) (aq (dC (.int 3)) ae))) bc) bc) ae))))))))
theorem Q6(C:ξ):∀ys aK t,↑ys=4->Ae C ys aK t->Af C (af ↑aK t) ⟨ys.map ζ++VF 3 η,aK.map ζ⟩:=by
 ext ys I t-⟨n,a,b,m,J,N,e,o,W,K,rfl,rfl,P,hn,k⟩;let m1:=W.m1;let L:=W.iA;unfold Af;calc bf λM l=>?_;simp![0];calc⟨n,6,o,rfl,rfl,P,⋯,⋯,by decide,λg O k0 k1 Q=>?_⟩;simp![0];subst l;calc bf λM l=>?_;simp![0,a7,dw];refine⟨n+1,m,O,rfl,rfl,Q,⋯,⋯,⋯,λf u R S G=>?_⟩
 simp![0];subst l;calc bf λM l=>?_;simp![0];calc⟨[(1,lO a b N),(2,sO b N)],⟨rfl,rfl,trivial⟩,?_⟩;simp![0];calc⟨a,b,N,K,rfl,rfl,?_⟩;simp![0];subst l;refine bf λM l=>iD λA B T U=>?_
 let d:A ⟨[ζ (.o 0),ζ (.p (.tup [.int m,.tup (J.map bJ)])),ζ (.w a),ζ (.p (.int e)),ζ (.p (.int g)),ζ (.p (.int f)),ζ (.p (a_ (cv 0 N.q)))],[ζ u,ζ (lO a b N),ζ (sO b N)]⟩:=by
  subst T;simp![0];exact⟨[_,_,_],[],[],rfl,rfl,k (.wake f) u ⟨R,S⟩ (G.mono ⋯)⟩
 cases s:cv 0 N.q with
 |nil =>
  rw[s] at d;simp![0,a_,V8,dEq,dW];exact d
 |cons x r =>
  let E:dEq (.lst ((x::r).map D.int)) (.lst [])=ι:=by simp[dEq,dW]
  let V:=hU (x::r);rw[s] at d;let F:=λz (X:z∈x::r)=>sG (i:=0) (q:=N.q) (x:=z) (by rw[s];calc X);let Y:0<↑(x::r):=by simp
  let Z:↑(x::r)<=↑N.q:=by rw[<-s];exact sH
  generalize x::r=us at *;simp![0,a_,E];refine⟨⋯,?_⟩
  by_cases c:g<e
  .rw[VG c]
   simp![0];exact d
  .rw[VC c]
   simp![0];subst U;show M _;subst l;simp![0,nW];calc⟨n+1+1,↑us,u,rfl,rfl,G,⋯,⋯,⋯,λz o3 z0 z1 P3=>?_⟩;simp![0];calc⟨n+1+1+1,3,o3,rfl,rfl,P3,⋯,⋯,by decide,λy o4 y0 y1 P4=>?_⟩;simp![0]
   let⟨p,ep,hp⟩:=Q4 (a:=0) (b:=(↑us:Int)-1) (c:=z) ⟨y0,y1⟩;rw[ep];dsimp only;let⟨w,hw,ew⟩:=Q5 (us:=us) (k:=p) ⋯ ⋯;rw[ew];simp![0];let⟨j,fo,h,H,e2⟩:=F w hw;rw[VI] at H;subst H;calc⟨[_,_,_],[],[],rfl,rfl,k (.fin j) o4 ⟨fo,h,e2⟩ (P4.mono ⋯)⟩
inductive Ag (C:U) (ys:-DV) (aK:-OV) (K:RK->-OV->-OV->Prop):Prop
 |mk (a b:U) (m:Int) (ws:-Wy) (N:Nt) (e:cM) (_:aI m ws) (_:dc m ws N) (_:gW m N e) (_:↑N.q<900) (_:ys=[.p (a7 m ws),.w a,.p (hV e)]) (_:aK=[lO a b N,sO b N]) (_:K (.p (jR (N.tell m ws e))) [lO a b (N.step m ws e),sO b (N.step m ws e)] [])
def Ah(c_Night:U):WS:=(az (bj (dT (d2 (d2 (aa 2) (dC (.int 0)) bc) (dC (.str "wake")) oEq)) (aZ (aD ι 3 (Aa c_Night) (aq (aa 0) (aq (aa 1) (aq (d2 (aa 2) (dC (.int 1)) bc) ae))))) cP) (aZ (aD ι 3 (Ac c_Night) (aq (aa 0) (aq (aa 1) (aq (d2 (aa 2) (dC (.int 1)) bc) ae))))))
theorem Q7(C:U):∀ys aK c,↑ys=3->Ag C ys aK c->Ah C (af ↑aK c) ⟨ys.map ζ++VF 0 η,aK.map ζ⟩:=by
 ext r g c-⟨a,b,m,d,N,e,W,O,f,j,rfl,rfl,k⟩;let l:dEq (.str "wake") (.str "wake")=θ:=Y;let n:dEq (.str "end") (.str "wake")=ι:=Y;unfold Ah;refine bf λM o=>iD λA B p q=>?_
 cases e with
 |wake h =>
  simp![0,hV,dw,l];subst p;simp![0,eB];calc⟨[(0,lO a b N),(1,sO b N)],⟨Y,Y,trivial⟩,?_⟩;simp![0];calc⟨a,b,m,d,N,h,W,O,f,j,Y,Y,?_⟩;simp![0];exact⟨[_,_],[],[],Y,Y,k⟩
 |fin i =>
  simp![0,hV,dw,n];subst q;show M _;subst o;simp![0,eB];calc⟨[(0,lO a b N),(1,sO b N)],⟨Y,Y,trivial⟩,?_⟩;simp![0];calc⟨a,b,m,d,N,i,W,O,f,Y,Y,?_⟩;simp![0];calc⟨[_,_],[],[],Y,Y,k⟩
inductive Ai (C:U) (ys:-DV) (aK:-OV) (K:RK->-OV->-OV->Prop):Prop
 |mk (n m many:Int) (ws:-Wy) (o:OV) (_:aI m ws) (_:0<=many) (_:many<=60) (_:ys=[.o 0,.p (a7 m ws),.p (.int many)]) (_:aK=[o]) (_:bw n o) (_:n+500<2 ^ 30) (_:∀es o' a b,iH m ws cg es->↑es=many.toNat->bw (n+400) o'->K (.u θ [.p (.lst (es.map hV)),.p (.lst ((kK m ws cg es).map jR)),.w a]) [o'] [lO a b (runN m ws cg es),sO b (runN m ws cg es)])
def Aj(c_Night:U):WS:=(az (aJ 3 (d2 (dC (.int 1)) (aA 2 h8 (aq (aa 0) (aq (dC (.int 5)) ae))) bX)) (az (aJ 4 (aD ι 0 (z5 c_Night) ae)) (az (aJ 5 (eI ae)) (az (aJ 6 (eI ae)) (az (bH (eA (aq (aa 2) ae)) (bo 7) (az (aJ 8 (aD ι 4 (Ae c_Night) (aq (aa 0) (aq (aa 1) (aq (aa 4) (aq (aa 3) ae)))))) (az (dr (bU (aa 5) (aq (aa 8) ae))) (dr (bU (aa 6) (aq (aD ι 3 (Ag c_Night) (aq (aa 1) (aq (aa 4) (aq (aa 8) ae)))) ae)))))) (aZ (aV θ (aq (aa 5) (aq (aa 6) (aq (aa 4) ae))))))))))
theorem Q8(C:ξ):∀ys aK s,↑ys=3->Ai C ys aK s->Aj C (af ↑aK s) ⟨ys.map ζ++VF 6 η,aK.map ζ⟩:=by
 ext V E s-⟨n,m,f,ws,o,W,X,F,rfl,rfl,P,Y,k⟩;unfold Aj;calc bf λM c=>?_;simp![0];calc⟨n,5,o,rfl,rfl,P,⋯,⋯,by decide,λz G Z z1 H=>?_⟩;simp![0];subst c;calc bf λM c=>?_;simp![0];calc⟨[],trivial,?_⟩;simp![0]
 calc⟨rfl,rfl,λa b=>?_⟩;simp![0];subst c;calc bf λM c=>?_;simp![0];subst c;calc bf λM c=>?_;simp![0];subst c;calc bf λM c=>j_ λg' b' K2 I t J=>?_;simp![0];refine⟨⋯,?_⟩
 subst I t J;refine jA (λi u=>∃es o,iH m ws cg es/\↑es=i/\bw (n+1+5*i) o/\u=⟨[ζ (.o 0),ζ (.p (a7 m ws)),ζ (.p (.int f)),ζ (.p (.int (1+z))),ζ (.w a),ζ (.o 3),ζ (.o 4),η,η],[ζ o,ζ (lO a b (runN m ws cg es)),ζ (sO b (runN m ws cg es)),ζ (.lst (es.map hV)),ζ (.lst ((kK m ws cg es).map jR))]⟩) ⟨[],G,trivial,rfl,H.mono ⋯,rfl⟩ ?_ ?_
 .ext i d u L K ⟨es,x,j,h,l,rfl⟩ O
  let⟨il,rfl⟩:=ly K;let B:=oV (m:=m) (ws:=ws) (N:=cg) (es:=es);let B:(runN m ws cg es).q.length<=i:=by let z:cg.q.length=0:=rfl;symm
  let D:=dc.run W (lK m ws) j;let Q:=yW (m:=m) (ws:=ws) (N:=cg) (a:=es);let y:∀e o,gW m (runN m ws cg es) e->bw (n+1+5*(i+1:Nat)) o->L ⟨[ζ (.o 0),ζ (.p (a7 m ws)),ζ (.p (.int f)),ζ (.p (.int (1+z))),ζ (.w a),ζ (.o 3),ζ (.o 4),η,η],[ζ o,ζ (lO a b ((runN m ws cg es).step m ws e)),ζ (sO b ((runN m ws cg es).step m ws e)),ζ (.lst (es.map hV++[hV e])),ζ (.lst ((kK m ws cg es).map jR++[jR ((runN m ws cg es).tell m ws e)]))]⟩:=λe o r R=>O _ ⟨es++[e],o,EG j r,by rw[qG,h];rfl,R,by rw[oK,yV,VQ,VQ];rfl⟩;let A:↑((kK m ws cg es).map jR)=i:=by rw[nW,Q,h]
  generalize runN m ws cg es=N at D B y ⊢;generalize(kK m ws cg es).map jR=ts at y A ⊢;calc⟨trivial,?_⟩;erw[bo,Vz,VA];calc bf λS g=>?_;simp![0];calc⟨[(1,lO a b N),(2,sO b N)],⟨rfl,rfl,trivial⟩,?_⟩;simp![0];calc⟨n+1+5*i,a,b,m,ws,N,1+z,x,W,⋯,rfl,rfl,l,⋯,λe T r U=>?_⟩;simp![0]
  subst g;calc bf λS g=>?_;simp![0];calc⟨⋯,?_⟩;subst g;simp![0];calc⟨[(1,lO a b N),(2,sO b N)],⟨rfl,rfl,trivial⟩,?_⟩;simp![0];calc⟨a,b,m,ws,N,e,W,D,r,⋯,rfl,rfl,?_⟩;simp![0]
  exact⟨⋯,y e T r (U.mono ⋯)⟩
 .ext u ⟨es,x,j,h,l,rfl⟩
  calc⟨trivial,?_⟩;show M _;rw[lz] at h l;subst c;simp![0];calc⟨[_],[_,_],[η,η],rfl,rfl,k es x a b j h (l.mono ⋯)⟩
end LJ
namespace L2
open PySem PySem.Spec PyProof.Rows
section
variable{prog:X}{w:l}{A:t}{d:U}
theorem E8:∀{vs:-(Key×M)}{us:-M}{ks:-Int},↑us=↑vs->vs.map (·.1)=ks.map Yz->(∀(j:Nat)(v:M),us[j]?=ζ v->∃k x,vs[j]?=ζ (k,x)/\(gJ prog w).is k v=θ)->IntsAre us ks
 |[],[],[],_,_,_=>.nil
 |_::_,[],_,h,_,_=>nomatch h
 |[],_::_,_,h,_,_=>nomatch h
 |[],[],_::_,_,h,_=>nomatch h
 |_::_,_::_,[],_,h,_=>nomatch h
 |f::c,u::p,n::d,g,a,b=>by
  let⟨k,x,i,l⟩:=b 0 u Y;cases(show ζ f=ζ (k,x) from i)
  let a:k::c.map (·.1)=Yz n::d.map Yz:=a;let⟨m,o⟩:=q05 a;subst m
  let⟨t,rfl⟩:∃t,u=.int n t:=by
   exact q0O (k:=n) (v:=u) l
  calc .cons n t (E8 (YH g) o λj v e=>b (j+1) v e)
theorem gathered{R:-M->ο->Prop}{s:ο}{vs:-(Key×M)}{ep:Nat}{ks:-Int}(G:A.handled=η)(H:(d==sysModules)=ι)(u:s.heap.DictAt (gJ prog w) d vs ep)(z:vs.map (·.1)=ks.map Yz)(hn:↑ks<64)
  (h:∀(h':Q)(tk:Nat)(us:-M),(∀b o,s.heap.get? b=ζ o->h'.get? b=ζ o)->⇑s<=h'.objs.size->IntsAre us ks->R us {s with heap:=h',toks:=tk}) :
  ρ (ς prog w) A (collect (.ref d)) R E s:=by
 let L:↑vs=↑ks:=by let:=congrArg q5O z;rwa [nW,nW] at this
 let K:=PySem.W.kdl_dict (knd:=gJ prog w) (kvs:=vs) (ep:=ep) H;let g:=K.there _ u;unfold collect;calc nX (Ze (Xd entry_proto_collect' ?_));rw[Xh PySem.F.plain_proto_collect _];calc nX (XO ?_);calc B9 ⟨Yn q1l _,Xd entry_list_iadd' ?_⟩;rw[Xh q1l _];let I:(s.heap.push {cls:=.type "list",data:=.seq ([]:-M).toArray}).get? ⇑s=ζ {cls:=.type "list",data:=.seq #[]}:=UB _ Y
 let p:=PySem.W.kdl_extend (A:=A) (s:={s with heap:=s.heap.push {cls:=.type "list",data:=.seq ([]:-M).toArray}})
  (R:=λq n=>∃(i:Q)(l:Nat)(k:Array M)(c:Nat),q=.ok (.ret (.ref ⇑s))/\n={s with heap:=i,toks:=l} ∧
   (∀b o,s.heap.get? b=ζ o->i.get? b=ζ o)/\i.get? ⇑s=ζ {cls:=.type "list",dict:=none,data:=.seq k c,slots := #[]}/\IntsAre k.toList ks)
  K G (K.keep _ _ u λb _ o e=>B7 _ e) ⇑s (Yb g.1) (Yb g.2) (.ref ⇑s) 0 I
  (λi l k c m a B=>⟨i,l,k,c,Y,Y,λb o e=>m b o (VE (Vy e)) (B7 _ e),a,E8 (by rw[UA];calc B.1) z λj v e=>B.2 j v (by rw[<-Ws];calc e)⟩) (PySem.W.kdl_size ⋯)
 refine XZ p (λr n x=>?_) λe n x=>?_
 .cases r with
  |done f =>
   let⟨i,l,k,c,e,rfl,m,a,t⟩:=x;cases e
   calc nX (q1q a ?_);exact B9 (h i l k.toList m (Xc (Vy a)) t)
  |again C =>
   calc⟨x.1,YE x.2 λq D y=>?_⟩;let⟨i,l,k,c,rfl,rfl,m,a,t⟩:=y;calc nX (q1q a ?_);exact B9 (h i l k.toList m (Xc (Vy a)) t)
 .let⟨_,_,_,_,J,_⟩:=x
  cases J
theorem E9:∀{us:-M}{ks:-Int},IntsAre us ks->↑us=↑ks
 |_,_,.nil=>Y
 |_,_,.cons _ _ r=>congrArg Nat.succ (E9 r)
theorem Q9{s:L}{Q:bt}{vs:-(Key×M)}{ep:Nat}{ks:-Int}(p:A.handled=η)(q:(d==sysModules)=ι)(t:s.heap.DictAt (gJ prog w) d vs ep)(u:vs.map (·.1)=ks.map Yz)(hn:↑ks<64)
  (h:∀(h':Α)(tk:Nat)(r:U)(out:Array M)(a:-Int)(e:Nat),(∀b f,s.heap.get? b=ζ f->h'.get? b=ζ f)->⇑s<=r->h'.get? r=ζ (seqObj "list" out e)->IntsAre out.toList a->a.Perm ks->a.Pairwise (· <= ·)->Q (.ref r) {s with heap:=h',toks:=tk}) :
  G (ς prog w) A (call (.builtin "sorted") [.ref d]) Q E s:=by
 calc Zo q3m q2W q2X (q2Y _) ?_;unfold Builtin.«sorted»;calc nX (m:=checkCount "sorted" 1 1 _) (B9 ?_);calc nX (gathered (A:=A.in1) (by simp[p]) q t u hn λg k i j v l=>?_);let C:=E9 l;calc nX (Z8 ?_);let c:(g.push (seqObj "list" i.toArray 0)).get? g.objs.size=ζ (seqObj "list" i.toArray 0):=UB _ Y;calc nX (WJ (XI (s:={s with heap:=g.push (seqObj "list" i.toArray 0),toks:=k}) q12 ⟨_,c,Y⟩ q1F (list_sort_tree c l ⋯ λout a x y z=>⟨_,Y,?_⟩) (q13 _)));let⟨e,B⟩:=sortedHeap_at (out:=out) c;calc B9 ⟨_,Y,h _ _ _ out a e (λb f n=>?_) v B x y z⟩;let o:b<g.objs.size:=Vy (j b f n)
 show(sortedHeap (g.push (seqObj "list" i.toArray 0)) g.objs.size i out).get? b=ζ f;rw[sortedHeap_old (VE o) (by rw[size_push'];calc WQ o)];calc B7 _ (j b f n)
end
section
variable{X:Cx}
theorem E_:∀{kvs:-(Key×V)}{vs:-(Key×M)},KV kvs vs->vs.map (·.1)=kvs.map (·.1)
 |[],_,.nil=>Y
 |_::_,_,.cons r a=>by rw[Uz,Uz,E_ a,r.1]
theorem Q_(k:X.calm=θ):g6 X (.builtin "sorted") (λxs H Q=>∃(d:U)(kvs:-(Key×V))(ks:-Int),xs=[.ref d]/\H d=ζ (.dK kvs)/\kvs.map (·.1)=ks.map Yz/\↑ks<64/\∀(r:U)(a:-Int),a.Perm ks->a.Pairwise (· <= ·)->H r=η->Q (.ref r) (upd H r (.lst (a.map V.int)))):=by
 ext g s N H L O Q I r h;let⟨d,l,M,rfl,m,n,p,q⟩:=h;let⟨u,rfl,t⟩:=vals1 r;cases t
 let⟨z,v,x,c,y⟩:=nZ I.bg m;let⟨o,A,B,C,b⟩:=y;let D:s.heap.DictAt (gJ X.prog X.w) d x B:=⟨o,A,C,b⟩;calc Q9 (I.ok.hd k) v D (by rw[E_ c,n]) p λP E r f a e F i G J j K=>?_;calc⟨.ref r,_,I.laid (t':=E) (o:=.lst (a.map V.int)) F i ?_,Y,q _ a j K (I.bg.fresh i)⟩;calc⟨Xc (kW (by rw[nW,j.length_eq];symm)),f.toList,e,tO J,?_⟩;simpa[seqObj] using G
variable[a9]{fa:WA}
def Ak(d:WA):WE:=λe K=>d e λf a=>match f with
 |[x]=>ak x a λ_ _ b=>∃c:-Int,(b.map (·.1)=c.map Yz/\↑c<64)/\K (.p (.lst ((sortI c).map D.int))) a
 |_=>False
theorem Fb{b:Type}{R:b->V->Prop}:∀{a:-(Key×b)}{ws:-(Key×V)},d4 R a ws->ws.map (·.1)=a.map (·.1)
 |[],_,h=>by let h:_=[]:=h;subst h;rfl
 |d::r,_,⟨v,t,e,f,c⟩=>by subst e;rw[Uz,Uz,Fb c]
theorem Ra{a:υ}{p pos:Ε}(g:X.calm=θ)(h:Gl X "sorted")(i:X.mg "sorted" = η)(j:bootBuiltins "sorted" = ζ (.builtin "sorted"))(l:JA X [a] (cX fa))(he:‹starEach [a] X.env=[(ι,eval a X.env)]›):JE X (.Call (.Name "sorted" p) [a] [] pos) (tD (Ak fa)) :=
 (o9 (Q_ g) h i j l (he:=he)).weak λO H Q ⟨F,m,n,K,S,q,k⟩=>⟨F,m,n,_,S,q,λo s c P R t T u b w=>by
  match o,c,w with
  |[x],c,⟨v,r,e,y,d⟩ =>
   let d:r=[]:=d;subst d e;let⟨U,B,z,a,A,rfl,⟨C,⟨D,E⟩,G⟩,rfl,V,I,J,W,_⟩:=rT b y c;calc⟨a,A,C,Y,I,by rw[Fb J,D],E,λr L M N f=>?_⟩;calc k _ _ G _ _ _ _ (u.trans (Ext.al b (c_ f))) (b.al (c_ f)) ?_;rw[<-oq M N]
   calc kD b.sub f mB⟩
end
end L2
namespace LJ
open PySem L2
variable[a9]
theorem Al:∀{i:Nat}{q:-gH},(cN i q).map (·.1)=(cv i q).map Yz
 |i,[]=>Y
 |i,none::r=>Al (i:=i+1) (q:=r)
 |i,some x::r=>congrArg (_ :: ·) (Al (i:=i+1) (q:=r))
theorem u2:∀{i:Nat}{q:-gH},Up (cv i q)/\∀x∈cv i q,(i:Int)<=x
 |i,[]=>⟨.nil,λ_ h=>nomatch h⟩
 |i,none::r=>by
  let⟨c,b⟩:=u2 (i:=i+1) (q:=r);exact⟨c,λx a=>by let:=b x a;symm⟩
 |i,some y::r=>by
  let⟨c,b⟩:=u2 (i:=i+1) (q:=r);calc⟨Xt.mpr ⟨λx a=>by let:=b x a;symm,c⟩,λx a=>?_⟩;rcases Uw.mp a with rfl|a
  .exact q15 _
  .let:=b x a;symm
theorem Rb{us:-Int}(h:Up us):sortI us=us:=ka (sg h.nd) h λx=>(sortI_perm _).mem_iff
inductive sL (C:U) (ys:-DV) (aK:-OV) (K:RK->-OV->-OV->Prop):Prop
 |mk (a b:U) (m:Int) (ws:-Wy) (N:Nt) (_:↑(cv 0 N.q)<64) (_:ys=[.w a]) (_:aK=[nO C a b m ws N,gO b N]) (_:K (.p (a_ (cv 0 N.q))) [nO C a b m ws N,gO b N] [])
def Am(c_Night:U):WS:=(aZ (Ak (aq (ah (ag c_Night "going" (aa 0))) ae)))
theorem Rc(C:U):∀ys aK c,↑ys=1->sL C ys aK c->Am C (af ↑aK c) ⟨ys.map ζ++VF 0 η,aK.map ζ⟩:=by
 ext f d c-⟨a,b,m,g,N,e,rfl,rfl,k⟩;unfold Am;simp![0,Ak];calc⟨a,0,_,.w b,⟨Y,Y,Y⟩,b,1,gO b N,⟨Y,Y,Y⟩,?_⟩;simp![0,gO];calc⟨cv 0 N.q,⟨Al,e⟩,?_⟩;rw[Rb u2.1];calc⟨[_,_],[],[],Y,Y,k⟩
noncomputable def lP(N:Nt):D:=.tup [a_ N.p,a_ N.k,a_ N.s]
inductive pU (C:U) (ys:-DV) (aK:-OV) (K:RK->-OV->-OV->Prop):Prop
 |mk (a b:U) (m:Int) (ws:-Wy) (N:Nt) (_:ys=[.w a]) (_:aK=[nO C a b m ws N]) (_:K (.p (lP N)) [nO C a b m ws N] [])
def An(c_Night:U):WS:=(aZ (bh (aq (dN (aq (d2 (ag c_Night "latest" (aa 0)) (dC (.int 0)) bc) ae) e7) (aq (dN (aq (d2 (ag c_Night "latest" (aa 0)) (dC (.int 1)) bc) ae) e7) (aq (dN (aq (d2 (ag c_Night "latest" (aa 0)) (dC (.int 2)) bc) ae) e7) ae)))))
theorem Rf(C:U):∀ys aK c,↑ys=1->pU C ys aK c->An C (af ↑aK c) ⟨ys.map ζ++VF 0 η,aK.map ζ⟩:=by
 ext e d c-⟨a,b,m,f,N,rfl,rfl,k⟩;unfold An;simp![0];calc⟨a,0,_,.p (gw N.p N.k N.s),⟨Y,Y,Y⟩,?_⟩;simp![0,gw,tupI,dw];calc⟨a,0,_,.p (gw N.p N.k N.s),⟨Y,Y,Y⟩,?_⟩;simp![0,gw,tupI,eB];calc⟨a,0,_,.p (gw N.p N.k N.s),⟨Y,Y,Y⟩,?_⟩;simp![0,gw,tupI,at2]
 calc⟨[_],[],[],Y,Y,k⟩
inductive Ao (C:U) (ys:-DV) (aK:-OV) (K:RK->-OV->-OV->Prop):Prop
 |mk (m:Int) (ws:-Wy) (es:-cM) (_:aI m ws) (_:iH m ws cg es) (_:↑es<900) (_:ys=[.p (a7 m ws),.p (.lst (es.map hV))]) (_:aK=[]) (_:K (.p (lP (runN m ws cg es))) [] [])
def Ap(c_Night:U):WS:=(az (aJ 2 (aF c_Night 2 (sC c_Night) (aq (aa 0) ae))) (az (dr (aD ι 2 (zT c_Night) (aq (aa 2) (aq (aa 1) ae)))) (aZ (aB ι c_Night "stand" 1 (pU c_Night) (aa 2) ae))))
theorem Rg(C:U):∀ys aK d,↑ys=2->Ao C ys aK d->Ap C (af ↑aK d) ⟨ys.map ζ++VF 1 η,aK.map ζ⟩:=by
 ext j h d-⟨m,c,e,W,i,f,rfl,rfl,k⟩;unfold Ap;calc bf λM g=>?_;simp![0];ext a;calc⟨[(0,.ins a C [])],⟨Y,trivial⟩,?_⟩;simp![0];calc⟨a,m,c,W,Y,Y,λb=>?_⟩;simp![0];subst g;calc bf λM g=>?_;simp![0]
 calc⟨[(0,nO C a b m c cg),(1,gO b cg)],⟨Y,Y,trivial⟩,?_⟩;simp![0];calc⟨a,b,m,c,e,W,i,f,Y,Y,?_⟩;simp![0];subst g;simp![0];calc⟨⟨a,0,_,Y,Y,Y⟩,[(0,nO C a b m c (runN m c cg e))],⟨Y,trivial⟩,?_⟩;simp![0]
 calc⟨a,b,m,c,runN m c cg e,Y,Y,?_⟩;simp![0];calc⟨[],[],[ζ _,ζ _],Y,Y,k⟩
section
variable{m:Int}{ws:-Wy}{N:Nt}
theorem Aq:∀{i j:Nat}{q:-gH}{fo:Option Int}{h:Int},q[j]?=ζ (ζ (fo,h))->((i+j:Nat):Int)∈cv i q
 |i,j,[],_,_,e=>by simp at e
 |i,0,none::r,_,_,e=>by simp at e
 |i,0,some y::r,_,_,e=>Ux
 |i,j+1,none::r,fo,h,e=>by
  let:=Aq (i:=i+1) (j:=j) (q:=r) (fo:=fo) (h:=h) e⁻¹;rw[show i+1+j=i+(j+1) by symm] at this;exact this
 |i,j+1,some y::r,fo,h,e=>by
  let:=Aq (i:=i+1) (j:=j) (q:=r) (fo:=fo) (h:=h) e⁻¹;rw[show i+1+j=i+(j+1) by symm] at this;calc Uy _ this
theorem Fd{q:-gH}{us:-Int}(p:us.Perm (cv 0 q)):∃is:-Nat,us=is.map (λi:Nat=>(i:Int))/\is.Nodup/\∀i,i∈is↔∃fo h,q[i]?=ζ (ζ (fo,h)):=by
 let f:∀x∈us,∃j:Nat,x=(j:Int)/\∃b h,q[j]?=ζ (ζ (b,h)):=λx a=>by
  let⟨j,b,h,d,c⟩:=sG (p.mem_iff.mp a);rw[VI] at d;exact⟨j,d,b,h,c⟩
 let e:us=(us.map q16).map (λi:Nat=>(i:Int)):=by
  rw[VU];calc(q0W us).symm.trans (W6 λx a=>?_);let⟨j,rfl,_⟩:=f x a;rfl
 refine⟨us.map q16,e,?_,λi=>?_⟩
 .let g:us.Nodup:=p.nodup_iff.mpr u2.1.nd
  rw[e] at g;exact(XN.mp g).imp λh z=>h (by rw[z])
 .rw[VH]
  constructor
  .ext ⟨x,a,rfl⟩
   let⟨j,rfl,r⟩:=f x a;exact r
  .ext ⟨b,h,c⟩
   calc⟨(i:Int),p.mem_iff.mpr ?_,Y⟩;let:=Aq (i:=0) c
   rwa [VI] at this
def Still(N:Nt):Prop:=∀(i:Nat)(x:Option Int×Int),N.q[i]?≠ζ (ζ x)
theorem Ar(h:Still N):cv 0 N.q=[]:=by
 cases q:cv 0 N.q with
 |nil=>rfl
 |cons a r =>
  let⟨j,b,c,_,e⟩:=sG (i:=0) (q:=N.q) (x:=a) (by rw[q];calc Ux);calc absurd e (h j _)
theorem fh.nD{is:-Nat}{b:Nt}(h:fh m ws N is b)(a:∀i,i∈is↔∃fo h,N.q[i]?=ζ (ζ (fo,h))):Still b:=λi x e=>by
 rw[h.q] at e;split at e
 .cases z:N.q[i]? with
  |none=>rw[z] at e;cases e
  |some y=>rw[z] at e;cases e
 .rename_i c
  calc c ((a i).mpr ⟨_,_,e⟩)
theorem Fe{us vs:-Int}(h:∀x,x∈us↔x∈vs):eV ws us=eV ws vs:=by
 funext w;calc propext ⟨λ⟨k,a,e⟩↦⟨k,(h k).mp a,e⟩,λ⟨k,a,e⟩↦⟨k,(h k).mpr a,e⟩⟩
theorem Rh(W:aI m ws)(O:dc m ws N)(S:kN m ws N)(E:Still N){us:-Int}(y:Nums ws us)(A:∀x,x∈N.p↔x∈us){hs:-Int}(j:∀h,h∈hs↔0<=h/\h<m){o r:Nt}(B:o=runN m ws N (hs.map .wake)){is:-Nat}(F:∀i,i∈is↔∃fo h,o.q[i]?=ζ (ζ (fo,h)))(C:fh m ws o is r):
  (∀x,x∈r.p↔x∈us\/x∈g9 m ws us)/\∀h,0<=h/\h<m->dJ ws (a5 m ws N.p h)=[]->h∈r.s:=by
 let⟨_,k,g⟩:=uV (m:=m) (ws:=ws) (N:=N) (hs:=hs) λh z=>(j h).mp z;rw[g] at B;subst B;let D:eV ws N.p=eV ws us:=Fe A
 let v:∀{i:Nat}{u:Option Int}{h:Int},(N.q++hs.map λh=>if h∈N.s then η else ζ (fW ws (a5 m ws N.p h),h))[i]?=ζ (ζ (u,h))->h∈hs/\h∉N.s/\u=fW ws (a5 m ws N.p h):=λ{i u h} e=>by
  by_cases c:i<↑N.q
  .rw[KH c] at e;exact absurd e (E i _)
  .rw[My ⋯,B_] at e
   let⟨x,G,e⟩:=KI.mp e;split at e
   .cases e
   .rename_i H
    cases e
    exact⟨WR G,H,Y⟩
 let d:∀{h:Int},h∈hs->h∉N.s->∃i∈is,(N.q++hs.map λh=>if h∈N.s then η else ζ (fW ws (a5 m ws N.p h),h))[i]?=ζ (ζ (fW ws (a5 m ws N.p h),h)):=λ{h} a b=>by
  let⟨t,I⟩:=VJ.mp a
  let e:(N.q++hs.map λh=>if h∈N.s then η else ζ (fW ws (a5 m ws N.p h),h))[↑N.q+t]?=ζ (ζ (fW ws (a5 m ws N.p h),h)):=by
   rw[My ⋯,ZI,B_,I];show ζ (if h∈N.s then η else ζ _)=_;rw[VB b]
  exact⟨_,(F _).mpr ⟨_,_,e⟩,e⟩
 refine⟨λx=>?_,λh w J=>?_⟩
 .rw[C.p,gu]
  refine or_congr (A x) ⟨?_,?_⟩
  .ext ⟨i,_,h,e⟩
   let⟨a,b,n⟩:=v e;unfold fW at n;split at n
   .cases n
   .rename_i f
    refine⟨a5 m ws N.p h,((r_ W y).1.mem _).mpr ⟨h,by let:=(j h).mp a;let:=W.m1;symm,by unfold a5;rw[D]⟩,f,WC n⟩
  .ext ⟨l,K,f,rfl⟩
   let⟨h,w,rfl⟩:=((r_ W y).1.mem _).mp K;let L:cls m.toNat (eV ws us) h=a5 m ws N.p h:=by unfold a5;rw[D]
   rw[L] at f ⊢;let M:h∉N.s:=λz=>f (S h z);let⟨i,a,b⟩:=d ((j h).mpr ⋯) M;calc⟨i,a,h,?_⟩;rw[b];unfold fW;rw[VB f]
 .rw[C.s]
  by_cases c:h∈N.s
  .exact .inl c
  .let⟨i,a,b⟩:=d ((j h).mpr w) c
   calc .inr ⟨i,a,h,?_,EL W w⟩;rw[b];unfold fW;rw[VD J]
inductive oW (m:Int) (ws:-Wy):-Int->-(-Int)->Prop
 |nil {us:-Int} (h:g9 m ws us=[]):oW m ws us []
 |cons {us a:-Int} {r:-(-Int)} (e:a=g9 m ws us) (h:oW m ws (us++a) r):oW m ws us (a::r)
theorem Ff(W:aI m ws):∀{n:Nat}{us:-Int},Nums ws us->us.Nodup->↑ws<n+↑us->oW m ws us (nB m ws n us)
 |0,d,b,c,h=>by let:=uP b c;symm
 |n+1,d,b,c,h=>by
  unfold nB
  cases q:g9 m ws d with
  |nil=>exact .nil q
  |cons a r =>
   let⟨e,f⟩:=yP W b c;rw[q] at e f;calc .cons q.symm (Ff W e f (by rw[qG,wq];symm))
theorem Fg:∀{n:Nat}{us:-Int},↑(nB m ws n us)<=n
 |0,_=>B8 _
 |n+1,a=>by
  unfold nB;split
  .exact VX _
  .calc Z5 Fg
theorem Ri(W:aI m ws){us:-Int}(b:Nums ws us)(h:g9 m ws us=[]){x:Int}(c:0<=x/\x<m):dJ ws (cls m.toNat (eV ws us) x)=[]:=by
 cases q:dJ ws (cls m.toNat (eV ws us) x) with
 |nil=>rfl
 |cons a r =>
  let:k8 ws (dJ ws (cls m.toNat (eV ws us) x))∈g9 m ws us:=gu.mpr ⟨_,((r_ W b).1.mem _).mpr ⟨x,⋯,Y⟩,by rw[q];calc List.cons_ne_nil _ _,Y⟩;rw[h] at this;calc nomatch this
end
inductive pV (ys:-DV) (aK:-OV) (K:RV->-OV->Prop):Prop
 |mk (n:Int) (us:-Int) (o:OV) (_:↑us<=60) (_:ys=[.o 0,.p (a_ us)]) (_:aK=[o]) (_:bw n o) (_:n+100<2 ^ 30) (_:∀(out:-Int) o',out.Perm us->bw (n+60) o'->K (.p (a_ out)) [o'])
def As:WS:=(az (aJ 2 (gb (aq (aa 1) ae) gc)) (aZ (cx (eA (aq (dN (aq (aa 2) ae) bC) ae)) [η,ζ 2,ζ 0] (bo 0) bI (f_ (aa 1) (aq (aA 2 h8 (aq (aa 2) (aq (dN (aq (aa 1) ae) bC) ae))) ae)))))
theorem Rj:Sem 2 1 pV As:=by
 ext E u F-⟨n,c,o,v,rfl,rfl,P,G,k⟩;unfold As;calc bf λM w=>?_;rw[show a_ c=.lst (c.map D.int) from Y];simp!;subst w;simp!;calc⟨⟨⋯,⋯⟩,?_⟩;refine uf (λj f m=>∃o a b,bw (n+j) o/\f=b.map D.int/\(b++a).Perm c/\↑b=j/\m=⟨[η,ζ (.o 1),ζ (.o 0)],[ζ o,ζ (.lst (a.map D.int))]⟩) ⟨o,c,[],P.mono ⋯,Y,.refl _,Y,Y⟩ ?_ ?_
 .ext j d f m L x ⟨i,a,b,l,rfl,g,p,rfl⟩ y
  let⟨q,rfl⟩:=ly x;let q:j<↑c:=by symm
  let s:=g.length_eq;rw[qG] at s;simp!;calc⟨n+j,↑a,i,Y,Y,l,⋯,⋯,⋯,λr z A H B=>?_⟩;simp!;let⟨h,rfl⟩:=Yl A;let t:h<↑a:=by symm
  let C:PySem.seqIndex? (h:Int) ↑a=ζ h:=CJ t;rw[C];dsimp only;rw[B_,tG t,xF];calc⟨⟨⋯,⋯⟩,⋯,?_⟩;calc y _ _ ⟨z,a.eraseIdx h,b++[a[h]],B.mono ⋯,by rw[VQ];rfl,?_,by rw[qG,p];rfl,Y⟩;rw[X0];exact(ZZ b (xE t)).trans g
 .ext f m ⟨i,a,b,l,rfl,g,p,rfl⟩
  let e:↑(dm 0 (↑c:Int).toNat)=↑c:=by rw[lz];symm
  rw[e] at p l;let s:=g.length_eq;rw[qG] at s;let:a=[]:=XQ.mp ⋯;subst this;rw[dV] at g;calc⟨trivial,?_⟩;calc⟨[i],Y,Y,k b i g (l.mono ⋯)⟩
theorem Rk{A B:Nt}(h:A.p=B.p/\A.k=B.k/\A.s=B.s):lP A=lP B:=by
 unfold lP;rw[h.1,h.2.1,h.2.2]
theorem Rl(es:-cM):bE (es.map hV)<=1:=by
 induction es with
 |nil=>simp[bE]
 |cons n r a=>cases n<;>simp[bE,dep,hV]<;>symm
theorem Rm(N:Nt):dep (lP N)<=3:=by
 let a:=hU N.p;let b:=hU N.k;let c:=hU N.s;erw[lP,a_,dep,bE];symm
theorem Fh{m:Int}{ws:-Wy}:∀{N:Nt}{a b:-cM},runN m ws N (a++b)=runN m ws (runN m ws N a) b
 |N,[],b=>Y
 |N,x::a,b=>Fh (N:=N.step m ws x) (a:=a)
theorem Fi{m:Int}{ws:-Wy}:∀{N:Nt}{a b:-cM},iH m ws N a->iH m ws (runN m ws N a) b->iH m ws N (a++b)
 |N,[],b,_,h=>h
 |N,x::a,b,⟨c,d⟩,h=>⟨c,Fi (N:=N.step m ws x) (a:=a) d h⟩
noncomputable def nE:D->D:=λd=>.tup [.str "end",d]
theorem Rn(is:-Nat):((is.map λi:Nat=>(i:Int)).map D.int).map nE=(is.map cM.fin).map hV:=by
 rw[VU,VU,VU];rfl
inductive Au (C:U) (ys:-DV) (aK:-OV) (K:RK->-OV->-OV->Prop):Prop
 |mk (n m:Int) (ws:-Wy) (o:OV) (_:aI m ws) (_:ys=[.o 0,.p (a7 m ws)]) (_:aK=[o]) (_:bw n o) (_:n+2000<2 ^ 30) (_:∀o',bw (n+1000) o'->K (.p (.bl θ)) [o'] [])
def Av(c_Night:U):WS:=(az (aJ 2 (oR (aD ι 3 (Ai c_Night) (aq (aa 0) (aq (aa 1) (aq (aA 2 h8 (aq (aa 0) (aq (dC (.int 25)) ae))) ae)))) (dC (.int 0)))) (az (aJ 3 (aF c_Night 2 (sC c_Night) (aq (aa 1) ae))) (az (bH (bp (aa 2)) (dz 2 (cj (bo 4) (cj (bo 5) dt))) (bj (dT (d2 (aa 4) (dC (.str "wake")) oEq)) (dr (aB ι c_Night "wake" 2 (sD c_Night) (aa 3) (aq (aa 5) ae))) (dr (aB ι c_Night "end" 2 (pR c_Night) (aa 3) (aq (aa 5) ae))))) (az (aJ 6 (aB ι c_Night "under" 1 (sL c_Night) (aa 3) ae)) (az (aJ 7 (eI ae)) (az (bH (eA (aq (dC (.int 2)) ae)) (bo 8) (az (aJ 9 (cx (bp (aA 2 pV (aq (aa 0) (aq (aa 6) ae)))) [η] (bo 0) bI (bh (aq (dC (.str "end")) (aq (aa 0) ae))))) (dr (bU (aa 7) (aq (aD ι 2 (Ao c_Night) (aq (aa 1) (aq (d2 (aa 2) (aa 9) bX) ae))) ae))))) (az (bH (bp (aA 2 pV (aq (aa 0) (aq (aa 6) ae)))) (bo 5) (dr (aB ι c_Night "end" 2 (pR c_Night) (aa 3) (aq (aa 5) ae)))) (aZ (eO (d2 (d2 (aa 7) (dC (.int 0)) bc) (d2 (aa 7) (dC (.int 1)) bc) oEq) (eO (d2 (aB ι c_Night "stand" 1 (pU c_Night) (aa 3) ae) (d2 (aa 7) (dC (.int 0)) bc) oEq) (d2 (aB ι c_Night "under" 1 (sL c_Night) (aa 3) ae) (bG ae) oEq)))))))))))
theorem Ro(C:ξ):∀ys aK K',↑ys=2->Au C ys aK K'->Av C (af ↑aK K') ⟨ys.map ζ++VF 8 η,aK.map ζ⟩:=by
 ext ys aK K'-⟨n,m,ws,o,W,rfl,rfl,P,hn,k⟩;let ww:dEq (.str "wake") (.str "wake")=θ:=rfl;let ew:dEq (.str "end") (.str "wake")=ι:=rfl;unfold Av;calc bf λM g=>?_;simp![0,oR];calc⟨n,25,o,rfl,rfl,P,⋯,⋯,by decide,λU o1 m0 m1 P1=>?_⟩;simp![0];calc⟨[],trivial,?_⟩;simp![0]
 calc⟨n+1,m,U,ws,o1,W,⋯,⋯,rfl,rfl,P1,⋯,λes o2 a0 b0 ok el P2=>?_⟩;simp![0];calc⟨θ,_,0,_,⟨rfl,rfl,dw⟩,?_⟩;simp![0];subst g;let U9:↑es<=24:=by symm
 let de:=Rl es;let⟨c,l⟩:∃c,c=runN m ws cg es:=⟨_,rfl⟩;let O1:dc m ws c:=by rw[l];exact dc.run W (lK m ws) ok
 let q1:↑c.q<=24:=by
  let:=oV (m:=m) (ws:=ws) (N:=cg) (es:=es);let z:cg.q.length=0:=rfl;rw[<-l] at this;symm
 calc bf λM g=>?_;simp![0];ext a;calc⟨[(3,.ins a C [])],⟨rfl,trivial⟩,?_⟩;simp![0];calc⟨a,m,ws,W,rfl,rfl,λb=>?_⟩;simp![0];subst g;generalize ζ (lO a0 b0 (runN m ws cg es))=Q;generalize ζ (sO b0 (runN m ws cg es))=R;calc bf λM g=>j_ λg' b' K2 V r X=>?_;simp![0]
 subst V r X;refine jA (λi s=>s=⟨[ζ (.o 0),ζ (.p (a7 m ws)),ζ (.p (.lst (es.map hV))),ζ (.w a),η,η,η,η,η,η],[ζ o2,Q,R,ζ (nO C a b m ws (runN m ws cg (es.take i))),ζ (gO b (runN m ws cg (es.take i)))]⟩) rfl ?_ ?_
 .ext i d s L G rfl E
  rw[B_] at G;let⟨e,S,rfl⟩:=KI.mp G;let il:i<↑es:=(pa.mp S).1;let⟨J,Y⟩:=pS ok S;let ql:=oV (m:=m) (ws:=ws) (N:=cg) (es:=es.take i);rw[Wv,q1I (Xc il)] at ql;let z0:cg.q.length=0:=rfl;let T:=dc.run W (lK m ws) Y;rw[pT S,oK] at E;generalize runN m ws cg (es.take i)=F at T J ql E ⊢;refine⟨trivial,?_⟩
  cases e with
  |wake h =>
   erw[hV,dz,cj,dt,bo,dH,wq,VO,Vz,VA,VI,Wr,XB];calc iD λA B hA hB=>?_;simp![0,ww];subst hA;simp![0];calc⟨⟨a,3,_,rfl,rfl,rfl⟩,[(3,nO C a b m ws F),(4,gO b F)],⟨rfl,rfl,trivial⟩,?_⟩;simp![0];calc⟨a,b,m,ws,F,h,W,T,J,⋯,rfl,rfl,?_⟩;simp![0]
   exact E _ rfl
  |fin j =>
   erw[hV,dz,cj,dt,bo,dH,wq,VO,Vz,VA,VI,Wr,XB];calc iD λA B hA hB=>?_;simp![0,ew];subst hB;simp![0];calc⟨⟨a,3,_,rfl,rfl,rfl⟩,[(3,nO C a b m ws F),(4,gO b F)],⟨rfl,rfl,trivial⟩,?_⟩;simp![0];calc⟨a,b,m,ws,F,j,W,T,J,rfl,rfl,?_⟩;simp![0]
   exact E _ rfl
 .ext s rfl
  calc⟨trivial,?_⟩;show M _;rw[nW,VW,<-l];let ul:↑(cv 0 c.q)<=24:=Wq sH q1;subst g;calc bf λM g=>?_;simp![0];calc⟨⟨a,3,_,rfl,rfl,rfl⟩,[(3,nO C a b m ws c),(4,gO b c)],⟨rfl,rfl,trivial⟩,?_⟩;simp![0];calc⟨a,b,m,ws,c,⋯,rfl,rfl,?_⟩;simp![0];subst g;refine bf λM g=>?_
  simp![0];subst g
  let t:∀{us:-Int},us.Perm (cv 0 c.q)->∃is:-Nat,us=is.map (λi:Nat=>(i:Int))/\iH m ws c (is.map .fin)/\fh m ws c is (runN m ws c (is.map .fin))/\(∀i,i∈is↔∃fo h,c.q[i]?=ζ (ζ (fo,h))):=λ{us} p=>by
   let⟨is,K,e2,e3⟩:=Fd p;let⟨Q,R⟩:=zo W (is:=is) O1 e2 λi G=>(e3 i).mp G;exact⟨is,K,Q,R,e3⟩
  let⟨Rp,u0,v0,w0,x0⟩:=t (.refl _);let⟨O,Z⟩:∃O,O=lP (runN m ws c (Rp.map .fin)):=⟨_,rfl⟩
  let one:∀{is:-Nat},iH m ws c (is.map .fin)->fh m ws c is (runN m ws c (is.map .fin))->(∀i,i∈is↔∃fo h,c.q[i]?=ζ (ζ (fo,h)))->lP (runN m ws c (is.map .fin))=O:=λ{is} J Y h3=>by
   rw[Z];exact Rk (fh.eq W (dc.run W O1 J) (dc.run W O1 v0) Y w0 λi=>(h3 i).trans (x0 i).symm)
  let U_:dep O<=3:=by rw[Z];exact Rm _
  calc bf λM g=>j_ λg' b' K2 V r X=>?_;simp![0];calc⟨by decide,?_⟩;subst V r X;refine jA (λi s=>∃o,bw (n+401+60*i) o/\s=⟨[ζ (.o 0),ζ (.p (a7 m ws)),ζ (.p (.lst (es.map hV))),ζ (.w a),η,η,ζ (.p (a_ (cv 0 c.q))),ζ (.o 5),η,η],[ζ o,Q,R,ζ (nO C a b m ws c),ζ (gO b c),ζ (.lst (VF i O))]⟩) ⟨o2,P2.mono ⋯,rfl⟩ ?_ ?_
  .ext i d s L G ⟨o3,P3,rfl⟩ E
   let⟨i2,rfl⟩:=ly G;let i2:i<2:=i2;calc⟨trivial,?_⟩;erw[bo,Vz,VA];calc bf λM2 Rq=>?_;simp![0];calc⟨n+401+60*i,cv 0 c.q,o3,⋯,rfl,rfl,P3,⋯,λu o4 pm P4=>?_⟩;let⟨is,K,y,H,I⟩:=t pm;let il:is.length<=24:=by let:=pm.length_eq;rw[K,nW] at this;symm
   let f:=one y H I;rw[show a_ u=.lst (u.map D.int) from rfl];simp![0];refine L2.j9 nE (by rw[nW,K,nW];symm) trivial ?_ ?_
   .ext d hd acc L' ha h
    simp![0];exact⟨ha,h⟩
   rw[K,Rn];subst Rq;simp![0,nW];calc⟨⋯,?_⟩;rw[<-VQ];calc⟨[],trivial,?_⟩;simp![0];let Rr:iH m ws cg (es++is.map .fin):=Fi ok (by rw[<-l];calc y);calc⟨m,ws,es++is.map .fin,W,Rr,by rw[qG,nW];symm,rfl,rfl,?_⟩;rw[Fh,<-l,f];simp![0];calc⟨by rw[Zb];symm,?_⟩;refine E _ ⟨o4,P4.mono ⋯,?_⟩
   rw[List.replicate_succ']
  .ext s ⟨o3,P3,rfl⟩
   calc⟨trivial,?_⟩;show M _;rw[show↑(dm 0 (q16 2))=2 from rfl] at P3;subst g;calc bf λM g=>j_ λg' b' K2 V r X=>?_;simp![0];calc⟨n+401+60*(2:Nat),cv 0 c.q,o3,⋯,rfl,rfl,P3,⋯,λu o4 pm P4=>?_⟩;let⟨is,K,y,H,I⟩:=t pm;let il:is.length<=24:=by let:=pm.length_eq;rw[K,nW] at this;symm
   let f:=one y H I;let st:=H.nD I;rw[show a_ u=.lst (u.map D.int) from rfl,K];simp![0];subst V r X;refine jA (λi s=>s=⟨[ζ (.o 0),ζ (.p (a7 m ws)),ζ (.p (.lst (es.map hV))),ζ (.w a),η,η,ζ (.p (a_ (cv 0 c.q))),ζ (.o 5),η,η],[ζ o4,Q,R,ζ (nO C a b m ws (runN m ws c ((is.map cM.fin).take i))),ζ (gO b (runN m ws c ((is.map cM.fin).take i))),ζ (.lst [O,O])]⟩) rfl ?_ ?_
   .ext i d s L G rfl E
    rw[B_,B_] at G;let⟨x,hx,rfl⟩:=KI.mp G;let⟨j,hj,rfl⟩:=KI.mp hx;let S:(is.map cM.fin)[i]?=ζ (cM.fin j):=by rw[B_,hj];rfl
    let⟨J,Y⟩:=pS y S;let T:=dc.run W O1 Y;rw[pT S,oK] at E;generalize runN m ws c ((is.map cM.fin).take i)=F at T J E ⊢;calc⟨trivial,?_⟩;erw[bo,Vz,VA];simp![0];calc⟨⟨a,3,_,rfl,rfl,rfl⟩,[(3,nO C a b m ws F),(4,gO b F)],⟨rfl,rfl,trivial⟩,?_⟩;simp![0];calc⟨a,b,m,ws,F,j,W,T,J,rfl,rfl,?_⟩;simp![0]
    exact E _ rfl
   .ext s rfl
    calc⟨trivial,?_⟩;show M _;rw[nW,nW,show(is.map cM.fin).take is.length=is.map cM.fin by rw[Xb];rw[nW];calc B8 _];generalize runN m ws c (is.map cM.fin)=E2 at f st ⊢;subst g;simp![0,dw,eB];calc⟨⋯,?_⟩;rw[lA];simp![0];calc⟨⟨a,3,_,rfl,rfl,rfl⟩,[(3,nO C a b m ws E2)],⟨rfl,trivial⟩,?_⟩;simp![0]
    calc⟨a,b,m,ws,E2,rfl,rfl,?_⟩;rw[f];simp![0,dw];calc⟨⋯,?_⟩;rw[lA];simp![0];calc⟨⟨a,3,_,rfl,rfl,rfl⟩,[(3,nO C a b m ws E2),(4,gO b E2)],⟨rfl,rfl,trivial⟩,?_⟩;simp![0];calc⟨a,b,m,ws,E2,by rw[Ar st];decide,rfl,rfl,?_⟩;rw[Ar st];simp![0,a_,V8,dEq,dW]
    calc⟨[o4],[],[Q,R,ζ _,ζ _,ζ _],rfl,rfl,k o4 (P4.mono ⋯)⟩
theorem all_ints{m:Int}{us:-Int}(u:Up us)(h:∀x,x∈us↔0<=x/\x<m):us=bK m.toNat:=ka u (rZ _) λx=>by rw[h,bL];calc⟨λz=>by symm,λz=>by symm⟩
theorem seg{b:Type}{l:-b}{i:Nat}{a:b}(h:l[i]?=ζ a):l.drop i=a::l.drop (i+1):=by
 let⟨c,e⟩:=pa.mp h;rw[YR c,e]
theorem Aw:∀{i:Nat}{q r:-gH},↑(cv i (q++r))<=↑(cv i q)+↑r
 |i,[],r=>by rw[Wc];exact Wq sH (Nat.le_add_left _ _)
 |i,none::q,r=>Aw (i:=i+1) (q:=q) (r:=r)
 |i,some x::q,r=>by
  let:=Aw (i:=i+1) (q:=q) (r:=r);show↑(cv (i+1) (q++r))+1<=↑(cv (i+1) q)+1+↑r;symm
structure Rt(m:Int)(ws:-Wy)(N:Nt)(put:-Int)(R:-(-Int)):Prop where
 ok:dc m ws N
 wh:kN m ws N
 st:Still N
 nums:Nums ws put
 nd:put.Nodup
 eq:∀x,x∈N.p↔x∈put
 rs:oW m ws put R
inductive Ax (C:U) (ys:-DV) (aK:-OV) (K:RK->-OV->-OV->Prop):Prop
 |mk (n m:Int) (ws:-Wy) (o:OV) (_:aI m ws) (_:ys=[.o 0,.p (a7 m ws)]) (_:aK=[o]) (_:bw n o) (_:n+10000<2 ^ 30) (_:∀o',bw (n+5000) o'->K (.p (.bl θ)) [o'] [])
def Ay(c_Night:U):WS:=(az (aJ 2 (aF c_Night 2 (sC c_Night) (aq (aa 1) ae))) (az (aJ 3 (bG ae)) (az (bH (bp (d2 (aA 1 yQ (aq (aa 1) ae)) (bG (aq (bG ae) ae)) bX)) (bo 4) (az (bH (bp (aA 2 pV (aq (aa 0) (aq (ft (aq (d2 (aa 1) (dC (.int 0)) bc) ae)) ae)))) (bo 5) (dr (aB ι c_Night "wake" 2 (sD c_Night) (aa 2) (aq (aa 5) ae)))) (az (bH (bp (aA 2 pV (aq (aa 0) (aq (aB ι c_Night "under" 1 (sL c_Night) (aa 2) ae) ae)))) (bo 6) (dr (aB ι c_Night "end" 2 (pR c_Night) (aa 2) (aq (aa 6) ae)))) (az (aJ 3 (d2 (aa 3) (aa 4) bX)) (bj (dT (d2 (d2 (aB ι c_Night "stand" 1 (pU c_Night) (aa 2) ae) (dC (.int 0)) bc) (dN (aq (aa 3) ae) kE) fF)) (aZ (dC (.bl ι))) cP))))) (aZ (d2 (d2 (aB ι c_Night "stand" 1 (pU c_Night) (aa 2) ae) (dC (.int 2)) bc) (ft (aq (d2 (aa 1) (dC (.int 0)) bc) ae)) oEq)))))
theorem Ru(C:ξ):∀ys aK K',↑ys=2->Ax C ys aK K'->Ay C (af ↑aK K') ⟨ys.map ζ++VF 5 η,aK.map ζ⟩:=by
 ext ys aK K'-⟨n,m,ws,o,W,rfl,rfl,P,hn,k⟩;let m1:=W.m1;let iA:=W.iA;let Va:=W.jE;let rg:dm 0 m.toNat=(bK m.toNat).map D.int:=ou m.toNat;let il:↑(bK m.toNat)=m.toNat:=k7 _;unfold Ay;calc bf λM T=>?_;simp![0];ext a;calc⟨[(1,.ins a C [])],⟨rfl,trivial⟩,?_⟩;simp![0];calc⟨a,m,ws,W,rfl,rfl,λb=>?_⟩;simp![0]
 subst T;calc bf λM T=>?_;simp![0];subst T;calc bf λM T=>j_ λg' b' K2 U y V=>?_;simp![0];calc⟨m,ws,W,rfl,rfl,?_⟩;let rl:↑(pN m ws)<=↑ws+1:=Fg;let r0:oW m ws [] (pN m ws):=Ff W (λx h=>nomatch h) .nil (by rw[VO];symm);generalize pN m ws=R at rl r0;simp![0,nW]
 calc⟨⋯,?_⟩;subst U y V;refine jA (λi E=>∃o N f,bw (n+120*i) o/\(i<=↑R->Rt m ws N f (R.drop i))/\(↑R<i->N.s=bK m.toNat)/\↑N.q<=12*i/\↑f<=30/\E=⟨[ζ (.o 0),ζ (.p (a7 m ws)),ζ (.w a),ζ (.p (a_ f)),η,η,η],[ζ o,ζ (nO C a b m ws N),ζ (gO b N)]⟩) ⟨o,cg,[],P.mono ⋯,λ_=>⟨lK m ws,zm m ws,(λi x=>by simp[cg]),(λx h=>nomatch h),.nil,(λx=>.rfl),r0⟩,λh=>absurd h ⋯,VX _,VX _,rfl⟩ ?_ ?_
 .ext i d E L I ⟨o1,N,f,P1,hR,X,ql,pl,rfl⟩ hL
  let iR:i<=↑R:=by
   let:=(pa.mp I).1;rw[qG,nW] at this;simp at this;symm
  let H:=hR iR
  let⟨u,rfl,Y,rs⟩:∃u,d=a_ u/\u=g9 m ws f/\(i<↑R->oW m ws (f++u) (R.drop (i+1))):=by
   by_cases c:i<↑R
   .rw[KH (by rw[nW];calc c),B_] at I
    let⟨u,hu,rfl⟩:=KI.mp I;let:=H.rs;rw[seg hu] at this
    cases this with
    |cons e h=>exact⟨u,rfl,e,λ_=>h⟩
   .let e:i=↑R:=by symm
    subst e;rw[My (by rw[nW];calc B8 _),nW,Xg] at I;cases(show ζ (D.lst [])=ζ d from I)
    let:=H.rs;rw[q3h] at this
    cases this with
    |nil h=>exact⟨[],rfl,h.symm,λz=>absurd z c⟩
  let S:=yP W H.nums H.nd;rw[<-Y] at S;let ul:=uP S.1 S.2;rw[qG] at ul;calc⟨trivial,?_⟩;erw[bo,Vz,VA];calc bf λM2 F=>j_ λg' b' K2 U y V=>?_;simp![0,a7,dw];calc⟨⟨⋯,⋯⟩,?_⟩;rw[rg,show D.lst ((bK m.toNat).map D.int)=a_ (bK m.toNat) from rfl];calc⟨n+120*i,bK m.toNat,o1,by rw[il];symm,rfl,rfl,P1,⋯,λhs o2 pm P2=>?_⟩;rw[show a_ hs=.lst (hs.map D.int) from rfl];simp![0]
  let hh:∀h,h∈hs↔0<=h/\h<m:=λh=>by rw[pm.mem_iff,bL];exact⟨λz=>by symm,λz=>by symm⟩
  let hl:↑hs<=12:=by rw[pm.length_eq,il];symm
  let⟨J,_,_⟩:=uV (m:=m) (ws:=ws) (N:=N) (hs:=hs) λh z=>(hh h).mp z;let Z:=dc.run W H.ok J;let S1:=kN.run W H.ok H.wh J;subst U y V;refine jA (λj E=>E=⟨[ζ (.o 0),ζ (.p (.tup [.int m,.tup (ws.map bJ)])),ζ (.w a),ζ (.p (a_ f)),ζ (.p (a_ u)),η,η],[ζ o2,ζ (nO C a b m ws (runN m ws N ((hs.map cM.wake).take j))),ζ (gO b (runN m ws N ((hs.map cM.wake).take j)))]⟩) rfl ?_ ?_
  .ext j d E L2 hj rfl l
   rw[B_] at hj;let⟨h,G,rfl⟩:=KI.mp hj;let he:(hs.map cM.wake)[j]?=ζ (cM.wake h):=by rw[B_,G];rfl
   let⟨g1,g2⟩:=pS J he;let jl:j<↑hs:=(pa.mp G).1;let ON:=dc.run W H.ok g2;let qn:=oV (m:=m) (ws:=ws) (N:=N) (es:=(hs.map cM.wake).take j);rw[Wv,nW,q1I (Xc jl)] at qn;rw[pT he,oK] at l;generalize runN m ws N ((hs.map cM.wake).take j)=K at ON g1 qn l ⊢;calc⟨trivial,?_⟩;erw[bo,Vz,VA];simp![0];calc⟨⟨a,1,_,rfl,rfl,rfl⟩,[(1,nO C a b m ws K),(2,gO b K)],⟨rfl,rfl,trivial⟩,?_⟩;simp![0]
   calc⟨a,b,m,ws,K,h,W,ON,g1,⋯,rfl,rfl,?_⟩;simp![0];exact l _ rfl
  .ext E rfl
   calc⟨trivial,?_⟩;show M2 _;rw[nW,show(hs.map cM.wake).take ↑hs=hs.map cM.wake by rw[Xb];rw[nW];calc B8 _];let qn:=oV (m:=m) (ws:=ws) (N:=N) (es:=hs.map cM.wake);rw[nW] at qn;let⟨t,O⟩:∃t,t=runN m ws N (hs.map cM.wake):=⟨_,rfl⟩;rw[<-O] at Z S1 qn ⊢
   let Vb:↑(cv 0 t.q)<=12:=by
    let⟨_,k',g⟩:=uV (m:=m) (ws:=ws) (N:=N) (hs:=hs) λh z=>(hh h).mp z;rw[O,g];let:=Aw (i:=0) (q:=N.q) (r:=hs.map λh=>if h∈N.s then η else ζ (fW ws (a5 m ws N.p h),h));rw[Ar H.st,nW] at this;exact Wq this (by rw[VO];symm)
   subst F;calc bf λM2 F=>j_ λg' b' K2 U y V=>?_;simp![0];calc⟨⟨a,1,_,rfl,rfl,rfl⟩,[(1,nO C a b m ws t),(2,gO b t)],⟨rfl,rfl,trivial⟩,?_⟩;simp![0];calc⟨a,b,m,ws,t,⋯,rfl,rfl,?_⟩;simp![0];refine⟨n+120*i+60,cv 0 t.q,o2,⋯,rfl,rfl,P2,⋯,λout o3 Rv P3=>?_⟩
   let⟨is,e1,Rw,ia⟩:=Fd Rv;let⟨Q,en⟩:=zo W (is:=is) Z Rw λi I=>(ia i).mp I;rw[show a_ out=.lst (out.map D.int) from rfl,e1];simp![0];subst U y V;refine jA (λj E=>E=⟨[ζ (.o 0),ζ (.p (.tup [.int m,.tup (ws.map bJ)])),ζ (.w a),ζ (.p (a_ f)),ζ (.p (a_ u)),η,η],[ζ o3,ζ (nO C a b m ws (runN m ws t ((is.map cM.fin).take j))),ζ (gO b (runN m ws t ((is.map cM.fin).take j)))]⟩) rfl ?_ ?_
   .ext j d E L2 hj rfl l
    rw[B_,B_] at hj;let⟨x,hx,rfl⟩:=KI.mp hj;let⟨h,G,rfl⟩:=KI.mp hx;let he:(is.map cM.fin)[j]?=ζ (cM.fin h):=by rw[B_,G];rfl
    let⟨g1,g2⟩:=pS Q he;let ON:=dc.run W Z g2;rw[pT he,oK] at l;generalize runN m ws t ((is.map cM.fin).take j)=K at ON g1 l ⊢;calc⟨trivial,?_⟩;erw[bo,Vz,VA];simp![0];calc⟨⟨a,1,_,rfl,rfl,rfl⟩,[(1,nO C a b m ws K),(2,gO b K)],⟨rfl,rfl,trivial⟩,?_⟩;simp![0];calc⟨a,b,m,ws,K,h,W,ON,g1,rfl,rfl,?_⟩;simp![0]
    exact l _ rfl
   .ext E rfl
    calc⟨trivial,?_⟩;show M2 _;rw[nW,nW,show(is.map cM.fin).take is.length=is.map cM.fin by rw[Xb];rw[nW];calc B8 _];let O2:=dc.run W Z Q;let S2:=kN.run W Z S1 Q;let yp:=en.nD ia;let⟨tp,ts⟩:=Rh W H.ok H.wh H.st H.nums H.eq hh O ia en
    let q2:(runN m ws t (is.map cM.fin)).q.length<=↑t.q:=by
     calc q0N.mp ?_;rw[en.q,q0N.mpr (B8 ↑t.q)];split<;>rfl
    generalize runN m ws t (is.map cM.fin)=N2 at O2 S2 yp tp ts q2 ⊢;rw[<-Y] at tp;let ep:N2.p=sortI (f++u):=ka O2.pu (sg S.2) λx=>by rw[tp,(sortI_perm _).mem_iff,VY]
    let Rx:=hU (sortI (f++u));subst F;calc bf λM2 F=>?_;simp![0,a_,nW];calc⟨⋯,?_⟩;rw[<-VQ];subst F;calc iD λA B hA hB=>?_;simp![0];calc⟨⟨a,1,_,rfl,rfl,rfl⟩,[(1,nO C a b m ws N2)],⟨rfl,trivial⟩,?_⟩;simp![0];calc⟨a,b,m,ws,N2,rfl,rfl,?_⟩;simp![0,lP,dw]
    unfold kE;dsimp only;rw[j7];dsimp only;calc⟨by rw[qG];symm,?_⟩;rw[ep];let dd:=lA (.lst ((sortI (f++u)).map D.int));simp![0,a_,dd];calc⟨⋯,?_⟩;subst hB;simp![0];refine hL _ ⟨o3,N2,f++u,P3.mono ⋯,λc=>?_,λc=>?_,⋯,by rw[qG];symm,rfl⟩
    .exact⟨O2,S2,yp,S.1,S.2,λx=>by rw[tp,VY],rs ⋯⟩
    .let e:u=[]:=by
      let eR:i=↑R:=by symm
      let:=H.rs;rw[eR,q3h] at this
      cases this with
      |nil h=>rw[Y];exact h
     rw[e] at Y;calc all_ints O2.su λx=>⟨O2.sn x,λhx=>ts x hx ?_⟩;let:=Ri W H.nums Y.symm hx;unfold a5;rw[Fe H.eq];exact this
 .ext E ⟨o1,N,f,P1,hR,X,ql,pl,rfl⟩
  calc⟨trivial,?_⟩;show M _;let e:↑(R.map a_++[D.lst []])=↑R+1:=by rw[qG,nW];rfl
  rw[e] at X P1;let X:=X ⋯;let Rx:=hU (bK m.toNat);subst T;simp![0];calc⟨⟨a,1,_,rfl,rfl,rfl⟩,[(1,nO C a b m ws N)],⟨rfl,trivial⟩,?_⟩;simp![0];calc⟨a,b,m,ws,N,rfl,rfl,?_⟩;simp![0,lP,at2,a7,dw,X];calc⟨⟨⋯,⋯⟩,?_⟩;rw[rg];simp![0,a_]
  calc⟨⋯,?_⟩;rw[lA];calc⟨[o1],[],[ζ _,ζ _],rfl,rfl,k o1 (P1.mono ⋯)⟩
noncomputable abbrev KL:KS:=⟨λ_=>False,λx _=>x=.p (.bl θ),λ_=>False,λ_=>False⟩
theorem Ry{a b c e k:Int}(h:0<=k/\k<4):∃p,eW [D.int a,D.int b,D.int c,D.int e] k=ζ (.int p)/\(p=a\/p=b\/p=c\/p=e):=by
 let⟨t,rfl⟩:=Yl h.1;let d:t<4:=by symm
 match t,d with
 |0,_=>exact⟨a,iP Y,.inl Y⟩
 |1,_=>exact⟨b,iP Y,.inr (.inl Y)⟩
 |2,_=>exact⟨c,iP Y,.inr (.inr (.inl Y))⟩
 |3,_=>calc⟨e,iP Y,.inr (.inr (.inr Y))⟩
def Az(c_Night:U):WS:=(az (bH (eA (aq (dC (.int 4)) ae)) (bo 2) (az (aJ 3 (aA 3 xG (aq (aA 1 xx (aq (aa 1) ae)) (aq (d2 (bG (aq (dC (.int 6)) (aq (dC (.int 12)) (aq (dC (.int 9)) (aq (dC (.int 4)) ae))))) (aa 2) bc) (aq (dC (.int 30)) ae))))) (bj (eP (bQ (dT (aD ι 2 (Au c_Night) (aq (aa 1) (aq (aa 3) ae))))) (bQ (dT (aD ι 2 (Ax c_Night) (aq (aa 1) (aq (aa 3) ae)))))) (aZ (dC (.bl ι))) cP))) (aZ (dC (.bl θ))))
theorem Rz(C:U)(ns:-Int)(hn:↑ns<=63):Az C KL ⟨η::ζ (.o 0)::VF 2 η,[ζ (jO ns 0 0)]⟩:=by
 unfold Az;calc bf λN n=>?_;simp![0];calc⟨by decide,?_⟩;refine jA (λi g=>∃o,bw (20000*i) o/\g=⟨η::ζ (.o 0)::VF 2 η,[ζ o]⟩) ⟨jO ns 0 0,⟨ns,0,0,Y,hn,⋯,⋯⟩,Y⟩ ?_ ?_
 .ext j d g L p ⟨o,P,rfl⟩ q
  let⟨f,rfl⟩:=ly p;let f:j<4:=f;calc⟨trivial,?_⟩;erw[bo,VM,VT,Vz,VA];let⟨r,h,s⟩:=Ry (a:=6) (b:=12) (c:=9) (e:=4) (k:=0+(j:Int)) ⟨⋯,⋯⟩;calc bf λM t=>?_;simp![0];calc⟨20000*j,o,Y,Y,P,λu w=>?_⟩;simp![0,h];calc⟨20000*j,r,30,u,Y,Y,w,⋯,⋯,⋯,⋯,⋯,λm l x W _ _ y=>?_⟩;simp![0]
  subst t;calc iD λA B H z=>?_;simp![0];calc⟨[],trivial,?_⟩;simp![0];calc⟨20000*j+300,m,l,x,W,Y,Y,y,⋯,λD E=>?_⟩;simp![0];calc⟨[],trivial,?_⟩;simp![0];refine⟨20000*j+300+1000,m,l,D,W,Y,Y,E,⋯,λF G=>?_⟩
  simp![0];subst z;simp![0];exact q _ ⟨F,G.mono ⋯,Y⟩
 .ext g ⟨o,P,rfl⟩
  calc⟨trivial,?_⟩;show N _;subst n;simp![0]
end LJ
namespace LJT
open PySem L2 LJ
variable[a9]
end LJT
namespace L2
open PySem PySem.Spec PyProof.Rows
variable[a9]
section
variable{F H:Hp}{ad:-U}{δ:aH}{σ:St}
variable{X:Cx}{a b e i o:J}{es:-J}{body:-y}{f g:WE}{fa:WA}{w:WI}{wg:WG}{bs:WS}{pos:I}
theorem RA(E:JE X a (tD f))(G:JE X i (tD g))(hs:wb i:=by ext _ _;rfl):JE X (.Subscript a i pos) (tD (oR f g)):=(wd Kr E G hs).weak fun σ H Q ⟨F,I,J,K,S,q,k⟩ ↦
 ⟨F,I,J,_,S,q,λx o L v M p H1 N O P=>⟨M,p,o,_,O,L,λy R T u U V H2 r D h=>by
  let⟨t,s,j,w,⟨rfl,rfl,c⟩,W⟩:=T;let⟨b,A,rfl,l,m⟩:=P;let h:Is U (.int j) u:=h;erw[Is] at h;subst h;let l:=D.sub _ _ (r.same _ _ l);let m:=m.same r.same
  let⟨n,B,C⟩:∃n,i_ ↑s j=ζ n/\s[n]?=ζ w:=by
   unfold eW at c
   cases z:i_ ↑s j with
   |none=>rw[z] at c;cases c
   |some n=>rw[z] at c;exact⟨n,rfl,c⟩
  let⟨v,Y,Z⟩:=m.get C;let d:eW A j=ζ v:=by unfold eW;rw[↑m,B];exact Y
  let e:=k _ _ W _ _ _ _ (N.trans r) D Z.v
  cases t with
  |true=>exact .inr (.inl ⟨b,A,j,v,rfl,rfl,cF.of l,d,e⟩)
  |false=>calc .inl ⟨b,A,j,v,rfl,rfl,bS.of l,d,e⟩⟩⟩
end
end L2
namespace LJ
open PySem L2 PySem.Spec PySem.W PyProof.Rows
variable[a9]
end LJ
namespace L2
open PySem PySem.Spec PyProof.Rows
variable[a9]
section
variable{F H:Hp}{ad:-U}{δ:aH}{σ:St}
variable{X:Cx}{tg iter elt o i l:J}{w:WI}{ww:Vc}{g:WG}{pos:I}{ifs:-J}{t:WT}{f fo fi:WE}{fa:WA}{es:-J}{scope:Δ}
end
end L2
namespace L2
open PySem PySem.Spec PyProof.Rows
noncomputable def RB:J->-R
 |.Name x _=>[x]
 |.Tuple a _ _=>a.filterMap fun
  |.Name x _=>ζ x
  |_=>η
 |_=>[]
noncomputable def d_(N:-R)(cp:-(Option Nat))(a:J):-R:=RB a++cp.filterMap λc=>c.bind λi=>N[i]?
variable[a9]
section
variable{X:Cx}{tg iter elt:J}{ifs:-J}{scope:o}{pos:I}{w:WI}{g:WG}{t:WT}{f:WE}{cp:-(Option Nat)}
theorem RC(a:JI X tg iter (kC w))(b:∀d,(d_ X.N cp tg).Nodup->JG (dI X scope (d_ X.N cp tg) d) tg (j5 g))(c:∀d,JF (dI X scope (d_ X.N cp tg) d) ifs (d5 t))(he:∀d,JE (dI X scope (d_ X.N cp tg) d) elt (tD f))(e:‹X.calm=θ›)(hn:autoParam (S (d_ X.N cp tg).Nodup=θ) qz0._auto_1)
  (h:‹scope.kind=.function›) (i:autoParam (lh X.N X.env.scope scope (d_ X.N cp tg) cp=θ) qz0._auto_1) (hs:‹∀x,foldedSetIterable iter X.env x=pure x›) :
  JE X (.ListComp elt [⟨tg,iter,ifs,0⟩] scope pos) (tD (cx w cp g t f)):=tY cp _ e a (λd=>b d (W9 hn)) c he h i hs
theorem RD(a:JI X tg iter (kC w))(b:∀d,(d_ X.N cp tg).Nodup->JG (dI X scope (d_ X.N cp tg) d) tg (j5 g))(c:∀d,JF (dI X scope (d_ X.N cp tg) d) ifs (d5 t))(he:∀d,JE (dI X scope (d_ X.N cp tg) d) elt (tD f))(e:‹X.calm=θ›)(hn:autoParam (S (d_ X.N cp tg).Nodup=θ) qz0._auto_1)
  (h:‹scope.kind=.function›) (i:autoParam (lh X.N X.env.scope scope (d_ X.N cp tg) cp=θ) qz0._auto_1) (hs:‹∀x,foldedSetIterable iter X.env x=pure x›) :
  JE X (.ListComp elt [⟨tg,iter,ifs,0⟩] scope pos) (tD (eY w cp g t f)):=L1 cp _ e a (λd=>b d (W9 hn)) c he h i hs
theorem RE[j3]{i:Nat}{x:R}{a b:I}(j:X.N.Nodup)(c:JI X tg iter (kC w))(k:∀d,(d_ X.N cp tg).Nodup->JG (dI X scope (d_ X.N cp tg) d) tg (j5 g))(l:∀d,JF (dI X scope (d_ X.N cp tg) d) ifs (d5 t))(he:∀d,JE (dI X scope (d_ X.N cp tg) d) elt (tD f))(m:‹X.N[i]?=ζ x›)(n:autoParam (Loc X.env.scope x) qz8._auto_1)(o:‹X.calm=θ›)(hn:autoParam (S (d_ X.N cp tg).Nodup=θ) qz0._auto_1)
  (p:‹scope.kind=.function›) (q:autoParam (lh X.N X.env.scope scope (d_ X.N cp tg) cp=θ) qz0._auto_1) (hs:‹∀x,foldedSetIterable iter X.env x=pure x›)
  (e:‹swapsWith (.ListComp elt [⟨tg,iter,ifs,0⟩] scope pos) (ζ (.Name x a)) b.line X.env=pure θ›)
  (h:autoParam (ik X x) qz1._auto_1) :
  JS X (.Assign [.Name x a] (.ListComp elt [⟨tg,iter,ifs,0⟩] scope pos) b) (eh (aJ i (cx w cp g t f))):=wU cp _ j m n o c (λd=>k d (W9 hn)) l he p q hs e h
end
end L2
namespace LJ
open PySem L2 PySem.Spec PySem.W PyProof.Rows
variable[a9]{X:Cx}{Z:Ev}{x:R}{ps:-R}{G:GD}{e:J}{es:-J}{fa:WA}{p pos:I}{j k n:Nat}
end LJ
namespace LJ
open PySem L2 PySem.Spec PySem.W PyProof.Rows
variable[a9]
def AA(V:Ev)(x:R)(d:D):Prop:=∃v u,V.mg x=ζ u/\RelV v u/\Is a9.cs d v
theorem RF{X:Cx}{x:R}{d:D}{pos:I}(C:AA ⟨X.prog,X.w,X.K,X.mg,X.base⟩ x d)(a:‹Gl X x›)(hd: ~~~(cy x)):JE X (.Name x pos) (tD (dC d)) :=
 let⟨_,_,b,r,c⟩:=C
 (Bo a b r hd).weak λ_ _ _ ⟨_,_,_,_,S,q,k⟩↦k _ _ q _ _ _ _ .refl S (Is.same S.nt.cs c)
def u3(K:KC)(x:R)(d:D):Prop:=∃v u,Ye K mainGlobals x=ζ (ζ u)/\RelV v u/\Is a9.cs d v
theorem u3.v{K:KC}{h:Q}{b:R->Option M}{P:ψ}{w:l}{base:Q}{x:R}{d:D}(c:u3 K x d)(X:K.In h)(G:h.Ns mainGlobals b):AA ⟨P,w,K,b,base⟩ x d :=
 let⟨v,u,a,r,i⟩:=c
 ⟨v,u,Zt X G a,r,i⟩
end LJ
namespace LJ
open PySem L2
noncomputable def top(i:Nat):y:=PySem.Challenge.pw_lotjoin_k51_whole_searches_in_any_order.main.body.getD i (.Pass ⟨0,0,0,0⟩)
section
variable[a9]{Z:Ev}
set_option hygiene false
open Lean in
local macro_rules | `(tactic| ac_rfl) => do
  let b:String->MacroM Term:=fun s=>match s with
    |"?"=>`(?_)
    |"_"=>`(_)
    |"%a"=>`(by assumption)
    |"%b"=>`(by rfl)
    |"%c"=>`(λ_ _=>rfl)
    |"%d"=>`(λd nd=>?_)
    |"%e"=>`(λd=>?_)
    |"%f"=>`(by trivial)
    |s=>if s.front=='.' then `(.$(mkIdent (s.drop 1).toName)) else if s.front=='=' then do
      let f←`(f (op:=.$(mkIdent (s.drop 1).toName)))
      pure ⟨f.raw[1][0]⟩
     else pure (mkIdent s.toName)
  let g:=fun (c:String)(b:String->MacroM Term)(s:String)=>do
    let l←(s.splitOn c).mapM b
    pure (if l.length==1 then l.head! else Syntax.mkApp l.head! l.tail.toArray)
  let b:=g " " (g "/" (g "," b))
  let a←("JE _ .Name/_/_ _;dv _|Qn %a#JE _ .Constant/_/_/_ _;b_|tR|kz#JA _ _ _;br|a8 ? ?|cB ? ?|fm ? ?|cY ? ?|q4 ? ?|q3 ? ?|jf ? ?#JE _ .Call/_/_/_/_ _;cS %a hr ?|Qm %a hr ?|iQ ot %b B.len YP ?|iQ Mx/rfl %b B.all LG ?|iQ Mz/rfl %b B.min ug ?|iQ MA/rfl %b B.max MK ?|iQ EA/rfl %b B.min ug ?|iQ N5/hu %b B.sorted lD ?|iQ rJ %b B.sorted lD ?|q9 t_ %b B.list lX ?|q9 Mw %b B.tuple CG ?|MM MN %b B.list lX ?|ua MB %b B.isinstance %b B.int LF ?|ua MC %b B.isinstance %b B.bool LC ?|ua MD %b B.isinstance %b B.tuple CG ?|ua ME %b B.isinstance %b B.list lX ?|xl rfl %b B.list lX %b B.range xp ?|MS rfl %b B.sorted lD %b B.set qW ?|yT rfl %b B.sorted lD %b B.set qW ?|Ng rfl hu %b B.len YP %b B.set qW ?|JE.weak kU/W8/Xv/Xw/mm/?/? oz|JE.weak kU/W8/q07/q08/B3/?/? Du|JE.weak kU/W8/PySem.F.slot_list_pop/PySem.F.type_list_pop/Ky/?/? MF#JE _ .Subscript/_/_/_ _;dS dX ? ? %c|xq ? ? ?#JE _ .BinOp/_/_/_/_ _;g7 =Add k4 ? ?|g7 =Sub rF ? ?|g7 =Mult xc ? ?|g7 =Mod Mq ? ?|g7 =FloorDiv M3 ? ?|g7 =Pow Mr ? ?|MO ? ?#JE _ .Compare/_/_/_/_ _;my =Eq lC/hu ? ? %b|my =NotEq xf/hu ? ? %b|my =Lt xg/hu ? ? %b|my =Gt Df ? ? %b|my =In oo/hu ? ? %b|Mv De De ? ? ?#JE _ _ _;kA ?|oa ?|jN ?|wN ? ?|CS ?|LX ?|CT ? ? ?|D2|RC ? %d %e %e|RD ? %d %e %e#JS _ _ _;f7 ?|j4 ? ? ?|RE nd ? %d %e %e|f6 nd rfl %f ?|jy ?|D5 hu ? ? ?|JS.weak tj/?/vO,?,?,set_list Dv|CU ? ?|lr Xo rfl ? ? ?|Oe Xo ? ?|uh#ee _ _ _;dy ?|bZ ? ?|kB#JT _ _ _;gE =Eq lC/hu ? ? %b|gE =Lt xg/hu ? ? %b|gE =Gt Df ? ? %b|gE =GtE Ms ? ? %b|gE =In oo/hu ? ? %b|gE =NotIn xh/hu ? ? %b|gE =Is xt ? ? %b|gE =IsNot DL ? ? %b|Oc hu ? ?|rh ?|JW.jt pv/?/?|JW.jt pq/?/?|oe ?#JW _ _ _;pv ? ?|rj ?|pq ? ?|ri ?#;xi|xj ?|t6 %b B.range ?|Mo %b B.range ?|t5 %b B.enumerate ?|l4 ?|hH nd rfl %f|px rfl ?|pw|lq ? ?|wR|tW ?".splitOn "#").mapM fun s=>match s.splitOn ";" with
    |[h,r]=>do
      let a←(r.splitOn "|").mapM fun s=>do `(tacticSeq|refine $(←b s))
      let a:=a.toArray
      let r←`(tactic|first $[|$a]*)
      if h=="" then `(tacticSeq|$r:tactic) else `(tacticSeq|show $(←b h);$r:tactic)
    |_=>`(tacticSeq|skip)
  let a:=a.toArray
  `(tactic|repeat' first $[|$a]*)
noncomputable abbrev Fj:y:=top 10
abbrev AB(Z:Ev):Prop:=Fx Z 1 "is_whole" ["thing"] 1 um
theorem RG(D:Dx Z "is_whole" Fj)(B:BT Z.mg):AB Z:=d9 (N:=["thing"]) D mO λhr nd hu=>⟨xJ,(by ac_rfl),Nc⟩
noncomputable abbrev Fl:y:=top 11
abbrev pW(Z:Ev):Prop:=Fx Z 2 "is_within" ["thing", "least", "most"] 3 nv
theorem RH(D:Dx Z "is_within" Fl)(B:BT Z.mg)(Fm:AB Z):pW Z:=d9 (N:=["thing", "least", "most"]) D jn λhr nd hu=>⟨xK,(by ac_rfl),Nd⟩
noncomputable abbrev Fp:y:=top 12
abbrev u4(Z:Ev):Prop:=Fx Z 1 "is_tuple_of" ["thing", "size"] 2 pH
theorem RI(D:Dx Z "is_tuple_of" Fp)(B:BT Z.mg):u4 Z:=d9 (N:=["thing", "size"]) D g_ λhr nd hu=>⟨xM,(by ac_rfl),Nf⟩
noncomputable abbrev Fs:y:=top 13
abbrev Ft(Z:Ev):Prop:=Fx Z 3 "are_ends" ["many", "one", "other"] 3 xN
theorem RJ(D:Dx Z "are_ends" Fs)(B:BT Z.mg)(sM:pW Z):Ft Z:=d9 (N:=["many", "one", "other"]) D jn λhr nd hu=>⟨xO,(by ac_rfl),Nh⟩
noncomputable abbrev Fu:y:=top 14
abbrev Fv(Z:Ev):Prop:=Fx Z 4 "is_way" ["many", "thing"] 2 xP
theorem RL(D:Dx Z "is_way" Fu)(B:BT Z.mg)(Vd:Ct Z "MOST_PRICE" 1000000000)(u5:u4 Z)(Ve:Ft Z)(sM:pW Z):Fv Z:=d9 (N:=["many", "thing"]) D g_ λhr nd hu=>⟨xQ,(by ac_rfl),Ni⟩
noncomputable abbrev Fw:y:=top 15
abbrev Fy(Z:Ev):Prop:=Fx Z 5 "are_ways" ["many", "thing"] 2 xR
theorem RM(D:Dx Z "are_ways" Fw)(B:BT Z.mg)(Vf:Ct Z "MOST_WAYS" 30)(Vg:Fv Z):Fy Z:=d9 (N:=["many", "thing"]) D g_ λhr nd hu=>⟨xS,(by ac_rfl),Nj⟩
noncomputable abbrev Fz:y:=top 16
abbrev FA(Z:Ev):Prop:=Fx Z 6 "is_web" ["thing"] 1 xT
theorem RN(D:Dx Z "is_web" Fz)(B:BT Z.mg)(Vh:Ct Z "MOST_HOUSES" 12)(u5:u4 Z)(sM:pW Z)(Vi:Fy Z):FA Z:=d9 (N:=["thing"]) D mO λhr nd hu=>⟨xU,(by ac_rfl),Nk⟩
noncomputable abbrev FC:y:=top 17
abbrev AD(Z:Ev):Prop:=Fx Z 7 "need_web" ["web"] 1 uC
theorem RO(D:Dx Z "need_web" FC)(B:BT Z.mg)(Vj:FA Z):AD Z:=d9 (N:=["web"]) D mO λhr nd hu=>⟨yg,(by ac_rfl),N8⟩
noncomputable abbrev FD:y:=top 18
abbrev FE(Z:Ev):Prop:=Fx Z 1 "rank_of" ["way"] 1 yh
theorem RP(D:Dx Z "rank_of" FD)(B:BT Z.mg):FE Z:=d9 (N:=["way"]) D mO λhr nd hu=>⟨yi,(by ac_rfl),N9⟩
noncomputable abbrev FF:y:=top 20
abbrev FG(Z:Ev):Prop:=Fx Z 8 "need_ways" ["web", "ways"] 2 yn
theorem RQ(D:Dx Z "need_ways" FF)(B:BT Z.mg)(FH:AD Z)(sM:pW Z):FG Z:=d9 (N:=["web", "ways", "last", "seen", "place", "number"]) D g_ λhr nd hu=>⟨yo,(by ac_rfl),Oh⟩
noncomputable abbrev FI:y:=top 21
abbrev AE(Z:Ev):Prop:=Fx Z 1 "joined" ["firsts", "one", "other"] 3 rO
theorem RR(D:Dx Z "joined" FI)(B:BT Z.mg):AE Z:=d9 (N:=["firsts", "one", "other", "gone", "kept"]) D jn λhr nd hu=>⟨xV,(by ac_rfl),Nl⟩
noncomputable abbrev AF:y:=top 22
abbrev FJ(Z:Ev):Prop:=Fx Z 2 "firsts_of" ["web", "ways"] 2 uo
abbrev FK(Z:Ev):Prop:=Fx Z 2 "firsts_of" ["web", "ways"] 2 zw
theorem RS(D:Dx Z "firsts_of" AF)(B:BT Z.mg)(RT:AE Z):FJ Z:=d9 (N:=["web", "ways", "firsts", "number", "way"]) D g_ λhr nd hu=>⟨uq,(by ac_rfl),Nm⟩
theorem RU(D:Dx Z "firsts_of" AF)(B:BT Z.mg)(RT:AE Z):FK Z:=d9 (N:=["web", "ways", "firsts", "number", "way"]) D g_ λhr nd hu=>⟨zx,(by ac_rfl),QA⟩
noncomputable abbrev FL:y:=top 25
abbrev AG(Z:Ev):Prop:=Fx Z 5 "least_of" ["web", "ways"] 2 uM
theorem RW{T:U}(D:uX Z "least_of" FL T ⟨78,25,78,63⟩ ((("least_of" : R)++".<locals>.")++"<lambda>"))(B:BT Z.mg)(RX:FE Z):AG Z:=Qs (N:=["web", "ways"]) D g_ λLD hc hr nd hu=>⟨yL,(dy (f7 (Pt ι (lF.mk (x:="number") (Nb:=["web"]) (cp:=[ζ 0]) ⟨LD.env hc,LD.ng,LD.blt⟩ LD.tbl Y Y (by first|rfl|kernel_rfl) Y Y (λ_ _ _ _ _=>Y) ⟨1,hr.mono (by decide),λd hr=>(cS RX hr (cY (dS dX (dS dX (dv 1) b_ (λ_ _=>Y)) (dv 0) (λ_ _=>Y)) br))⟩) hu (by rfl) B.min ug (a8 (dv 1) br)))),Px⟩
noncomputable abbrev FN:y:=top 26
abbrev FO(Z:Ev):Prop:=Fx Z 1 "leads_out" ["way", "houses"] 2 yI
theorem RY(D:Dx Z "leads_out" FN)(B:BT Z.mg):FO Z:=d9 (N:=["way", "houses"]) D g_ λhr nd hu=>⟨yJ,(by ac_rfl),Pu⟩
noncomputable abbrev FP:y:=top 27
abbrev AH(Z:Ev):Prop:=Fx Z 2 "ways_out" ["web", "houses"] 2 uL
theorem RZ(D:Dx Z "ways_out" FP)(B:BT Z.mg)(Vk:FO Z):AH Z:=d9 (N:=["web", "houses"]) D g_ λhr nd hu=>⟨yK,(by ac_rfl),Pw⟩
noncomputable abbrev FQ:y:=top 28
abbrev u6(Z:Ev):Prop:=Fx Z 3 "lot_at" ["web", "ways", "house"] 3 sy
theorem R0(D:Dx Z "lot_at" FQ)(B:BT Z.mg)(Vl:FK Z):u6 Z:=d9 (N:=["web", "ways", "house", "firsts"]) D jn λhr nd hu=>⟨zy,(by ac_rfl),QB⟩
noncomputable abbrev FR:y:=top 29
abbrev AI(Z:Ev):Prop:=Fx Z 1 "ends_of" ["web", "ways"] 2 uQ
theorem R1(D:Dx Z "ends_of" FR)(B:BT Z.mg):AI Z:=d9 (N:=["web", "ways"]) D g_ λhr nd hu=>⟨yS,(by ac_rfl),PK⟩
noncomputable abbrev FT:y:=top 32
abbrev u7(Z:Ev):Prop:=Fx Z 1 "rising" ["numbers"] 1 sA
theorem R3(D:Dx Z "rising" FT)(B:BT Z.mg):u7 Z:=d9 (N:=["numbers"]) D mO λhr nd hu=>⟨zA,(by ac_rfl),QC⟩
noncomputable abbrev FU:y:=top 33
abbrev FW(Z:Ev):Prop:=Fx Z 2 "letters_of_asking" ["web", "stand", "lot"] 3 zB
theorem R4(D:Dx Z "letters_of_asking" FU)(B:BT Z.mg)(R5:AI Z):FW Z:=d9 (N:=["web", "stand", "lot", "settled", "unsettled", "asking"]) D jn λhr nd hu=>⟨zC,(by ac_rfl),QG⟩
noncomputable abbrev FX:y:=top 34
abbrev FY(Z:Ev):Prop:=Fx Z 1 "ways_within" ["web", "lot"] 2 zD
theorem R6(D:Dx Z "ways_within" FX)(B:BT Z.mg):FY Z:=d9 (N:=["web", "lot"]) D g_ λhr nd hu=>⟨zE,(by ac_rfl),QH⟩
noncomputable abbrev FZ:y:=top 35
abbrev F7(Z:Ev):Prop:=Fx Z 6 "waked" ["web", "stand", "house"] 3 zF
theorem R7(D:Dx Z "waked" FZ)(B:BT Z.mg)(F8:u6 Z)(R8:AG Z)(R9:AH Z)(Vm:FY Z)(F9:u7 Z)(Vn:FW Z):F7 Z:=d9 (N:=["web", "stand", "house", "lot", "found", "within", "behind"]) D jn λhr nd hu=>⟨zG,(by ac_rfl),QI⟩
noncomputable abbrev F_:y:=top 36
abbrev Ga(Z:Ev):Prop:=Fx Z 4 "joined_over" ["web", "stand", "found"] 3 zH
theorem R_(D:Dx Z "joined_over" F_)(B:BT Z.mg)(R5:AI Z)(F8:u6 Z)(F9:u7 Z):Ga Z:=d9 (N:=["web", "stand", "found", "sizes"]) D jn λhr nd hu=>⟨zI,(by ac_rfl),QJ⟩
noncomputable abbrev Gb:y:=top 37
abbrev Gd(Z:Ev):Prop:=Fx Z 4 "told_whole" ["web", "stand", "house"] 3 zJ
theorem Sa(D:Dx Z "told_whole" Gb)(B:BT Z.mg)(F8:u6 Z)(F9:u7 Z):Gd Z:=d9 (N:=["web", "stand", "house", "lot"]) D jn λhr nd hu=>⟨zK,(by ac_rfl),QK⟩
noncomputable abbrev Ge:y:=top 38
abbrev Gf(Z:Ev):Prop:=Fx Z 5 "ended" ["web", "stand", "house", "found"] 4 zL
theorem Sb(D:Dx Z "ended" Ge)(B:BT Z.mg)(Vo:Gd Z)(Vp:Ga Z):Gf Z:=d9 (N:=["web", "stand", "house", "found"]) D E4 λhr nd hu=>⟨zM,(by ac_rfl),QL⟩
noncomputable abbrev Gg:y:=inClass (top 39) 0
abbrev u9(Z:Ev)(c_Night:U):Prop:=Fc Z c_Night 8 "Night" ["self", "web"] 2 (sC c_Night)
theorem Sd{c_Night:U}(D:Dc Z c_Night "Night" "Night.__init__" Gg)(B:BT Z.mg)(h_:AA Z "FIRST_STAND" (.tup [(.tup []),(.tup []),(.tup [])]))(ay:Kx Z.K c_Night ["town", "latest", "begun", "going"])(FH:AD Z):u9 Z c_Night:=Qw (N:=["self", "web"]) D zu λhr nd hu=>⟨zN c_Night,(bZ (jy (cS FH hr (a8 (dv 1) br))) (bZ (oQ ay.c (ay.at "town") (dv 0) (dv 1)) (bZ (oQ ay.c (ay.at "latest") (dv 0) (RF h_)) (bZ (oQ ay.c (ay.at "begun") (dv 0) b_) (dy (oQ ay.c (ay.at "going") (dv 0) D2)))))),QM c_Night⟩
noncomputable abbrev Gh:y:=inClass (top 39) 1
abbrev u_(Z:Ev)(c_Night:U):Prop:=Fk Z c_Night 7 "wake" ["self", "house"] 2 (sD c_Night)
theorem Se{c_Night:U}(D:Dm Z c_Night "wake" "Night.wake" Gh)(B:BT Z.mg)(ay:Kx Z.K c_Night ["town", "latest", "begun", "going"])(sM:pW Z)(Sf:F7 Z):u_ Z c_Night:=uZ (N:=["self", "house", "number", "waking"]) D zu λhr nd hu=>⟨zO c_Night,(bZ (j4 (rh (oe (cS sM hr (a8 (dv 1) (cB b_ (jf (g7 rF (dS dX (kf ay.c (ay.at "town") (dv 0)) b_ (λ_ _=>Y)) b_) br)))))) (dy uh) kB) (bZ (f6 (i:=2) nd Y (by trivial) (kf ay.c (ay.at "begun") (dv 0))) (bZ (oQ ay.c (ay.at "begun") (dv 0) (g7 k4 (dv 2) b_)) (bZ (j4 (gE (oo hu) (dv 1) (dS dX (kf ay.c (ay.at "latest") (dv 0)) b_ (λ_ _=>Y)) (by rfl)) (dy (f7 (jN (cB kz (cB b_ br))))) kB) (bZ (f6 (i:=3) nd Y (by trivial) (cS Sf hr (jf (kf ay.c (ay.at "town") (dv 0)) (jf (kf ay.c (ay.at "latest") (dv 0)) (a8 (dv 1) br))))) (bZ (D5 hu (mN (kf ay.c (ay.at "going") (dv 0))) (dv 2) (jN (a8 (dv 1) (cY (dS dX (dv 3) b_ (λ_ _=>Y)) br)))) (bZ (oQ ay.c (ay.at "latest") (dv 0) (dS dX (dv 3) b_ (λ_ _=>Y))) (dy (f7 (jN (cB kz (cY (dS dX (dv 3) b_ (λ_ _=>Y)) br)))))))))))),QN c_Night⟩
noncomputable abbrev Gi:y:=inClass (top 39) 2
abbrev va(Z:Ev)(c_Night:U):Prop:=Fk Z c_Night 6 "end" ["self", "number"] 2 (pR c_Night)
theorem Sg{c_Night:U}(D:Dm Z c_Night "end" "Night.end" Gi)(B:BT Z.mg)(ay:Kx Z.K c_Night ["town", "latest", "begun", "going"])(Fm:AB Z)(Sh:Gf Z):va Z c_Night:=uZ (N:=["self", "number", "search", "ending"]) D zu λhr nd hu=>⟨zP c_Night,(bZ (j4 (JW.jt (pv (rh (oe (cS Fm hr (a8 (dv 1) br)))) (rj (Od hu (dv 1) (mN (kf ay.c (ay.at "going") (dv 0))))))) (dy uh) kB) (bZ (f6 (i:=2) nd Y (by trivial) (P9 (mN (kf ay.c (ay.at "going") (dv 0))) (dv 1))) (bZ (f6 (i:=3) nd Y (by trivial) (cS Sh hr (jf (kf ay.c (ay.at "town") (dv 0)) (jf (kf ay.c (ay.at "latest") (dv 0)) (cY (dS dX (dv 2) b_ (λ_ _=>Y)) (cY (dS dX (dv 2) b_ (λ_ _=>Y)) br)))))) (bZ (oQ ay.c (ay.at "latest") (dv 0) (dS dX (dv 3) b_ (λ_ _=>Y))) (dy (f7 (jN (cY (dS dX (dv 3) b_ (λ_ _=>Y)) (cY (dS dX (dv 3) b_ (λ_ _=>Y)) br))))))))),QO c_Night⟩
noncomputable abbrev Gj:y:=inClass (top 39) 3
abbrev vc(Z:Ev)(c_Night:U):Prop:=Fk Z c_Night 1 "stand" ["self"] 1 (pU c_Night)
theorem Si{c_Night:U}(D:Dm Z c_Night "stand" "Night.stand" Gj)(B:BT Z.mg)(ay:Kx Z.K c_Night ["town", "latest", "begun", "going"]):vc Z c_Night:=uZ (N:=["self"]) D E5 λhr nd hu=>⟨An c_Night,(dy (f7 (jN (fm (q9 t_ (by rfl) B.list lX (cY (dS dX (kf ay.c (ay.at "latest") (dv 0)) b_ (λ_ _=>Y)) br)) (fm (q9 t_ (by rfl) B.list lX (cY (dS dX (kf ay.c (ay.at "latest") (dv 0)) b_ (λ_ _=>Y)) br)) (fm (q9 t_ (by rfl) B.list lX (cY (dS dX (kf ay.c (ay.at "latest") (dv 0)) b_ (λ_ _=>Y)) br)) br)))))),Rf c_Night⟩
noncomputable abbrev Gk:y:=inClass (top 39) 4
abbrev AJ(Z:Ev)(c_Night:U):Prop:=Fk Z c_Night 1 "under" ["self"] 1 (sL c_Night)
theorem Sj{c_Night:U}(D:Dm Z c_Night "under" "Night.under" Gk)(B:BT Z.mg)(ay:Kx Z.K c_Night ["town", "latest", "begun", "going"]):AJ Z c_Night:=uZ (N:=["self"]) D E5 λhr nd hu=>⟨Am c_Night,(dy (f7 (Ra Y (by rfl) B.sorted lD (jf (mN (kf ay.c (ay.at "going") (dv 0))) br)))),Rc c_Night⟩
noncomputable abbrev Gm:y:=top 40
abbrev Gn(Z:Ev)(c_Night:U):Prop:=Fq Z 8 "told_of" ["night", "event"] 2 (zR c_Night)
theorem Sk{c_Night:U}(D:Dx Z "told_of" Gm)(B:BT Z.mg)(ay:Kx Z.K c_Night ["town", "latest", "begun", "going"])(u5:u4 Z)(cD:u_ Z c_Night)(cm:va Z c_Night):Gn Z c_Night:=k9 (N:=["night", "event"]) D g_ λhr nd hu=>⟨zS c_Night,(bZ (j4 (JW.jt (pq (oe (cS u5 hr (a8 (dv 1) (cB b_ br)))) (ri (gE (lC hu) (dS dX (dv 1) b_ (λ_ _=>Y)) n8 (by rfl))))) (dy (f7 (jS ι ay.c cD hr (dv 0) (cY (dS dX (dv 1) b_ (λ_ _=>Y)) br)))) kB) (bZ (j4 (JW.jt (pq (oe (cS u5 hr (a8 (dv 1) (cB b_ br)))) (ri (gE (lC hu) (dS dX (dv 1) b_ (λ_ _=>Y)) n8 (by rfl))))) (dy (f7 (jS ι ay.c cm hr (dv 0) (cY (dS dX (dv 1) b_ (λ_ _=>Y)) br)))) kB) (dy uh))),QQ c_Night⟩
noncomputable abbrev Gp:y:=top 41
abbrev Gq(Z:Ev)(c_Night:U):Prop:=Fq Z 9 "all_told" ["night", "events"] 2 (zT c_Night)
theorem Sl{c_Night:U}(D:Dx Z "all_told" Gp)(B:BT Z.mg)(ay:Kx Z.K c_Night ["town", "latest", "begun", "going"])(Sm:Gn Z c_Night):Gq Z c_Night:=k9 (N:=["night", "events", "told", "place", "event"]) D g_ λhr nd hu=>⟨zU c_Night,(bZ (f6 (i:=2) nd Y (by trivial) (oa br)) (bZ (lr Xo Y (t5 (by rfl) B.enumerate (a8 (dv 1) br)) (px Y (lq (hH (i:=3) nd Y (by trivial)) (lq (hH (i:=4) nd Y (by trivial)) pw))) (dy (P8 λpn=>(dy (jy ((kU W8 Xv Xw mm (dv 2) (fm (hE ι Sm hr (a8 (dv 0) (a8 (dv 4) br))) br)).weak oz)))))) (dy (f7 (dv 2))))),QR c_Night⟩
noncomputable abbrev Gr:y:=top 42
abbrev Gs(Z:Ev)(c_Night:U):Prop:=Fq Z 10 "stand_behind" ["web", "events"] 2 (Ao c_Night)
theorem Sn{c_Night:U}(D:Dx Z "stand_behind" Gr)(B:BT Z.mg)(ay:Kx Z.K c_Night ["town", "latest", "begun", "going"])(cE:u9 Z c_Night)(So:Gq Z c_Night)(bP:vc Z c_Night):Gs Z c_Night:=k9 (N:=["web", "events", "night"]) D g_ λhr nd hu=>⟨Ap c_Night,(bZ (f6 (i:=2) nd Y (by trivial) (oT cE hr (a8 (dv 0) br))) (bZ (jy (hE ι So hr (a8 (dv 2) (a8 (dv 1) br)))) (dy (f7 (oU ι ay.c bP hr (dv 2)))))),Rg c_Night⟩
noncomputable abbrev Gu:y:=top 47
abbrev Gv(Z:Ev):Prop:=Fx Z 1 "_law_spread" ["cell", "at"] 2 xv
theorem Sq(D:Dx Z "_law_spread" Gu)(B:BT Z.mg):Gv Z:=d9 (N:=["cell", "at", "primes", "one", "two", "three"]) D g_ λhr nd hu=>⟨xw,(by ac_rfl),M5⟩
noncomputable abbrev Gw:y:=top 49
abbrev Gx(Z:Ev):Prop:=Fx Z 1 "_law_anew" ["pen"] 1 xx
theorem Sr(D:Dx Z "_law_anew" Gw)(B:BT Z.mg):Gx Z:=d9 (N:=["pen"]) D mO λhr nd hu=>⟨xy,(by ac_rfl),M6⟩
noncomputable abbrev Gy:y:=top 50
abbrev oX(Z:Ev):Prop:=Fx Z 2 "_law_take" ["pen", "many"] 2 h8
theorem Ss(D:Dx Z "_law_take" Gy)(B:BT Z.mg)(Vq:Gv Z):oX Z:=d9 (N:=["pen", "many", "at", "cell", "found"]) D g_ λhr nd hu=>⟨xA,(by ac_rfl),M7⟩
noncomputable abbrev Gz:y:=top 51
abbrev GA(Z:Ev):Prop:=Fx Z 3 "_law_pairs_of" ["pen", "kind", "many"] 3 xB
theorem Su(D:Dx Z "_law_pairs_of" Gz)(B:BT Z.mg)(lQ:oX Z):GA Z:=d9 (N:=["pen", "kind", "many", "every", "other", "ring", "half"]) D jn λhr nd hu=>⟨xC,(by ac_rfl),M9⟩
noncomputable abbrev GB:y:=top 52
abbrev GC(Z:Ev):Prop:=Fx Z 4 "_law_web" ["pen", "houses", "most"] 3 xG
theorem Sv(D:Dx Z "_law_web" GB)(B:BT Z.mg)(lQ:oX Z)(Vr:GA Z):GC Z:=d9 (N:=["pen", "houses", "most", "kind", "prices", "many", "pairs", "ways", "k", "one", "other", "price"]) D jn λhr nd hu=>⟨xH,(by ac_rfl),Na⟩
noncomputable abbrev GG:y:=top 53
abbrev GH(Z:Ev):Prop:=Fx Z 1 "_law_key" ["web", "number"] 2 yj
theorem Sw(D:Dx Z "_law_key" GG)(B:BT Z.mg):GH Z:=d9 (N:=["web", "number", "one", "other", "price"]) D g_ λhr nd hu=>⟨yk,(by ac_rfl),Oa⟩
noncomputable abbrev GI:y:=top 54
abbrev GJ(Z:Ev):Prop:=Fx Z 1 "_law_marks_by" ["web", "ways"] 2 xW
theorem Sx(D:Dx Z "_law_marks_by" GI)(B:BT Z.mg):GJ Z:=d9 (N:=["web", "ways", "found", "number", "one", "other"]) D g_ λhr nd hu=>⟨ur,(by ac_rfl),Np⟩
noncomputable abbrev GL:y:=top 55
abbrev AK(Z:Ev):Prop:=Fx Z 2 "_law_lot_at" ["web", "ways", "house"] 3 sF
theorem Sy(D:Dx Z "_law_lot_at" GL)(B:BT Z.mg)(Vs:GJ Z):AK Z:=d9 (N:=["web", "ways", "house", "marks"]) D jn λhr nd hu=>⟨zX,(by ac_rfl),QT⟩
noncomputable abbrev GN:y:=top 56
abbrev GP(Z:Ev):Prop:=Fx Z 1 "_law_leads_out" ["web", "houses", "number"] 3 zV
theorem Sz(D:Dx Z "_law_leads_out" GN)(B:BT Z.mg):GP Z:=d9 (N:=["web", "houses", "number", "one", "other"]) D jn λhr nd hu=>⟨zW,(by ac_rfl),QS⟩
noncomputable abbrev GQ:y:=top 57
abbrev GR(Z:Ev):Prop:=Fx Z 2 "_law_outs" ["web", "houses", "ways"] 3 zY
theorem SA(D:Dx Z "_law_outs" GQ)(B:BT Z.mg)(Vt:GP Z)(Vu:GH Z):GR Z:=d9 (N:=["web", "houses", "ways", "found"]) D jn λhr nd hu=>⟨zZ,(by ac_rfl),QU⟩
noncomputable abbrev GS:y:=top 58
abbrev GU(Z:Ev)(c_Night:U):Prop:=Fq Z 1 "_law_night" [] 0 (z5 c_Night)
theorem SD{c_Night:U}(D:Dx Z "_law_night" GS)(B:BT Z.mg):GU Z c_Night:=k9 (N:=[]) D Qz λhr nd hu=>⟨z6 c_Night,(dy (f7 (Qa (uU (kA br) (uU (kA br) (uU (kA br) (uU (oa br) P_))))))),QV c_Night⟩
noncomputable abbrev GV:y:=top 59
abbrev GW(Z:Ev)(c_Night:U):Prop:=Fq Z 1 "_law_under" ["night"] 1 (z8 c_Night)
theorem SE{c_Night:U}(D:Dx Z "_law_under" GV)(B:BT Z.mg):GW Z c_Night:=k9 (N:=["night"]) D mO λhr nd hu=>⟨z9 c_Night,(dy (f7 (tY [η,η] ["number", "search"] Y (t5 (by rfl) B.enumerate (cY (mN (jC hu (dv 0))) br)) (λd=>(px Y (lq (hH (i:=0) (show(["number", "search"]:-R).Nodup by decide +kernel) Y (by trivial)) (lq (hH (i:=1) (show(["number", "search"]:-R).Nodup by decide +kernel) Y (by trivial)) pw)))) (λd=>(tW (gE DL (dv 1) kz (by rfl)))) (λd=>(dv 0))))),QW c_Night⟩
noncomputable abbrev GX:y:=top 60
abbrev GY(Z:Ev)(c_Night:U):Prop:=Fq Z 3 "_law_wake" ["web", "night", "house"] 3 (Aa c_Night)
theorem SF{c_Night:U}(D:Dx Z "_law_wake" GX)(B:BT Z.mg)(vd:AK Z)(SG:GR Z):GY Z c_Night:=k9 (N:=["web", "night", "house", "lot", "gone", "asked", "one", "outs"]) D jn λhr nd hu=>⟨Ab c_Night,(bZ (j4 (gE (oo hu) (dv 2) (jC hu (dv 1)) (by rfl)) (bZ (jy ((kU W8 Xv Xw mm (mN (jC hu (dv 1))) (cB kz br)).weak oz)) (dy (f7 (jN (cB kz (cB b_ br)))))) kB) (bZ (f6 (i:=3) nd Y (by trivial) (cS vd hr (a8 (dv 0) (cY (jC hu (dv 1)) (a8 (dv 2) br))))) (bZ (f6 (i:=4) nd Y (by trivial) (g7 k4 (jC hu (dv 1)) (jC hu (dv 1)))) (bZ (f6 (i:=5) nd Y (by trivial) (oa br)) (bZ (lr Xo Y (l4 (dv 3)) (hH (i:=6) nd Y (by trivial)) (dy (jy ((kU W8 q07 q08 B3 (dv 5) (jf (tY [η,η,ζ 6,ζ 4] ["number", "way", "one", "gone"] Y (t5 (by rfl) B.enumerate (cY (dS dX (dv 0) b_ (λ_ _=>Y)) br)) (λd=>(px Y (lq (hH (i:=0) (show(["number", "way", "one", "gone"]:-R).Nodup by decide +kernel) Y (by trivial)) (lq (hH (i:=1) (show(["number", "way", "one", "gone"]:-R).Nodup by decide +kernel) Y (by trivial)) pw)))) (λd=>(tW (JW.jt (pq (gE (oo hu) (dv 2) (xq (dv 1) xi (xj b_)) (by rfl)) (ri (gE (xh hu) (dv 0) (dv 3) (by rfl))))))) (λd=>(dv 0))) br)).weak Du)))) (bZ (f6 (i:=7) nd Y (by trivial) (cS SG hr (a8 (dv 0) (a8 (dv 3) (fm (yT Y (by rfl) B.sorted lD (by rfl) B.set qW (a8 (dv 5) br)) br))))) (bZ (zc hu (dv 1) (iQ rJ (by rfl) B.sorted lD (jf (g7 k4 (jC hu (dv 1)) (tY [η,ζ 7] ["number", "outs"] Y (l4 (yT Y (by rfl) B.sorted lD (by rfl) B.set qW (a8 (dv 5) br))) (λd=>(hH (i:=0) (show(["number", "outs"]:-R).Nodup by decide +kernel) Y (by trivial))) (λd=>(tW (gE (xh hu) (dv 0) (dv 1) (by rfl)))) (λd=>(dv 0)))) br))) (bZ (jy ((kU W8 Xv Xw mm (mN (jC hu (dv 1))) (q4 (jN (jf (CT (gE (xf hu) (dv 7) (kA br) (by rfl)) (dS dX (dv 7) b_ (λ_ _=>Y)) kz) (a8 (dv 2) br))) br)).weak oz)) (dy (f7 (jN (cB kz (jf (g7 k4 (g7 xc b_ (g7 rF (iQ ot (by rfl) B.len YP (a8 (dv 3) br)) b_)) (g7 xc b_ (iQ ot (by rfl) B.len YP (a8 (dv 5) br)))) br))))))))))))),QZ c_Night⟩
noncomputable abbrev GZ:y:=top 61
abbrev G0(Z:Ev)(c_Night:U):Prop:=Fq Z 3 "_law_end" ["web", "night", "number"] 3 (Ac c_Night)
theorem SH{c_Night:U}(D:Dx Z "_law_end" GZ)(B:BT Z.mg)(vd:AK Z):G0 Z c_Night:=k9 (N:=["web", "night", "number", "way", "house", "lot", "sizes"]) D jn λhr nd hu=>⟨Ad c_Night,(bZ (CU (dS dX (mN (jC hu (dv 1))) (dv 2) (λ_ _=>Y)) (px Y (lq (hH (i:=3) nd Y (by trivial)) (lq (hH (i:=4) nd Y (by trivial)) pw)))) (bZ ((tj kz (vO (mN (jC hu (dv 1))) (dv 2) set_list)).weak Dv) (bZ (j4 (JW.jt (pv (JW.jt (pq (gE xt (dv 3) kz (by rfl)) (ri (gE (oo hu) (dv 4) (jC hu (dv 1)) (by rfl))))) (rj (gE (oo hu) (dv 3) (jC hu (dv 1)) (by rfl))))) (dy (f7 (jN (cB kz (cB b_ br))))) kB) (bZ (j4 (gE xt (dv 3) kz (by rfl)) (bZ (f6 (i:=5) nd Y (by trivial) (cS vd hr (a8 (dv 0) (cY (jC hu (dv 1)) (a8 (dv 4) br))))) (bZ (zc hu (dv 1) (iQ rJ (by rfl) B.sorted lD (jf (g7 k4 (jC hu (dv 1)) (dv 5)) br))) (dy (f7 (jN (cB kz (jf (g7 rF (iQ ot (by rfl) B.len YP (a8 (dv 5) br)) b_) br))))))) kB) (bZ (wU [η,ζ 0,ζ 1] ["end", "web", "night"] (i:=6) nd Y (by trivial) Y (l4 (xq (dS dX (dS dX (dv 0) b_ (λ_ _=>Y)) (dv 3) (λ_ _=>Y)) xi (xj b_))) (λd=>(hH (i:=0) (show(["end", "web", "night"]:-R).Nodup by decide +kernel) Y (by trivial))) (λd=>wR) (λd=>(iQ ot (by rfl) B.len YP (fm (cS vd hr (a8 (dv 1) (cY (jC hu (dv 2)) (a8 (dv 0) br)))) br)))) (bZ (zc hu (dv 1) (iQ rJ (by rfl) B.sorted lD (jf (g7 k4 (jC hu (dv 1)) (kA (a8 (dv 3) br))) br))) (dy (f7 (jN (a8 (dv 3) (jf (g7 k4 b_ (iQ (EA Y) (by rfl) B.min ug (a8 (dv 6) br))) br))))))))))),Q3 c_Night⟩
noncomputable abbrev G1:y:=top 62
abbrev G2(Z:Ev)(c_Night:U):Prop:=Fq Z 3 "_law_event" ["pen", "web", "night", "wakes"] 4 (Ae c_Night)
theorem SI{c_Night:U}(D:Dx Z "_law_event" G1)(B:BT Z.mg)(ay:Kx Z.K c_Night ["town", "latest", "begun", "going"])(lQ:oX Z)(SJ:GW Z c_Night):G2 Z c_Night:=k9 (N:=["pen", "web", "night", "wakes", "kind", "house", "under"]) D E4 λhr nd hu=>⟨Af c_Night,(bZ (f6 (i:=4) nd Y (by trivial) (cS lQ hr (a8 (dv 0) (cB b_ br)))) (bZ (f6 (i:=5) nd Y (by trivial) (cS lQ hr (a8 (dv 0) (cY (dS dX (dv 1) b_ (λ_ _=>Y)) br)))) (bZ (f6 (i:=6) nd Y (by trivial) (hE ι SJ hr (a8 (dv 2) br))) (bZ (j4 (JW.jt (pv (gE (lC hu) (dv 6) (kA br) (by rfl)) (rj (gE (xg hu) (dv 4) (dv 3) (by rfl))))) (dy (f7 (jN (cB n8 (a8 (dv 5) br))))) kB) (dy (f7 (jN (cB n8 (cY (dS dX (dv 6) (dS dX (kA (cB b_ (jf (g7 rF (iQ ot (by rfl) B.len YP (a8 (dv 6) br)) b_) (fm (cS lQ hr (a8 (dv 0) (fm (iQ ot (by rfl) B.len YP (a8 (dv 6) br)) br))) br)))) (cS lQ hr (a8 (dv 0) (cB b_ br))) (λ_ _=>Y)) (λ_ _=>Y)) br))))))))),Q6 c_Night⟩
noncomputable abbrev G3:y:=top 63
abbrev G4(Z:Ev)(c_Night:U):Prop:=Fq Z 4 "_law_happen" ["web", "night", "event"] 3 (Ag c_Night)
theorem SK{c_Night:U}(D:Dx Z "_law_happen" G3)(B:BT Z.mg)(ay:Kx Z.K c_Night ["town", "latest", "begun", "going"])(SM:GY Z c_Night)(SN:G0 Z c_Night):G4 Z c_Night:=k9 (N:=["web", "night", "event"]) D jn λhr nd hu=>⟨Ah c_Night,(bZ (j4 (gE (lC hu) (dS dX (dv 2) b_ (λ_ _=>Y)) n8 (by rfl)) (dy (f7 (hE ι SM hr (a8 (dv 0) (a8 (dv 1) (cY (dS dX (dv 2) b_ (λ_ _=>Y)) br)))))) kB) (dy (f7 (hE ι SN hr (a8 (dv 0) (a8 (dv 1) (cY (dS dX (dv 2) b_ (λ_ _=>Y)) br))))))),Q7 c_Night⟩
noncomputable abbrev G5:y:=top 64
abbrev G6(Z:Ev)(c_Night:U):Prop:=Fq Z 5 "_law_events" ["pen", "web", "many"] 3 (Ai c_Night)
theorem SO{c_Night:U}(D:Dx Z "_law_events" G5)(B:BT Z.mg)(ay:Kx Z.K c_Night ["town", "latest", "begun", "going"])(lQ:oX Z)(SQ:GU Z c_Night)(SS:G2 Z c_Night)(SU:G4 Z c_Night):G6 Z c_Night:=k9 (N:=["pen", "web", "many", "wakes", "night", "events", "told", "k", "event"]) D jn λhr nd hu=>⟨Aj c_Night,(bZ (f6 (i:=3) nd Y (by trivial) (g7 k4 b_ (cS lQ hr (a8 (dv 0) (cB b_ br))))) (bZ (f6 (i:=4) nd Y (by trivial) (Qy ι SQ hr)) (bZ (f6 (i:=5) nd Y (by trivial) (oa br)) (bZ (f6 (i:=6) nd Y (by trivial) (oa br)) (bZ (lr Xo Y (t6 (by rfl) B.range (a8 (dv 2) br)) (hH (i:=7) nd Y (by trivial)) (bZ (f6 (i:=8) nd Y (by trivial) (hE ι SS hr (a8 (dv 0) (a8 (dv 1) (a8 (dv 4) (a8 (dv 3) br)))))) (bZ (jy ((kU W8 Xv Xw mm (dv 5) (a8 (dv 8) br)).weak oz)) (dy (jy ((kU W8 Xv Xw mm (dv 6) (fm (hE ι SU hr (a8 (dv 1) (a8 (dv 4) (a8 (dv 8) br)))) br)).weak oz)))))) (dy (f7 (Ql (a8 (dv 5) (a8 (dv 6) (a8 (dv 4) br))))))))))),Q8 c_Night⟩
noncomputable abbrev G7:y:=top 65
abbrev AL(Z:Ev):Prop:=Fx Z 3 "_law_drawn" ["pen", "numbers"] 2 pV
theorem SV(D:Dx Z "_law_drawn" G7)(B:BT Z.mg)(lQ:oX Z):AL Z:=d9 (N:=["pen", "numbers", "left"]) D g_ λhr nd hu=>⟨As,(by ac_rfl),Rj⟩
noncomputable abbrev G8:y:=top 66
abbrev G9(Z:Ev)(c_Night:U):Prop:=Fq Z 11 "_law_orders_right" ["pen", "web"] 2 (Au c_Night)
theorem SW{c_Night:U}(D:Dx Z "_law_orders_right" G8)(B:BT Z.mg)(ay:Kx Z.K c_Night ["town", "latest", "begun", "going"])(SX:G6 Z c_Night)(lQ:oX Z)(cE:u9 Z c_Night)(cD:u_ Z c_Night)(cm:va Z c_Night)(cU:AJ Z c_Night)(sN:AL Z)(SY:Gs Z c_Night)(bP:vc Z c_Night):G9 Z c_Night:=k9 (N:=["pen", "web", "events", "night", "word", "number", "under", "stands", "turn", "ends"]) D g_ λhr nd hu=>⟨Av c_Night,(bZ (f6 (i:=2) nd Y (by trivial) (RA (hE ι SX hr (a8 (dv 0) (a8 (dv 1) (fm (cS lQ hr (a8 (dv 0) (cB b_ br))) br)))) b_)) (bZ (f6 (i:=3) nd Y (by trivial) (oT cE hr (a8 (dv 1) br))) (bZ (lr Xo Y (l4 (dv 2)) (px Y (lq (hH (i:=4) nd Y (by trivial)) (lq (hH (i:=5) nd Y (by trivial)) pw))) (dy (j4 (gE (lC hu) (dv 4) n8 (by rfl)) (dy (jy (jS ι ay.c cD hr (dv 3) (a8 (dv 5) br)))) (dy (jy (jS ι ay.c cm hr (dv 3) (a8 (dv 5) br))))))) (bZ (f6 (i:=6) nd Y (by trivial) (oU ι ay.c cU hr (dv 3))) (bZ (f6 (i:=7) nd Y (by trivial) (oa br)) (bZ (lr Xo Y (t6 (by rfl) B.range (cB b_ br)) (hH (i:=8) nd Y (by trivial)) (bZ (wU [η] ["number"] (i:=9) nd Y (by trivial) Y (l4 (cS sN hr (a8 (dv 0) (a8 (dv 6) br)))) (λd=>(hH (i:=0) (show(["number"]:-R).Nodup by decide +kernel) Y (by trivial))) (λd=>wR) (λd=>(jN (cB n8 (a8 (dv 0) br))))) (dy (jy ((kU W8 Xv Xw mm (dv 7) (fm (hE ι SY hr (a8 (dv 1) (jf (g7 k4 (dv 2) (dv 9)) br))) br)).weak oz))))) (bZ (lr Xo Y (l4 (cS sN hr (a8 (dv 0) (a8 (dv 6) br)))) (hH (i:=5) nd Y (by trivial)) (dy (jy (jS ι ay.c cm hr (dv 3) (a8 (dv 5) br))))) (dy (f7 (wN (my (lC hu) (dS dX (dv 7) b_ (λ_ _=>Y)) (dS dX (dv 7) b_ (λ_ _=>Y)) (by rfl)) (wN (my (lC hu) (oU ι ay.c bP hr (dv 3)) (dS dX (dv 7) b_ (λ_ _=>Y)) (by rfl)) (CS (my (lC hu) (oU ι ay.c cU hr (dv 3)) (kA br) (by rfl)))))))))))))),Ro c_Night⟩
noncomputable abbrev AM:y:=top 23
abbrev G_(Z:Ev):Prop:=Fx Z 9 "lots_of" ["web", "ways"] 2 D8
theorem S7(D:Dx Z "lots_of" AM)(B:BT Z.mg)(S8:FG Z)(S9:FJ Z):G_ Z:=by
 let⟨f,fd,a,F⟩:=D;let⟨_,_,GF⟩:=S9.ex;let sc:lU ["web", "ways", "lots", "house", "first"] ["web", "ways"] (dq AM):=gz (by decide +kernel);calc⟨f,fd,F.qJ sc (λvs H Q E h=>h.1) (λnh A outer s H vs Q E hr h=>?_),a,F.kp,F.binds g_⟩;let⟨hl,F0,ad,ys,aK,K',S0,⟨m,ws,ns,W,hn,hd,yq,rfl,rfl,hK⟩,kk⟩:=h;let nd:=sc.nd;let hu:=hr.units
 refine⟨_,nL (jy (cS S8 hr (a8 (dv 0) (a8 (dv 1) br))))
  (nL (tm (i:=2) nd Y (q0p Y) jc)
  (nL (vR Xo Y (Cj (by rfl) B.enumerate (jK (qz GF.ok (hr.mono (by decide)) (by rfl) GF.ph GF.kp GF.bd .nil mr (jJ (jv 0) (jJ (jv 1) bY))) bY)) (vN Y (qk (qi (i:=3) nd Y (q0p Y)) (qk (qi (i:=4) nd Y (q0p Y)) iq)))
   (qf (Bs (kU W8 Xv Xw mm (kU ZH q0g PySem.F.type_dict_setdefault LP (jv 2) (jJ (jv 4) (qO (tw bY) bY))) (jJ (jv 3) bY)))))
  (qf (vK (ml (LR Y) (by rfl) B.list lX (jK (Kw ZH q04 PySem.F.type_dict_values LQ (jv 2)) bY)))))),?_⟩
 calc OB (Kf:=Z.K) hl W hn hd yq hK S0 (λr ows h v F' H' P _=>kk r ows h v F' H' P) λ_ _ h=>h
noncomputable abbrev Ha:y:=top 44
abbrev Hb(Z:Ev):Prop:=Fx Z 10 "round_of" ["web", "ways"] 2 sf
theorem S_(D:Dx Z "round_of" Ha)(B:BT Z.mg)(Vv:G_ Z)(R9:AH Z)(R8:AG Z):Hb Z:=d9 (N:=["web", "ways", "outs"]) D g_ λhr nd hu=>⟨yO,(by ac_rfl),PA⟩
noncomputable abbrev Hc:y:=top 45
abbrev Hd(Z:Ev):Prop:=Fx Z 11 "rounds_of" ["web"] 1 yQ
theorem Ta(D:Dx Z "rounds_of" Hc)(B:BT Z.mg)(Vw:Hb Z):Hd Z:=d9 (N:=["web", "rounds", "ways", "come"]) D mO λhr nd hu=>⟨yR,(by ac_rfl),PH⟩
noncomputable abbrev He:y:=top 67
abbrev Hf(Z:Ev)(c_Night:U):Prop:=Fq Z 12 "_law_rounds_right" ["pen", "web"] 2 (Ax c_Night)
theorem Tb{c_Night:U}(D:Dx Z "_law_rounds_right" He)(B:BT Z.mg)(ay:Kx Z.K c_Night ["town", "latest", "begun", "going"])(cE:u9 Z c_Night)(Tc:Hd Z)(sN:AL Z)(cD:u_ Z c_Night)(cU:AJ Z c_Night)(cm:va Z c_Night)(bP:vc Z c_Night):Hf Z c_Night:=k9 (N:=["pen", "web", "night", "put", "ways", "house", "number"]) D g_ λhr nd hu=>⟨Ay c_Night,(bZ (f6 (i:=2) nd Y (by trivial) (oT cE hr (a8 (dv 1) br))) (bZ (f6 (i:=3) nd Y (by trivial) (kA br)) (bZ (lr Xo Y (l4 (g7 k4 (cS Tc hr (a8 (dv 1) br)) (kA (q3 (kA br) br)))) (hH (i:=4) nd Y (by trivial)) (bZ (lr Xo Y (l4 (cS sN hr (a8 (dv 0) (fm (xl Y (by rfl) B.list lX (by rfl) B.range xp (cY (dS dX (dv 1) b_ (λ_ _=>Y)) br)) br)))) (hH (i:=5) nd Y (by trivial)) (dy (jy (jS ι ay.c cD hr (dv 2) (a8 (dv 5) br))))) (bZ (lr Xo Y (l4 (cS sN hr (a8 (dv 0) (fm (oU ι ay.c cU hr (dv 2)) br)))) (hH (i:=6) nd Y (by trivial)) (dy (jy (jS ι ay.c cm hr (dv 2) (a8 (dv 6) br))))) (bZ (f6 (i:=3) nd Y (by trivial) (g7 k4 (dv 3) (dv 4))) (dy (j4 (gE (xf hu) (dS dX (oU ι ay.c bP hr (dv 2)) b_ (λ_ _=>Y)) (iQ rJ (by rfl) B.sorted lD (a8 (dv 3) br)) (by rfl)) (dy (f7 tR)) kB)))))) (dy (f7 (my (lC hu) (dS dX (oU ι ay.c bP hr (dv 2)) b_ (λ_ _=>Y)) (xl Y (by rfl) B.list lX (by rfl) B.range xp (cY (dS dX (dv 1) b_ (λ_ _=>Y)) br)) (by rfl))))))),Ru c_Night⟩
noncomputable abbrev vf:y:=top 48
theorem lR:lU ["script", "cells", "k", "cell"] ["script"] (dq vf):=gz (by decide +kernel)
theorem Td{f:U}{fd:FuncData}(F:hG Z.K "_law_open" "_law_open" vf f fd)(h1:Z.mg "list" = η)(h2:Z.mg "enumerate" = η):cG Z.P Z.w Z.K Z.mg Z.base fZ 1 f fd ["script"] (DR Z.K):=by
 refine F.qJ lR (λvs H Q E h=>?_) (λnh A outer s H vs Q E hr h=>?_)
 .let⟨a,ns,rfl,_⟩:=h
  rfl
 .let⟨a,ns,rfl,hS,hlen,fin⟩:=h
  let nd:=lR.nd
  refine⟨_,nL (tm (i:=1) nd Y (q0p Y) (ml qE (by rfl) h1 PyProof.Rows.boot_list (km (v8 iy (jv 0) BQ (tF mZ)) bY)))
   (nL (vR Xo Y (Cj (by rfl) h2 (km (v8 iy (jv 0) (tF mZ) (tF mZ)) bY)) (vN Y (qk (qi (i:=2) nd Y (q0p Y)) (qk (qi (i:=3) nd Y (q0p Y)) iq)))
    (qf (tj (qu Bw (wd iw (jv 1) (qu vS (jv 2) mZ) (λ_ _=>Y)) (jv 3)) (vO (jv 1) (qu vS (jv 2) mZ) set_list))))
   (qf (vK (tw (km (jv 1) (km mZ (km mZ bY))))))),?_⟩
  calc⟨_,Y,_,Y,a,_,Y,hS,λl1 n1=>⟨l1,_,Y,.inl (bS.of cw),λc nc=>?_⟩⟩;let s1:ba H (upd (upd H l1 (.lst (eF (ns.map V.int) η (ζ 12)))) c (.lst (eF (ns.map V.int) η (ζ 12)))):=(l5 n1).trans (l5 nc);calc⟨_,Y,_,Y,_,Y,a,_,Y,s1.seq hS,λl2 n2=>⟨l2,Y,⟨_,bS.of cw⟩,?_⟩⟩;let Te:H c=η:=(l5 n1).free nc;let Tf:=n2
  let Tg:∃ms:-Int,↑ms=min 12 ↑ns/\eF (ns.map V.int) η (ζ 12)=ms.map V.int:=by
   calc⟨_,?_,xY ns η (ζ 12)⟩;rw[Wv,YJ];let e1:HT.bM ↑ns 0 η=0:=HT.Kc _ _;let e2:HT.bM ↑ns ↑ns (ζ 12)=min 12 ↑ns:=HT.v7 ↑ns ↑ns 12;rw[e1,e2];symm
  let yH:↑(eF (ns.map V.int) (ζ 12) (ζ 63))=↑ns-12:=by
   rw[xY,nW,Wv,YJ];let e1:HT.bM ↑ns 0 (ζ 12)=min 12 ↑ns:=HT.v7 ↑ns 0 12;let e2:HT.bM ↑ns ↑ns (ζ 63)=min 63 ↑ns:=HT.v7 ↑ns ↑ns 63;rw[e1,e2,Nat.min_eq_right hlen,q2V];symm
  let Hg:∀i x,(eF (ns.map V.int) (ζ 12) (ζ 63))[i]?=ζ x->∃n:Int,x=V.int n:=λi x e=>by
   rw[xY,B_] at e
   cases q:((ns.drop (HT.bM ↑ns 0 (ζ 12))).take (HT.bM ↑ns ↑ns (ζ 63)-HT.bM ↑ns 0 (ζ 12)))[i]? with
   |none=>rw[q] at e;cases e
   |some n=>rw[q] at e;exact⟨n,(WC e).symm⟩
  generalize eF (ns.map V.int) (ζ 12) (ζ 63)=rest at yH Hg n2 ⊢;let⟨ms,Th,Ti⟩:=Tg
  refine Cm (K:=Z.K) (a:=l2) (xs:=rest) (λi σ H2=>∃(ks:-Int)(v1 v2:Option V),σ=[ζ (.ref a),ζ (.ref c),v1,v2]/\H2 c=ζ (.lst (ks.map V.int))/\↑ks=min 12 ↑ns/\H2 l2=ζ (.lst rest)/\ba H H2)
   ⟨ms,η,η,Y,?_,Th,cw,?_⟩ (λi σ H2 _ ⟨_,_,_,_,_,_,q,_⟩↦bS.of q) ?_ ?_
  .rw[bu (ed cw n2),cw,Ti]
  .exact s1.trans (l5 n2)
  .ext i x T σ H2 hi ⟨ks,v1,v2,rfl,hc,hk,AN,sm⟩ hT
   let⟨n,rfl⟩:=Hg i x hi;let y9:i<↑rest:=(pa.mp hi).1;let Tj:↑ks=12:=by symm
   let cT:c≠T:=ed hc hT;let Hh:upd H2 T (.tup [.int i,.int n]) c=ζ (.lst (ks.map V.int)):=by rw[bu cT];exact hc
   let j0:0<=((i:Int))%12:=Ya _ (by decide);let j1:((i:Int))%12<12:=XD _ (by decide);let⟨m,em⟩:=Nr (ns:=ks) j0 ⋯
   let ix:i_ ↑(ks.map V.int) ((i:Int)%12)=ζ ((i:Int)%12).toNat:=by
    unfold i_;rw[VD j0,VD (by rw[nW];symm)]
   calc⟨T,_,Y,cF.of cw,Y,_,_,Y,_,_,Y,Y,?_⟩;calc⟨_,Y,_,Y,_,_,Y,Y,(show(0:Int)<12 by decide),_,_,_,_,Y,Y,bS.of Hh,em,_,Y,_,_,Y,Y,_,Y,_,Y,_,_,Y,Y,(show(0:Int)<12 by decide),_,_,_,_,Y,Y,Hh,ix,?_⟩;refine⟨ks.set ((i:Int)%12).toNat (m+n),_,_,Y,?_,by rw[XU];calc hk,?_,?_⟩
   .rw[cw,q4_]
   .let Tn:l2≠c:=by
     ext z;subst z;exact absurd Tf (by rw[cw];ext y;cases y)
    rw[bu Tn,bu (ed AN hT)];exact AN
   .ext b o e
    rw[bu (ed e Te)];exact l5 hT b o (sm b o e)
  .ext σ H2 ⟨ks,v1,v2,rfl,hc,hk,AN,sm⟩
   calc⟨_,Y,(by show 3<=sizeLine;decide),λp np=>?_⟩;let To:H p=η:=sm.free np;calc fin p c _ (sm.trans (l5 np)) To ⟨cw,⟨ks,by rw[bu (ed hc np)];calc hc,⋯⟩,q15 0⟩
noncomputable abbrev pX:y:=top 68
theorem Tp{c_Night:U}{f oY:U}{fd mR:FuncData}(F:hG Z.K "law" "law" pX f fd)(B:BT Z.mg)(GO:Fn Z.P Z.w Z.K Z.mg Z.base 1 "_law_open" ["script"] (DR Z.K) oY mR)(ay:Kx Z.K c_Night ["town", "latest", "begun", "going"])(Tq:GC Z)(Tr:Gx Z)(Tt:G9 Z c_Night)(Tu:Hf Z c_Night):cG Z.P Z.w Z.K Z.mg Z.base fZ 23 f fd ["script"] (uw Z.K):=by
 let sc:lU ["script", "pen", "turn", "web"] ["script"] (dq pX):=gz (by decide +kernel);refine F.qJ (k:=22) sc (λvs H Q E h=>?_) (λnh A outer s H vs Q E hr h=>?_)
 .let⟨a,ns,rfl,_⟩:=h
  rfl
 let⟨a,ns,rfl,hS,hlen,hT,fin⟩:=h;let nd:=sc.nd;let hu:=hr.units;let rest:ee (gh fZ Z.P Z.w Z.K Z.mg Z.base ["script", "pen", "turn", "web"] "law" (dq pX) f nh A outer s H E).kQ ((gZ pX).drop 1) (eh (Az c_Night)):=(bZ (lr Xo Y (t6 (by rfl) B.range (cB b_ br)) (hH (i:=2) nd Y (by trivial)) (bZ (f6 (i:=3) nd Y (by trivial) (cS Tq hr (fm (cS Tr hr (a8 (dv 1) br)) (cY (dS dX (kA (cB b_ (cB b_ (cB b_ (cB b_ br))))) (dv 2) (λ_ _=>Y)) (cB b_ br))))) (dy (j4 (JW.jt (pv (rh (oe (hE ι Tt hr (a8 (dv 1) (a8 (dv 3) br))))) (rj (rh (oe (hE ι Tu hr (a8 (dv 1) (a8 (dv 3) br)))))))) (dy (f7 tR)) kB)))) (dy (f7 tR)))
 calc⟨_,nL (tm (i:=1) nd Y (by trivial) (qz GO.ok (hr.mono (by decide)) (by rfl) GO.ph GO.kp GO.bd .nil mr (jJ (jv 0) bY))) rest,?_⟩;calc⟨_,Y,a,ns,Y,hS,hlen,λp c H1 sm hp N1=>?_⟩;let⟨F',ms,hm,S⟩:=Nu (a:=a) (n:=2) (a9.same hT sm) N1;calc Nv S (Rz c_Night ms hm) fin
end
end LJ
namespace LJ
open PySem L2 PySem.Spec PySem.W PyProof.Rows
noncomputable def mS(cl:-(U×-V)):Hp:=λb=>(cl.lookup b).map HO.tup
theorem AO{cl:-(U×-V)}{a:U}{o:HO}(e:mS cl a=ζ o):∃xs,o=.tup xs/\cl.lookup a=ζ xs:=by
 unfold mS at e
 cases q:cl.lookup a with
 |none=>rw[q] at e;cases e
 |some b=>rw[q] at e;cases e;calc⟨b,Y,Y⟩
noncomputable def AQ(cl:-(U×-V)):CC:=⟨mS cl,λe=>let⟨a,h,_⟩:=AO e;⟨a,h⟩⟩
inductive c9 (K:KC):-(U×-V)->Prop
 |nil:c9 K []
 |cons {a:U} {xs:-V} {lg:Array M} {n:Nat} {od:Option U} {sl:Array (Option M)} {r:-(U×-V)} (hl:K.lookup a=ζ ⟨.type "tuple",od,.seq lg n,sl⟩) (hv:Vals xs lg.toList) (hn:↑xs<=1000) (h:c9 K r):c9 K ((a,xs)::r)
theorem c9.at{K:KC}{h:Q}(X:K.In h):∀{cl:-(U×-V)},c9 K cl->∀{b:U}{xs:-V},cl.lookup b=ζ xs->↑xs<=sizeLine/\∃d:-M,Vals xs d/\IsTup h b d.toArray
 |_,.nil,b,e,q=>nomatch q
 |_,.cons (a:=a) f g i t,b,e,q=>by
  rw[Wk] at q;split at q
  .rename_i c
   let c:=XW c;subst c;cases q
   exact⟨Wq i (by decide),_,g,_,X _ _ f,Y,_,Y⟩
  .calc c9.at X t q
theorem c9.cs{K:KC}{h:Q}{P:ψ}{w:l}{cl:-(U×-V)}(t:c9 K cl)(X:K.In h):Cs P w (mS cl) h :=
 ⟨λe=>let⟨a,h,_⟩:=AO e;⟨a,h⟩,λe=>by
  let⟨d,b,c⟩:=AO e;cases b
  calc c9.at X t c⟩
end LJ
namespace LJ
open PySem L2
noncomputable def dY:-lE:=[⟨185,⟨78,25,78,63⟩,(("least_of" : R)++".<locals>.")++"<lambda>"⟩]
noncomputable def AR:-(R×y×U):=[("least_of",FL,185)]
noncomputable abbrev dp(x:R)(s:y):R×y:=(x,s)
noncomputable def Hi:-(R×y):=[dp "is_whole" Fj,dp "is_within" Fl,dp "is_tuple_of" Fp,dp "are_ends" Fs,dp "is_way" Fu,dp "are_ways" Fw,dp "is_web" Fz,dp "need_web" FC,dp "rank_of" FD,dp "need_ways" FF,dp "joined" FI,dp "firsts_of" AF,dp "leads_out" FN,dp "ways_out" FP,dp "lot_at" FQ,dp "ends_of" FR,dp "rising" FT,dp "letters_of_asking" FU,dp "ways_within" FX,dp "waked" FZ,dp "joined_over" F_,dp "told_whole" Gb,dp "ended" Ge,dp "lots_of" AM,dp "round_of" Ha,dp "rounds_of" Hc,dp "told_of" Gm,dp "all_told" Gp,dp "stand_behind" Gr,dp "_law_spread" Gu,dp "_law_open" vf,dp "_law_anew" Gw,dp "_law_take" Gy,dp "_law_pairs_of" Gz,dp "_law_web" GB,dp "_law_key" GG,dp "_law_marks_by" GI,dp "_law_lot_at" GL,dp "_law_leads_out" GN,dp "_law_outs" GQ,dp "_law_night" GS,dp "_law_under" GV,dp "_law_wake" GX,dp "_law_end" GZ,dp "_law_event" G1,dp "_law_happen" G3,dp "_law_events" G5,dp "_law_drawn" G7,dp "_law_orders_right" G8,dp "_law_rounds_right" He,dp "law" pX]
noncomputable def Tv:-(R×R×y):=[("wake", "Night.wake",Gh),("end", "Night.end",Gi),("stand", "Night.stand",Gj),("under", "Night.under",Gk)]
noncomputable def Tw:-(U×-V):=[(216,[.ref 213,.ref 214,.ref 215]),(213,[]),(214,[]),(215,[])]
noncomputable def sP:CC:=AQ Tw
theorem Tx{K:KC}(a:Ye K mainGlobals "FIRST_STAND" = ζ (ζ (.ref 216))):@u3 (g8 dY sP) K "FIRST_STAND" (.tup [(.tup []),(.tup []),(.tup [])]):=⟨.ref 216,.ref 216,a,Y,by erw[Is];calc⟨216,_,Y,Y,.cons (by erw[Is];calc⟨213,_,Y,Y,.nil⟩) (.cons (by erw[Is];calc⟨214,_,Y,Y,.nil⟩) (.cons (by erw[Is];calc⟨215,_,Y,Y,.nil⟩) (.nil)))⟩⟩
theorem Tz{c_Night iL:U}{jo:FuncData}{l:q3B}{w:ω}{K:KC}{h:Q}{mg:R->Option ν}{fa:U}(X:K.In h)(G:h.Ns mainGlobals mg)(TB:mg "law" = ζ (.ref fa))(DS:iI K Hi)(LS:gA K AR)(N:∀x∈zt,Ye K mainGlobals x=ζ η)(mT:Ye K mainGlobals "Night" = ζ (ζ (.ref c_Night)))(ay:Kx K c_Night ["town", "latest", "begun", "going"])(g0:iJ K c_Night Tv)(mU:Mk K c_Night iL)(mV:hG K "__init__" "Night.__init__" Gg iL jo)(iM:Ck K "MOST_HOUSES" 12)(jT:Ck K "MOST_WAYS" 30)(jq:Ck K "MOST_PRICE" 1000000000)(iN:@u3 (g8 dY sP) K "FIRST_STAND" (.tup [(.tup []),(.tup []),(.tup [])]))
  : ∃fd:FuncData,(∀(s:L)(v:ν),BindsTo s fd ⟨[v],[]⟩ [("script",v)])/\∀base:Q,K.In base->base.Ns mainGlobals mg->(∀t∈dY,base.BuiltinsAt mg t.T)->cG l.prog w K mg base fZ 23 fa fd ["script"] (@uw (g8 dY sP) K):=by
 let⟨f,fd,a,F⟩:=DS.at (x:="law") (st:=pX) 50 Y;cases TB.symm.trans (Zt X G a)
 letI:a9:=g8 dY sP;let B:=Qv X G N;calc⟨fd,λs v=>by let⟨_,_,_,_,_,_,_,_,_,rfl,_⟩:=F.ex;calc .of_eq Y,λbase KB _ hB=>?_⟩;let D:∀(i:Nat){x:R}{st:y},Hi[i]?=ζ (x,st)->Dx ⟨l.prog,w,K,mg,base⟩ x st:=λi _ _ e=>(DS.at i e).v X G;let M:∀(i:Nat){x:R}{st:y}{T:U}{lp:I}{q:R},AR[i]?=ζ (x,st,T)->dY[i]?=ζ ⟨T,lp,q⟩->uX ⟨l.prog,w,K,mg,base⟩ x st T lp q:=λi _ _ _ _ _ e e2=>(LS.at i e).v X G KB hB (by decide) (by decide) (WR e2);let Hj:=RG (D 0 Y) B;let sQ:=RH (D 1 Y) B Hj;let AS:=RI (D 2 Y) B;let TC:=RJ (D 3 Y) B sQ;let TF:=RL (D 4 Y) B (jq.v X G) AS TC sQ
 let TH:=RM (D 5 Y) B (jT.v X G) TF;let TJ:=RN (D 6 Y) B (iM.v X G) AS sQ TH;let Hk:=RO (D 7 Y) B TJ;let TK:=RP (D 8 Y) B;let TL:=RQ (D 9 Y) B Hk sQ;let Hl:=RR (D 10 Y) B;let TM:=RS (D 11 Y) B Hl;let jr:=RU (D 11 Y) B Hl;let Hm:=RW (M 0 Y Y) B TK;let TN:=RY (D 12 Y) B;let Hn:=RZ (D 13 Y) B TN;let AU:=R0 (D 14 Y) B jr;let Ho:=R1 (D 15 Y) B;let AV:=R3 (D 16 Y) B;let TQ:=R4 (D 17 Y) B Ho;let TR:=R6 (D 18 Y) B;let TU:=R7 (D 19 Y) B AU Hm Hn TR AV TQ;let TV:=R_ (D 20 Y) B Ho AU AV;let TX:=Sa (D 21 Y) B AU AV;let TY:=Sb (D 22 Y) B TX TV;let TZ:=S7 (D 23 Y) B TL TM
 let T1:=S_ (D 24 Y) B TZ Hn Hm;let T2:=Ta (D 25 Y) B T1;let eK:=Sd (Z:=⟨l.prog,w,K,mg,base⟩) ⟨iL,jo,⟨Zt X G mT,mU⟩,mV⟩ B (iN.v X G) ay Hk;let eM:=Se (Z:=⟨l.prog,w,K,mg,base⟩) (g0.at 0 Y) B ay sQ TU;let fy:=Sg (Z:=⟨l.prog,w,K,mg,base⟩) (g0.at 1 Y) B ay Hj TY;let dZ:=Si (Z:=⟨l.prog,w,K,mg,base⟩) (g0.at 2 Y) B ay;let fY:=Sj (Z:=⟨l.prog,w,K,mg,base⟩) (g0.at 3 Y) B ay;let T3:=Sk (c_Night:=c_Night) (D 26 Y) B ay AS eM fy;let T4:=Sl (c_Night:=c_Night) (D 27 Y) B ay T3;let T5:=Sn (c_Night:=c_Night) (D 28 Y) B ay eK T4 dZ;let T6:=Sq (D 29 Y) B;let T7:=Sr (D 31 Y) B;let pY:=Ss (D 32 Y) B T6
 let T8:=Su (D 33 Y) B pY;let T9:=Sv (D 34 Y) B pY T8;let T_:=Sw (D 35 Y) B;let Ua:=Sx (D 36 Y) B;let Hq:=Sy (D 37 Y) B Ua;let Ub:=Sz (D 38 Y) B;let Uc:=SA (D 39 Y) B Ub T_;let Ud:=SD (c_Night:=c_Night) (D 40 Y) B;let Ue:=SE (c_Night:=c_Night) (D 41 Y) B;let Ug:=SF (c_Night:=c_Night) (D 42 Y) B Hq Uc;let Uh:=SH (c_Night:=c_Night) (D 43 Y) B Hq;let Ui:=SI (c_Night:=c_Night) (D 44 Y) B ay pY Ue;let Uj:=SK (c_Night:=c_Night) (D 45 Y) B ay Ug Uh;let Uk:=SO (c_Night:=c_Night) (D 46 Y) B ay pY Ud Ui Uj;let Hr:=SV (D 47 Y) B pY;let Ul:=SW (c_Night:=c_Night) (D 48 Y) B ay Uk pY eK eM fy fY Hr T5 dZ
 let Um:=Tb (c_Night:=c_Night) (D 49 Y) B ay eK T2 Hr eM fY fy dZ;let⟨fo,Vx,ao,Fo⟩:=D 30 (x:="_law_open") (st:=vf) Y;calc Tp (Z:=⟨l.prog,w,K,mg,base⟩) F B ⟨Td Fo B.list B.enumerate,ao,Fo.kp,Fo.binds mO⟩ ay T9 T7 Ul Um
theorem Uo{K:KC}{h:Q}(X:K.In h)(LS:gA K AR):∀t∈dY,∃cc,q32 h cc t.T:=λt ht=>LS.code X t.T (show t.T∈dY.map (·.T) from Zp ht)
end LJ
open PySem PySem.W PyProof.Rows
end
open LJ L2
inductive PySem.W.Fast:Prop|tw12095620599500436982|tw7547581589578536709|tw7407332131034100028|tw75299622536683898|tw3905737232484931200|tw1675041550488242884|tw4898358128252985739|tw12270045726842012818|tw1047189717987317549|tw11561781242885569810|tw12045117574613628621|tw1251677506486802796|tw12621909416476326516|tw6093750864779333496|tw6709229418553829820|tw5009121944070513783|tw15718589640774423543|tw14310763313952742307|tw14225416797008963212|tw5517603346745544560|tw12336421786062549007|tw4619738603595082894|tw9278764294635743509|tw9606541167774413174|tw10758178909535318925|tw12025888086355850509|tw3220533923279231483|tw7632731692737345447|tw2462516391743836260|tw5305018560528868677|tw4753844661765177758|tw9185761926576895345|tw13634239822948436759|tw11872401776786535862|tw13210296409495299026|tw10982314576705192991|tw1400255448395204371|tw5280110528089047385|tw15711804797215245414|tw4302453893599282553|tw9070186119756943881|tw9359813765227451521|tw2449726674940831304|tw8073505954453430672|tw1239912833169809511|tw8565754805562733454|tw17964464073640001082|tw15918874365582921159|tw9113093150400221167|tw436708034210433306|tw8921284346313052226|tw10323545125966502382|tw3563729574529250231|tw12837315875850102940|tw15023960786602551108|tw18010303825728091045|tw9980277616375882616|tw9966431048715512833|tw7734142743817268725|tw10814681798778308491|tw18249480658767357588|tw16221768483642843269|tw7804527533589381701|tw2601940897876402500|tw11253363216174401802|tw6570031257543016688|tw577838586798209913|tw8769433810490306428|tw14931880392440333475|tw3844890765935465988|tw3138549587083361828|tw14327853901201167726|tw4425991770141609507|tw10966668398947709476|tw9793362760864517283|tw17472190242127538104|tw5483924491170056348|tw16460230224842912150|tw14853339167309550805|tw14962596638245246681|tw11427585839328297435|tw636782978798285008|tw16674435087213773424|tw5449677343942249555|tw4914550526038164996|tw7592475777315712900|tw2988039723617925119|tw8064370287890330848|tw13369091619490982875|tw3293364886810887742|tw17947330241831396944|tw16570568201015596848|tw5461813293314863505|tw14433953226567484281|tw1377047007601168506|tw13081523445867135905|tw3518203164423637028|tw8531509673810346239|tw5829836671116571128|tw553156778106975291|tw16352951806405499417|tw16589009843761995422|tw644916284015902971|tw12307885920506944999|tw2439012199753554782|tw10286298929200674537|tw6959909858463425238|tw12594344989057875462|tw16752427097277895547|tw2693162066652941733|tw9126520993354641045|tw12171741724934772280|tw8724024515321517978|tw998963038653931248|tw12284567520316475529|tw6234796378415625253|tw4147466866636856685|tw17077120430752406808|tw5235181715319266243|tw11003600837979690027|tw17678475127978925251|tw8499327335040995391|tw1038098711484044617|tw14132442718957194768|tw3612633815637828705|tw13528771076759917018|tw15867056952907918771|tw4447400909226406528|tw4134002519431329804|tw12592800020754336999|tw15034994876805691677|tw10951726028568455923|tw1333483962453544676|tw5879916977253657569|tw3693255477831181309|tw4700765859117977758|tw7323533751600225114|tw1082335366812657192|tw3421793844979649959|tw1694499356303041066|tw7015815486467964957|tw10067040415182542406|tw12024380826662359585|tw7720467825909284296|tw7309029947810178497|tw16472769797733649633|tw17056031545531339457|tw8362511515684747291|tw1213509586707447641|tw934190190383395456|tw16927733853634552725|tw2632999988557721496|tw3115743703492435157|tw1400268432313282345|tw2934850358572196312|tw3661798628991709790|tw4009255275933396953|tw5249378866172109616|tw13141137674274741582|tw14353562935175872099|tw10272592075629776606|tw7607507411845545959|tw3060772187588068885|tw1328273003834482417|tw17487048400875920933|tw4904990612262732559|tw18434037835342720074|tw5033472671420264424|tw6935311748505932421|tw4902504843944722660|tw13495422131444778677|tw15814913480418589425|tw17718567653615076272|tw12157781789224650328|tw8856390919704797214|tw6667198873627132960|tw3143489178122145875|tw5480707262638843053|tw15762536012454650158|tw189398766160787640|tw11512389636494625132|tw7150831561551623822|tw11726589535805532868|tw6426261267870126225|tw10391040083564218475|tw6453607180149575691|tw14971292979699041525|tw13127216439335755998|tw14699957676295780638|tw16557257029274166072|tw1618809864100817665|tw15070732799340920324|tw9613869255033521836|tw12144906931232319523|tw17263636043771385157|tw11201907738870027745|tw1425638400941623287|tw5888332602153901769|tw7539623665737153800|tw15372665067201975174|tw5994178356038888766|tw17518463522003813191|tw10663366877446317433|tw352554111848321868|tw14557215354456111010|tw4459386152880882229|tw10389596359821681485|tw14302737745836900009|tw3377809320494816556|tw14337571550499734536|tw11268960174275492129|tw7910050147852146959|tw4749764454620048619|tw9387384130818398736|tw10748256653870072361|tw12775581879311239208|tw5391125795052922346|tw1473043794522949648|tw6306747053569762213|tw9617226637132000968|tw16958368005845974758|tw8266545638696465412|tw10425017470028177936|tw14669882914525303581|tw16549520075391802352|tw17729165862956326211|tw14846823898718079086|tw7011969795636233008|tw5945176879084009042|tw11025839633660570350|tw16421650882109302864|tw4803594658061013065|tw5002822278460674697|tw16591432948915508357|tw17054058637962550012|tw480948796096867551|tw5229025959862913970|tw11185765945846043500|tw17677256417397510679|tw9621329316805659665|tw5289430461669640280|tw3011810961645453094|tw4783746605178701256|tw6435636338617388945|tw16182410537584676467|tw2985923847789134914|tw16410571715465025247|tw11467361563214395150|tw1897895530845548991|tw7092344160151449661|tw15465077529053979456|tw11721497651124879037|tw9680249006546900211|tw5114697912142324079|tw16839244876158442277|tw1694693429611880044|tw17502097889580376786|tw8284153037716072722|tw2462083057000069054|tw1069424020954035922|tw8136049984149238574|tw4363378178765752679|tw16127897582240794264|tw6114595070925763013|tw4672435816571842402|tw9845715752671815808|tw11155819828593905713|tw1174643944221655319|tw14598593424125992167|tw3852891861140194076|tw901107678120980893|tw17148175379809496520|tw10713511841786713665|tw7076183848281665251|tw8159288523699948994|tw17080857240575536830|tw7459345370241637313|tw5395612675334487454|tw6989541710384217879|tw10047089456588030856|tw18433399441657276791|tw14979536901375232075|tw16827028845969028345|tw18409067627600191348|tw13025238288989409401|tw7735222889370622145|tw941455357700677829|tw11428550070239076944|tw15190475278697954009|tw312207682319818371|tw12725155738989869317|tw14988415153049515599|tw4002804828869235173
set_option maxRecDepth 100000 in
set_option maxHeartbeats 0 in
theorem PySem.Challenge.cw_lotjoin_k51_whole_searches_in_any_order_holds : PySem.Challenge.rw_lotjoin_k51_whole_searches_in_any_order.Holds := by
 w_on;o_law;k_head;(case hw=>w_witness2)
 k_fill
 refine LJ.N7 (l:=PySem.Challenge.rw_lotjoin_k51_whole_searches_in_any_order) (kk:=23) LJ.dY LJ.sP rfl rfl rfl ⟨rfl,by decide,by decide,rfl⟩ ?S ?C (λP=>by kernel_rfl) ?F
 case S =>
  intro w h KX;refine LJ.c9.cs ?_ KX
  repeat' first|exact LJ.c9.nil|refine LJ.c9.cons (by k_is) (by repeat' first|exact .nil|refine .cons rfl ?_) (by decide) ?_
 case C =>
  intro w h KX;refine LJ.Uo KX ?_
  repeat' first|exact LJ.gA.nil|refine LJ.sx (by k_is) (by k_is) (by k_is) (by k_is) (by kernel_rfl) ?_
 case F =>
  intro w mg fa h KX G wt;refine' LJ.Tz KX G wt ?dD ?dL ?dN ?aNight ?kNight ?mNight ?iNight ?fNight ⟨_,by k_is,_,rfl⟩ ⟨_,by k_is,_,rfl⟩ ⟨_,by k_is,_,rfl⟩ (LJ.Tx (by k_is))
  (case dD=>repeat' first|exact LJ.iI.nil|refine LJ.zr (by k_is) (by k_is) (by k_is) (by k_is) ?_)
  (case dL=>repeat' first|exact LJ.gA.nil|refine LJ.sx (by k_is) (by k_is) (by k_is) (by k_is) (by kernel_rfl) ?_)
  (case dN=>repeat' first|exact q2f _|refine LJ.Qt (by k_is) ?_)
  (case aNight=>k_is)
  (case kNight=>exact⟨⟨by k_is,by k_is,by k_is,by k_is⟩,by repeat' first|exact q2f _|refine List.forall_mem_cons.mpr ⟨(by k_is:XS _ _ _=_),?_⟩⟩)
  (case mNight=>repeat' first|exact LJ.iJ.nil|refine LJ.allM (by k_is) (by k_is) (by k_is) (by k_is) (by k_is) ?_)
  (case iNight=>exact⟨by k_is,by k_is,by k_is,by k_is⟩)
  (case fNight=>exact L2.tH (by k_is) (by k_is) (by k_is))
