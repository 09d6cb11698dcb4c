import PyProof.Rows.All
import Wide.All
import OpenK.AllK
import Wide.FinOn
import Lean
import PyProof.Rows.SetFrom
import PyProof.TupleKey
import PyProof.SetRoads
import PySem.SetOps
import PyProof.EqAt
import PyProof.EqKinds
import PyProof.TupleCall
import KE.KDictList
import KE.KDictLaws
import PyProof.NeKinds
import PyProof.Draws
import KE.KSortTup
import KE.KLam
import PyProof.ListRange
import PyProof.TupleOfSeq
import KE.KNestM
import KE.KMinKey
import PyProof.MinMaxWalk
import KE.KDictSum
import PySem.Challenge.RW_lotjoin_k51_whole_searches_in_any_order
set_option bootstrap.genMatcherCode false
open List renaming append_nil->dV,foldl_cons->mq,foldl_nil->nV,length_map->nW,getElem?_eq_some_iff->pa,length_append->qG,getElem?_eq_getElem->tE,length_cons->wo,getElem?_map->B8,size_toArray->KG,getD_eq_getElem?_getD->KH,getElem?_append_left->KI,getElem?_append_right->My,mem_cons->Uy,mem_cons_self->Uz,mem_cons_of_mem->UA,map_cons->UB,set_cons_zero->VA,set_cons_succ->VB,replicate->VG,mem_map->VI,mem_iff_getElem?->VL,getElem?_cons_succ->VM,replicate_succ->VN,getElem?_cons_zero->VO,length_nil->VP,map_append->VR,take_succ_cons->VT,replicate_zero->VU,map_map->VW,take_length->VX,mem_append->VZ,mem_append_right->V7,map_nil->V9,cons_append->V_,getElem?_nil->Wa,mem_filter->Wc,nil_append->Wd,any_cons->Wf,lookup_cons->Wl,take_zero->Wm,mem_singleton->Wn,range->Wq,length_take->Ww,not_mem_nil->Wx,mem_range->Wz,length_singleton->WJ,take_nil->WL,mem_of_getElem?->WU,any_nil->WY,length_filter_le->W0,getElem?_take_of_lt->W5,map_congr_left->W7,take_of_length_le->Xc,getElem?_set_self->Xg,getElem?_set_ne->Xj,length_range->Xq,mem_iff_getElem->Xr,nodup_append->Xs,pairwise_cons->Xu,filter_cons->XB,mem_append_left->XD,pairwise_map->XO,length_eq_zero_iff->XR,length_set->XW,exists_cons_of_length_eq_add_one->XZ,append_assoc->X1,filter_map->Ye,all_eq_true->Yg,getElem_mem->Yi,getElem_map->Yl,pairwise_lt_range->Ys,flatten_cons->Yw,getElem?_range->Yx,nodup_cons->Yy,getElem?_eq_none->YB,getElem?_toArray->YD,zip_cons_cons->YE,length_drop->YK,nodup_nil->YL,filter_append->YP,drop_eq_getElem_cons->YS,any_eq_false->YU,toArray->YV,Perm.refl->Y1,getElem_inj->Y3,take_succ->Y4,filter_cons_of_pos->Y5,filter_cons_of_neg->Y6,lookup->Y7,find?_cons->Zb,length_replicate->Zc,ext_getElem?->Zd,zip_nil_left->Ze,range_eq_range'->Zi,pairwise_iff_getElem->Zn,mem_map_of_mem->Zq,eq_of_mem_replicate->Zr,range_succ->Zv,mem_filterMap->Zy,getElem?_replicate->ZF,find?_cons_of_pos->ZW,find?_cons_of_neg->ZX,length_filterMap_eq_countP->ZY,Perm.append_left->Z0,countP_cons->Z3,mem_of_mem_drop->Z_,find?_some->q0d,filterMap_cons->q0k,length_pos_iff->q0n,find?_eq_none->q0s,length_eraseIdx_of_lt->q0u,Perm.swap->q0v,zip_nil_right->q0C,mem_or_eq_of_mem_set->q0K,extract_eq_take_drop->q0L,mem_of_find?_eq_some->q0N,getElem?_eq_none_iff->q0O,map_id->q0X,foldl_append->q0Y,range'->q0Z,cons.inj->q06,nodup_range->q0_,any_eq_true->q1l,drop_of_length_le->q1y,length_eq_one_iff->q1z,filter_eq_nil_iff->q1A,of_mem_zip->q1E,contains_iff_mem->q1K,countP_eq_length->q1L,mem_of_mem_take->q1T,drop_zero->q1U,Perm.cons->q1V,filter_eq_self->q2c,filter_sublist->q2d,map_eq_nil_iff->q2e,forall_mem_nil->q2g,filterMap_map->q2p,ne_nil_of_mem->q2x,getElem?_drop->q2y,take_sublist->q2B,Pairwise.nil->q2C,Sublist.refl->q20,flatMap_cons->q23,mem_flatMap->q29,mem_flatten->q3d,range'_succ->q3e,drop_length->q3i,filter_nil->q3D,foldl->q3R,sum_cons->q4o,Perm->q4r,any_map->q43,map_set->q5a,length->q5P,filter->q6k,drop->q7y
open Nat renaming reduceBEq->kb,le_refl->B6,ne_of_lt->VF,zero_add->VJ,lt_of_lt_of_le->VS,zero_le->VY,reduceLeDiff->Wg,reduceEqDiff->Wj,le_trans->Wr,reduceAdd->Ws,reduceSub->WN,lt_succ_of_lt->WR,max_self->WV,max_zero->WW,zero_max->WX,reduceLT->WZ,lt_succ_self->Xa,le_of_lt->Xd,sub_self->Xh,le_of_ble_eq_true->X8,lt_irrefl->X9,ne_of_gt->Yc,succ.inj->YI,le_add_right->Y2,lt_of_le_of_lt->Zz,add_sub_cancel_left->ZJ,le_of_lt_succ->ZK,le_of_not_lt->Z4,succ_le_succ->Z6,le_succ->q0c,succ_ne_self->q1k,lt_trans->q1n,min_eq_left->q1J,ble->q18,le_of_eq->q2H,le_of_succ_le->q2S,lt_of_succ_le->q2T,min_self->q2W,le_succ_of_le->q22,zero_lt_one->q3z,mul_le_mul->q34,succ_add->q4E,succ_pos->q4F,mul_comm->q4G,sub_zero->q4H,succ_mul->q4O,add_zero->q4_,mod_lt->q6Q,not_lt->q64
open PySem renaming wpAny_bind->nX,Heap.get?_push_of_some->B5,wpAny_pure->B7,W.Frag->KD,Heap.get?_push_size->UD,Heap.lt_size->Vz,Spec->Wb,Value.none->WB,wpAny_holding->WK,Value.ref->WQ,F.called_set->W6,F.plainAttrs_list->W9,Heap.SameBut.update->Xb,codeAny_builtin->Xe,Around.under_plainId->Xi,Heap.get?_update_self->Xl,Value.int->Xm,PassesOwn.never->Xp,W.fnOf->Xt,Obj.mapSeq->Xv,F.slot_list_append->Xw,F.type_list_append->Xx,Str.ofString->Xz,W.keepIn->XA,Heap.get?_update_other->XF,Heap.size_push->XG,wpAny_loadPart'->XH,wpAny_call_entry->XJ,mem_of_lookup->XM,wpAny_newObj_type->XP,Value.type->XS,W.findIn->XT,W.kia_one->XU,wpAny_mono->X0,W.emptyDict->X7,W.kitOne->X_,NameKind.cell->Ya,W.nsIn->Yf,sizeLine_eq->Yh,wpAny_callSpecial?_slot->Yk,plainId_quiet->Yo,NameKind.free->Yp,wpAny_setState_of->Yr,wpAny_pyIter_list->Yt,wpAny_truthy_bool->Yu,codeAny_mono->YF,wpAny_pyIter_enum->YG,W.instObj->YH,SetTable.layClean.free->YJ,Obj.data_mapFields->YM,wpAny_Call_Name_kw->YN,F.slot_tuple_iterator_next->YO,boot_len->YQ,Builtin.Slice.slicePlaces->YR,wpAny_passesOwn->YT,SetTable.fill->YW,Builtin.Tuple.tupleExact->YX,Builtin.List.listTooLong->YY,SetTable->Y0,Obj.putSet->Y8,Value.bool->Y9,wpAny_pyIter_tuple->Y_,Builtin.Frozenset.updateFrom->Za,wpAny_runValue->Zf,W.codeIn->Zh,Heap.SameBut->Zk,wpAny_askSetting->Zl,Builtin.Slice.sliceAdjust->Zo,Calls.call_function_entry->Zp,wpAny_standAt->Zs,F.args_tuple_add_2->Zt,W.mg_of->Zu,wpAny_updateSeq->Zw,wpAny_execs_nil->Zx,intKind_is->ZA,Walks.list->ZC,tupleKind_room_in1->ZD,Around.in1_handled->ZE,F.entry_tuple_add->ZG,wpAny_field->ZH,F.plainAttrs_dict->ZI,SetTable.probe.go->ZL,wpAny_storeSet_of->ZO,wpAny_seqItems->ZQ,wpAny_setField->ZR,W.cellsFrom_some->ZS,F.slot_tuple_add->ZT,Calls.callWith_builtin->ZU,Builtin.Tuple.tupleCompareSizes->ZZ,weight_type_call_type->Z1,Obj.isFreed_of_fields->Z2,W.plainGet->Z5,SetTable.fits->Z8,wpAny_newList->Z9,codeAny_call_builtin->q0a,F.sub_list_frozenset->q0b,wpAny_specialOf->q0e,codeAny_of_tree->q0f,F.slot_dict_setdefault->q0h,F.args_tuple_iterator_next_1->q0i,wpAny_setEntries_of->q0j,W.plainGet_of->q0l,wpAny_typeOf->q0o,F.entry_tuple_iterator_next->q0p,wpAny_call->q0w,Code.quiet_builtin->q0x,Around.under_plain->q0y,Calls.Name_function_global->q0z,W.lookIn->q0A,W.callWith_K->q0B,Builtin.Slice.sliceApplied->q0D,Builtin.Tuple.tupleItemsOf->q0E,wpAny_letOwnedTupleGo_enum->q0G,wpAny_tryCatch->q0I,Builtin.SmallTypes.nextOf->q0M,Value.isInt_shape->q0P,F.entry_type_call->q0Q,Obj.cls_mapFields->q0S,W.methodObj->q0U,W.hasDictIn->q0V,Builtin.List.listSameRef->q02,AutoSeq1.sub_tuple_tuple->q04,F.slot_dict_values->q05,F.slot_list_extend->q08,F.type_list_extend->q09,putSet_of->q1b,wpAny_forIn_list->q1c,F.typeCall_set_1->q1d,F.entry_set_init->q1e,check_set_init_1->q1f,Value.str->q1g,wpAny_eqBool_int->q1h,Builtin.Range.rangeSize->q1i,noFill_tuple_add->q1j,F.plain_list_iadd->q1m,wpAny_rule->q1p,wpAny_load->q1r,SeqAt.EqAt->q1s,W.isFn->q1t,richCompare_meets_room->q1v,call_meets->q1x,wpAny_ite_split->q1C,W.takerIn->q1D,SeqAt.EqAt.same->q1F,builtinLookup_eq_fast->q1M,wpAny_isTrue_Compare1->q1N,W.methodCall_KW->q1O,F.slot_dict_pop->q1P,F.sub_list_set->q1W,wpAny_of_eq->q1X,isSubtype_type->q1Y,Around.frames_deeper->q10,Value.notImplemented->q11,Calls.evalArgs_plain->q12,wpAny_letGo->q15,W.callWith_K0->q1_,call_enumerate_list->q2b,W.codeHd_of_K->q2f,Shared.TypeIs->q2i,Paired.length->q2j,seq_tuple_add->q2k,PlainL.isList->q2m,SeqAt.EqAt.int_str->q2r,SeqAt.EqAt.str_int->q2s,Calls.spliced_cons->q2t,SeqAt.EqAt.int_int->q2u,SeqAt.EqAt.of_refs->q2w,wpAny_pyIter_slot->q2D,Within->q2E,wpAny_assign_Name->q2F,W.plainOver->q2G,W.kitx_list->q2I,W.kitx_dict->q2J,Around.under->q2K,Code.isFrame->q2L,Calls.spliced_nil->q2M,concat_meets->q2N,wpAny_sequenceKey->q2O,seqIndex_neg->q2P,slot_list_getitem->q2Q,call_meetsIn->q2U,wpAny_collect_seq->q21,wpAny_isInstance->q24,wpAny_execs_cons->q25,W.handedIn->q26,W.codeHdIn->q3g,Moved.trans->q3j,Value.float->q3k,seqIndex_of->q3l,F.plain_set_new->q3q,typeLookup_type->q3r,F.slot_set_iter->q3s,W.makesIn->q3t,F.slot_int_rmul->q3v,pushCells_keeps->q3w,W.OpenLaw->q3C,SetTable.grown->q3J,entryFor_alias->q3M,wpAny_Name->q3N,typeIs_int->q3Q,fitsIndex_both->q3T,call->q3V,SeqAt.RcAt->q3X,W.CodeHd->q33,wpAny_attempt->q39,Obj.mapFields->q3_,wpAny_handled->q4a,Value.isStrOf->q4c,rangeSize_one->q4d,intBits_le_64->q4e,evalPart_none->q4g,call_list_seq->q4h,Sem->q7P
open Option renaming map_eq_some_iff->KJ,join_some->Wh,join_none->Wi,some.inj->WD,isSome_some->q0F,isSome_map->q0W,isSome_iff_exists->q03,getD_none->q1a,map_some->q1B,isSome->q2h,none->q5R,map->q6S
open Array renaming length_toList->UC,getElem?_eq_getElem->Wk,getElem?_toList->Wt,getD_eq_getD_getElem?->Xf,getElem?_eq_none->XY,toList_setIfInBounds->Yq,toList_replicate->ZM,toList_push->ZN,size_map->ZP,getElem?_eq_some_iff->q0r,perm_iff_toList_perm->q0H,getElem_mem_toList->q00,size_setIfInBounds->q01,toList_filterMap->q1o,toList_extract->q1S,toList_append->q19,foldl_toList->q2n,size_extract->q2o,getD->q2q,size_append->q2A,replicate->q3o,size_push->q3p,Perm.refl->q3y,toList->q4L
open Bool renaming false_eq_true->VQ,true_eq_false->V6,false_ne_true->Wo,not_false->Wu,or_false->Wv,not_true->WC,and_true->WH,and_self->WM,and_eq_true->Xo,not_eq_true'->ZV,or_eq_true->q0g,false_and->q1Z,true_and->q2l,not_eq_true->q3a,and_false->q3S,false_bne->q32,true_or->q4P
open Int renaming toNat_natCast->V8,emod_lt_of_pos->XE,emod_nonneg->Yb,eq_ofNat_of_zero_le->Ym,cast_ofNat_Int->q0J,natCast_add->q1I,le_refl->q16,toNat->q17,zero_add->q2V,ofNat->q28,max_eq_right->q3b,min_eq_right->q3c,min_eq_left->q3A,max_eq_left->q3B,ofNat.inj->q4i,mul_one->q5M
open PyProof renaming Rows.F.plain_set_update_loop->Xn,Rows.slot_tuple_getitem->Xy,Rows.F.entry_set_update_loop->Yj,Rows.callWith_type1->Yn,Rows.lt_int->q0m,Rows.subscriptTail_builtinR->q1w,Rows.entry_list_sort->q1G,Rows.get?_update_seq->q1H,Rows.slot_list_sort->q13,Rows.args_list_sort->q14,Rows.entry_tuple_getitem->q2a,Rows.args_tuple_getitem->q2v,Rows.plain_sorted->q2X,Rows.entry_sorted->q2Y,Rows.args_sorted1->q2Z,Rows.kind_sorted->q3n
open False renaming elim->XN
open LawfulBEq renaming eq_of_beq->XX
open ForInStep renaming yield->Yd
open True renaming intro->Yv
open Ne renaming symm->Yz
open Sum renaming inl->YA,inl.inj->Zg,inr->q0T
open Classical renaming byContradiction->Zm,choose_spec->q1Q,choose->q7O
open Or renaming inl->q0q,inr->q1R
open Function renaming comp->q4m
open Prod renaming fst->q5T
set_option Elab.async false
set_option linter.all false
set_option maxRecDepth 100000
abbrev br:=PySem.Value->PySem.Shared->Prop
local macro_rules | `(tactic| trivial) => `(tactic| first|exact q0q rfl|exact q1R rfl)
abbrev VC:=@if_neg
abbrev VD:=@decide_eq_false
abbrev VE:=@if_pos
abbrev VH:=@decide_eq_true
abbrev V0:=@decide_eq_true_eq
abbrev We:=@beq_self_eq_true
abbrev W8:=@if_false
abbrev W_:=@of_decide_eq_true
abbrev Xk:=@if_true
abbrev XC:=@true_and
abbrev XI:=@and_true
abbrev XQ:=@and_self
abbrev YC:=@or_false
abbrev YZ:=@beq_eq_false_iff_ne
abbrev Zj:=@or_congr_right
abbrev q0t:=@of_decide_eq_false
abbrev q0R:=@bne_self_eq_false
abbrev q07:=@not_not_intro
abbrev q1q:=@not_or
abbrev q1u:=@beq_iff_eq
theorem el7{α β γ ε:Type}{A B C:α→β→γ→ε→Prop}{R:Prop}(h:∃F ad δ K, A F ad δ K∧B F ad δ K∧C F ad δ K)(k:∀F ad δ K, A F ad δ K→B F ad δ K→C F ad δ K→R): R:=h.elim λF h=>h.elim λa h=>h.elim λd h=>h.elim λK h=>k F a d K h.1 h.2.1 h.2.2
theorem el5{α β:Type}{A B C:α→β→Prop}{R:Prop}(h:∃F ad, A F ad∧B F ad∧C F ad)(k:∀F ad, A F ad→B F ad→C F ad→R): R:=h.elim λF h=>h.elim λa h=>k F a h.1 h.2.1 h.2.2
theorem el3{α:Type}{A B:α→Prop}{R:Prop}(h:∃F, A F∧B F)(k:∀F, A F→B F→R): R:=h.elim λF h=>k F h.1 h.2
set_option compiler.extract_closed false
local macro_rules | `(tactic| symm) => `(tactic| first|lia|omega (config:={}))
local macro_rules | `(⋯) => `(by symm)
abbrev Ji:=PySem.Value->PySem.Shared->Prop
open Option renaming some->ζ,none->η
open Bool renaming true->θ,false->ι
open Decidable renaming decide->S,decide->μ
open PySem renaming Value->M,Value->ν,Addr->U,Addr->ξ,Shared->L,Shared->ο,Str->R,Str->π,wpAny->G,wpAny->ρ,model->B,model->ς,Expr->J,Expr->υ,Stmt->y,Stmt->χ,Program->X,Program->ψ,World->l,World->ω,Heap->Q,Heap->Α,Around->t,Around->Β,Obj->Γ,Scope->o,Scope->Δ,Pos->I,Pos->Ε,Env->u,Env->Ζ
theorem Y{α:Sort u}{a:α}:a=a:=rfl
section
open Lean in
def qzp(s:Syntax):Syntax:=
 let n:=λs a=>mkNode (`Lean.Parser.Tactic++s) a
 s.rewriteBottomUp λs=>if s.isIdent then n `rcasesPat.one #[s] else if s.isOfKind `Lean.Parser.Term.hole then n `rcasesPat.ignore #[mkAtom "_"] else if s.isOfKind `Lean.Parser.Term.anonymousCtor then n `rcasesPat.tuple #[mkAtom "⟨",mkNullNode (s[1].getArgs.map λx=>if x.isAtom then x else n `rcasesPatLo #[n `rcasesPatMed #[mkNullNode #[x]],mkNullNode]),mkAtom "⟩"] else s
open Lean in
local macro_rules
 |`(tactic|let $d:letDecl)=>do
  let d:=d.raw[0]
  pure (if d.isOfKind `Lean.Parser.Term.letPatDecl then mkNode `Lean.Parser.Tactic.obtain #[mkAtom "obtain",mkNullNode #[mkNode `Lean.Parser.Tactic.rcasesPatMed #[mkNullNode #[qzp d[0]]]],mkNullNode (if d[2].getNumArgs==0 then #[] else #[mkAtom ":",d[2][0][1]]),mkNullNode #[mkAtom ":=",mkNullNode #[d[4]]]] else mkNode `Lean.Parser.Tactic.tacticHave__ #[mkAtom "have",mkNode `Lean.Parser.Term.letConfig #[mkNullNode],mkNode `Lean.Parser.Term.letDecl #[d]])
open Lean in
local macro_rules
 |`(fun $bs* => $e)=>do
  if (← getRef)[1][2].getAtomVal != "↦" then Macro.throwUnsupported
  let p:=bs.map λs=>⟨mkNode `Lean.Parser.Tactic.rintroPat.one #[qzp s]⟩
  `(by rintro $p*;exact $e)
local macro_rules |`(tactic|calc $e:term)=>`(tactic|refine $e)
local macro_rules |`(tactic|ext $p*)=>`(tactic|rintro $p*)
local macro_rules |`(↑$x)=>`(($x).length)
local macro_rules |`(⇑$x)=>`(($x).heap.objs.size)
local macro_rules |`($x⁻¹)=>`(by simpa using $x)
open Lean in
local macro_rules
 |`(-$x)=>if x.raw.getKind==`Lean.Parser.Term.typeAscription||x.raw.isOfKind `num||(x.raw.isOfKind `Lean.Parser.Term.paren&&!x.raw[1].isOfKind `Lean.Parser.Term.app&&!x.raw[1].isOfKind `«term-_»&&!x.raw[1].isOfKind `«term_×_»&&!x.raw[1].isOfKind `Lean.Parser.Term.arrow) then Macro.throwUnsupported else `(List $x)
open Lean in
local macro_rules
 |`(tactic|erw[$ls,*] $[$l:location]?)=>do
  let a←ls.getElems.mapM fun r=>do
   let t:Term:=⟨r.raw[1]⟩
   if r.raw[0].getNumArgs==0 then `(Parser.Tactic.simpLemma|$t:term) else `(Parser.Tactic.simpLemma|←$t:term)
  `(tactic|simp only[$a,*] $[$l]?)
namespace LJS
open PySem PySem.SetTable
noncomputable def nx(m i:Nat):Nat:=(i*5+1)%(m+1)
noncomputable def l9(m:Nat):Nat->Nat->Nat
 |0,i=>i
 |n+1,i=>l9 m n (nx m i)
theorem sP(m:Nat):∀a b i,l9 m (a+b) i=l9 m b (l9 m a i)
 |0,b,i=>by rw[VJ];rfl
 |a+1,b,i=>by rw[q4E];calc sP m a b (nx m i)
noncomputable def vf(m:Nat):Nat->Nat->-Nat
 |0,_=>[]
 |n+1,i=>i::vf m n (nx m i)
theorem AU(m:Nat):∀{n i e:Nat},e∈vf m n i->∃k,k<n/\l9 m k i=e
 |0,_,_,h=>nomatch h
 |n+1,i,e,h=>by
  rcases Uy.mp h with rfl|h
  .exact⟨0,q4F _,Y⟩
  .let⟨k,a,e⟩:=AU m h
   calc⟨k+1,Nat.succ_lt_succ a,e⟩
def Mk(m:Nat):Prop:=m=7\/m=31\/m=127
noncomputable def pZ(m:Nat):Bool:=(Wq (m+1)).all λe=>(vf m (m+1) 0).contains e
theorem AV(h:Mk m):pZ m=θ/\l9 m (m+1) 0=0:=by
 rcases h with rfl|rfl|rfl<;>calc⟨by decide +kernel,by decide +kernel⟩
theorem mW(h:Mk m)(he:e<=m):∃k,k<=m/\l9 m k 0=e:=by
 let:=Yg.mp (AV h).1 e (Wz.mpr (Nat.lt_succ_of_le he));let⟨k,a,q⟩:=AU m (q1K.mp this);calc⟨k,ZK a,q⟩
theorem Ht(h:Mk m)(c:i<=m)(he:e<=m):∃n,n<=m/\l9 m n i=e:=by
 let⟨a,f,rfl⟩:=mW h c;let⟨b,g,rfl⟩:=mW h he
 by_cases d:a<=b
 .refine⟨b-a,⋯,?_⟩
  rw[<-sP];congr 1;symm
 .refine⟨m+1-a+b,⋯,?_⟩
  rw[<-sP,show a+(m+1-a+b)=(m+1)+b by symm,sP,(AV h).2]
noncomputable def lp(m:Nat):Nat->Nat->Nat->Nat×Nat
 |0,i,p=>(i,p)
 |n+1,i,p=>lp m n (leap m i p).1 (leap m i p).2
theorem vg(m:Nat):∀a b i p,lp m (a+b) i p=lp m b (lp m a i p).1 (lp m a i p).2
 |0,b,i,p=>by rw[VJ];rfl
 |a+1,b,i,p=>by rw[q4E];calc vg m a b _ _
theorem AW(m:Nat):∀n i,lp m n i 0=(l9 m n i,0)
 |0,i=>Y
 |n+1,i=>by
  show lp m n (leap m i 0).1 (leap m i 0).2=_;let e:leap m i 0=(nx m i,0):=by unfold leap nx;simp
  rw[e];calc AW m n _
theorem Hu(m i p:Nat):(leap m i p).1<=m:=ZK (q6Q _ (q4F _))
theorem AX(m:Nat):∀n i p,(lp m n i p).2=p / 32 ^ n
 |0,i,p=>by simp[lp]
 |n+1,i,p=>by
  show(lp m n (leap m i p).1 (leap m i p).2).2=_;rw[AX m n];show p / 32 / 32 ^ n=_;rw[Nat.div_div_eq_div_mul,Nat.pow_succ,q4G]
theorem reach(h:Mk m)(a:p<2 ^ 64)(he:e<=m):∃n,n<=13+m/\(lp m n i p).1=e:=by
 let z:(lp m 13 i p).2=0:=by
  rw[AX];exact Nat.div_eq_of_lt (q1n a (by decide))
 let q:(lp m 13 i p).1<=m:=by
  rw[vg m 12 1];exact Hu _ _ _
 let⟨n,c,b⟩:=Ht h q he;calc⟨13+n,⋯,?_⟩;rw[vg,z,AW];calc b
theorem AY(j:Nat):has #[] j=ι:=by unfold has;simp
theorem vh{t:SetTable}(hd:t.dummies = #[])(j:Nat):t.slot j=.empty\/∃i,t.slot j=.live i/\i<t.place.size/\j∈t.place.toList:=by
 unfold slot;rw[hd,AY];dsimp only
 by_cases c:(t.place[below t.place j]?==ζ j)=θ
 .right
  rw[VE c];let e:=XX c;let⟨a,b⟩:=q0r.mp e;exact⟨_,Y,a,by rw[<-b];calc q00 a⟩
 .left
  rw[VC c];rfl
theorem Hv{t:SetTable}(hd:t.dummies = #[])(a:j∉t.place.toList):t.slot j=.empty:=by
 rcases vh hd j with h|⟨_,_,_,h⟩
 .exact h
 .calc absurd h a
theorem AZ:∀{l l':-Nat},l.Nodup->(∀x∈l,x∈l')->↑l<=↑l'
 |[],_,_,_=>VY _
 |a::l,l',f,c=>by
  let d:a∈l':=c a (Uz ..);let b:=Yy.mp f;let g:=AZ (l:=l) (l':=l'.erase a) b.2 λx e=>(List.mem_erase_of_ne (λz=>b.1 (by rw[<-z];calc e))).mpr (c x (UA _ e));rw[List.length_erase_of_mem d] at g;let:=List.length_pos_of_mem d;rw[wo];symm
theorem Hw{l:-Nat}(h:↑l<=m):∃e,e<=m/\e∉l:=by
 calc Zm λb=>?_;let a:∀e,e∈Wq (m+1)->e∈l:=λe c=>Zm λz=>b ⟨e,ZK (Wz.mp c),z⟩;let:↑(Wq (m+1))<=↑l:=AZ q0_ a;rw[Xq] at this;symm
noncomputable def stateOf(t:SetTable)(i p:Nat):Probe:=⟨i,runEnd t.mask i-i,i,p,η⟩
theorem Hx(m i:Nat):runEnd m i-i<=9:=by unfold runEnd;split<;>symm
section
variable{t:SetTable}{f:Nat->Int}{h:Int}
theorem sQ(F:Nat)(p:Probe):ZL t f h (F+1) p=(match t.slot p.j with
  |.empty=>ζ (.empty p.j p.dummy)
  |.dummy=>ZL t f h F (t.advance {p with dummy:=ζ p.j})
  |.live i=>if f i==h then ζ (.candidate p.j i (t.advance p)) else ZL t f h F (t.advance p)):=rfl
theorem A0(hd:t.dummies = #[])(b:∀i,i<t.place.size->f i≠h):∀(k F:Nat)(p:Probe),p.more=k->p.dummy=η →
  (∃j,ZL t f h (F+k+1) p=ζ (.empty j η))\/ZL t f h (F+k+1) p=ZL t f h F (stateOf t (leap t.mask p.i p.perturb).1 (leap t.mask p.i p.perturb).2)
 |0,F,p,d,a=>by
  show(∃j,ZL t f h (F+1) p=_)\/ZL t f h (F+1) p=_;rw[sQ];rcases vh hd p.j with e|⟨i,e,c,_⟩
  .left;rw[e];exact⟨p.j,by rw[a]⟩
  .right
   rw[e];show(if(f i==h)=θ then _ else _)=_;rw[VC (by ext z;calc b i c (XX z))];unfold advance;rw[d,VC ⋯,a];rfl
 |k+1,F,p,d,a=>by
  let g:=A0 hd b k F {p with j:=p.j+1,more:=p.more-1} (by show p.more-1=k;symm) a;rw[show F+(k+1)+1=(F+k+1)+1 by symm,sQ];rcases vh hd p.j with e|⟨i,e,c,_⟩
  .left;rw[e];exact⟨p.j,by rw[a]⟩
  .rw[e]
   show(∃j,(if(f i==h)=θ then _ else _)=_)\/(if(f i==h)=θ then _ else _)=_;rw[VC (by ext z;calc b i c (XX z))];let l:t.advance p={p with j:=p.j+1,more:=p.more-1}:=by unfold advance;rw[VE ⋯]
   rw[l];calc g
theorem A1(hd:t.dummies = #[])(c:∀i,i<t.place.size->f i≠h):∀(n F i p:Nat),10*(n+1)<=F->t.slot (lp t.mask n i p).1=.empty->∃j,ZL t f h F (stateOf t i p)=ζ (.empty j η)
 |0,F,i,p,d,a=>by
  let⟨G,rfl⟩:∃G,F=G+1:=⟨F-1,⋯⟩;rw[sQ];let e:t.slot (stateOf t i p).j=.empty:=a;rw[e];exact⟨i,Y⟩
 |n+1,F,i,p,d,a=>by
  let k:=Hx t.mask i;let⟨G,g⟩:∃G,F=G+(runEnd t.mask i-i)+1:=⟨F-(runEnd t.mask i-i)-1,⋯⟩;let:=A0 (f:=f) (h:=h) hd c (runEnd t.mask i-i) G (stateOf t i p) Y Y;rw[<-g] at this;rcases this with b|b
  .exact b
  .rw[b]
   calc A1 hd c n G _ _ ⋯ a
theorem vi(h:Int):bits h<2 ^ 64:=by
 unfold bits;let:=XE h (show(0:Int)<2 ^ 64 by decide);let:=Yb h (show(2 ^ 64:Int)≠0 by decide);symm
theorem A2(hd:t.dummies = #[])(a:Mk t.mask)(hz:t.place.size<=t.mask)(b:∀i,i<t.place.size->f i≠h):∃j,t.probe f h (t.probeStart h)=ζ (.empty j η):=by
 let⟨e,c,d⟩:=Hw (l:=t.place.toList) (m:=t.mask) (by rw[UC];calc hz);let⟨n,k,g⟩:=reach a (i:=bits h%(t.mask+1)) (vi h) c;calc A1 hd b n _ _ _ (by unfold turns;symm) (by rw[g];calc Hv hd d)
end
section
variable{m:Nat}{owner:Array (Option Nat)}
theorem A3(F i p:Nat):YJ m owner (F+1) i p=(match(Wq (runEnd m i+1-i)).find? λk=>(owner.getD (i+k) (ζ 0)).isNone with
   |some k=>ζ (i+k)
   |none=>YJ m owner F (leap m i p).1 (leap m i p).2):=rfl
theorem vj:∀(n F i p:Nat),n+1<=F->(owner.getD (lp m n i p).1 (ζ 0)).isNone=θ->∃j,YJ m owner F i p=ζ j/\(owner.getD j (ζ 0)).isNone=θ
 |0,F,i,p,c,b=>by
  let⟨G,rfl⟩:∃G,F=G+1:=⟨F-1,⋯⟩;rw[A3]
  cases a:(Wq (runEnd m i+1-i)).find? λk=>(owner.getD (i+k) (ζ 0)).isNone with
  |some k =>
   let:=q0d a;exact⟨i+k,Y,this⟩
  |none =>
   let:=q0s.mp a 0 (Wz.mpr (by unfold runEnd;split<;>symm));exact absurd b this
 |n+1,F,i,p,c,b=>by
  let⟨G,rfl⟩:∃G,F=G+1:=⟨F-1,⋯⟩;rw[A3]
  cases a:(Wq (runEnd m i+1-i)).find? λk=>(owner.getD (i+k) (ζ 0)).isNone with
  |some k =>
   let:=q0d a;exact⟨i+k,Y,this⟩
  |none=>calc vj n G _ _ ⋯ b
end
structure Ow(m:Nat)(owner:Array (Option Nat))(k:Nat):Prop where
 size:owner.size=m+1
 cnt:owner.toList.countP q2h=k
 lt:∀x,ζ x∈owner.toList->x<k
theorem vk:∀{l:-(Option Nat)}{j k:Nat},l[j]?=ζ η->(l.set j (ζ k)).countP q2h=l.countP q2h+1
 |[],j,k,h=>by simp at h
 |x::l,0,k,h=>by
  simp at h;subst h;rw[VA,Z3,Z3];rfl
 |x::l,j+1,k,h=>by
  simp at h;rw[VB,Z3,Z3,vk h];symm
theorem getD_none{owner:Array (Option Nat)}(h:(owner.getD j (ζ 0)).isNone=θ):owner.toList[j]?=ζ η:=by
 rw[Xf] at h;rw[Wt]
 cases e:owner[j]? with
 |none=>rw[e] at h;cases h
 |some x =>
  rw[e] at h
  cases x with
  |none=>rfl
  |some y=>cases h
theorem A4{owner:Array (Option Nat)}(O:Ow m owner k)(g:k<=m):∃e,e<=m/\(owner.getD e (ζ 0)).isNone=θ:=by
 refine Zm λd=>?_
 let a:∀x∈owner.toList,x.isSome=θ:=by
  ext x f;let⟨e,b⟩:=VL.mp f
  cases x with
  |some y=>rfl
  |none =>
   let c:=(pa.mp b).1;rw[UC,O.size] at c;calc absurd ⟨e,ZK c,?_⟩ d;rw[Xf,<-Wt,b];rfl
 let:=q1L.mpr a;rw[O.cnt,UC,O.size] at this;symm
theorem Hy{owner:Array (Option Nat)}(b:Mk m)(O:Ow m owner k)(c:k<=m)(h:Int):∃j,YJ m owner (turns m) (bits h%(m+1)) (bits h)=ζ j/\Ow m (owner.setIfInBounds j (ζ k)) (k+1):=by
 let⟨e,d,f⟩:=A4 O c;let⟨n,g,l⟩:=reach b (i:=bits h%(m+1)) (vi h) d;let⟨j,o,p⟩:=vj (m:=m) (owner:=owner) n (turns m) (bits h%(m+1)) (bits h) (by unfold turns;symm) (by rw[l];calc f);refine⟨j,o,by rw[q01];calc O.size,?_,λx a=>?_⟩
 .rw[Yq,vk (getD_none p),O.cnt]
 .rw[Yq] at a
  rcases q0K a with h|h
  .exact WR (O.lt x h)
  .cases h;calc Xa _
theorem A5(e:Mk m):∀(hs:-Int)(owner:Array (Option Nat))(k:Nat),Ow m owner k->k+↑hs<=m+1 →
  ∃b,(hs.foldl (init:=ζ (owner,k)) λd h=>do
   let(owner,k) <- d
   let j <- YJ m owner (turns m) (bits h%(m+1)) (bits h)
   pure (owner.setIfInBounds j (ζ k),k+1))=ζ (b,k+↑hs)/\Ow m b (k+↑hs)
 |[],a,k,O,_=>⟨a,Y,O⟩
 |h::c,a,k,O,f=>by
  rw[wo] at f ⊢;let⟨j,g,i⟩:=Hy e O ⋯ h;let⟨l,n,o⟩:=A5 e c _ (k+1) i ⋯;calc⟨l,?_,by rw[show k+(↑c+1)=k+1+↑c by symm];calc o⟩;rw[mq,show k+(↑c+1)=k+1+↑c by symm,<-n];congr 1;show(do let j <- YJ m a (turns m) (bits h%(m+1)) (bits h);pure (a.setIfInBounds j (ζ k),k+1))=_;rw[g];rfl
theorem A6(m:Nat):Ow m (q3o (m+1) η) 0:=by
 refine⟨by simp,?_,λx a=>?_⟩
 .rw[ZM]
  exact List.countP_eq_zero.mpr λx a=>by rw[Zr a];decide
 .rw[ZM] at a
  cases Zr a
theorem Hz(a:Mk m)(hs:Array Int)(hz:hs.size<=m+1):∃owner,layClean m hs=ζ owner/\Ow m owner hs.size:=by
 let⟨o,e,O⟩:=A5 a hs.toList _ 0 (A6 m) (by rw[UC];symm);rw[VJ,UC] at O;calc⟨o,?_,O⟩;unfold layClean;rw[<-q2n,e];rfl
noncomputable def kO(m:Nat)(owner:Array (Option Nat)):-(Nat×Nat):=(Wq (m+1)).filterMap λj=>(owner.getD j η).map (j,·)
theorem vl(O:Ow m owner k):↑(kO m owner)=k:=by
 unfold kO;rw[ZY,<-O.cnt]
 let e:owner.toList=(Wq (m+1)).map λj=>owner.getD j η:=by
  calc Zd λi=>?_;rw[Wt,B8]
  by_cases a:i<m+1
  .rw[Yx a,q1B,Wk (by rw[O.size];calc a),Xf,Wk (by rw[O.size];calc a)];rfl
  .rw[XY (by rw[O.size];symm),YB (by rw[Xq];symm)];rfl
 rw[e,List.countP_map];calc List.countP_congr λj _=>?_;simp
theorem HA(O:Ow m owner k)(hz:z∈kO m owner):z.2<k:=by
 unfold kO at hz;let⟨j,b,e⟩:=Zy.mp hz;let⟨x,a,rfl⟩:=KJ.mp e;calc O.lt x ?_;rw[Xf] at a
 cases q:owner[j]? with
 |none=>rw[q] at a;cases a
 |some y =>
  rw[q] at a;cases(show y=ζ x from a)
  calc VL.mpr ⟨j,by rw[Wt];calc q⟩
theorem HB(c:Mk m)(t:SetTable)(hs:Array Int)(a:Nat)(d:sizeAbove a-1=m)(hz:hs.size<=m+1):
  ∃t' order,t.relaid hs a=ζ (t',order)/\t'.mask=m/\t'.dummies = #[]/\t'.place.size=hs.size/\t'.led=t.led/\t'.plain=t.plain/\order.size=hs.size/\∀k∈order.toList,k<hs.size:=by
 let⟨b,e,O⟩:=Hz c hs hz;refine⟨{mask:=m,place:=((kO m b).map (·.1)).toArray,dummies := #[],finger:=t.finger,led:=t.led,moves:=t.movedTo m,plain:=t.plain},((kO m b).map (·.2)).toArray,?_,Y,Y,?_,Y,Y,?_,λk g=>?_⟩
 .unfold relaid laid
  rw[d,e];rfl
 .rw[KG,nW,vl O]
 .rw[KG,nW,vl O]
 .let⟨z,f,rfl⟩:=VI.mp g
  calc HA O f
theorem A7{b:Type}{es:Array b}{order:Array Nat}(h:∀k∈order.toList,k<es.size):(order.filterMap (es[·]?)).size=order.size/\∀e∈(order.filterMap (es[·]?)).toList,e∈es.toList:=by
 constructor
 .rw[<-UC,q1o,ZY,q1L.mpr λk c=>?_,UC]
  rw[Wk (h k c)];rfl
 .ext e a
  rw[q1o] at a;let⟨k,_,q⟩:=Zy.mp a;calc VL.mpr ⟨k,by rw[Wt];calc q⟩
theorem vm(t:SetTable)(hd:t.dummies = #[])(j:Nat):(t.put j).1.dummies = #[]/\(t.put j).1.mask=t.mask/\(t.put j).1.place.size=t.place.size+1/\(t.put j).1.led=t.led/\(t.put j).1.plain=t.plain/\(t.put j).1.moves=t.moves/\(t.put j).1.finger=t.finger:=by
 unfold put;dsimp only;rw[hd,AY];calc⟨Y,Y,?_,Y,Y,Y,Y⟩;unfold insertAt;erw[q2A,q3p,q2o];symm
theorem HC{a:Type}{xs:Array a}{p:Nat}{x e:a}(h:e∈(insertAt xs p x).toList):e=x\/e∈xs.toList:=by
 unfold insertAt at h;erw[q19,ZN,VZ,Wn,q1S] at h;erw[q0L] at h;rcases h with(h|h)|h
 .right;exact Z_ (q1T h)
 .exact .inl h
 .right;calc Z_ (q1T h)
theorem vn{a:Type}(xs:Array a)(p:Nat)(x:a):(insertAt xs p x).size=xs.size+1:=by
 unfold insertAt;erw[q2A,q3p,q2o];symm
end LJS
namespace LJS
open PySem PySem.SetTable PyProof.Rows
structure hW(t:SetTable)(es:Array (Int×M))(hs:-Int):Prop where
 mX:t.dummies = #[]
 l_:Mk t.mask
 jU:t.place.size=es.size
 num:es.size=↑hs
 iT:t.tooFull=ι
 ins:∀e∈es.toList,e.1∈hs
def g4(h:Q)(S:U)(hs:-Int):Prop:=∃o a b t,h.get? S=ζ o/\o.ExactSet/\o.data=.set a b t/\hW t a hs
section
variable{t:SetTable}{es:Array (Int×M)}{hs:-Int}
theorem hW.fill(T:hW t es hs):t.fill=es.size:=by
 unfold YW;rw[T.jU,T.mX];rfl
theorem hW.lt(T:hW t es hs):es.size*5<t.mask*3:=by
 let:=T.iT;unfold tooFull at this;rw[T.fill] at this;let:=q0t this;symm
theorem hW.fits(T:hW t es hs):t.fits es.size=θ:=by
 let:=T.lt;unfold Z8;rw[T.fill,T.jU];simp;symm
theorem hW.vo(T:hW t es hs):t.gaveWay=ι:=by
 unfold SetTable.gaveWay;rcases T.l_ with h|h|h<;>rw[h]<;>rfl
end
theorem A8:sizeAbove (grown 5)-1=31:=by decide +kernel
theorem A9:sizeAbove (grown 19)-1=127:=by decide +kernel
section
variable{prog:X}{w:l}{A:t}{E:br}{s:L}
theorem HD{S:U}{x:M}{h:Int}{hs:-Int}{o:Γ}{es:Array (Int×M)}{ep:Nat}{t:SetTable}{Q:SetFound->L->Prop}(b:s.heap.get? S=ζ o)(hd:o.data=.set es ep t)(T:hW t es hs)(hn:h∉hs)
  (k:∀j,Q (.free j ι) s):G (B prog w) A (setSearch S x h θ) Q E s:=by
 show G _ _ (setSearchFrom S x h θ (99999+1) η) _ _ _;calc nX (Yr b hd T.fits ?_);dsimp only;rw[T.vo];let c:t.place.size<=t.mask:=by let:=T.lt;rw[T.jU];symm
 let⟨j,d⟩:=A2 (t:=t) (f:=λi=>(es[i]?.map (·.1)).getD 0) (h:=h) T.mX T.l_ c (λi a z=>by
  rw[T.jU] at a;rw[Wk a] at z
  calc hn (by rw[<-show es[i].1=h from z];calc T.ins _ (q00 a)))
 erw[q1a];generalize e:t.probe _ h (t.probeStart h)=P;let g:P=ζ (.empty j η):=e.symm.trans d;rw[g];calc B7 (k j)
theorem HE{S:ξ}{x:ν}{h:Int}{hs:-Int}{Q:Bool->ο->Prop}(X:x.scannable=ι)(Y:g4 s.heap S hs)(hn:h∉hs)(Z:↑hs<60)
  (hv:∀M:Bool->ο->Prop,(∀b,M b s)->ρ (ς prog w) A (hashByValue 8 x) M E s)
  (k:∀h',Zk S s.heap h'->g4 h' S (hs++[h])->Q θ {s with heap:=h'}):ρ (ς prog w) A (setAddHashed S x h) Q E s:=by
 let⟨o,es,N,t,p,r,n,T⟩:=Y;calc WK ?_;calc nX (Yr p n T.fits ?_);let hb:byScan x es=ι:=by unfold byScan;rw[X];rfl
 dsimp only;rw[hb];calc nX (HD p n T hn λj=>?_);calc nX (Yr p n T.fits ?_);let⟨p1,p2,p3,p4,p5,p6,p7⟩:=vm t T.mX j
 let u:∀b:Bool,ρ (ς prog w) A (do
   storeSet S (SetTable.insertAt es (t.put j).2 (h,x)) (if b=θ then(t.put j).1 else{(t.put j).1 with plain:=false})
   if(!ι&&(if b=θ then(t.put j).1 else{(t.put j).1 with plain:=false}:SetTable).tooFull)=θ then do
       setRelay S (q3J (es.size+1))
       pure θ
    else pure θ) Q E s:=by
  ext b;generalize i:(if b=θ then(t.put j).1 else{(t.put j).1 with plain:=false}:SetTable)=d;let O:d.dummies = #[]:=by rw[<-i];cases b<;>exact p1
  let P:d.mask=t.mask:=by rw[<-i];cases b<;>exact p2
  let F:d.place.size=es.size+1:=by rw[<-i,<-T.jU];cases b<;>exact p3
  let c:=vn es (t.put j).2 (h,x)
  let f:∀e∈(insertAt es (t.put j).2 (h,x)).toList,e.1∈hs++[h]:=λe v=>by
   rcases HC v with rfl|v
   .exact V7 _ (Wn.mpr rfl)
   .exact XD _ (T.ins e v)
  generalize insertAt es (t.put j).2 (h,x)=a at c f;let sR:es.size<60:=by rw[T.num];exact Z
  refine nX (ZO p n ?_ (by rw[c,Yh];symm))
  let g:(s.heap.update S (Y8 a d)).get? S=ζ {o with data:=.set a (N+1) d}:=by
   let:=Xl (Y8 a d) p (by rw[q1b a d n];rfl);rw[q1b a d n] at this;exact this
  let fl:d.fill=es.size+1:=by unfold YW;rw[O,F];rfl
  let G:=T.lt
  let l:d.fits a.size=θ:=by
   unfold Z8;rw[fl,F,c,P];simp;rcases T.l_ with e|e|e<;>rw[e] at G ⊢ <;> symm
  by_cases H:d.tooFull=θ
  .rw[VE (by rw[H];rfl)]
   let y:t.mask*3<=(es.size+1)*5:=by
    unfold tooFull at H;let:=W_ H;symm
   let⟨m,I,hw,hsz⟩:∃m,Mk m/\sizeAbove (grown (es.size+1))-1=m/\(es.size+1)*5<m*3:=by
    rcases T.l_ with e|e|e
    .rw[e] at G y
     let:es.size+1=5:=by symm
     rw[this];exact⟨31,.inr (.inl rfl),A8,⋯⟩
    .rw[e] at G y
     let:es.size+1=19:=by symm
     rw[this];exact⟨127,.inr (.inr rfl),A9,⋯⟩
    symm
   calc nX ?_;calc nX (Yr g rfl l ?_);dsimp only
   let J:¬ SetTable.sizeAbove (q3J (es.size+1))>sizeLine:=by
    rw[Yh];rcases I with e|e|e<;>symm
   rw[VC J];let⟨z,order,er,R,U,K,_,_,B,V⟩:=HB I d (a.map (·.1)) (grown (es.size+1)) hw (by rw[ZP,c];symm);rw[er];rw[ZP,c] at K B;rw[ZP] at V;let⟨D,o2⟩:=A7 (es:=a) (order:=order) V;refine nX ?_
   show ρ _ _ (do
    if(order.filterMap (a[·]?)).size != a.size then
     unsupported "internal:set-table-lost-an-element"
    pure (order.filterMap (a[·]?),z)) _ _ _
   rw[VC (by rw[D,B,c];simp)];calc B7 ?_;refine ZO g rfl ?_ (by rw[D,B,Yh];symm)
   let L:((s.heap.update S (Y8 a d)).update S (Y8 (order.filterMap (a[·]?)) z)).get? S=ζ {o with data:=.set (order.filterMap (a[·]?)) (N+1+1) z}:=by
    let:=Xl (Y8 (order.filterMap (a[·]?)) z) g (by rw[q1b _ z rfl];rfl);exact this
   refine B7 (k _ ?_ ⟨_,_,_,_,L,r,rfl,U,by rw[R];calc I,by rw[K,D,B],by rw[D,B,T.num,qG];rfl,?_,λe v=>f e (o2 e v)⟩)
   .exact (Xb ..).trans (Xb ..)
   .unfold tooFull YW
    rw[U,K,R];simp;symm
  .let C:d.tooFull=ι:=by cases q:d.tooFull<;>simp_all
   rw[VC (by rw[C];decide)];refine B7 (k _ (Xb ..) ⟨_,_,_,_,g,r,rfl,O,by rw[P];calc T.l_,by rw[F,c],by rw[c,T.num,qG];rfl,C,f⟩)
 by_cases W:(t.put j).1.plain=θ
 .rw[VE W]
  calc nX (hv _ λb=>?_);exact u b
 .rw[VC W]
  calc u θ
end
end LJS
namespace LJS
open PySem PySem.SetTable
def Up(xs:Array Nat):Prop:=xs.toList.Pairwise (· < ·)
theorem Up.lt{xs:Array Nat}(u:Up xs){i k:Nat}(a:i<k)(b:k<xs.size):xs[i]'⋯<xs[k]:=by
 let:=Zn.mp u i k (by rw[UC];symm) (by rw[UC];calc b) a;simpa using this
theorem vp{xs:Array Nat}(u:Up xs)(j:Nat):∀(f k g:Nat),g<=xs.size->k<=g->g-k<=f->(∀i,(h:i<xs.size)->i<k->xs[i]<j)->(∀i,(h:i<xs.size)->g<=i->j<=xs[i]) →
  below.go xs j f k g<=xs.size/\(∀i,(h:i<xs.size)->i<below.go xs j f k g->xs[i]<j)/\(∀i,(h:i<xs.size)->below.go xs j f k g<=i->j<=xs[i])
 |0,k,g,m,o,p,a,b=>by
  let:k=g:=by symm
  subst this;exact⟨m,a,b⟩
 |f+1,k,g,m,o,p,a,b=>by
  unfold below.go
  by_cases c:k<g
  .rw[VE c]
   let n:(k+g) / 2<xs.size:=by symm
   let q:xs.getD ((k+g) / 2) j=xs[(k+g) / 2]:=by rw[Xf,Wk n];rfl
   erw[q]
   by_cases d:xs[(k+g) / 2]<j
   .rw[VE d]
    refine vp u j f _ g m ⋯ ⋯ (λi l r=>?_) b
    by_cases e:i<(k+g) / 2
    .exact q1n (u.lt e n) d
    .let:i=(k+g) / 2:=by symm
     subst this;exact d
   .rw[VC d]
    refine vp u j f k _ ⋯ ⋯ ⋯ a λi l r=>?_
    by_cases e:(k+g) / 2<i
    .exact Xd (Zz (Z4 d) (u.lt e l))
    .let:i=(k+g) / 2:=by symm
     subst this;exact Z4 d
  .rw[VC c]
   let:k=g:=by symm
   subst this;calc⟨m,a,b⟩
theorem sS{xs:Array Nat}(u:Up xs)(j:Nat):below xs j<=xs.size/\(∀i,(h:i<xs.size)->i<below xs j->xs[i]<j)/\(∀i,(h:i<xs.size)->below xs j<=i->j<=xs[i]) :=
 vp u j xs.size 0 xs.size (B6 _) (VY _) ⋯ (λi _ h=>by symm) (λi h a=>by symm)
theorem HF{xs:Array Nat}(u:Up xs){i:Nat}(d:i<xs.size):below xs (xs[i]+1)=i+1:=by
 let⟨g,e,f⟩:=sS u (xs[i]+1)
 let a:i<below xs (xs[i]+1):=by
  calc Nat.lt_of_not_le λz=>?_;let:=f i d z;symm
 let b:below xs (xs[i]+1)<=i+1:=by
  calc Z4 λz=>?_;let c:i+1<xs.size:=by symm
  let:=e (i+1) c z;let:=u.lt (k:=i+1) (Xa i) c;symm
 symm
theorem HG{xs:Array Nat}(u:Up xs):below xs 0=0:=by
 let⟨b,a,c⟩:=sS u 0;calc Nat.eq_zero_of_not_pos λz=>?_;let:=a 0 ⋯ z;symm
theorem HH{t:SetTable}(u:Up t.place){j:Nat}(o:j∉t.place.toList):Up (t.put j).1.place:=by
 let⟨q,k,l⟩:=sS u j;show Up (insertAt t.place (below t.place j) j);unfold Up insertAt;generalize below t.place j=p at q k l
 let r:(((t.place.extract 0 p).push j)++t.place.extract p t.place.size).toList=t.place.toList.take p++([j]++t.place.toList.drop p):=by
  erw[q19,ZN,q1S,q0L,q1U,q4H,X1];let s:List.take (t.place.size-p) (q7y p t.place.toList)=q7y p t.place.toList:=Xc (by rw[YK,UC];calc B6 _);rw[s]
 rw[r]
 let m:∀x∈t.place.toList.take p,x<j:=by
  ext x d;let⟨i,f,e⟩:=Xr.mp d;rw[Ww,UC] at f;let:=k i ⋯ ⋯;rw[<-e];simpa using this
 let c:∀x∈t.place.toList.drop p,j<x:=by
  ext x d;let⟨i,f,e⟩:=Xr.mp d;rw[YK,UC] at f;let:=l (p+i) ⋯ ⋯;let g:j<=x:=by rw[<-e];simpa using this
  calc Nat.lt_of_le_of_ne g λz=>o ?_;rw[z];exact Z_ d
 refine List.pairwise_append.mpr ⟨u.sublist (q2B _ _),?_,λa n b h=>?_⟩
 .exact Xu.mpr ⟨c,u.sublist (List.drop_sublist _ _)⟩
 .rcases Uy.mp h with rfl|h
  .exact m a n
  .calc q1n (m a n) (c b h)
theorem HI(n:Nat)(f:Nat->Option Nat):(((Wq n).filterMap λj=>(f j).map λx=>(j,x)).map (·.1)).Pairwise (· < ·):=by
 rw[XO];calc List.Pairwise.filterMap _ (λa g c b e h d=>?_) (Ys (n:=n));let⟨x,_,rfl⟩:=KJ.mp e;let⟨y,_,rfl⟩:=KJ.mp d;calc c
theorem HJ(m:Nat)(owner:Array (Option Nat)):((kO m owner).map (·.1)).Pairwise (· < ·):=HI (m+1) λj=>owner.getD j η
theorem A_{f:Type}(d:Nat->Nat):∀(c k:Nat)(b:-f)(out:Array f),↑b<=c->(pickOrder.go d c k b out).toList.Perm (out.toList++b)
 |0,k,b,g,h=>by
  let:b=[]:=XR.mp ⋯;subst this;rw[dV];exact Y1 _
 |c+1,k,b,g,h=>by
  unfold pickOrder.go
  cases b with
  |nil=>simp
  |cons a l =>
   let e:d k%↑(a::l)<↑(a::l):=q6Q _ (by rw[wo];symm);rw[tE e];refine(A_ d c (k+1) _ _ ?_).trans ?_
   .rw[q0u e];symm
   .rw[ZN,X1]
    calc Z0 _ ?_;exact(jV e).symm
where
 jV {f:Type}:∀{l:-f}{j:Nat}(h:j<↑l),q4r l (l[j]::l.eraseIdx j)
  |[],_,h=>by simp at h
  |a::l,0,_=>Y1 _
  |a::l,j+1,h=>(q1V a (jV (l:=l) (j:=j) h⁻¹)).trans (q0v _ _ _)
theorem HK{b:Type}(a:Nat->Nat)(xs:Array b):(pickOrder a xs).toList.Perm xs.toList:=by
 let:=A_ a xs.size 0 xs.toList #[] (by rw[UC];calc B6 _);unfold pickOrder;simpa using this
theorem vq{t:SetTable}{f:Nat->Int}{h:Int}:∀{a:Nat}{p:Probe}{j:Nat}{d:Option Nat},ZL t f h a p=ζ (.empty j d)->t.slot j=.empty
 |0,_,_,_,e=>nomatch e
 |a+1,p,j,d,e=>by
  rw[sQ] at e
  cases q:t.slot p.j with
  |empty =>
   rw[q] at e;cases e
   exact q
  |dummy =>
   rw[q] at e;exact vq e
  |live i =>
   rw[q] at e
   by_cases c:(f i==h)=θ
   .erw[c,Xk] at e;cases e
   .erw[c,W8] at e;calc vq e
theorem HL{t:SetTable}(u:Up t.place){j:Nat}(e:t.slot j=.empty):j∉t.place.toList:=by
 ext f;let⟨i,g,h⟩:=Xr.mp f;let c:i<t.place.size:=by rw[<-UC];exact g
 let d:t.place[i]=j:=by simpa using h
 let⟨n,k,l⟩:=sS u j;let a:¬ i<below t.place j:=λz=>by let:=k i c z;symm
 let b:¬ below t.place j<i:=λz=>by
  let:=l (below t.place j) ⋯ (B6 _);let:=u.lt z c;symm
 let m:below t.place j=i:=by symm
 unfold slot at e;rw[m] at e;let:(t.place[i]?==ζ j)=θ:=by rw[Wk c,d];simp
 erw[this,Xk] at e;cases e
def lS(owner:Array (Option Nat))(k:Nat):Prop:=(owner.toList.filterMap id).Perm (Wq k)
theorem vr:∀{l:-(Option Nat)}{j k:Nat},l[j]?=ζ η->((l.set j (ζ k)).filterMap id).Perm (k::l.filterMap id)
 |[],j,k,h=>by simp at h
 |x::l,0,k,h=>by
  simp at h;subst h;exact Y1 _
 |x::l,j+1,k,h=>by
  simp at h
  cases x with
  |none =>
   show((l.set j (ζ k)).filterMap id).Perm (k::l.filterMap id);exact vr h
  |some y =>
   calc(q1V y (vr h)).trans (q0v _ _ _)
theorem HM{owner:Array (Option Nat)}{j k:Nat}(P:lS owner k)(h:owner.toList[j]?=ζ η):lS (owner.setIfInBounds j (ζ k)) (k+1):=by
 unfold lS at P ⊢;rw[Yq,Zv];calc(vr h).trans ((q1V k P).trans (List.perm_append_singleton k _).symm)
theorem HN{m:Nat}{owner:Array (Option Nat)}{k:Nat}(c:Mk m)(O:Ow m owner k)(d:lS owner k)(f:k<=m)(h:Int):∃j,YJ m owner (turns m) (bits h%(m+1)) (bits h)=ζ j/\Ow m (owner.setIfInBounds j (ζ k)) (k+1)/\lS (owner.setIfInBounds j (ζ k)) (k+1):=by
 let⟨e,g,l⟩:=A4 O f;let⟨n,o,p⟩:=reach c (i:=bits h%(m+1)) (vi h) g;let⟨j,q,a⟩:=vj (m:=m) (owner:=owner) n (turns m) (bits h%(m+1)) (bits h) (by unfold turns;symm) (by rw[p];calc l);refine⟨j,q,⟨by rw[q01];calc O.size,?_,λx b=>?_⟩,HM d (getD_none a)⟩
 .rw[Yq,vk (getD_none a),O.cnt]
 .rw[Yq] at b
  rcases q0K b with h|h
  .exact WR (O.lt x h)
  .cases h;calc Xa _
theorem Ba{m:Nat}(f:Mk m):∀(hs:-Int)(owner:Array (Option Nat))(k:Nat),Ow m owner k->lS owner k->k+↑hs<=m+1 →
  ∃b,(hs.foldl (init:=ζ (owner,k)) λd h=>do
   let(owner,k) <- d
   let j <- YJ m owner (turns m) (bits h%(m+1)) (bits h)
   pure (owner.setIfInBounds j (ζ k),k+1))=ζ (b,k+↑hs)/\Ow m b (k+↑hs)/\lS b (k+↑hs)
 |[],a,k,O,e,_=>⟨a,Y,O,e⟩
 |h::c,a,k,O,e,g=>by
  rw[wo] at g ⊢;let⟨j,i,l,n⟩:=HN f O e ⋯ h;let⟨o,p,q,r⟩:=Ba f c _ (k+1) l n ⋯;calc⟨o,?_,by rw[show k+(↑c+1)=k+1+↑c by symm];calc⟨q,r⟩⟩;rw[mq,show k+(↑c+1)=k+1+↑c by symm,<-p];congr 1;show(do let j <- YJ m a (turns m) (bits h%(m+1)) (bits h);pure (a.setIfInBounds j (ζ k),k+1))=_;rw[i];rfl
theorem HP(m:Nat):lS (q3o (m+1) η) 0:=by
 unfold lS;rw[ZM,List.filterMap_eq_nil_iff.mpr λx a=>by rw[Zr a];rfl];calc Y1 _
theorem HQ{m:Nat}(b:Mk m)(hs:Array Int)(hz:hs.size<=m+1):∃owner,layClean m hs=ζ owner/\Ow m owner hs.size/\lS owner hs.size:=by
 let⟨o,e,O,a⟩:=Ba b hs.toList _ 0 (A6 m) (HP m) (by rw[UC];symm);rw[VJ,UC] at O a;calc⟨o,?_,O,a⟩;unfold layClean;rw[<-q2n,e];rfl
theorem HR{m:Nat}{owner:Array (Option Nat)}(hs:owner.size=m+1):(kO m owner).map (·.2)=owner.toList.filterMap id:=by
 unfold kO;rw[List.map_filterMap]
 let e:owner.toList=(Wq (m+1)).map λj=>owner.getD j η:=by
  calc Zd λi=>?_;rw[Wt,B8]
  by_cases a:i<m+1
  .rw[Yx a,q1B,Wk (by rw[hs];calc a),Xf,Wk (by rw[hs];calc a)];rfl
  .rw[XY (by rw[hs];symm),YB (by rw[Xq];symm)];rfl
 rw[e,q2p];congr 1;funext j;show q6S (λx:Nat×Nat=>x.2) (q6S (λx=>(j,x)) (owner.getD j η))=owner.getD j η;cases owner.getD j η<;>rfl
theorem HS{m:Nat}(c:Mk m)(t:SetTable)(hs:Array Int)(b:Nat)(d:sizeAbove b-1=m)(hz:hs.size<=m+1):
  ∃t' order,t.relaid hs b=ζ (t',order)/\t'.mask=m/\t'.dummies = #[]/\t'.place.size=hs.size/\t'.led=t.led/\t'.plain=t.plain/\Up t'.place/\order.toList.Perm (Wq hs.size):=by
 let⟨a,e,O,f⟩:=HQ c hs hz;refine⟨{mask:=m,place:=((kO m a).map (·.1)).toArray,dummies := #[],finger:=t.finger,led:=t.led,moves:=t.movedTo m,plain:=t.plain},((kO m a).map (·.2)).toArray,?_,Y,Y,?_,Y,Y,?_,?_⟩
 .unfold relaid laid
  rw[d,e];rfl
 .rw[KG,nW,vl O]
 .unfold Up
  exact HJ m a
 .show ((kO m a).map (·.2)).Perm _
  rw[HR O.size];calc f
theorem HU{order:Array Nat}{n:Nat}(h:order.toList.Perm (Wq n)):coversAll order n=θ:=by
 calc List.isPerm_iff.mpr h
end LJS
namespace LJS
open PySem PySem.SetTable PyProof.Rows
noncomputable def keyOf(e:Int×M):Int:=match e.2 with
 |.int k _=>k
 |_=>0
structure dP(t:SetTable)(es:Array (Int×M))(led:Bool)(ks:-Int):Prop where
 mX:t.dummies = #[]
 l_:Mk t.mask
 jU:t.place.size=es.size
 iT:t.tooFull=ι
 up:Up t.place
 p8:t.plain=θ
 vt:t.led=led
 sT:∀e∈es.toList,∃k tk,e=(hashInt k,Xm k tk)
 keys:(es.toList.map keyOf).Perm ks
 nF:ks.Nodup
def d7(h:Q)(S:U)(led:Bool)(ks:-Int):Prop:=∃o a b t,h.get? S=ζ o/\o.ExactSet/\o.data=.set a b t/\dP t a led ks
section
variable{t:SetTable}{es:Array (Int×M)}{led:Bool}{ks:-Int}
theorem dP.num(T:dP t es led ks):es.size=↑ks:=by rw[<-T.keys.length_eq,nW,UC]
theorem dP.fill(T:dP t es led ks):t.fill=es.size:=by unfold YW;rw[T.jU,T.mX];rfl
theorem dP.lt(T:dP t es led ks):es.size*5<t.mask*3:=by
 let:=T.iT;unfold tooFull at this;rw[T.fill] at this;let:=q0t this;symm
theorem dP.fits(T:dP t es led ks):t.fits es.size=θ:=by
 let:=T.lt;unfold Z8;rw[T.fill,T.jU];simp;symm
theorem dP.elems{prog:X}{w:l}(T:dP t es led ks):ElemsOf (intKind prog w) es.toList:=λe a=>by
 let⟨k,b,rfl⟩:=T.sT e a;calc⟨⟨k,ZA ..,Y⟩,Y⟩
theorem dP.lay(T:dP t es led ks)(k:Int)(tk:Tok):∃j,j∉t.place.toList/\layNew t es (hashInt k) (.int k tk)=(insertAt es (t.put j).2 (hashInt k,.int k tk),(t.put j).1,ι,ι):=by
 let l:=T.lt;let⟨j,a⟩:=A2 (t:=t) (f:=λ_=>hashInt k+1) (h:=hashInt k) T.mX T.l_ (by rw[T.jU];symm) (λi _ z=>by symm);let b:t.slot j=.empty:=vq a;let⟨c,d,e,_⟩:=vm t T.mX j;refine⟨j,HL T.up b,?_⟩
 let g:(t.put j).1.fits (insertAt es (t.put j).2 (hashInt k,Xm k tk)).size=θ:=by
  unfold Z8 YW;rw[c,d,e,vn,T.jU];simp;symm
 unfold layNew freeSlot;rw[a];show(insertAt es (t.put j).2 (hashInt k,Xm k tk),(t.put j).1.orStandIn (insertAt es (t.put j).2 (hashInt k,Xm k tk)).size,ι,!(t.put j).1.fits (insertAt es (t.put j).2 (hashInt k,Xm k tk)).size)=_;unfold SetTable.orStandIn;rw[g,VE Y];rfl
end
section
variable{prog:X}{w:l}{A:t}{E:br}{s:L}
theorem add_int{S:ξ}{k:Int}{tk:Tok}{led:Bool}{ks:-Int}{Q:Bool->ο->Prop}(hS:d7 s.heap S led ks)(hl:↑ks<60)
  (l:∀(b:Bool) h',Zk S s.heap h'->d7 h' S led (if k∈ks then ks else ks++[k])->Q b {s with heap:=h'}):ρ (ς prog w) A (setAddHashed S (.int k tk) (hashInt k)) Q E s:=by
 let⟨o,es,U,t,D,u,C,T⟩:=hS;let V:es.size<scanBound:=by rw[T.num];unfold scanBound;symm
 let el:=T.elems (prog:=prog) (w:=w);show ρ _ _ (setAddHashedIn S (.int k tk) (hashInt k) (99999+1)) _ _ _;calc nX (Yr D C T.fits ?_);dsimp only;rw[byScan_of (knd:=intKind prog w) rfl V el];calc nX ?_;calc nX (q1p ?_);refine nX (wpAny_setScan_of (knd:=intKind prog w) (k:=k) (ZA ..) D C T.fits el ?_)
 let F:∀e∈es.toList,(intKind prog w).is k e.2=μ (k=keyOf e):=λe p=>by
  let⟨k',jD,rfl⟩:=T.sT e p;exact KeyKind.is_eq_decide (ZA ..) k
 cases hr:es.toList.findIdx? (λe=>(intKind prog w).is k e.2) with
 |some j =>
  let⟨hj,G,_⟩:=List.findIdx?_eq_some_iff_getElem.mp hr;let H:es.toList[j]∈es.toList:=Yi hj;rw[F _ H] at G;let N:k∈ks:=T.keys.mem_iff.mp (by rw[W_ G];calc VI.mpr ⟨_,H,rfl⟩);calc B7 (B7 ?_);let e:s={s with heap:=s.heap}:=by cases s;rfl
  exact l ι s.heap (Heap.SameBut.refl S s.heap) (by rw[VE N];calc⟨o,es,U,t,D,u,C,T⟩)
 |none =>
  let N:k∉ks:=λz=>by
   let⟨e,p,ek⟩:=VI.mp (T.keys.mem_iff.mpr z);let:=List.findIdx?_eq_none_iff.mp hr e p;rw[F e p,<-ek,VH rfl] at this;cases this
  let⟨j,nj,ej⟩:=T.lay k tk;rw[ej];rw[VC N] at l;let⟨W,p2,X,Y,O,p6,p7⟩:=vm t T.mX j;let I:=HH T.up nj;let d:=vn es (t.put j).2 (hashInt k,Xm k tk)
  let v:(insertAt es (t.put j).2 (hashInt k,Xm k tk)).toList.Perm (es.toList++[(hashInt k,Xm k tk)]):=by
   let:=SetTable.insertAt_perm es (t.put j).2 (hashInt k,Xm k tk);rw[ZN] at this;exact this
  let lt:=T.lt;let sR:es.size<60:=by rw[T.num];exact hl
  generalize(t.put j).1=f at W p2 X Y O I ⊢;generalize insertAt es (t.put j).2 (hashInt k,Xm k tk)=c at d v ⊢
  let g:∀e∈c.toList,∃k tk,e=(hashInt k,Xm k tk):=λe p=>by
   rcases VZ.mp (v.mem_iff.mp p) with q|q
   .exact T.sT e q
   .exact⟨k,tk,Wn.mp q⟩
  let h:(c.toList.map keyOf).Perm (ks++[k]):=by
   calc(v.map keyOf).trans ?_;rw[VR];exact List.Perm.append_right _ T.keys
  let r:(ks++[k]).Nodup:=Xs.mpr ⟨T.nF,by simp,λa ha b V z=>N (by rw[<-Wn.mp V,<-z];calc ha)⟩;let J:f.place.size=c.size:=by rw[X,T.jU,d]
  let fl:f.fill=es.size+1:=by unfold YW;rw[W,X,T.jU];rfl
  calc nX (B7 ?_);dsimp only;rw[O,T.p8,VE rfl];calc nX ?_;rw[hashByValue_scannable 8 rfl];calc B7 ?_;rw[VE (show plainKind (Xm k tk)=θ from rfl)];refine nX (ZO D C ?_ (by rw[d,Yh];symm))
  let y:(s.heap.update S (Y8 c f)).get? S=ζ {o with data:=.set c (U+1) f}:=by
   let:=Xl (Y8 c f) D (by rw[q1b c f C];rfl);rw[q1b c f C] at this;exact this
  by_cases Z:f.tooFull=θ
  .rw[VE (by rw[Z];rfl)]
   let K:t.mask*3<=(es.size+1)*5:=by
    unfold tooFull at Z;let:=W_ Z;symm
   let⟨m,H,hw,hsz⟩:∃m,Mk m/\sizeAbove (grown c.size)-1=m/\(es.size+1)*5<m*3:=by
    rw[d];rcases T.l_ with e|e|e
    .rw[e] at lt K
     let:es.size+1=5:=by symm
     rw[this];exact⟨31,.inr (.inl rfl),A8,⋯⟩
    .rw[e] at lt K
     let:es.size+1=19:=by symm
     rw[this];exact⟨127,.inr (.inr rfl),A9,⋯⟩
    symm
   let⟨B,order,er,r1,r2,P,r4,r5,r6,R⟩:=HS H f (c.map (·.1)) (grown c.size) hw (by rw[ZP,d];symm);rw[ZP] at P R;let i:=relayAll_perm f c (grown c.size)
   let e3:relayAll f c (grown c.size)=(order.filterMap (c[·]?),B,ι):=by
    let HV:(order.filterMap (c[·]?)).size=c.size:=by
     let:=A7 (es:=c) (order:=order) λx hx=>Wz.mp (R.mem_iff.mp hx);rw[this.1,<-UC,R.length_eq,Xq]
    let ff:B.fits (order.filterMap (c[·]?)).size=θ:=by
     unfold Z8 YW;rw[HV,r2,P,r1,d];simp;symm
    unfold relayAll;rw[er];show(if(coversAll order c.size&&B.fits (order.filterMap (c[·]?)).size)=θ then _ else _)=_;rw[HU R,ff];rfl
   rw[e3] at i ⊢;calc nX (B7 ?_);generalize order.filterMap (c[·]?)=n at i ⊢;let L:n.size=c.size:=by rw[<-UC,i.length_eq,UC]
   refine nX (ZO y rfl ?_ (by rw[L,d,Yh];symm))
   let HW:((s.heap.update S (Y8 c f)).update S (Y8 n B)).get? S=ζ {o with data:=.set n (U+1+1) B}:=by
    let:=Xl (Y8 n B) y (by rw[q1b _ B rfl];rfl);exact this
   calc B7 (B7 (l θ _ ((Xb ..).trans (Xb ..)) ⟨_,_,_,_,HW,u,rfl,r2,by rw[r1];calc H,by rw[P,L],?_,r6,by rw[r5,O];calc T.p8,by rw[r4,Y];calc T.vt,λe p=>g e (i.mem_iff.mp p),(i.map keyOf).trans h,r⟩));unfold tooFull YW;rw[r2,P,r1,d];simp;symm
  .let M:f.tooFull=ι:=by cases q:f.tooFull<;>simp_all
   rw[VC (by rw[M];decide)];calc B7 (B7 (l θ _ (Xb ..) ⟨_,_,_,_,y,u,rfl,W,by rw[p2];calc T.l_,J,M,I,by rw[O];calc T.p8,by rw[Y];calc T.vt,g,h,r⟩))
theorem HX{ks:-Int}:∀{vs:-M},ItemsAre (intKind prog w) ks vs->∀v∈vs,∃i t,v=.int i t:=by
 induction ks with
 |nil=>ext b h v a;cases h;cases a
 |cons k f c =>
  ext b h v a
  cases h with
  |cons h1 d =>
   rcases Uy.mp a with rfl|a
   .let⟨t,e⟩:=q0P (k:=k) (v:=v) (by first|exact h1|simpa[intKind] using h1)
    exact⟨_,_,e⟩
   .calc c d v a
theorem HY{ks:-Int}{a:U}{Q:Bool->L->Prop}(j:IsTupleKey (intKind prog w) s.heap ks a)(h:∀b,Q b s):G (B prog w) A (hashByValue 8 (.ref a)) Q E s:=by
 let k:=j.typeIs;let⟨o,f,n,l,_,m,p⟩:=j;show G _ _ (hashByValue (7+1) (.ref a)) _ _ _;unfold hashByValue;calc nX (q0e k F.slot_tuple_hash.lookup ?_);show G _ _ (seqItems? (.ref a) >>= _) _ _ s;calc nX (ZQ l m ?_);calc nX ?_;show G _ _ (forIn f _ _) _ _ s;rw[<-Array.forIn_toList];refine q1c _ (λc _ g=>g=s/\∀v∈c,∃i t,v=Xm i t) _ ?_ ?_ _ _ ⟨Y,HX p⟩
 .ext v c r g ⟨rfl,d⟩
  let⟨i,t,rfl⟩:=d v Uz;let e:hashByValue 7 (.int i t)=pure θ:=by unfold hashByValue;rfl
  rw[e];calc nX (B7 ?_);erw[WC,VQ,W8];exact B7 ⟨Y,λu q=>d u (UA _ q)⟩
 .ext ⟨x,y⟩ g ⟨rfl,_⟩
  cases x with
  |none=>exact B7 (h _)
  |some b=>calc B7 (h _)
theorem vu{h h':Q}{ks:-Int}{a:U}(x:IsTupleKey (intKind prog w) h ks a)(k:∀o,h.get? a=ζ o->h'.get? a=ζ o):IsTupleKey (intKind prog w) h' ks a:=by
 let⟨o,b,n,c,r⟩:=x;calc⟨o,b,n,k o c,r⟩
noncomputable abbrev hT(prog:X)(w:l)(ks:-Int):Int:=tupleKeyHash (intKind prog w) ks
theorem vv{h h':Q}{S:U}{hs:-Int}(x:g4 h S hs)(k:∀o,h.get? S=ζ o->h'.get? S=ζ o):g4 h' S hs:=by
 let⟨o,a,b,t,c,r⟩:=x;calc⟨o,a,b,t,k o c,r⟩
end
section
variable{prog:X}{w:l}{A:t}{R:Result->L->Prop}{I S:U}{fp wr:-U}{G:Array GenState->Array GenState->Prop}{n:Nat}{P:Nat->M->Prop}{St:Nat->L->Prop}
theorem HZ(W:WalksS prog w A.in1 I fp wr G n P St)(out:S∉fp)(r:Nat->ξ)(ks:Nat->-Int)(u:∀i v,P i v->v=.ref (r i))(c:∀i,i<n->r i∉S::wr)(x:A.in1.units<cLine)
  (f:∀i j,i<n->j<i->hT prog w (ks j)≠hT prog w (ks i)) (N:n<=30) :
  ∀(a i:Nat)(s:ο),i+a=n->St i s->(∀j,j<n->IsTupleKey (intKind prog w) s.heap (ks j) (r j))->g4 s.heap S ((Wq i).map λj=>hT prog w (ks j)) →
   (∀s',Moved (S::wr) G s s'->g4 s'.heap S ((Wq n).map λj=>hT prog w (ks j))->R (.ok (.ret .none)) s') →
   codeAny (ς prog w) A (.builtin "set.update.loop" ⟨[.ref S,.ref I],[]⟩) R s:=by
 let h:S∉wr:=λz=>out (W.sub _ z);let d:∀b,b∈wr->b∈S::wr:=λb k=>UA _ k;ext a
 induction a with
 |zero =>
  ext i s O B M C l;obtain rfl:i=n:=by symm
  calc Xe Yj ?_;rw[Xi Xn _];show ρ _ A.in1 (pyNext (.ref I) >>= _) _ _ s;calc nX (W.done s _ _ B λL t=>?_);show ρ _ A.in1 (ret WB) _ _ L;exact B7 (l L (t.mono d) (vv C λo e=>t.heap S o h e))
 |succ a Q =>
  ext i s O B M C l;let g:i<n:=by symm
  calc Xe Yj ?_;rw[Xi Xn _];show ρ _ A.in1 (pyNext (.ref I) >>= _) _ _ s;calc nX (W.item i s _ _ g B λv y T D t=>?_);obtain rfl:=u i v T;let p:∀j,j<n->IsTupleKey (intKind prog w) y.heap (ks j) (r j):=λj m=>vu (M j m) λo e=>t.heap _ o (λz=>c j m (d _ z)) e;show ρ _ A.in1 (holding [WQ (r i)] (setAdd S (.ref (r i))) >>= _) _ _ y;calc nX (WK ?_);unfold setAdd;calc WK (nX (wpAny_pyHash_tuple x (p i g) ?_));refine HE (s:={y with toks:=y.toks+(↑(ks i)+1)}) (hs:=(Wq i).map λj=>hT prog w (ks j)) rfl (vv C λo e=>t.heap S o h e) (λz=>?_) (by rw[nW,Xq];symm) (λX q=>HY (p i g) q) λY E H=>?_
  .let⟨j,m,e⟩:=VI.mp z
   exact f i j g (Wz.mp m) e
  .let U:∀b,b∈fp->b≠S:=λb k z=>out (by rw[<-z];calc k)
   refine B7 ⟨Yo Xn _,Q (i+1) _ ⋯ (W.frame _ y _ _ D (Y2 _ _) λb k o e=>by rw[E.2 b (U b k)];calc e) (λj m=>vu (p j m) λo e=>?_) (by rw[Zv,VR];calc H) λV J K=>?_⟩
   .rw[E.2 _ (λz=>c j m (by rw[z];calc Uz))];exact e
   .refine l V (q3j W.gtrans ((t.mono d).then_heap (Y2 _ _) λb o k e=>?_) J) K
    rw[E.2 b (λz=>k (by rw[z];calc Uz))];calc e
end
theorem p9{h h':Q}{S:U}{led:Bool}{ks:-Int}(x:d7 h S led ks)(k:∀o,h.get? S=ζ o->h'.get? S=ζ o):d7 h' S led ks:=by
 let⟨o,a,b,t,c,r⟩:=x;calc⟨o,a,b,t,k o c,r⟩
noncomputable def once(ks:-Int)(n:Int):-Int:=if n∈ks then ks else ks++[n]
noncomputable def hX(ns:-Int):Nat->-Int
 |0=>[]
 |i+1=>once (hX ns i) (ns.getD i 0)
theorem vw(ns:-Int):∀i,↑(hX ns i)<=i
 |0=>B6 _
 |i+1=>by
  let:=vw ns i;show↑(once (hX ns i) (ns.getD i 0))<=i+1;unfold once;split
  .omega
  .rw[qG,WJ];symm
section
variable{prog:X}{w:l}{A:t}{R:Result->L->Prop}{I S:U}{fp wr:-U}{G:Array GenState->Array GenState->Prop}{n:Nat}{P:Nat->M->Prop}{St:Nat->L->Prop}
theorem H7(W:WalksS prog w A.in1 I fp wr G n P St)(out:S∉fp){led:Bool}(ns:-Int)(f:∀i v,P i v->∃t,v=.int (ns.getD i 0) t)(E:n<=40):
  ∀(a i:Nat)(s:ο),i+a=n->St i s->d7 s.heap S led (hX ns i)->(∀s',Moved (S::wr) G s s'->d7 s'.heap S led (hX ns n)->R (.ok (.ret .none)) s') →
   codeAny (ς prog w) A (.builtin "set.update.loop" ⟨[.ref S,.ref I],[]⟩) R s:=by
 let c:S∉wr:=λz=>out (W.sub _ z);let d:∀b,b∈wr->b∈S::wr:=λb g=>UA _ g;ext a
 induction a with
 |zero =>
  ext i s H m p h;obtain rfl:i=n:=by symm
  calc Xe Yj ?_;rw[Xi Xn _];show ρ _ A.in1 (pyNext (.ref I) >>= _) _ _ s;calc nX (W.done s _ _ m λB j=>?_);show ρ _ A.in1 (ret WB) _ _ B;exact B7 (h B (j.mono d) (p9 p λo e=>j.heap S o c e))
 |succ a J =>
  ext i s H m p h;let q:i<n:=by symm
  calc Xe Yj ?_;rw[Xi Xn _];show ρ _ A.in1 (pyNext (.ref I) >>= _) _ _ s;calc nX (W.item i s _ _ q m λv l K r j=>?_);let⟨t,rfl⟩:=f i v K;show ρ _ A.in1 (holding [Xm (ns.getD i 0) t] (setAdd S (.int (ns.getD i 0) t)) >>= _) _ _ l;calc nX (WK ?_);unfold setAdd;calc WK (nX ((intKind prog w).pyHash (k:=ns.getD i 0) (ZA _ _ _ _) ?_));let C:=vw ns i;calc add_int (s:={l with toks:=l.toks+1}) (p9 p λo e=>j.heap S o c e) ⋯ λb N D u=>?_;let L:∀b,b∈fp->b≠S:=λb g z=>out (by rw[<-z];calc g);refine B7 ⟨Yo Xn _,J (i+1) _ ⋯ (W.frame _ l _ _ r (Y2 _ _) λb g o e=>by rw[D.2 b (L b g)];calc e) u λM x y=>?_⟩
  calc h M (q3j W.gtrans ((j.mono d).then_heap (Y2 _ _) λb o g e=>?_) x) y;rw[D.2 b (λz=>g (by rw[z];calc Uz))];calc e
end
noncomputable abbrev cn(led:Bool):Γ:={cls:=.type "set",dict:=none,data:=.set #[] 0 (.fresh 0 0 led)}
theorem H_{h:Q}{S:U}{led:Bool}(e:h.get? S=ζ (cn led)):g4 h S [] :=
 ⟨_,#[],0,_,e,⟨Y,Y,Y⟩,Y,Y,.inl Y,Y,Y,by cases led<;>decide,λ_ h=>nomatch h⟩
section
variable{prog:X}{w:l}{A:t}{E:br}{s:L}
set_option maxHeartbeats 3200000 in
theorem Ia {l:U} {items:Array M} {Q:br} (ad:Nat->U) (ks:Nat->-Int) (hh:A.handled=η) (room:A.units+8<cLine) (isL:s.heap.IsList l items) (vx:∀(i:Nat)(v:M),items[i]?=ζ v->v=.ref (ad i))
  (tk:∀i,i<items.size->IsTupleKey (intKind prog w) s.heap (ks i) (ad i)) (unlike:∀i j,i<items.size->j<i->hT prog w (ks j)≠hT prog w (ks i)) (jE:items.size<=30)
  (fin:∀(h':Α)(tk:Nat),g4 h' ⇑s ((Wq items.size).map λj=>hT prog w (ks j))->(∀b o,b<⇑s->s.heap.get? b=ζ o->h'.get? b=ζ o)->Q (.ref ⇑s) {s with heap:=h',toks:=tk}) :
  G (B prog w) A (call (.type "set") [.ref l]) Q E s:=by
 let⟨c,tl,p_⟩:=W6.mro;let m1:=W6.made;let m2:=W6.sub;let m3:=W6.notType;let m4:=W6.canCreate;let m5:=q1d (.ref l);calc q0w (q0f ?_);show G _ _ (callAny (.type "set") _) _ _ _;calc B7 ⟨q0x _ (by decide +kernel),Xe q0Q ?_⟩;rw[q0y (Z1 "set" [.ref l] []) Y]
 repeat(any_goals (first|assumption|wp_step))
 refine YF (code_set_new_1 (.ref l) (E:=E) (Q₁:=λr s1=>∃led:Bool,r=.ref ⇑s/\s1={s with heap:=s.heap.push (cn led)}) λled=>⟨led,Y,Y⟩) λr s1 hr=>?_
 cases r with
 |error e=>exact hr
 |ok fl =>
  cases fl with
  |ret obj =>
   let⟨led,rfl,rfl⟩:=hr;let gS:(s.heap.push (cn led)).get? ⇑s=ζ (cn led):=UD _ Y;let tS:q2i {s with heap:=s.heap.push (cn led)} (.ref ⇑s) "set" := ⟨_,gS,Y⟩;let m6:=W6.init.lookup;let m7:=W6.init.bind (.ref ⇑s)
   repeat(any_goals (first|assumption|wp_step))
   refine YF (q0a (R:=wants (λr s2=>r=.none/\∃h' tk,s2={s with heap:=h',toks:=tk}/\g4 h' ⇑s ((Wq items.size).map λj=>hT prog w (ks j)) ∧
     ∀b o,b<⇑s->s.heap.get? b=ζ o->h'.get? b=ζ o) E) W6.init.plain q1e (q1f tS ?_)) λr2 s2 iU=>?_
   .let⟨ol,gl,cl,nl,dl⟩:=isL
    let⟨c0,d0,vy,nG⟩:=ol;simp only at cl dl;subst cl;subst dl;let nH:(s.heap.push (cn led)).get? l=ζ {cls:=.type "list",dict:=d0,data:=.seq items nl,slots:=nG}:=B5 _ gl;let x1:=q1W;let x2:=q0b;let x3:(XS "list" == XS "dict")=ι:=by decide
    let g5:(s.heap.push (cn led)).IsList l items:=⟨_,nH,Y,nl,Y⟩;let ll:l<⇑s:=Vz gl;unfold Builtin.«set.__init__» noKeywords Za;generalize oZ:pyIter=PI
    wp_walk
    subst oZ;calc Yt g5 (nX (Zf ?_));let h3:A.in1.in1.in1.handled=η:=by simp[hh]
    let ez:(s.heap.push (cn led)).objs.size=⇑s+1:=XG ..;let nI:l≠(s.heap.push (cn led)).objs.size:=by rw[ez];exact VF (WR ll)
    let lt:∀i,i<items.size->ad i<⇑s:=λi hi=>by
     let⟨o,_,_,e,_⟩:=tk i hi;exact Vz e
    refine HZ ((ZC h3 _ l nI items).toS) (S:=s.heap.objs.size) ?out ad ks (λi v hv=>vx i v hv) ?apart ?room unlike jE items.size 0 _ (VJ _)
     ⟨⟨_,UD _ Y,Y,Y⟩,g5.push _⟩ ?tk ?fresh ?fin
    case out =>
     erw[Uy,Wx,YC,q1q,ez];exact⟨VF (Xa _),Yc ll⟩
    case apart =>
     ext i hi;let:=lt i hi;erw[Uy,Wx,YC,q1q,ez];exact⟨VF this,VF (WR this)⟩
    case room =>
     show A.units+1+1+1<cLine;exact Zz (Nat.add_le_add_left (by decide:3<=8) _) room
    case tk =>
     ext j hj;exact vu (tk j hj) λo e=>B5 _ (B5 _ e)
    case fresh =>
     exact H_ (led:=led) (B5 _ gS)
    case fin =>
     ext s' mv se;let⟨h',g',d',jD,nJ⟩:=s';obtain rfl:g'=s.gens:=mv.gens;obtain rfl:d'=s.drawn:=mv.drawn;obtain rfl:nJ=s.os:=mv.os;show G _ _ _ _ _ _;calc B7 ?_;show G _ _ (ret WB) _ _ _;calc B7 ⟨Y,h',jD,Y,se,λb o hb e=>?_⟩;calc mv.heap b o ?_ (B5 _ (B5 _ e));erw[Uy,Wx,YC,q1q,ez];exact⟨VF hb,VF (WR hb)⟩
   .cases r2 with
    |error e=>exact iU
    |ok qa =>
     cases qa with
     |ret r =>
      let⟨rfl,h',jD,rfl,se,kp⟩:=iU
      repeat(any_goals (first|assumption|wp_step))
      exact fin _ _ se kp
     |next=>exact iU
     |brk=>exact iU
     |cont=>exact iU
  |next=>exact hr
  |brk=>exact hr
  |cont=>calc hr
end
noncomputable abbrev gI(w:l):Bool := !w.params.followText "set-order"
theorem vz{h:Q}{S:U}{led:Bool}(e:h.get? S=ζ (cn led)):d7 h S led [] :=
 ⟨_,#[],0,_,e,⟨Y,Y,Y⟩,Y,Y,.inl Y,Y,by cases led<;>decide,q2C,Y,Y,(λ_ h=>nomatch h),Y1 _,YL⟩
section
variable{prog:X}{w:l}{A:t}{E:br}{s:L}
theorem Bb(a:M){Q₁:br}(h:Q₁ (.ref ⇑s) {s with heap:=s.heap.push (cn (gI w))}):
  codeAny (B prog w) A (.call (.builtin "set.__new__") ⟨[.type "set",a],[]⟩) (wants Q₁ E) s:=by
 calc q0f ?_;show G _ A.in1 (checkBuiltinCall "set.__new__" ⟨[.type "set",a],[]⟩ >>= λ_=>again (.builtin "set.__new__" ⟨[.type "set",a],[]⟩)) _ _ s;calc nX (q1X (F.newCall_set_1 a) (B7 ⟨Yo q3q _,?_⟩));calc Xe F.entry_set_new ?_;rw[Xi q3q _];let b:=sub_set_self;unfold Builtin.«set.__new__» Builtin.Frozenset.newClass newSet setsByText;let⟨c,g,d,e,f⟩:=s;dsimp only
 wp_walk
 calc Zl (B7 ?_);dsimp only;erw[newObj];exact nX (wpAny_alloc (B7 (B7 h)))
set_option maxHeartbeats 3200000 in
theorem Ib {l:U} {items:Array M} {Q:br} (ns:-Int) (hh:A.handled=η) (isL:s.heap.IsList l items) (isInt:∀(i:Nat)(v:M),items[i]?=ζ v->∃t,v=.int (ns.getD i 0) t) (Ic:items.size<=40)
  (fin:∀(h':Α)(tk:Nat),d7 h' ⇑s (gI w) (hX ns items.size)->(∀b o,b<⇑s->s.heap.get? b=ζ o->h'.get? b=ζ o)->Q (.ref ⇑s) {s with heap:=h',toks:=tk}) :
  G (B prog w) A (call (.type "set") [.ref l]) Q E s:=by
 let⟨c,tl,p_⟩:=W6.mro;let m1:=W6.made;let m2:=W6.sub;let m3:=W6.notType;let m4:=W6.canCreate;let m5:=q1d (.ref l);calc q0w (q0f ?_);show G _ _ (callAny (.type "set") _) _ _ _;calc B7 ⟨q0x _ (by decide +kernel),Xe q0Q ?_⟩;rw[q0y (Z1 "set" [.ref l] []) Y]
 repeat(any_goals (first|assumption|wp_step))
 refine YF (Bb (.ref l) (E:=E) (Q₁:=λr s1=>r=.ref ⇑s/\s1={s with heap:=s.heap.push (cn (gI w))}) ⟨Y,Y⟩) λr s1 hr=>?_
 cases r with
 |error e=>exact hr
 |ok fl =>
  cases fl with
  |ret obj =>
   let⟨rfl,rfl⟩:=hr;generalize vA:gI w=led at fin ⊢;let gS:(s.heap.push (cn led)).get? ⇑s=ζ (cn led):=UD _ Y;let tS:q2i {s with heap:=s.heap.push (cn led)} (.ref ⇑s) "set" := ⟨_,gS,Y⟩;let m6:=W6.init.lookup;let m7:=W6.init.bind (.ref ⇑s)
   repeat(any_goals (first|assumption|wp_step))
   refine YF (q0a (R:=wants (λr s2=>r=.none/\∃h' tk,s2={s with heap:=h',toks:=tk}/\d7 h' ⇑s led (hX ns items.size) ∧
     ∀b o,b<⇑s->s.heap.get? b=ζ o->h'.get? b=ζ o) E) W6.init.plain q1e (q1f tS ?_)) λr2 s2 iU=>?_
   .let⟨ol,gl,cl,nl,dl⟩:=isL
    let⟨c0,d0,vy,nG⟩:=ol;simp only at cl dl;subst cl;subst dl;let nH:(s.heap.push (cn led)).get? l=ζ {cls:=.type "list",dict:=d0,data:=.seq items nl,slots:=nG}:=B5 _ gl;let x1:=q1W;let x2:=q0b;let x3:(XS "list" == XS "dict")=ι:=by decide
    let g5:(s.heap.push (cn led)).IsList l items:=⟨_,nH,Y,nl,Y⟩;let ll:l<⇑s:=Vz gl;unfold Builtin.«set.__init__» noKeywords Za;generalize oZ:pyIter=PI
    wp_walk
    subst oZ;calc Yt g5 (nX (Zf ?_));let h3:A.in1.in1.in1.handled=η:=by simp[hh]
    let ez:(s.heap.push (cn led)).objs.size=⇑s+1:=XG ..;let nI:l≠(s.heap.push (cn led)).objs.size:=by rw[ez];exact VF (WR ll)
    refine H7 ((ZC h3 _ l nI items).toS) (S:=s.heap.objs.size) ?out (led:=led) ns (λi v hv=>isInt i v hv) Ic items.size 0 _ (VJ _)
     ⟨⟨_,UD _ Y,Y,Y⟩,g5.push _⟩ ?fresh ?fin
    case out =>
     erw[Uy,Wx,YC,q1q,ez];exact⟨VF (Xa _),Yc ll⟩
    case fresh =>
     exact vz (led:=led) (B5 _ gS)
    case fin =>
     ext s' mv se;let⟨h',g',d',jD,nJ⟩:=s';obtain rfl:g'=s.gens:=mv.gens;obtain rfl:d'=s.drawn:=mv.drawn;obtain rfl:nJ=s.os:=mv.os;show G _ _ _ _ _ _;calc B7 ?_;show G _ _ (ret WB) _ _ _;calc B7 ⟨Y,h',jD,Y,se,λb o hb e=>?_⟩;calc mv.heap b o ?_ (B5 _ (B5 _ e));erw[Uy,Wx,YC,q1q,ez];exact⟨VF hb,VF (WR hb)⟩
   .cases r2 with
    |error e=>exact iU
    |ok qa =>
     cases qa with
     |ret r =>
      let⟨rfl,h',jD,rfl,se,kp⟩:=iU
      repeat(any_goals (first|assumption|wp_step))
      exact fin _ _ se kp
     |next=>exact iU
     |brk=>exact iU
     |cont=>exact iU
  |next=>exact hr
  |brk=>exact hr
  |cont=>calc hr
end
theorem bC:Slot "set_iterator" "__next__" "set_iterator.__next__" :=
 .of (owner:="set_iterator") (n:="__next__") (by rw[q3r,q1M];kernel_rfl) (by decide +kernel) (by decide +kernel) (by decide +kernel)
  (by first|exact .inl (by decide +kernel)|calc .inr (by decide +kernel)) (by rw[q1Y];kernel_rfl)
theorem Bc:Slot "set_iterator" "__iter__" "set_iterator.__iter__" :=
 .of (owner:="set_iterator") (n:="__iter__") (by rw[q3r,q1M];kernel_rfl) (by decide +kernel) (by decide +kernel) (by decide +kernel)
  (by first|exact .inl (by decide +kernel)|calc .inr (by decide +kernel)) (by rw[q1Y];kernel_rfl)
theorem Bd:entryFor table "set_iterator.__next__" = ζ Builtin.«set_iterator.__next__» := entryFor_of_fast (by kernel_rfl)
theorem Ie:entryFor table "set_iterator.__iter__" = ζ Builtin.«dict_keyiterator.__iter__» :=
 q3M (id':="dict_keyiterator.__iter__") (by kernel_rfl) Y (by decide +kernel) (by kernel_rfl)
theorem Ig:entryFor table "set.__iter__" = ζ Builtin.«frozenset.__iter__» :=
 q3M (id':="frozenset.__iter__") (by kernel_rfl) Y (by decide +kernel) (by kernel_rfl)
theorem Be(a:M):argsOk "set_iterator.__next__" ⟨[a],[]⟩:=by unfold argsOk;kernel_rfl
theorem Ih(a:M):argsOk "set_iterator.__iter__" ⟨[a],[]⟩:=by unfold argsOk;kernel_rfl
def dk(h:Q)(I S:U)(first:M)(i n ep:Nat):Prop:=∃o,h.get? I=ζ o/\o.cls=.type "set_iterator" /\ o.data=.fields #[first,.int i 0,.ref S,.int n 0,.int ep 0]
theorem dk.typeIs{s:L}{I S:U}{f:M}{i n ep:Nat}(x:dk s.heap I S f i n ep):s.TypeIs (.ref I) "set_iterator" := let⟨o,a,b,_⟩:=x;⟨o,a,b⟩
theorem dk.at{h h':Q}{I S:U}{f:M}{i n ep:Nat}(x:dk h I S f i n ep)(e:∀o,h.get? I=ζ o->h'.get? I=ζ o):dk h' I S f i n ep:=let⟨o,a,r⟩:=x;⟨o,e _ a,r⟩
noncomputable def iO(w:l)(S:U)(ep:Nat)(es:Array (Int×M)):Array (Int×M):=if w.params.followText "set-order" = θ then pickOrder (w.params.setOrder S ep) es else es
theorem vB(w:l)(S:U)(ep:Nat)(es:Array (Int×M)):(iO w S ep es).toList.Perm es.toList:=by
 unfold iO;split
 .exact HK _ _
 .calc Y1 _
theorem sU(w:l)(S:U)(ep:Nat)(es:Array (Int×M)):(iO w S ep es).size=es.size:=by
 let:=(vB w S ep es).length_eq;simpa using this
noncomputable def slotAt(t:SetTable)(i:Nat):Nat:=if i=0 then 0 else t.place.getD (i-1) 0+1
structure vC(w:l)(I S:U)(o:Γ)(es:Array (Int×M))(ep:Nat)(t:SetTable)(i:Nat)(h:Q):Prop where
 set:h.get? S=ζ o
 it:∃slot:Nat,dk h I S (.int slot 0) i es.size ep/\(w.params.followText "set-order" = ι->slot=slotAt t i)
section
variable{prog:X}{w:l}{A:Β}{I S:U}{o:Γ}{es:Array (Int×M)}{ep:Nat}{t:SetTable}{ks:-Int}
theorem Ii(T:dP t es (gI w) ks){i:Nat}(b:i<=es.size):below t.place (slotAt t i)=i:=by
 unfold slotAt;split
 .rename_i h;subst h;exact HG T.up
 .rename_i h
  let a:i-1<t.place.size:=by rw[T.jU];symm
  let e:t.place.getD (i-1) 0=t.place[i-1]:=by simp[q2q,a]
  rw[e,HF T.up a];symm
theorem Bf{E:br}{s:L}{Q:Option (M×Nat)->L->Prop}(j:s.heap.get? S=ζ o)(hd:o.data=.set es ep t)(T:dP t es (gI w) ks){slot i:Nat}(m:i<=es.size)(hs:w.params.followText "set-order" = ι->slot=slotAt t i)
  (k:∀b:Nat,(w.params.followText "set-order" = ι->i<es.size->b=slotAt t (i+1))->Q (((iO w S ep es)[i]?).map λe=>(e.2,b)) s):G (B prog w) A (setNext S slot i ep) Q E s:=by
 calc nX (Yr j hd T.fits ?_);calc nX ?_;calc nX (Zl (B7 ?_));let d:(B prog w).w=w:=Y
 cases q:w.params.followText "set-order" with
 |true =>
  rw[d,q];erw[q0R,VQ,W8,Xk];calc nX ?_;calc nX (Yr j hd T.fits ?_);calc nX ?_;calc nX (Zl (B7 ?_));rw[d,q,VE Y];calc nX (Zl (B7 ?_));calc B7 ?_;let:=k slot λz=>by rw[q] at z;cases z
  unfold iO at this;rw[VE q] at this;exact this
 |false =>
  rw[d,q,VC (by decide)];let f:=hs q;subst f;let n:=Ii T m;rw[n];calc q1C (λh=>absurd (show(!t.plain&&μ (es.size>1))=θ from h) (by rw[T.p8];simp)) (λ_=>?_);calc nX ?_;calc q1C (c:=(!t.led && !es.isEmpty)=θ) (λh=>absurd h (by rw[T.vt];unfold gI;rw[q];simp)) (λ_=>?_);calc B7 (B7 ?_);let a:=k (slotAt t (i+1)) λ_ _=>Y;unfold iO at a;rw[VC (by rw[q];decide)] at a
  by_cases g:i<es.size
  .let l:i<t.place.size:=by rw[T.jU];exact g
   rw[Wk g] at a;rw[Wk g,Wk l]
   let e:slotAt t (i+1)=t.place[i]+1:=by
    unfold slotAt;simp[q2q,l]
   rw[e] at a;exact a
  .rw[XY ⋯] at a
   rw[XY ⋯];calc a
theorem Bg{E:br}{s:L}{a:U}{b:Γ}{vs:Array M}{Q:Array M->L->Prop}(c:s.heap.get? a=ζ b)(hd:b.data=.fields vs)(h:Q vs s):G (B prog w) A (fieldsOf (.ref a)) Q E s:=by
 calc nX (q1r c ?_);rw[hd];calc B7 h
theorem Ij(L:A.handled=η)(p:S≠I)(M:o.ExactSet)(hd:o.data=.set es ep t)(T:dP t es (gI w) ks):
  Walks prog w A I [I,S] [I] es.size (λi v=>∃e,(iO w S ep es)[i]?=ζ e/\v=e.2) (vC w I S o es ep t) where
 sub:=λb n=>by simp at n;simp[n]
 frame:=λi h O f D=>⟨D S (by simp) _ f.set,let⟨slot,x,y⟩:=f.it;⟨slot,x.at λo e=>D I (by simp) o e,y⟩⟩
 item:=λi s Q E F f q=>by
  let⟨slot,c,u⟩:=f.it;let⟨N,g,G,d⟩:=id c
  refine nX (q39 (Yk (name:=Xz "__next__") c.typeIs bC
   (XJ bC c.typeIs Bd ?_ (Be _))))
  calc nX (m:=slotArgs _ _ _) (B7 ?_);calc nX (Bg g d ?_);calc nX (q0j f.set hd T.fits ?_);rw[VC (by simp)];calc nX (Bf f.set hd T (slot:=slot) (i:=i) ⋯ u λj H=>?_);let J:(iO w S ep es)[i]?=ζ ((iO w S ep es)[i]'(by rw[sU];calc F)):=Wk _;rw[J];calc nX (ZR g d (by simp) ?_);let r:=Xl (q3_ (·.setIfInBounds 0 (rawInt j))) g (Z2 (YM d _));let l:=YM d (·.setIfInBounds 0 (rawInt (j:Int)));calc nX (ZR r l (by simp) ?_);let B:=Xl (q3_ (·.setIfInBounds 1 (rawInt ((i:Int)+1)))) r (Z2 (YM l _));let C:=YM l (·.setIfInBounds 1 (rawInt ((i:Int)+1)));refine B7 ⟨_,Y,B7 (q _ _ s.toks ⟨_,J,Y⟩ ⟨?_,j,⟨_,B,?_,?_⟩,λz=>H z F⟩ λb K n e=>?_)⟩
  .rw[XF _ _ (Yz p),XF _ _ (Yz p)];exact f.set
  .exact (q0S ..).trans ((q0S ..).trans G)
  .rw[C];simp[rawInt]
  .let k:I≠b:=λz=>n (by simp[z])
   rw[XF _ _ k,XF _ _ k];exact e
 done:=λs Q E f q=>by
  let⟨slot,c,u⟩:=f.it;let⟨N,g,G,d⟩:=id c
  refine nX (q39 (Yk (name:=Xz "__next__") c.typeIs bC
   (XJ bC c.typeIs Bd ?_ (Be _))))
  calc nX (m:=slotArgs _ _ _) (B7 ?_);calc nX (Bg g d ?_);calc nX (q0j f.set hd T.fits ?_);rw[VC (by simp)];calc nX (Bf f.set hd T (slot:=slot) (i:=es.size) (B6 _) u λj H=>?_);rw[XY (by rw[sU];calc B6 _)];calc nX (ZR g d (by simp) ?_);calc nX ?_;calc nX (m:=firstArgMember _ _) (q1X (a:=WB) (by first|rfl|(erw[firstArgMember];rfl)) ?_);calc XP ?_ (by size_fits);calc nX (q4a ?_);rw[show A.in1.handled=η from L];calc nX (B7 (wpAny_throw ?_));calc nX (q24 (T:="StopIteration") (b:=true) ⟨_,UD _ Y,Y⟩ isSubtype_stop ?_);refine B7 (q _ s.toks λb K n e=>?_)
  let k:b≠I:=λz=>n (by simp[z]);exact(((Xb ..).extBut.push _).push _) b K k e
 self:=λi s Q E f q=>by
  let⟨slot,c,_⟩:=f.it;calc q2D c.typeIs Bc (XJ Bc c.typeIs Ie ?_ (Ih _));calc B7 ⟨_,Y, "set_iterator",_,c.typeIs,bC.lookup,q⟩
theorem Ik{E:br}{s:L}{Q:Bool->L->Prop}(a:s.heap.get? S=ζ o)(hd:o.data=.set es ep t)(T:dP t es (gI w) ks)(k:Q ι s):G (B prog w) A (setDrawn S) Q E s:=by
 calc nX (Yr a hd T.fits ?_);calc nX ?_;calc nX (Zl (B7 ?_));calc B7 ?_;let e:(!(B prog w).w.params.followText "set-order" && (!t.plain&&μ (es.size>1)))=ι:=by rw[T.p8];simp
 calc e▸k
theorem Il{E:br}{s:L}{Q:br}(a:s.heap.get? S=ζ o)(c:o.ExactSet)(hd:o.data=.set es ep t)(T:dP t es (gI w) ks)
  (k:∀h',(∀b d,s.heap.get? b=ζ d->h'.get? b=ζ d)->vC w ⇑s S o es ep t 0 h'->Q (.ref ⇑s) {s with heap:=h'}):G (B prog w) A (pyIter (.ref S)) Q E s:=by
 let f:s.TypeIs (.ref S) "set" := ⟨o,a,c.1⟩;calc q2D f q3s (XJ q3s f Ig ?_ (F.args_set_iter_1 _));calc nX (m:=Builtin.Frozenset.sizeOf _) ?_;calc nX (q0j a hd T.fits (B7 ?_));calc nX (Ik a hd T ?_);calc nX (B7 ?_);calc nX (wpAny_setEpoch_of a hd T.fits ?_);calc nX (m:=newFields _ _) (XP (B7 ⟨_,Y, "set_iterator",_,⟨_,UD _ Y,Y⟩,bC.lookup,?_⟩));calc k _ (λb d e=>B5 _ e) ⟨B5 _ a,0,⟨_,UD _ Y,Y,Y⟩,λ_=>Y⟩
end
section
variable{prog:X}{w:l}{A:Β}{S:U}{o:Γ}{es:Array (Int×M)}{ep:Nat}{t:SetTable}{ks:-Int}
theorem Im{E:br}{s:L}{Q:Bool->L->Prop}(a:s.TypeIs (.ref S) "set")(k:Q ι s):G (B prog w) A (Builtin.List.listLengthHint (.ref S)) Q E s:=by
 calc nX (q0e a F.slot_set_len.lookup ?_);generalize c:("set.__len__" : String)=e
 wp_delta
 subst c;calc nX (q24 (T:="set") (b:=true) a (by rw[q1Y];kernel_rfl) ?_);calc q1C (λd=>absurd d (by decide)) (λ_=>?_);calc nX (q0o a ?_);calc B7 k
theorem Io{E:br}{s:ο}{Q:-ν->ο->Prop}(V:A.handled=η)(U:s.heap.get? S=ζ o)(l:o.ExactSet)(hd:o.data=.set es ep t)(T:dP t es (gI w) ks)(hn:es.size<=1000)
  (h:∀(h':Α)(tk:Nat),(∀b d,s.heap.get? b=ζ d->h'.get? b=ζ d)->⇑s<=h'.objs.size->Q ((iO w S ep es).toList.map (·.2)) {s with heap:=h',toks:=tk}):ρ (ς prog w) A (collect (.ref S)) Q E s:=by
 let J:S<⇑s:=Vz U;calc nX (Zf (Xe F.entry_proto_collect ?_));calc nX (XP ?_);calc B7 ⟨Yo F.plain_list_iadd _,Xe F.entry_list_iadd ?_⟩;generalize m:({s with heap:=s.heap.push {cls:=.type "list",data:=.seq ([]:-ν).toArray}}:ο)=f;let p:f.heap.get? S=ζ o:=by rw[<-m];exact B5 _ U
 let X:f.heap.get? ⇑s=ζ {cls:=.type "list",data:=.seq ([]:-ν).toArray}:=by rw[<-m];exact UD _ rfl
 let M:⇑f=⇑s+1:=by rw[<-m];exact XG ..
 show ρ _ A.in1 (Builtin.List.listExtendWith (.ref ⇑s) (.ref S) (.ref ⇑s)) _ _ _;calc nX (q0o (T:="set") ⟨o,p,l.1⟩ ?_);let Y:q02 (.ref ⇑s) (.ref S)=ι:=by simp[q02];exact Yc J
 let Z:(XS "set" == XS "list")=ι:=by decide
 let h3:(XS "set" == XS "tuple")=ι:=by decide
 erw[Y,Z,h3,Wv,VQ,W8];calc nX (Il p l hd T λq u B=>?_);calc nX (WK (Im ⟨o,u _ _ p,l.1⟩ ?_));let N:S≠⇑f:=by rw[M];exact VF (WR J)
 let W:=(Ij (prog:=prog) (A:=A.in1) (I:=f.heap.objs.size) (by simp[V]) N l hd T).toS
 let O:⇑s∉[⇑f,S]:=by
  erw[Uy,Wx,YC,q1q,M];exact⟨VF (Xa _),Yc J⟩
 let P:∀(g:Α)(c:Nat),vC w ⇑f S o es ep t 0 g->g.get? ⇑s=ζ {cls:=.type "list",data:=.seq #[] c}->(∀b d,b≠⇑s->q.get? b=ζ d->g.get? b=ζ d) →
   codeAny (ς prog w) A (.builtin "list.extend.loop" ⟨[.ref ⇑s,.ref ⇑f,.ref ⇑s],[]⟩) (λr K=>match r with
    |.ok (.ret v)=>ρ (ς prog w) A (match v with
     |.ref a=>do match(<- load a).data with
      |.seq xs _=>pure xs.toList
      |_=>unsupported "internal:collect"
     |_=>unsupported "internal:collect") Q E K
    |.ok _=>False
    |.error e=>E e K) {f with heap:=g}:=by
  ext g c st hL kp;calc codeAny_extend_loopS W (by rw[Yh];symm) _ O _ es.size 0 _ #[] c rfl (VY _) st hL (ItemsOf.nil _) λK n c' L C j=>?_;refine nX (q1r C (B7 ?_))
  let ea:n.toList=(iO w S ep es).toList.map (·.2):=by
   calc Zd λi=>?_;rw[B8]
   by_cases hi:i<es.size
   .let D:i<n.size:=by rw[j.1];exact hi
    let⟨e,he,hv⟩:=j.2 i _ (Wk D);rw[Wt,Wk D,Wt,he,hv];rfl
   .rw[Wt,XY (by rw[j.1];symm),Wt,XY (by rw[sU];symm)];rfl
  rw[ea];let⟨Us,g3,d3,Ut,R⟩:=K;obtain rfl:g3=f.gens:=L.gens;obtain rfl:d3=f.drawn:=L.drawn;obtain rfl:R=f.os:=L.os;subst m;calc h _ _ (λb d e=>?_) (Xd (Vz C));let z:b<⇑s:=Vz e;calc L.heap b d ?_ (kp b d (VF z) (u b d (B5 _ e)));erw[Uy,Wx,YC,q1q];exact⟨VF z,by show b≠(s.heap.push _).objs.size;rw[XG];calc VF (WR z)⟩
 let G:=u _ _ X;calc nX (q1p ?_);calc nX ?_;calc nX (Zw G rfl ?_);let k:=Xl (Xv (·.push WB)) G rfl;calc Zw (hz:=by seq_fits) k rfl ?_;let x:=Xl (Xv (·.pop)) k rfl
 let y:∀b d,b≠⇑s->q.get? b=ζ d->((q.update ⇑s (Xv (·.push WB))).update ⇑s (Xv (·.pop))).get? b=ζ d :=
  λb d z e=>(XF _ _ (Yz z)).trans ((XF _ _ (Yz z)).trans e)
 calc B7 ⟨Yo F.plain_extend_loop _,P _ _ ?_ x y⟩;let⟨H,it,sl⟩:=B.it;calc⟨y _ _ (VF J) B.set,H,it.at λd e=>y _ _ (by rw[M];calc Yc (Xa _)) e,sl⟩
end
end LJS
namespace L2
open PySem PySem.Spec PyProof.Rows
abbrev Key:=Sum Int R
noncomputable def o5:Key->M->Bool
 |.inl k,v=>Value.isInt k v
 |.inr x,v=>q4c x v
noncomputable def vD(w:l):Key->Int
 |.inl k=>hashInt k
 |.inr x=>hashStr w x
theorem ma:∀{k:Key}{v:M},o5 k v=θ->(∃i t,k=YA i/\v=Xm i t)\/(∃x t,k=q0T x/\v=q1g x t)
 |.inl i,v,h=>by
  let⟨t,e⟩:=q0P (k:=i) (v:=v) h;exact .inl ⟨i,t,Y,e⟩
 |.inr x,v,h=>by
  let⟨t,e⟩:=Value.isStrOf_shape (x:=x) (v:=v) h;calc .inr ⟨x,t,Y,e⟩
theorem Ip(i:Int)(t:Tok):o5 (.inl i) (.int i t)=θ:=by simp[o5,Value.isInt]
theorem Iq(x:R)(t:Tok):o5 (.inr x) (.str x t)=θ:=by simp[o5,q4c]
theorem Ir(a b:Int):S ((YA a:Key)=YA b)=(a==b):=by
 by_cases e:a=b
 .subst e;simp
 .let h:¬ (YA a:Key)=YA b:=λq=>e (Zg q)
  rw[VD h];calc(YZ.mpr e).symm
theorem Iu(a b:R):S ((q0T a:Key)=q0T b)=S (a=b):=by
 by_cases e:a=b
 .subst e;simp
 .let h:¬ (q0T a:Key)=q0T b:=λq=>e (Sum.inr.inj q)
  rw[VD h,VD e]
theorem Iv(a:Int)(b:R):S ((YA a:Key)=q0T b)=ι:=VD (λq=>nomatch q)
theorem Iw(a:R)(b:Int):S ((q0T a:Key)=YA b)=ι:=VD (λq=>nomatch q)
noncomputable def gJ(prog:X)(w:l):PySem.KeyKind prog w Key where
 is:=o5
 hash:=vD w
 inj:=λv a b f d=>by
  rcases ma f with⟨i,t,rfl,rfl⟩|⟨x,t,rfl,rfl⟩
  .rcases ma d with⟨j,u,rfl,e⟩|⟨y,u,rfl,e⟩
   .injection e with e1 _;rw[e1]
   .exact nomatch e
  .rcases ma d with⟨j,u,rfl,e⟩|⟨y,u,rfl,e⟩
   .exact nomatch e
   .injection e with e1 _;rw[e1]
 byValue:=λk v h=>by
  rcases ma h with⟨i,t,rfl,rfl⟩|⟨x,t,rfl,rfl⟩<;>rfl
 pyHash:=λc h=>by
  rcases ma c with⟨i,t,rfl,rfl⟩|⟨x,t,rfl,rfl⟩
  .exact wpAny_pyHash_int h
  .exact wpAny_pyHash_str h
 eqBool:=λg c h=>by
  rcases ma g with⟨i,t,rfl,rfl⟩|⟨x,t,rfl,rfl⟩
  .rcases ma c with⟨j,u,rfl,rfl⟩|⟨y,u,rfl,rfl⟩
   .rw[Ir] at h;exact q1h h
   .rw[Iv] at h;exact q2r i t y u _ _ _ _ h
  .rcases ma c with⟨j,u,rfl,rfl⟩|⟨y,u,rfl,rfl⟩
   .rw[Iw] at h;exact q2s x t j u _ _ _ _ h
   .rw[Iu] at h;exact wpAny_eqBool_str h
 «strs» := λk x t v h=>by
  rcases ma h with⟨i,u,rfl,e⟩|⟨y,u,rfl,e⟩
  .exact nomatch e
  .injection e with e1 _
   subst e1;cases v<;>rfl
theorem Iy(prog:X)(w:l)(i:Int)(t:Tok):(gJ prog w).is (.inl i) (.int i t)=θ:=Ip i t
theorem Iz(prog:X)(w:l)(x:R)(t:Tok):(gJ prog w).is (.inr x) (.str x t)=θ:=Iq x t
inductive V where
 |non|bl (b:Bool)|int (i:Int)|str (x:R)|byt (b:Array UInt8)|flt (b:UInt64)|ref (a:U)|ty (n:String)
 deriving DecidableEq
def RelV:V->M->Prop
 |.non,u=>u=WB
 |.bl b,u=>u=Y9 b
 |.int i,u=>∃t,u=Xm i t
 |.str x,u=>∃t,u=q1g x t
 |.byt b,u=>∃t,u=Value.bytes b t
 |.flt b,u=>∃t,u=q3k b t
 |.ref a,u=>u=WQ a
 |.ty n,u=>u=XS n
abbrev Vals:-V->-M->Prop:=Paired RelV
theorem Vals.length{xs:-V}{us:-M}(r:Vals xs us):↑xs=↑us:=q2j r
theorem Vals.get:∀{xs:-V}{us:-M}{i:Nat}{x:V},Vals xs us->xs[i]?=ζ x->∃u,us[i]?=ζ u/\RelV x u
 |_,_,_,_,.nil,e=>by simp at e
 |_,_,0,_,.cons r _,e=>by simp at e;subst e;exact⟨_,Y,r⟩
 |_,_,i+1,x,.cons _ t,e=>by
  let⟨u,a,b⟩:=Vals.get (i:=i) (x:=x) t e⁻¹;calc⟨u,by simpa using a,b⟩
theorem Vals.set{x:V}{u:M}(r:RelV x u):∀{xs:-V}{us:-M}(i:Nat),Vals xs us->Vals (xs.set i x) (us.set i u)
 |_,_,_,.nil=>.nil
 |_,_,0,.cons _ t=>.cons r t
 |_,_,i+1,.cons q t=>.cons q (Vals.set r i t)
theorem Vals.append:∀{xs ys:-V}{us ws:-M},Vals xs us->Vals ys ws->Vals (xs++ys) (us++ws)
 |_,_,_,_,.nil,s=>s
 |_,_,_,_,.cons r t,s=>.cons r (Vals.append t s)
theorem Vals.take:∀{xs:-V}{us:-M}(n:Nat),Vals xs us->Vals (xs.take n) (us.take n)
 |_,_,0,_=>.nil
 |_,_,_+1,.nil=>.nil
 |_,_,n+1,.cons r t=>.cons r (Vals.take n t)
theorem Vals.drop:∀{xs:-V}{us:-M}(n:Nat),Vals xs us->Vals (xs.drop n) (us.drop n)
 |_,_,0,r=>r
 |_,_,_+1,.nil=>.nil
 |_,_,n+1,.cons _ t=>Vals.drop n t
def eC:Option V->Option M->Prop
 |some v,some u=>RelV v u
 |none,none=>True
 |_,_=>False
def KV{κ:Type}:-(κ×V)->-(κ×M)->Prop:=Paired λ(p:κ×V) (q:κ×Value)=>p.1=q.1/\RelV p.2 q.2
noncomputable def kV:Key->V
 |.inl i=>.int i
 |.inr x=>.str x
inductive HO where
 |lst (xs:-V)
 |tup (xs:-V)
 |dK (kvs:-(Key×V))|dT (kvs:-(-Key×V))
 |set (S:Int->Bool) (n:Nat)
 |ins (C dx:U) (fs:-(R×V))
 |own (x:U)
 |xd (fs:-(R×V))
 |met (f x:U)
 |rng (lo hi:Int)
 |frz (o:Γ) (u:HO)
 |tbl (ps:Array M)
 |ext (φ:Q->Prop)
abbrev Hp:=U->Option HO
noncomputable def upd(H:Hp)(a:U)(o:HO):Hp:=λb=>if b=a then ζ o else H b
theorem cw{H:Hp}{a:U}{o:HO}:upd H a o a=ζ o:=by unfold upd;rw[VE Y]
theorem bt{H:Hp}{a b:U}{o:HO}(h:b≠a):upd H a o b=H b:=by unfold upd;rw[VC h]
theorem IA{H:Hp}{a b:U}{o u:HO}(h:H a=ζ o)(h':H b=ζ u)(d:o≠u):a≠b:=by
 ext e;subst e;rw[h] at h';calc d (WD h')
theorem ed{H:Hp}{a b:U}{o:HO}(h:H a=ζ o)(h':H b=η):a≠b:=by
 ext e;subst e;rw[h] at h';cases h'
section
variable(P:X)(w:l)
def bp(H:Hp)(h:Q)(a:U):HO->Prop
 |.lst d=>↑d<=sizeLine/\∃(b:-M)(n:Nat),Vals d b/\h.get? a=ζ {cls:=.type "list",data:=.seq b.toArray n}
 |.tup d=>↑d<=sizeLine/\∃b:-M,Vals d b/\IsTup h a b.toArray
 |.dK c=>↑c<=sizeLine/\(a==sysModules)=ι/\∃k,KV c k/\h.DictOf (gJ P w) a k
 |.dT c=>↑c<=sizeLine/\(a==sysModules)=ι/\∃d:-(-Key×U×M),
   Paired (λ(p:-Key×V) (q:-Key×Addr×Value)=>p.1=q.1/\H q.2.1=ζ (.tup (p.1.map kV))/\RelV p.2 q.2.2) c d ∧
   ∃o l s,h.get? a=ζ o/\o.ExactDict/\o.data=.dict l s/\l.toList=d.map (entryOfKey (tupleKind (gJ P w)))/\(d.map (·.1)).Nodup
 |.set S n=>h.SetOf (intKind P w) a S n
 |.ins C i g=>H i=ζ (.own a)/\↑g<=1000/\i≠a/\h.get? a=ζ (YH C i) ∧
   ∃e,h.Ns1 i e/\(∀f,eC (g.lookup f) (e f))/\q2E e (g.map (·.1))
 |.own _=>∃o,h.get? a=ζ o
 |.xd g=>∃e,h.Ns1 a e/\∀f,eC (g.lookup f) (e f)
 |.rng y z=>∃t u v,h.get? a=ζ {cls:=.type "range",data:=.fields #[.int y t,.int z u,.int 1 v]}
 |.frz o u=>h.get? a=ζ o/\bp H h a u
 |.tbl A=>h.get? a=ζ {cls:=.none,data:=.fields A}
 |.met f x=>h.get? a=ζ (q0U (.ref f) (.ref x))
 |.ext j=>j h/\(∃o,h.get? a=ζ o)/\∀m r:Q,j m->(∀o,m.get? a=ζ o->r.get? a=ζ o)->j r
def fz(H:Hp)(h:Q):Prop:=∀a o,H a=ζ o->bp P w H h a o
end
section
variable{P:X}{w:l}{H H':Hp}{h h':Q}{a:U}{o:HO}
theorem bp.lt(x:bp P w H h a o):a<h.objs.size:=by
 cases o with
 |lst c=>let⟨_,_,_,_,e⟩:=x;exact Vz e
 |tup c=>let⟨_,_,_,p⟩:=x;exact p.lt
 |dK b=>let⟨_,_,_,_,o,_,_,e,_⟩:=x;exact Vz e
 |dT b=>let⟨_,_,_,_,o,_,_,e,_⟩:=x;exact Vz e
 |set S n=>let⟨o,_,_,_,e,_⟩:=x;exact Vz e
 |ins C g d=>let⟨_,_,_,e,_⟩:=x;exact Vz e
 |own y=>let⟨_,e⟩:=x;exact Vz e
 |xd d=>let⟨_,⟨_,_,_,e,_⟩,_⟩:=x;exact Vz e
 |rng i j=>let⟨_,_,_,e⟩:=x;exact Vz e
 |frz k u=>let⟨e,_⟩:=x;exact Vz e
 |tbl l=>exact Vz (show h.get? a=ζ _ from x)
 |met f y=>exact Vz (show h.get? a=ζ _ from x)
 |ext m=>let⟨_,⟨_,e⟩,_⟩:=x;calc Vz e
theorem Paired.nK{c d:Type}{F G:c->d->Prop}:∀{l₁:-c}{l₂:-d},Paired F l₁ l₂->(∀a b,F a b->G a b)->Paired G l₁ l₂
 |_,_,.nil,_=>.nil
 |_,_,.cons r t,f=>.cons (f _ _ r) (Paired.nK t f)
theorem bp.iV(x:bp P w H h a o)(k:∀b u,(b=a\/H b=ζ (.own a))->h.get? b=ζ u->h'.get? b=ζ u)
  (F:∀b,H b=ζ (.own a)->H' b=ζ (.own a)) (G:∀b xs,H b=ζ (.tup xs)->H' b=ζ (.tup xs)):bp P w H' h' a o:=by
 induction o with
 |lst m=>let⟨z,l,n,r,e⟩:=x;exact⟨z,l,n,r,k _ _ (.inl Y) e⟩
 |tup m=>let⟨z,l,r,g,e,c⟩:=x;exact⟨z,l,r,g,k _ _ (.inl Y) e,c⟩
 |dK s=>let⟨z,y,I,r,g,i,j,e,c⟩:=x;exact⟨z,y,I,r,g,i,j,k _ _ (.inl Y) e,c⟩
 |dT s =>
  let⟨z,y,m,r,g,i,j,e,c⟩:=x;exact⟨z,y,m,Paired.nK r λp q z=>⟨z.1,G _ _ z.2.1,z.2.2⟩,g,i,j,k _ _ (.inl Y) e,c⟩
 |set S n=>let⟨g,i,j,t,e,c⟩:=x;exact⟨g,i,j,t,k _ _ (.inl Y) e,c⟩
 |ins C N J =>
  let⟨d,z,K,e,A,⟨B,i,j,L,c⟩,r⟩:=x;exact⟨F _ d,z,K,k _ _ (.inl Y) e,A,⟨B,i,j,k _ _ (.inr d) L,c⟩,r⟩
 |own y=>let⟨g,e⟩:=x;exact⟨g,k _ _ (.inl Y) e⟩
 |xd J=>let⟨A,⟨B,i,j,e,c⟩,r⟩:=x;exact⟨A,⟨B,i,j,k _ _ (.inl Y) e,c⟩,r⟩
 |rng O Q=>let⟨t,u,v,e⟩:=x;exact⟨t,u,v,k _ _ (.inl Y) e⟩
 |frz g u M=>let⟨e,q⟩:=x;exact⟨k _ _ (.inl Y) e,M q⟩
 |tbl D =>
  let e:h.get? a=ζ {cls:=.none,data:=.fields D}:=x;show h'.get? a=ζ {cls:=.none,data:=.fields D};exact k a _ (.inl Y) e
 |met f y =>
  let e:h.get? a=ζ (q0U (.ref f) (.ref y)):=x;show h'.get? a=ζ (q0U (.ref f) (.ref y));exact k a _ (.inl Y) e
 |ext R=>let⟨p,⟨o,e⟩,E⟩:=x;calc⟨E _ _ p λo q=>k _ _ (.inl Y) q,⟨o,k _ _ (.inl Y) e⟩,E⟩
theorem fz.lt(x:fz P w H h)(e:H a=ζ o):a<h.objs.size:=(x a o e).lt
theorem fz.fresh(x:fz P w H h)(e:h.objs.size<=a):H a=η:=by
 cases q:H a with
 |none=>rfl
 |some u=>calc absurd (VS (x.lt q) e) (X9 _)
theorem fz.kept(x:fz P w H h)(k:∀b u,h.get? b=ζ u->h'.get? b=ζ u):fz P w H h':=λa o e =>
 (x a o e).iV (λb u _ q=>k b u q) (λ_ q=>q) λ_ _ q=>q
theorem fz.laid(x:fz P w H h)(k:∀b u,h.get? b=ζ u->h'.get? b=ζ u)(i:h.objs.size<=a)(d:bp P w (upd H a o) h' a o):fz P w (upd H a o) h':=λb u e=>by
 let f:=x.fresh i
 by_cases g:b=a
 .subst g;rw[cw] at e;cases e;exact d
 .rw[bt g] at e
  calc(x b u e).iV (λc v _ q=>k c v q) (λc q=>by rw[bt (ed q f)];calc q) λc j q=>by rw[bt (ed q f)];calc q
end
def Rd(H:Hp)(a:U)(u:HO):Prop:=H a=ζ u\/∃o,H a=ζ (.frz o u)
theorem Rd.ok{P:X}{w:l}{H:Hp}{h:Q}{a:U}{u:HO}(r:Rd H a u)(x:fz P w H h):bp P w H h a u:=by
 rcases r with r|⟨o,r⟩
 .exact x a u r
 .let⟨_,q⟩:=x a _ r
  calc q
def qb:Option HO->Prop
 |some (.lst _)=>True
 |some (.dK _)=>True
 |some (.dT _)=>True
 |some (.set _ _)=>True
 |some (.ins _ _ _)=>True
 |some (.ext _)=>True
 |_=>False
section
variable{P:X}{w:l}{H:Hp}{h h':Q}{x e:U}{o':HO}
theorem fz.write(o:fz P w H h)(mu:qb (H x))(he:e=x\/H e=ζ (.own x))(k:∀b u,b≠e->h.get? b=ζ u->h'.get? b=ζ u)(l:∃u,h'.get? e=ζ u)
  (m:bp P w (upd H x o') h' x o'):fz P w (upd H x o') h':=λb u q=>by
 let d:∀c y,H c=ζ (.own y)->c≠x:=λc y r z=>by subst z;rw[r] at mu;exact mu
 let f:∀c g,H c=ζ (.tup g)->c≠x:=λc g r z=>by subst z;rw[r] at mu;exact mu
 by_cases i:b=x
 .subst i;rw[cw] at q;cases q;exact m
 .rw[bt i] at q
  by_cases a:b=e
  .let n:H b=ζ (.own x):=by
    rcases he with z|z
    .exact absurd (a.trans z) i
    .rw[a];exact z
   rw[q] at n;cases n;let⟨v,p⟩:=l;exact⟨v,by rw[a];calc p⟩
  .refine (o b u q).iV (λc v j r=>k c v ?_ r) (λc r=>by rw[bt (d c b r)];calc r) λc g r=>by rw[bt (f c g r)];exact r
   rcases j with rfl|j
   .exact a
   .ext rfl
    rcases he with z|z
    .exact d c b j z
    .rw[j] at z;cases z;calc i Y
end
structure Un(fs ex:-U)(H H':Hp)(h h':Q):Prop where
 keep:∀b o,h.get? b=ζ o->H b=η->b∉fs->b∉ex->h'.get? b=ζ o
 slot:∀b o,h.get? b=ζ o->H b=η->b∈fs->b∉ex->∃sl,h'.get? b=ζ {o with slots:=sl}
 free:∀b o,h.get? b=ζ o->H b=η->b∉ex->H' b=η
 there:∀b o,h.get? b=ζ o->b∉ex->∃o',h'.get? b=ζ o'
 ig:∀b xs,H b=ζ (.tup xs)->H' b=ζ (.tup xs)
 iW:∀b o u,H b=ζ (.frz o u)->H' b=ζ (.frz o u)
 iX:∀b ps,H b=ζ (.tbl ps)->∃more,H' b=ζ (.tbl (ps++more))
 ij:∀b xs o,H b=ζ (.tup xs)->h.get? b=ζ o->b∉ex->h'.get? b=ζ o
section
variable{fs IB ex Uu:-U}{H H1 H2:Hp}{h h1 h2 h':Q}{a x e:U}{o:HO}
theorem Un.any(u:Un fs ex H H1 h h1){b:U}{a:Γ}(q:h.get? b=ζ a)(n:H b=η)(c:b∉ex):∃sl,h1.get? b=ζ {a with slots:=sl}:=by
 by_cases d:b∈fs
 .exact u.slot b a q n d c
 .calc⟨a.slots,u.keep b a q n d c⟩
theorem Un.kept(k:∀b u,h.get? b=ζ u->h'.get? b=ζ u):Un fs ex H H h h' :=
 ⟨λb a q _ _ _=>k b a q,λb a q _ _ _=>⟨a.slots,k b a q⟩,λ_ _ _ n _=>n,λb a q _=>⟨a,k b a q⟩,λ_ _ q=>q,λ_ _ _ q=>q,λ_ c q=>⟨#[],by rw[q];simp⟩,λb _ u _ q _=>k b u q⟩
theorem Un.refl:Un fs ex H H h h:=Un.kept λ_ _ q=>q
theorem Un.laid(k:∀b u,h.get? b=ζ u->h'.get? b=ζ u)(c:h.objs.size<=a)(hn:H a=η):Un fs ex H (upd H a o) h h' where
 keep:=λb u q _ _ _=>k b u q
 slot:=λb u q _ _ _=>⟨u.slots,k b u q⟩
 free:=λb u q n _=>by rw[bt (VF (VS (Vz q) c))];exact n
 there:=λb u q _=>⟨u,k b u q⟩
 ig:=λb d q=>by rw[bt (ed q hn)];exact q
 iW:=λb u d q=>by rw[bt (ed q hn)];exact q
 iX:=λb e q=>⟨#[],by rw[bt (ed q hn),q];simp⟩
 ij:=λb _ u _ q _=>k b u q
theorem Un.write(mu:qb (H x))(he:e=x\/H e=ζ (.own x))(k:∀b u,b≠e->h.get? b=ζ u->h'.get? b=ζ u)(d:∃u,h'.get? e=ζ u):Un fs ex H (upd H x o) h h':=by
 let f:∀b,H b=η->b≠x:=λb n z=>by subst z;rw[n] at mu;exact mu
 let g:∀b,H b=η->b≠e:=λb n z=>by
  subst z;rcases he with r|r
  .exact f b n r
  .rw[n] at r;cases r
 let c:∀b u,H b=ζ u->¬ qb (ζ u)->b≠x:=λb u q j z=>by subst z;rw[q] at mu;exact j mu
 refine⟨λb u q n _ _=>k b u (g b n) q,λb u q n _ _=>⟨u.slots,k b u (g b n) q⟩,λb u q n _=>by rw[bt (f b n)];calc n,λb u q _=>?_,
  λb i q=>by rw[bt (c b _ q λz=>z)];calc q,λb u i q=>by rw[bt (c b _ q λz=>z)];calc q,λb l q=>⟨#[],by rw[bt (c b _ q λz=>z),q];simp⟩,λb i u q e _=>k b u (λz=>by
   subst z;rcases he with r|r
   .exact c b _ q (λz=>z) r
   .rw[q] at r;cases r) e⟩
 by_cases a:b=e
 .subst a;exact d
 .calc⟨u,k b u a q⟩
end
noncomputable def sV(h:Q)(H:Hp):-U:=(Wq h.objs.size).filter λa=>(H a).isSome
noncomputable def hY(h:Q)(H:Hp):Q:=PySem.W.hideAll h (sV h H)
theorem IC(h:Q)(H:Hp):(hY h H).objs.size=h.objs.size:=PySem.W.hideAll_size _ _
theorem ID{h:Q}{H:Hp}{b:U}{o:Γ}(e:h.get? b=ζ o)(n:H b=η):(hY h H).get? b=ζ o :=
 PySem.W.hideAll_get _ e λa=>by
  let q:(H b).isSome=θ:=(Wc.mp a).2;rw[n] at q;simp at q
theorem Bh{h:Q}{H:Hp}{b:U}{o:Γ}(e:(hY h H).get? b=ζ o):h.get? b=ζ o/\H b=η:=by
 let a:h.get? b=ζ o:=PySem.W.of_hideAll (sV h H) e;refine⟨a,?_⟩
 cases q:H b with
 |none=>rfl
 |some x =>
  let c:b∈sV h H:=Wc.mpr ⟨Wz.mpr (Vz a),by simp[q]⟩;let z:(hY h H).get? b=η:=PySem.W.hideAll_none (sV h H) c;rw[z] at e;cases e
structure Mod(K:KD)(mg:R->Option M)(base:Q):Prop where
 ju:K.In base
 glob:base.Ns mainGlobals mg
 blt:∃mb,base.Ns builtinsNs mb/\∀x:R,x≠"__name__" -> mb x=bootBuiltins x
 nolimit:base.NoLimit
structure Cx where
 prog:X
 w:l
 K:KD
 mg:R->Option M
 base:Q
 A:t
 N:-R
 s₀:L
 H₀:Hp
 env:u
 outer:-u
 stack:-u
 ex:-U
 fn:R->Bool
 calm:Bool
 pn:-(U×Γ)
 xe:M->L->Prop
noncomputable def kP(l:-u):-U:=l.filterMap (·.frame)
noncomputable abbrev Cx.fs(X:Cx):-U:=kP X.outer
def qc(a:o)(x:R):Prop:=a.names.lookup x=ζ .local\/a.names.lookup x=ζ .cell\/a.names.lookup x=ζ .free
def Loc(a:o)(x:R):Prop:=a.names.lookup x=ζ .local\/a.names.lookup x=ζ .cell
abbrev cy(x:R):Prop:=(x==("__debug__" : R))=ι
abbrev ik(X:Cx)(x:R):Prop:=X.fn x=θ\/X.env.scope.names.lookup x=ζ .local
abbrev dE(X:Cx)(e:J)(es:-J):Prop:=starEach (e::es) X.env=(ι,eval e X.env)::starEach es X.env
abbrev dQ(X:Cx)(p:I)(es:-J):Prop:=(backTo p (starEach es X.env)).any (·.1)=ι
abbrev a5:=-(U×Γ)
def Look(env:Ζ)(h:Q)(m:R->Option M)(x:R)(u:M):Prop :=
 (env.kindOf x=ζ .local/\m x=ζ u)\/((env.kindOf x=ζ .cell\/env.kindOf x=ζ .free)/\∃c,env.cells.lookup x=ζ c/\h.IsCell c (ζ u))
structure Cx.Ok(X:Cx):Prop where
 mod:Mod X.K X.mg X.base
 kind:X.env.scope.kind=.function
 glob:X.env.globals=mainGlobals
 blt:X.env.builtins=builtinsNs
 above:⇑X.s₀<=X.env.locals
 inj:∀x y c,X.env.cells.lookup x=ζ c->X.env.cells.lookup y=ζ c->x=y
 has:∀x,(X.env.kindOf x=ζ .cell\/X.env.kindOf x=ζ .free)->∃c,X.env.cells.lookup x=ζ c
 mY:∀x c,X.fn x=θ->X.env.cells.lookup x=ζ c->⇑X.s₀<=c
 hd:X.calm=θ->X.A.handled=η
 frames:X.A.frames=ζ X.stack
 o6:X.stack=X.outer\/(X.stack=X.env::X.outer/\X.env.frame=ζ X.env.locals)
 sW:∀b∈X.ex,b≠X.env.locals/\∀x c,X.env.cells.lookup x=ζ c->c≠b
 bs:∀b o,X.base.get? b=ζ o->X.s₀.heap.get? b=ζ o/\(X.H₀ b=η\/∃xs,X.H₀ b=ζ (.tup xs))
 k_:X.base.objs.size<=⇑X.s₀
 iY:∀b o,X.base.get? b=ζ o->b∉X.ex
 kh:∀b∈X.ex,b∉X.fs
 fj:X.s₀.heap.FunFrames X.base X.outer
 lT:∀b∈X.fs,X.H₀ b=η
structure Inv(X:Cx)(pins:a5)(σ:-(Option V))(H:Hp)(s:L):Prop where
 ok:X.Ok
 os:s.os=X.s₀.os
 bare:AllBare s.gens
 base:Un X.fs X.ex X.H₀ H X.s₀.heap s.heap
 loc:∃m,s.heap.Ns X.env.locals m/\∀(i:Nat)(x:R)(v:V),X.N[i]?=ζ x->σ[i]?=ζ (ζ v)->qc X.env.scope x->∃u,RelV v u/\Look X.env s.heap m x u
 cell:∀x c,X.env.cells.lookup x=ζ c->∃v,s.heap.IsCell c v
 free:H X.env.locals=η
 dB:∀x c,X.env.cells.lookup x=ζ c->H c=η
 pin:∀p∈X.pn++pins,s.heap.get? p.1=ζ p.2/\H p.1=η/\p.1≠X.env.locals/\p.1∉X.fs/\∀v,p.2.data≠.cell v
 bf:fz X.prog X.w H s.heap
 len:↑σ=↑X.N
section
variable{X:Cx}{pins:a5}{σ:-(Option V)}{H H':Hp}{s:L}{h':Q}
theorem Cx.Ok.vE(a:X.Ok){b:U}{o:Γ}(e:X.base.get? b=ζ o):b∉X.fs:=λc=>by
 let:=(a.fj.mem c).1;rw[e] at this;cases this
theorem Inv.bs(I:Inv X pins σ H s):∀b o,X.base.get? b=ζ o->s.heap.get? b=ζ o/\(H b=η\/∃xs,H b=ζ (.tup xs)):=λb o e=>by
 obtain⟨d,a|⟨c,a⟩⟩:=I.ok.bs b o e
 .exact⟨I.base.keep b o d a (I.ok.vE e) (I.ok.iY b o e),.inl (I.base.free b o d a (I.ok.iY b o e))⟩
 .calc⟨I.base.ij b c o a d (I.ok.iY b o e),.inr ⟨c,I.base.ig b c a⟩⟩
theorem Inv.bk(I:Inv X pins σ H s):∀b o,X.base.get? b=ζ o->s.heap.get? b=ζ o:=λb o e=>(I.bs b o e).1
theorem Inv.mod(I:Inv X pins σ H s):Mod X.K X.mg X.base:=I.ok.mod
theorem Inv.gB(I:Inv X pins σ H s):X.K.In s.heap:=I.ok.mod.ju.keeps I.bk
theorem Inv.nolimit(I:Inv X pins σ H s):s.heap.NoLimit:=I.ok.mod.nolimit.keeps I.bk
theorem Inv.lt(I:Inv X pins σ H s):X.env.locals<⇑s:=let⟨_,a,_⟩:=I.loc;a.lt
theorem Inv.sz(I:Inv X pins σ H s):⇑X.s₀<=⇑s:=Wr I.ok.above (Xd I.lt)
theorem Inv.vF(I:Inv X pins σ H s){a:U}(h:⇑s<=a):a∉X.fs:=λb=>by
 let⟨_,o,c,_⟩:=I.ok.fj.mem b;calc absurd (VS (Vz c) (Wr I.sz h)) (X9 _)
theorem Inv.vG(I:Inv X pins σ H s):∀x c,X.env.cells.lookup x=ζ c->c≠X.env.locals:=λx c e z=>by
 let⟨v,o,d,f⟩:=I.cell x c e;let⟨m,⟨o',g,h,a,b,_⟩,_⟩:=I.loc;rw[z,a] at d;cases d;rw[b] at f;cases f
theorem Inv.fj(I:Inv X pins σ H s):s.heap.FunFrames X.base X.outer:=by
 let a:∀(l:-u),(∀b∈kP l,b∈X.fs)->X.s₀.heap.FunFrames X.base l->s.heap.FunFrames X.base l:=by
  ext l
  induction l with
  |nil=>ext _ _;trivial
  |cons h r i =>
   ext g j;let⟨k,⟨L,o,c,m,n,p⟩,q⟩:=j;let d:L∈X.fs:=g L (by unfold kP;rw[q0k,c];calc Uz);let⟨t,e⟩:=I.base.slot L o n (I.ok.lT L d) d λz=>I.ok.kh L z d;exact⟨k,⟨L,_,c,m,e,p⟩,i (λb f=>g b (by unfold kP;rw[q0k,c];calc UA _ f)) q⟩
 calc a X.outer (λ_ f=>f) I.ok.fj
theorem Inv.stack(I:Inv X pins σ H s):s.heap.FunFrames X.base X.stack:=by
 rcases I.ok.o6 with e|⟨e,a⟩
 .rw[e];exact I.fj
 .rw[e]
  let⟨m,b,_⟩:=I.loc;calc .cons (by rw[I.ok.kind];decide) a b ?_ I.fj;calc Heap.get?_none_of_le (Wr I.ok.k_ I.ok.above)
theorem Inv.ip(I:Inv X pins σ H s):∀b∈kP X.stack,b∈X.env.locals::X.fs:=λb a=>by
 rcases I.ok.o6 with e|⟨e,c⟩
 .rw[e] at a;exact UA _ a
 .rw[e] at a
  unfold kP at a;rw[q0k,c] at a;calc a
theorem Inv.jW(I:Inv X pins σ H s):∀b∈kP X.stack,H b=η:=λb a=>by
 rcases Uy.mp (I.ip b a) with e|a
 .rw[e];exact I.free
 .let⟨_,o,c,_⟩:=I.ok.fj.mem a
  calc I.base.free b o c (I.ok.lT b a) λz=>I.ok.kh b z a
theorem Inv.step{g':Array GenState}{t':Nat}{d':Drawn}{ch:-ξ}(I:Inv X pins σ H s)
  (h:∀b∈ch,(b∈X.ex\/⇑X.s₀<=b)/\b≠X.env.locals/\(∀x c,X.env.cells.lookup x=ζ c->c≠b)/\∀p∈X.pn++pins,p.1≠b)
  (j:∀b o,b≠X.env.locals->b∉X.fs->b∉ch->s.heap.get? b=ζ o->H b=η->h'.get? b=ζ o)
  (slot:∀b o,b≠X.env.locals->b∈X.fs->b∉ch->s.heap.get? b=ζ o->H b=η->∃sl,h'.get? b=ζ {o with slots:=sl}) (f:∀b o,b∉ch->s.heap.get? b=ζ o->H b=η->H' b=η)
  (D:∀b o,b∉ch->s.heap.get? b=ζ o->∃o',h'.get? b=ζ o')
  (G:∀b xs,H b=ζ (.tup xs)->H' b=ζ (.tup xs)) (J:∀b o u,H b=ζ (.frz o u)->H' b=ζ (.frz o u)) (K:∀b N,H b=ζ (.tbl N)->∃more,H' b=ζ (.tbl (N++more)))
  (L:∀b xs o,H b=ζ (.tup xs)->s.heap.get? b=ζ o->b∉ch->h'.get? b=ζ o)
  (ns:∀m,s.heap.Ns X.env.locals m->h'.Ns X.env.locals m) (P:fz X.prog X.w H' h') (Y:AllBare g') :
  Inv X pins σ H' {s with heap:=h',gens:=g',drawn:=d',toks:=t'}:=by
 let M:∀b o,X.s₀.heap.get? b=ζ o->b≠X.env.locals:=λb o e=>VF (VS (Vz e) I.ok.above)
 let t:∀b o,X.s₀.heap.get? b=ζ o->b∉X.ex->b∉ch:=λb o e a E=>by
  rcases(h b E).1 with z|z
  .exact a z
  .exact absurd (VS (Vz e) z) (X9 _)
 let A:∀x c,X.env.cells.lookup x=ζ c->∀v,s.heap.IsCell c v->h'.IsCell c v:=λx c e v ⟨o,F,Q⟩↦by
  let y:c∉ch:=λz=>(h c z).2.2.1 x c e rfl
  by_cases S:c∈X.fs
  .let⟨W,q⟩:=slot c o (I.vG x c e) S y F (I.dB x c e)
   exact⟨_,q,Q⟩
  .exact⟨o,j c o (I.vG x c e) S y F (I.dB x c e),Q⟩
 refine⟨I.ok,I.os,Y,⟨λb o e n E a=>?_,λb o e n E a=>?_,λb o e n a=>?_,λb o e a=>?_,λb B e=>G b B (I.base.ig b B e),λb o B e=>J b o B (I.base.iW b o B e),λb N e=>?_,λb B o g C a=>L b B o (I.base.ig b B g) (I.base.ij b B o g C a) (t b o C a)⟩,?_,λx c e=>?_,?_,λx c e=>?_,λp T=>?_,P,I.len⟩
 .exact j b o (M b o e) E (t b o e a) (I.base.keep b o e n E a) (I.base.free b o e n a)
 .let⟨W,g⟩:=I.base.slot b o e n E a
  let⟨R,C⟩:=slot b _ (M b o e) E (t b o e a) g (I.base.free b o e n a);exact⟨R,C⟩
 .let⟨O,g⟩:=I.base.there b o e a
  exact f b O (t b o e a) g (I.base.free b o e n a)
 .let⟨O,g⟩:=I.base.there b o e a
  exact D b O (t b o e a) g
 .let⟨Z,g⟩:=I.base.iX b N e
  let⟨m2,C⟩:=K b _ g;exact⟨Z++m2,by rw[C,Array.append_assoc]⟩
 .let⟨m,hn,hl⟩:=I.loc
  calc⟨m,ns m hn,λi x v g C e3=>?_⟩;let⟨u,r,l⟩:=hl i x v g C e3;calc⟨u,r,?_⟩;rcases l with l|⟨k,c,e,z⟩
  .exact .inl l
  .exact .inr ⟨k,c,e,A x c e _ z⟩
 .let⟨v,z⟩:=I.cell x c e
  exact⟨v,A x c e v z⟩
 .let⟨m,⟨o,_,_,F,_⟩,_⟩:=I.loc
  exact f _ o (λz=>(h _ z).2.1 rfl) F I.free
 .let⟨v,o,F,Q⟩:=I.cell x c e
  exact f c o (λz=>(h c z).2.2.1 x c e rfl) F (I.dB x c e)
 .let⟨e,n,U,V,d⟩:=I.pin p T
  let y:p.1∉ch:=λz=>(h p.1 z).2.2.2 p T rfl;calc⟨j p.1 p.2 U V y e n,f p.1 p.2 y e n,U,V,d⟩
theorem Inv.un{t':Nat}(I:Inv X pins σ H s)(u:Un X.fs [] H H' s.heap h')(c:fz X.prog X.w H' h'):Inv X pins σ H' {s with heap:=h',toks:=t'}:=by
 let⟨m,⟨o,p,t,h,r⟩,_⟩:=id I.loc;let⟨v,i⟩:=u.any h I.free (by simp)
 exact I.step (g':=s.gens) (d':=s.drawn) (ch:=[]) (λ_ z=>nomatch z) (λb o _ d _ e n=>u.keep b o e n d (by simp)) (λb o _ d _ e n=>u.slot b o e n d (by simp)) (λb o _ e n=>u.free b o e n (by simp)) (λb o _ e=>u.there b o e (by simp)) u.ig u.iW u.iX (λb j o q e _=>u.ij b j o q e (by simp)) (λx k=>by
  let⟨o',f,g,a,l⟩:=k;rw[h] at a;cases a
  calc⟨_,f,g,i,l⟩) c I.bare
theorem Inv.call{g':Array GenState}{t':Nat}{d':Drawn}{ch:-U}(I:Inv X pins σ H s)(u:Un (kP X.stack) ch H H' s.heap h')(g:fz X.prog X.w H' h')(l:AllBare g')
  (d:∀b∈ch,(b∈X.ex\/⇑X.s₀<=b)/\b≠X.env.locals/\(∀x c,X.env.cells.lookup x=ζ c->c≠b)/\∀p∈X.pn++pins,p.1≠b) :
  Inv X pins σ H' {s with heap:=h',gens:=g',drawn:=d',toks:=t'}:=by
 let⟨m,⟨o,B,C,k,r⟩,_⟩:=id I.loc;let⟨D,h⟩:=u.any k I.free λz=>(d _ z).2.1 Y
 exact I.step (ch:=ch) d (λb o h t a e n=>u.keep b o e n (λz=>(Uy.mp (I.ip b z)).elim h t) a) (λb o _ _ a e n=>u.any e n a) (λb o a e n=>u.free b o e n a) (λb o a e=>u.there b o e a) u.ig u.iW u.iX (λb v o q e a=>u.ij b v o q e a) (λE y=>by
  let⟨o',i,j,f,A⟩:=y;rw[k] at f;cases f
  calc⟨_,i,j,h,A⟩) g l
theorem Inv.turned{t':Nat}{a:U}(I:Inv X pins σ H s)(k:∀b o,b≠a->s.heap.get? b=ζ o->h'.get? b=ζ o)(hn:H a=η)(g:a≠X.env.locals)
  (h:a∈X.ex\/⇑X.s₀<=a) (i:∀x c,X.env.cells.lookup x=ζ c->c≠a) (j:∀p∈X.pn++pins,p.1≠a):Inv X pins σ H {s with heap:=h',toks:=t'}:=by
 let f:∀b u,H b=ζ u->b≠a:=λb u e z=>by rw[z,hn] at e;cases e
 refine I.step (g':=s.gens) (d':=s.drawn) (ch:=[a]) (λb l=>?_) (λb o _ _ d e _=>k b o (λz=>d (by simp[z])) e) (λb o _ _ d e _=>⟨o.slots,k b o (λz=>d (by simp[z])) e⟩) (λ_ _ _ _ n=>n)
  (λb o d e=>⟨o,k b o (λz=>d (by simp[z])) e⟩) (λ_ _ e=>e) (λ_ _ _ e=>e) (λb B e=>⟨#[],by rw[e];simp⟩) (λb _ o _ e d=>k b o (λz=>d (by simp[z])) e) (λm t=>?_) (λb u e=>?_) I.bare
 .let e:b=a:=by simpa using l
  subst e;exact⟨h,g,i,j⟩
 .let⟨o,w,y,A,r⟩:=t
  exact⟨o,w,y,k _ o (Yz g) A,r⟩
 .refine (I.bf b u e).iV (λc v d q=>k c v ?_ q) (λ_ q=>q) λ_ _ q=>q
  rcases d with z|z
  .rw[z];exact f b u e
  .calc f c _ z
theorem Inv.tok(I:Inv X pins σ H s)(t:Nat):Inv X pins σ H {s with toks:=t}:=I.un (h':=s.heap) (t':=t) Un.refl I.bf
theorem Inv.kept{t':Nat}(I:Inv X pins σ H s)(k:∀b u,s.heap.get? b=ζ u->h'.get? b=ζ u):Inv X pins σ H {s with heap:=h',toks:=t'}:=I.un (Un.kept k) (I.bf.kept k)
theorem Inv.laid{a:U}{o:HO}{t':Nat}(I:Inv X pins σ H s)(k:∀b u,s.heap.get? b=ζ u->h'.get? b=ζ u)(c:⇑s<=a)(d:bp X.prog X.w (upd H a o) h' a o):
  Inv X pins σ (upd H a o) {s with heap:=h',toks:=t'}:=I.un (Un.laid k c (I.bf.fresh c)) (I.bf.laid k c d)
theorem Inv.write{x e:U}{o:HO}{t':Nat}(I:Inv X pins σ H s)(mu:qb (H x))(he:e=x\/H e=ζ (.own x))(k:∀b u,b≠e->s.heap.get? b=ζ u->h'.get? b=ζ u)(a:∃u,h'.get? e=ζ u)
  (c:bp X.prog X.w (upd H x o) h' x o):Inv X pins σ (upd H x o) {s with heap:=h',toks:=t'}:=I.un (Un.write mu he k a) (I.bf.write mu he k a c)
theorem Inv.gX{a:a5}(I:Inv X pins σ H s)(h:∀p∈a,s.heap.get? p.1=ζ p.2/\H p.1=η/\p.1≠X.env.locals/\p.1∉X.fs/\∀v,p.2.data≠.cell v):Inv X a σ H s :=
 ⟨I.ok,I.os,I.bare,I.base,I.loc,I.cell,I.free,I.dB,λp b=>(VZ.mp b).elim (λz=>I.pin p (XD _ z)) (h p),I.bf,I.len⟩
theorem Bi{N:-R}(c:N.Nodup){i j:Nat}{x:R}(a:N[i]?=ζ x)(b:N[j]?=ζ x):i=j:=by
 let⟨f,d⟩:=pa.mp a;let⟨g,e⟩:=pa.mp b;calc(Y3 c).mp (d.trans e.symm)
theorem Bj{M:Model}{A:Β}{E:br}{i:Nat}{x:π}{v:V}{u:ν}{Q:Unit->ο->Prop}(I:Inv X pins σ H s)(hN:X.N.Nodup)(R:X.N[i]?=ζ x)(l:Loc X.env.scope x)(r:RelV v u)
  (h:∀s',Inv X pins (σ.set i (ζ v)) H s'->(∃a,Zk a s.heap s'.heap/\(a=X.env.locals\/X.env.cells.lookup x=ζ a))->Q () s') (hf:ik X x:=by first|exact .inl rfl|exact .inr rfl|assumption):ρ M A (storeName X.env x u) Q E s:=by
 let⟨m,hn,hl⟩:=id I.loc;let S:(X.env.scope.kind==.class||(X.env.scope.kind==.module&&X.env.locals != X.env.globals))=ι:=by rw[I.ok.kind];rfl
 let G:i<↑σ:=by rw[I.len];exact(pa.mp R).1
 let K:=I.vG
 let t:∀{a:ξ}{P:Α},(∃o,s.heap.get? a=ζ o/\H a=η)->Zk a s.heap P->fz X.prog X.w H P:=λ{a P} ha f b ob e=>by
  let⟨_,_,C⟩:=ha;calc(I.bf b ob e).iV (λc Z B q=>(f.2 c ?_).trans q) (λ_ q=>q) λ_ _ q=>q;ext rfl;rcases B with rfl|B
  .rw[C] at e;cases e
  .rw[C] at B;cases B
 rcases l with J|J
 .refine wpAny_storeName_local J hn (λP IE f=>?_) S
  let⟨oL,_,_,IF,_⟩:=id hn;refine h _ ⟨I.ok,I.os,I.bare,⟨λb o e n L l=>?_,λb o e n L l=>?_,I.base.free,λb o e l=>?_,I.base.ig,I.base.iW,I.base.iX,λb xs o g e l=>(f.2 b (VF (VS (Vz e) I.ok.above))).trans (I.base.ij b xs o g e l)⟩,⟨_,IE,λj y v' g D e3=>?_⟩,λy c e=>?_,I.free,I.dB,λp hp=>?_,t ⟨oL,IF,I.free⟩ f,by simpa using I.len⟩ ⟨_,f,.inl rfl⟩
  .exact (f.2 b (VF (VS (Vz e) I.ok.above))).trans (I.base.keep b o e n L l)
  .let⟨sl,g⟩:=I.base.slot b o e n L l
   exact⟨sl,(f.2 b (VF (VS (Vz e) I.ok.above))).trans g⟩
  .let⟨o',g⟩:=I.base.there b o e l
   exact⟨o',(f.2 b (VF (VS (Vz e) I.ok.above))).trans g⟩
  .by_cases O:j=i
   .subst O
    rw[R] at g;cases g;rw[Xg G] at D;cases D
    exact⟨u,r,.inl ⟨J,by simp⟩⟩
   .rw[Xj (Yz O)] at D
    let⟨u',r',q⟩:=hl j y v' g D e3;calc⟨u',r',?_⟩;rcases q with⟨k,e⟩|⟨k,c,e,z⟩
    .refine .inl ⟨k,?_⟩
     let:y≠x:=λe=>O (Bi hN g (e▸R));simp[this,e]
    .exact .inr ⟨k,c,e,z.sameBut f (K y c e)⟩
  .let⟨Z,z⟩:=I.cell y c e
   exact⟨Z,z.sameBut f (K y c e)⟩
  .let⟨e,n,ne,nf,d⟩:=I.pin p hp
   exact⟨(f.2 p.1 ne).trans e,n,ne,nf,d⟩
 .let F:X.fn x=θ:=by
   rcases hf with z|z
   .exact z
   .rw[z] at J;cases J
  let⟨c,B⟩:=I.ok.has x (.inl J);let⟨Z,z⟩:=I.cell x c B;calc wpAny_storeName_cell I.ok.kind J B z (λP T f=>?_);let⟨oc,U,W⟩:=id z;refine h {s with heap:=P} ⟨I.ok,I.os,I.bare,⟨λb o e n L l=>?_,λb o e n L l=>?_,I.base.free,λb o e l=>?_,I.base.ig,I.base.iW,I.base.iX,λb xs o g e l=>(f.2 b (VF (VS (Vz e) (I.ok.mY x c F B)))).trans (I.base.ij b xs o g e l)⟩,⟨m,hn.sameBut f (Yz (K x c B)),λj y v' g D e3=>?_⟩,λy c' e=>?_,I.free,I.dB,λp hp=>?_,t ⟨oc,U,I.dB x c B⟩ f,by simpa using I.len⟩ ⟨c,f,.inr B⟩
  .exact (f.2 b (VF (VS (Vz e) (I.ok.mY x c F B)))).trans (I.base.keep b o e n L l)
  .let⟨sl,g⟩:=I.base.slot b o e n L l
   exact⟨sl,(f.2 b (VF (VS (Vz e) (I.ok.mY x c F B)))).trans g⟩
  .let⟨o',g⟩:=I.base.there b o e l
   exact⟨o',(f.2 b (VF (VS (Vz e) (I.ok.mY x c F B)))).trans g⟩
  .by_cases O:j=i
   .subst O
    rw[R] at g;cases g;rw[Xg G] at D;cases D
    exact⟨u,r,.inr ⟨.inl J,c,B,T⟩⟩
   .rw[Xj (Yz O)] at D
    let⟨u',r',q⟩:=hl j y v' g D e3;calc⟨u',r',?_⟩;rcases q with q|⟨k,c',e,z'⟩
    .exact .inl q
    .refine .inr ⟨k,c',e,z'.sameBut f ?_⟩
     ext rfl;exact O (Bi hN g (I.ok.inj _ _ _ e B▸R))
  .by_cases Y:c'=c
   .subst Y;exact⟨_,T⟩
   .let⟨w2,z2⟩:=I.cell y c' e
    exact⟨w2,z2.sameBut f Y⟩
  .let⟨e,n,ne,nf,d⟩:=I.pin p hp
   calc⟨(f.2 p.1 ?_).trans e,n,ne,nf,d⟩;ext q;rw[q,U] at e;let q':oc=p.2:=WD e;calc d Z (by rw[<-q'];calc W)
theorem Bk{M:Model}{A:t}{E:br}{i:Nat}{x:R}{v:V}{u:ν}{Q:Unit->L->Prop}(I:Inv X pins σ H s)(a:X.N.Nodup)(b:X.N[i]?=ζ x)(c:Loc X.env.scope x)(r:RelV v u)
  (h:∀s',Inv X pins (σ.set i (ζ v)) H s'->Q () s') (e:ik X x:=by first|exact .inl Y|exact .inr Y|assumption):G M A (storeName X.env x u) Q E s :=
 Bj I a b c r (λd f _=>h d f) e
theorem Inv.qd{s':L}{ch:-U}(I:Inv X pins σ H s)(f:s'.os=s.os)(u:Un (kP X.stack) ch H H' s.heap s'.heap)(a:fz X.prog X.w H' s'.heap)(g:AllBare s'.gens)
  (d:∀b∈ch,(b∈X.ex\/⇑X.s₀<=b)/\b≠X.env.locals/\(∀x c,X.env.cells.lookup x=ζ c->c≠b)/\∀p∈X.pn++pins,p.1≠b):Inv X pins σ H' s':=by
 let⟨i,g',d',t',h⟩:=s';let e:h=s.os:=f;subst e;calc I.call (g':=g') (t':=t') (d':=d') u a g d
end
abbrev XK:=M->Option U->Hp->Prop
abbrev St:=-(Option V)
abbrev VK:=V->Hp->Prop
abbrev TE:=St->Hp->VK->Prop
abbrev TT:=St->Hp->(Bool->Hp->Prop)->Prop
abbrev TA:=St->Hp->(-V->Hp->Prop)->Prop
structure Ends where
 nx:St->Hp->Prop
 rt:VK
 bk:St->Hp->Prop:=λ_ _=>False
 ct:St->Hp->Prop:=λ_ _=>False
abbrev TS:=Ends->St->Hp->Prop
inductive EP (X:Cx) (pins:a5) (σ:St) (Q:VK) (u:M) (s':L):Prop
 |mk (v:V) (H':Hp) (I:Inv X pins σ H' s') (r:RelV v u) (q:Q v H')
def TP(X:Cx)(a:a5)(d:St)(Q:Bool->Hp->Prop)(b:Bool)(s':L):Prop:=∃c,Inv X a d c s'/\Q b c
inductive AP (X:Cx) (pins:a5) (σ:St) (Q:-V->Hp->Prop) (us:-M) (s':L):Prop
 |mk (vs:-V) (H':Hp) (I:Inv X pins σ H' s') (r:Vals vs us) (q:Q vs H')
def SP(X:Cx)(b:a5)(D:Ends)(f:Flow)(s':L):Prop :=
 match f with
 |.next=>∃a c,Inv X b a c s'/\D.nx a c
 |.brk=>∃a c,Inv X b a c s'/\D.bk a c
 |.cont=>∃a c,Inv X b a c s'/\D.ct a c
 |.ret u=>∃v a c,Inv X b a c s'/\RelV v u/\D.rt v c
structure JE(X:Cx)(e:J)(t:TE):Prop where
 out:∀(pins:a5)(s:L)(σ:St)(H:Hp)(Q:VK),Inv X pins σ H s->t σ H Q->G (B X.prog X.w) X.A (eval e X.env) (EP X pins σ Q) X.xe s
instance {X:Cx} {e:J} {t:TE}:CoeFun (JE X e t) (λ_=>∀(pins:a5)(s:L)(σ:St)(H:Hp)(Q:VK),Inv X pins σ H s->t σ H Q->G (B X.prog X.w) X.A (eval e X.env) (EP X pins σ Q) X.xe s):=⟨JE.out⟩
structure JT(X:Cx)(e:J)(t:TT):Prop where
 out:∀(pins:a5)(s:L)(σ:St)(H:Hp)(Q:Bool->Hp->Prop),Inv X pins σ H s->t σ H Q->G (B X.prog X.w) X.A (isTrue e X.env (eval e X.env)) (TP X pins σ Q) X.xe s
instance {X:Cx} {e:J} {t:TT}:CoeFun (JT X e t) (λ_=>∀(pins:a5)(s:L)(σ:St)(H:Hp)(Q:Bool->Hp->Prop),Inv X pins σ H s->t σ H Q->G (B X.prog X.w) X.A (isTrue e X.env (eval e X.env)) (TP X pins σ Q) X.xe s):=⟨JT.out⟩
structure JW(X:Cx)(e:J)(t:TT):Prop where
 out:∀(whole:Sem M)(pins:a5)(s:L)(σ:St)(H:Hp)(Q:Bool->Hp->Prop),Inv X pins σ H s->t σ H Q->G (B X.prog X.w) X.A (isTrue e X.env whole) (TP X pins σ Q) X.xe s
instance {X:Cx} {e:J} {t:TT}:CoeFun (JW X e t) (λ_=>∀(whole:Sem M)(pins:a5)(s:L)(σ:St)(H:Hp)(Q:Bool->Hp->Prop),Inv X pins σ H s->t σ H Q->G (B X.prog X.w) X.A (isTrue e X.env whole) (TP X pins σ Q) X.xe s):=⟨JW.out⟩
theorem JW.jt{X:Cx}{e:J}{t:TT}(h:JW X e t):JT X e t:=⟨h.out _⟩
structure JA(X:Cx)(es:-J)(t:TA):Prop where
 out:∀(pos:I)(pins:a5)(s:L)(σ:St)(H:Hp)(Q:-V->Hp->Prop),Inv X pins σ H s->t σ H Q->G (B X.prog X.w) X.A (spliced (backTo pos (starEach es X.env))) (AP X pins σ Q) X.xe s
instance {X:Cx} {es:-J} {t:TA}:CoeFun (JA X es t) (λ_=>∀(pos:I)(pins:a5)(s:L)(σ:St)(H:Hp)(Q:-V->Hp->Prop),Inv X pins σ H s->t σ H Q->G (B X.prog X.w) X.A (spliced (backTo pos (starEach es X.env))) (AP X pins σ Q) X.xe s):=⟨JA.out⟩
structure JS(X:Cx)(st:y)(t:TS):Prop where
 out:∀(pins:a5)(s:L)(σ:St)(H:Hp)(D:Ends),Inv X pins σ H s->t D σ H->G (B X.prog X.w) X.A (exec st X.env) (SP X pins D) X.xe s
instance {X:Cx} {st:y} {t:TS}:CoeFun (JS X st t) (λ_=>∀(pins:a5)(s:L)(σ:St)(H:Hp)(D:Ends),Inv X pins σ H s->t D σ H->G (B X.prog X.w) X.A (exec st X.env) (SP X pins D) X.xe s):=⟨JS.out⟩
structure ee(X:Cx)(st:-y)(t:TS):Prop where
 out:∀(pins:a5)(s:L)(σ:St)(H:Hp)(D:Ends),Inv X pins σ H s->t D σ H->G (B X.prog X.w) X.A (execs st X.env) (SP X pins D) X.xe s
instance {X:Cx} {st:-y} {t:TS}:CoeFun (ee X st t) (λ_=>∀(pins:a5)(s:L)(σ:St)(H:Hp)(D:Ends),Inv X pins σ H s->t D σ H->G (B X.prog X.w) X.A (execs st X.env) (SP X pins D) X.xe s):=⟨ee.out⟩
theorem bE{b:Type}{t:Sem b}{Q c:b->L->Prop}{M:Model}{A:Β}{E:br}{s:L}(h:G M A t Q E s)(d:∀a s,Q a s->c a s):G M A t c E s:=X0 h d λ_ _ x=>x
section
variable{X:Cx}
def iZ(i:Nat):TE:=λa H Q=>∃v,a[i]?=ζ (ζ v)/\Q v H
def tC(v:V):TE:=λ_ H Q=>Q v H
theorem Bl{i:Nat}{x:R}{pos:Ε}(k:X.N[i]?=ζ x)(n:qc X.env.scope x)(hd:cy x:=by decide)(g:(x==("__classdict__" : R))=ι:=by decide):JE X (.Name x pos) (iZ i):=by
 calc⟨?_⟩;ext f s o H Q I h;let⟨v,e,h⟩:=h;let⟨m,p,q⟩:=I.loc;let⟨u,r,l⟩:=q i x v k e n;let b:EP X f o Q u s:=⟨v,H,I,r,h⟩;rcases l with⟨d,t⟩|⟨d,c,j,a⟩
 .exact q3N (wpAny_loadName_local I.ok.kind d p t b) hd
 .rcases d with d|d
  .exact q3N (wpAny_loadName_cell I.ok.kind d j a b) hd
  .calc q3N (wpAny_loadName_free I.ok.kind d j a b g) hd
theorem mZ{i j pos}:JE X (.Constant (.int i) j pos) (tC (.int i)):=⟨λ_ _ _ H _ I h=>wpAny_Constant_int ⟨.int i,H,I.tok _,⟨_,Y⟩,h⟩⟩
theorem IG{b j pos}:JE X (.Constant (.bool b) j pos) (tC (.bl b)):=⟨λ_ _ _ H _ I h=>Constant_bool ⟨.bl b,H,I,Y,h⟩⟩
theorem IH{j pos}:JE X (.Constant .none j pos) (tC .non):=⟨λ_ _ _ H _ I h=>Constant_none ⟨.non,H,I,Y,h⟩⟩
theorem sX{x j pos}:JE X (.Constant (.str x) j pos) (tC (.str x)):=⟨λ_ _ _ H _ I h=>Calls.Constant_str ⟨.str x,H,I.tok _,⟨_,Y⟩,h⟩
⟩
def Gl(X:Cx)(x:R):Prop:=X.env.kindOf x=ζ .globalImplicit
theorem sY{E:br}{a:a5}{s:L}{b:St}{H:Hp}{x:R}{u:M}{pos:Ε}{Q:br}(I:Inv X a b H s)(c:Gl X x)(d:X.mg x=ζ u)(h:Q u s)
  (hd:cy x:=by decide):G (B X.prog X.w) X.A (eval (.Name x pos) X.env) Q E s :=
 q0z I.ok.kind c (Calls.loadGlobal_global (by rw[I.ok.glob];calc I.mod.glob.keeps I.bk) d h) hd
theorem m8{E:br}{a:a5}{s:L}{b:St}{H:Hp}{x:R}{u:M}{pos:Ε}{Q:br}(I:Inv X a b H s)(c:Gl X x)(d:X.mg x=η)(e:bootBuiltins x=ζ u)(h:Q u s)
  (hn:x≠"__name__" := by decide) (hd:cy x:=by decide):G (B X.prog X.w) X.A (eval (.Name x pos) X.env) Q E s:=by
 let⟨i,f,g⟩:=I.mod.blt;calc q0z I.ok.kind c (Calls.loadGlobal_builtin (by rw[I.ok.glob];calc I.mod.glob.keeps I.bk) d (by rw[I.ok.blt];calc f.keeps I.bk) ((g x hn).trans e) h) hd
theorem Bm{x:R}{v:V}{u:M}{pos:Ε}(a:Gl X x)(b:X.mg x=ζ u)(r:RelV v u)(hd:cy x:=by decide):JE X (.Name x pos) (tC v):=⟨λ_ _ _ H _ I h=>sY I a b ⟨v,H,I,r,h⟩ hd⟩
theorem II{x:R}{v:V}{u:M}{pos:Ε}(a:Gl X x)(b:X.mg x=η)(c:bootBuiltins x=ζ u)(r:RelV v u)(hn:x≠"__name__" := by decide)(hd:cy x:=by decide):JE X (.Name x pos) (tC v):=⟨λ_ _ _ H _ I h=>m8 I a b c ⟨v,H,I,r,h⟩ hn hd
⟩
variable{a b:J}{ta tb:TE}{pos:I}
structure JC(X:Cx)(op:CmpOp)(a b:J)(t:TE):Prop where
 out:∀(pins:a5)(s:L)(σ:St)(H:Hp)(Q:VK),Inv X pins σ H s->t σ H Q →
  G (B X.prog X.w) X.A (eval a X.env) (λv s₁=>G (B X.prog X.w) X.A (eval b X.env) (λu s₂=>G (B X.prog X.w) X.A (compareOp op v u) (EP X pins σ Q) X.xe s₂) X.xe s₁) X.xe s
instance {X:Cx} {op:CmpOp} {a b:J} {t:TE}:CoeFun (JC X op a b t) (λ_=>∀(pins:a5)(s:L)(σ:St)(H:Hp)(Q:VK),Inv X pins σ H s->t σ H Q->G (B X.prog X.w) X.A (eval a X.env) (λv s₁=>G (B X.prog X.w) X.A (eval b X.env) (λu s₂=>G (B X.prog X.w) X.A (compareOp op v u) (EP X pins σ Q) X.xe s₂) X.xe s₁) X.xe s):=⟨JC.out⟩
def tB(t:TE):TT:=λa H Q=>t a H λx b=>∃c,x=.bl c/\Q c b
theorem Bn{op:CmpOp}{t:TE}(h:JC X op a b t)(f:behindInMarks op b=ι:=by first|exact Uv _ (by decide) (by decide)|rfl):JT X (.Compare a [op] [b] pos) (tB t):=by
 calc⟨?_⟩;ext e s g H Q I i;calc q1N (bE (h e s g H _ I i) λv o f=>bE f λu p j=>bE j λc r ⟨x,k,l,m,n⟩=>?_) f;let⟨d,rfl,q⟩:=n;cases m
 calc Yu ⟨k,l,q⟩
theorem IJ{e:J}{t:TE}(h:JE X e t)(he:∀a,isTrue e X.env a=(do let v <- a;standAt e.pos;holding [v] (truthy v)):=by ext _;rfl):JT X e (tB t):=by
 calc⟨?_⟩;ext b s c H Q I f;calc isTrue_plain (bE (h b s c H _ I f) λv l ⟨x,g,i,j,k⟩=>?_) (he _);let⟨d,rfl,q⟩:=k;cases j
 calc Yu ⟨g,i,q⟩
variable{tA sZ:TT}{rest:-J}
def qe(t u:TT):TT:=λa H Q=>t a H λc b=>if c=θ then u a b Q else Q ι b
def Bo(t u:TT):TT:=λa H Q=>t a H λc b=>if c=θ then Q θ b else u a b Q
def vH(t:TT):TT:=λa H Q=>t a H λc b=>Q (!c) b
theorem IK(d:JT X a tA):JW X (.BoolOp .And [a] pos) tA:=by
 calc⟨?_⟩;ext g b s f H Q I h;refine isTrue_and (bE (d b s f H Q I h) λc i e=>?_)
 cases c with
 |true=>exact isTrue_and_nil e
 |false=>calc e
theorem IL(d:JT X a tA):JW X (.BoolOp .Or [a] pos) tA:=by
 calc⟨?_⟩;ext g b s f H Q I h;refine isTrue_or (bE (d b s f H Q I h) λc i e=>?_)
 cases c with
 |false=>exact isTrue_or_nil e
 |true=>calc e
theorem IM(j:JT X a tA)(k:JW X (.BoolOp .And (b::rest) pos) sZ):JW X (.BoolOp .And (a::b::rest) pos) (qe tA sZ):=by
 calc⟨?_⟩;ext l d s e H Q I h;refine isTrue_and (bE (j d s e H _ I h) λc m ⟨f,g,i⟩=>?_)
 cases c with
 |true=>exact k l d m e f Q g i
 |false=>calc⟨f,g,i⟩
theorem IP(j:JT X a tA)(k:JW X (.BoolOp .Or (b::rest) pos) sZ):JW X (.BoolOp .Or (a::b::rest) pos) (Bo tA sZ):=by
 calc⟨?_⟩;ext l d s e H Q I h;refine isTrue_or (bE (j d s e H _ I h) λc m ⟨f,g,i⟩=>?_)
 cases c with
 |true=>exact⟨f,g,i⟩
 |false=>calc k l d m e f Q g i
theorem IQ(d:JT X a tA):JT X (.UnaryOp .Not a pos) (vH tA):=by
 calc⟨?_⟩;ext b s e H Q I h;calc isTrue_not (d b s e H (λc f=>Q (!c) f) I h)
def IS(ta tb:TE):TE:=λa H Q=>ta a H λx b=>∃c,x=.bl c/\if c=θ then tb a b Q else Q (.bl ι) b
def IT(ta:TE):TE:=λa H Q=>ta a H λx b=>∃c,x=.bl c/\Q (.bl (!c)) b
theorem IU{op}{t:TE}(h:JE X a t):JE X (.BoolOp op [a] pos) t:=⟨λb s c H Q I d=>BoolOp_one (h b s c H Q I d)⟩
theorem IV(j:JE X a ta)(k:JE X (.BoolOp .And (b::rest) pos) tb):JE X (.BoolOp .And (a::b::rest) pos) (IS ta tb):=by
 calc⟨?_⟩;ext d s f H Q I h;calc BoolOp_and (bE (j d s f H _ I h) λv l ⟨x,g,i,m,e⟩=>?_);let⟨c,rfl,e⟩:=e;cases m
 refine Yu ?_
 cases c with
 |true=>exact k d l f g Q i e
 |false=>calc⟨.bl ι,g,i,Y,e⟩
theorem IW(e:JE X a ta):JE X (.UnaryOp .Not a pos) (IT ta):=by
 calc⟨?_⟩;ext b s f H Q I h;calc UnaryOp_ (bE (e b s f H _ I h) λv k ⟨x,g,i,j,d⟩=>?_);let⟨c,rfl,d⟩:=d;cases j
 calc not_of (Yu ⟨.bl (!c),g,i,Y,d⟩)
def IX(t:TT)(ta tb:TE):TE:=λa H Q=>t a H λc b=>if c=θ then ta a b Q else tb a b Q
theorem IY{c:J}(l:JT X c tA)(m:JE X a ta)(n:JE X b tb):JE X (.IfExp c a b pos) (IX tA ta tb):=by
 calc⟨?_⟩;ext e s f H Q I h;refine wpAny_IfExp (bE (l e s f H _ I h) λd g ⟨i,j,k⟩=>?_)
 cases d with
 |true=>exact m e g f i Q j k
 |false=>calc n e g f i Q j k
end
def bS(K:KD)(H:Hp)(a:U)(xs:-V):Prop :=
 Rd H a (.lst xs) ∨
  ∃(o:Γ)(b:Array M)(n:Nat),K.lookup a=ζ o/\o.cls=.type "list" /\ o.dict=η/\o.data=.seq b n/\b.size<=sizeLine/\Vals xs b.toList
def cF(K:KD)(H:Hp)(a:U)(xs:-V):Prop :=
 Rd H a (.tup xs) ∨
  ∃(o:Γ)(b:Array M)(n:Nat),K.lookup a=ζ o/\o.cls=.type "tuple" /\ o.data=.seq b n/\b.size<=sizeLine/\Vals xs b.toList
noncomputable def vI:M->Option V
 |.none=>ζ .non
 |.bool b=>ζ (.bl b)
 |.int i _=>ζ (.int i)
 |.str x _=>ζ (.str x)
 |.bytes b _=>ζ (.byt b)
 |.float b _=>ζ (.flt b)
 |.ref a=>ζ (.ref a)
 |.type n=>ζ (.ty n)
 |_=>η
theorem RelV.abs{x:V}{u:M}(r:RelV x u):vI u=ζ x:=by
 cases x with
 |non=>cases r;rfl
 |bl _=>cases r;rfl
 |int _=>let⟨t,rfl⟩:=r;rfl
 |str _=>let⟨t,rfl⟩:=r;rfl
 |byt _=>let⟨t,rfl⟩:=r;rfl
 |flt _=>let⟨t,rfl⟩:=r;rfl
 |ref _=>cases r;rfl
 |ty _=>cases r;rfl
theorem RelV.inj{x y:V}{u:M}(r:RelV x u)(q:RelV y u):x=y:=WD (r.abs.symm.trans q.abs)
theorem Vals.inj:∀{xs ys:-V}{us:-M},Vals xs us->Vals ys us->xs=ys
 |_,_,_,.nil,.nil=>Y
 |_,_,_,.cons r t,.cons a b=>by rw[r.inj a,Vals.inj t b]
section
variable{X:Cx}{pins:a5}{σ:St}{H:Hp}{s:L}{a:U}{xs ys:-V}
theorem bS.of{K:KD}(h:H a=ζ (.lst xs)):bS K H a xs:=.inl (.inl h)
theorem cF.of{K:KD}(h:H a=ζ (.tup xs)):cF K H a xs:=.inl (.inl h)
theorem Inv.list(I:Inv X pins σ H s)(h:bS X.K H a xs):∃b:-M,Vals xs b/\PlainL s.heap a b.toArray/\↑xs<=sizeLine:=by
 rcases h with h|⟨o,b,n,c,d,f,g,i,r⟩
 .let⟨z,b,n,r,e⟩:=h.ok I.bf
  exact⟨b,r,⟨_,n,e,Y,Y,Y⟩,z⟩
 .refine⟨b.toList,r,⟨o,n,I.gB a o c,d,f,by simpa using g⟩,?_⟩
  let e:=↑r;erw[UC] at e;symm
theorem Inv.tuple(I:Inv X pins σ H s)(h:cF X.K H a xs):∃b:-M,Vals xs b/\IsTup s.heap a b.toArray/\↑xs<=sizeLine:=by
 rcases h with h|⟨o,b,n,c,d,f,g,r⟩
 .let⟨z,b,r,p⟩:=h.ok I.bf
  exact⟨b,r,p,z⟩
 .refine⟨b.toList,r,⟨o,I.gB a o c,d,n,by simpa using f⟩,?_⟩
  let e:=↑r;erw[UC] at e;symm
theorem Inv.i5(I:Inv X pins σ H s)(h:bS X.K H a xs)(h':bS X.K H a ys):xs=ys:=by
 let⟨c,r,⟨o,n,e,_,_,d⟩,_⟩:=I.list h;let⟨b,i,⟨o',j,f,_,_,g⟩,_⟩:=I.list h';rw[e] at f;cases f;rw[d] at g;injection g with d1 _;let:c=b:=by simpa using congrArg q4L d1
 subst this;calc r.inj i
theorem Inv.ib(I:Inv X pins σ H s)(h:cF X.K H a xs)(h':cF X.K H a ys):xs=ys:=by
 let⟨c,r,⟨o,e,_,n,d⟩,_⟩:=I.tuple h;let⟨b,i,⟨o',f,_,j,g⟩,_⟩:=I.tuple h';rw[e] at f;cases f;rw[d] at g;injection g with d1 _;let:c=b:=by simpa using congrArg q4L d1
 subst this;calc r.inj i
end
noncomputable abbrev Cx.hZ(X:Cx)(E:br):Cx:={X with xe:=E}
noncomputable abbrev Cx.kQ(X:Cx):Cx:=X.hZ λ_ _=>False
theorem Cx.Ok.hZ{X:Cx}(a:X.Ok)(E:br):(X.hZ E).Ok :=
 ⟨a.mod,a.kind,a.glob,a.blt,a.above,a.inj,a.has,a.mY,a.hd,a.frames,a.o6,a.sW,a.bs,a.k_,a.iY,a.kh,a.fj,a.lT⟩
theorem Cx.Ok.eE{X:Cx}{E:br}(a:(X.hZ E).Ok):X.Ok :=
 ⟨a.mod,a.kind,a.glob,a.blt,a.above,a.inj,a.has,a.mY,a.hd,a.frames,a.o6,a.sW,a.bs,a.k_,a.iY,a.kh,a.fj,a.lT⟩
section
variable{X:Cx}{pins:a5}{σ:St}{H:Hp}{s:L}{E:br}
theorem Inv.hZ(I:Inv X pins σ H s)(E:br):Inv (X.hZ E) pins σ H s:=⟨I.ok.hZ E,I.os,I.bare,I.base,I.loc,I.cell,I.free,I.dB,I.pin,I.bf,I.len⟩
theorem Inv.eE(I:Inv (X.hZ E) pins σ H s):Inv X pins σ H s:=⟨I.ok.eE,I.os,I.bare,I.base,I.loc,I.cell,I.free,I.dB,I.pin,I.bf,I.len⟩
theorem SP.eE{D:Ends}{f:Flow}{s':L}(h:SP (X.hZ E) pins D f s'):SP X pins D f s':=by
 cases f with
 |next=>let⟨a,b,I,q⟩:=h;exact⟨a,b,I.eE,q⟩
 |brk=>let⟨a,b,I,q⟩:=h;exact⟨a,b,I.eE,q⟩
 |cont=>let⟨a,b,I,q⟩:=h;exact⟨a,b,I.eE,q⟩
 |ret u=>let⟨v,a,b,I,r,q⟩:=h;calc⟨v,a,b,I.eE,r,q⟩
theorem ee.kQ{st:-y}{t:TS}(h:ee X.kQ st t):ee X st t:=⟨λa s b H D I c =>
 X0 (h a s b H D (I.hZ _) c) (λ_ _ q=>q.eE) λ_ _ z=>XN z⟩
end
section
variable{X:Cx}{st:y}{rest:-y}{t u:TS}{e:J}{te:TE}{pos:I}
def IZ:TS:=λD a H=>D.nx a H
def me(t u:TS):TS:=λD a H=>t {D with nx:=u D} a H
theorem mf:ee X [] IZ:=⟨λ_ _ a H _ I h=>Zx ⟨a,H,I,h⟩⟩
theorem nL(c:JS X st t)(d:ee X rest u):ee X (st::rest) (me t u):=by
 calc⟨?_⟩;ext a s e H D I h;refine q25 (bE (c a s e H {D with nx:=u D} I h) λf g q=>?_)
 cases f with
 |next =>
  let⟨b,i,j,q⟩:=q;exact d a g b i D j q
 |ret v=>exact q
 |brk=>exact q
 |cont=>calc q
theorem qf(b:JS X st t):ee X [st] t:=by
 calc⟨?_⟩;ext a s c H D I h;refine q25 (bE (b a s c H D I h) λf d q=>?_)
 cases f with
 |next=>exact Zx q
 |ret v=>exact q
 |brk=>exact q
 |cont=>calc q
theorem Inv.quiet{a:a5}{b:St}{H:Hp}{s:L}(I:Inv X a b H s):interactive X.env=ι:=by simp[interactive,I.ok.kind]
def Bp(b:TE):TS:=λD a H=>b a H λ_ c=>D.nx a c
theorem Bq(he:JE X e te)(hs:swapsWith e η pos.line X.env=pure ι:=by rfl):JS X (.Expr e pos) (Bp te):=by
 calc⟨?_⟩;ext a s b H D I h;calc wpAny_Expr_any (bE (he a s b H _ I h) λv g ⟨x,c,d,i,f⟩↦⟨b,c,d,f⟩) I.quiet hs
def qg(a:TE):TS:=λD b H=>a b H D.rt
theorem vJ(he:JE X e te):JS X (.Return (ζ e) pos) (qg te):=by
 calc⟨?_⟩;ext a s b H D I h;calc wpAny_Return_some (bE (he a s b H _ I h) λv i ⟨x,c,d,f,g⟩↦⟨x,b,c,d,f,g⟩)
def vK(c:TT)(t u:TS):TS:=λD a H=>c a H λb d=>if b=θ then t D a d else u D a d
theorem I0{c:J}{a b:-y}{g:TT}(m:JT X c g)(n:ee X a t)(o:ee X b u):JS X (.If c a b pos) (vK g t u):=by
 calc⟨?_⟩;ext e s f H D I h;refine wpAny_If (bE (m e s f H _ I h) λd i ⟨j,k,l⟩=>?_)
 cases d with
 |true=>exact n e i f j D k l
 |false=>calc o e i f j D k l
end
abbrev TG:=V->St->Hp->(St->Hp->Prop)->Prop
abbrev kR:=-V->St->Hp->(St->Hp->Prop)->Prop
structure JG(X:Cx)(target:J)(t:TG):Prop where
 out:∀(pins:a5)(s:L)(σ:St)(H:Hp)(v:V)(u:M)(Q:St->Hp->Prop),Inv X pins σ H s->RelV v u->t v σ H Q →
  G (B X.prog X.w) X.A (assign target X.env u) (λ_ s'=>∃σ' H',Inv X pins σ' H' s'/\Q σ' H') X.xe s
instance {X:Cx} {target:J} {t:TG}:CoeFun (JG X target t) (λ_=>∀(pins:a5)(s:L)(σ:St)(H:Hp)(v:V)(u:M)(Q:St->Hp->Prop),Inv X pins σ H s->RelV v u->t v σ H Q->G (B X.prog X.w) X.A (assign target X.env u) (λ_ s'=>∃σ' H',Inv X pins σ' H' s'/\Q σ' H') X.xe s):=⟨JG.out⟩
structure jX(X:Cx)(ts:-J)(t:kR):Prop where
 out:∀(pins:a5)(s:L)(σ:St)(H:Hp)(vs:-V)(us:-M)(Q:St->Hp->Prop),Inv X pins σ H s->Vals vs us->t vs σ H Q →
  G (B X.prog X.w) X.A (assignInOrder ((assignEach ts X.env).map (·.2)) us) (λ_ s'=>∃σ' H',Inv X pins σ' H' s'/\Q σ' H') X.xe s
instance {X:Cx} {ts:-J} {t:kR}:CoeFun (jX X ts t) (λ_=>∀(pins:a5)(s:L)(σ:St)(H:Hp)(vs:-V)(us:-M)(Q:St->Hp->Prop),Inv X pins σ H s->Vals vs us->t vs σ H Q->G (B X.prog X.w) X.A (assignInOrder ((assignEach ts X.env).map (·.2)) us) (λ_ s'=>∃σ' H',Inv X pins σ' H' s'/\Q σ' H') X.xe s):=⟨jX.out⟩
abbrev nM:=V->V->V->Hp->(Hp->Prop)->Prop
def qh(X:Cx)(t:nM):Prop :=
 ∀(a:a5)(s:L)(b:St)(H:Hp)(o i v:V)(c d u:M)(Q:Hp->Prop),Inv X a b H s->RelV o c->RelV i d->RelV v u->t o i v H Q →
  G (B X.prog X.w) X.A (setItem c d u) (λ_ f=>∃e,Inv X a b e f/\Q e) X.xe s
section
variable{X:Cx}{pos:I}
def nN(i:Nat):TG:=λv a H Q=>Q (a.set i (ζ v)) H
theorem qi{i:Nat}{x:R}(b:X.N.Nodup)(c:X.N[i]?=ζ x)(d:Loc X.env.scope x)(e:ik X x:=by first|exact .inl Y|exact .inr Y|assumption):JG X (.Name x pos) (nN i):=by
 calc⟨?_⟩;ext a s g H v u Q I r h;calc q2F (Bk I b c d r (λj f=>⟨_,H,f,h⟩) e)
def qj:kR:=λa b H Q=>a=[]/\Q b H
def vL(t:TG)(u:kR):kR:=λb c H Q=>∃v r,b=v::r/\t v c H λa d=>u r a d Q
theorem iq:jX X [] qj:=by
 calc⟨?_⟩;ext a s b H c d Q I r h;let⟨e,h⟩:=h;subst e;cases r
 calc assignInOrder_nil ⟨b,H,I,h⟩
theorem qk{e:J}{es:-J}{t:TG}{u:kR}(c:JG X e t)(d:jX X es u)
  (hs:(assignEach (e::es) X.env).map (·.2)=assign e X.env::(assignEach es X.env).map (·.2):=by rfl):jX X (e::es) (vL t u):=by
 calc⟨?_⟩;ext a s f H n o Q I r h;let⟨v,p,g,h⟩:=h;subst g
 cases r with
 |cons r i =>
  rw[hs];calc assignInOrder_cons (bE (c a s f H _ _ _ I r h) λ_ j ⟨b,k,l,m⟩=>?_);calc d a j b k _ _ Q l i m
def qm(K:KD)(n:Nat)(t:kR):TG:=λv c H Q=>∃a b,v=.ref a/\cF K H a b/\↑b=n/\t b c H Q
theorem vM{es:-J}{k:Nat}{t:kR}{n:Nat}(j:X.calm=θ)(h:jX X es t)
  (hn:↑(assignEach es X.env)=n:=by rfl) (d:(assignEach es X.env).findIdx? (·.1)=η:=by rfl):JG X (.Tuple es k pos) (qm X.K n t):=by
 calc⟨?_⟩;ext c s g H v u Q I r f;let⟨a,l,m,p,q,f⟩:=f;subst m;cases r
 let⟨w,i,x,B⟩:=I.tuple p;calc assign_Tuple_tuple (I.ok.hd j) x (by simp[hn,<-q,i.length]) d λy z=>?_;let A:Inv X c g H {s with heap:=y}:=I.kept (t':=s.toks) λb o e=>z b o (VF (Vz e)) e;calc h c _ g H l _ Q A i⁻¹ f
def qo(b c:TE)(t:nM):TG:=λv a H Q=>b a H λo d=>c a d λi e=>t o i v e λf=>Q a f
theorem vN{o i:J}{d e:TE}{t:nM}(f:JE X o d)(g:JE X i e)(hs:qh X t)
  (k:∀v,assign (.Subscript o i pos) X.env v=(do
   let ov <- holding [v] (eval o X.env)
   let b <- holding [v,ov] (eval i X.env)
   standAt pos
   holding [v,ov,b] (setItem ov b v)
   release [v,ov,b] []):=by ext _;rfl):JG X (.Subscript o i pos) (qo d e t):=by
 calc⟨?_⟩;ext a s c H v u Q I r h;rw[k];calc nX (WK (bE (f a s c H _ I h) λj l ⟨x,m,n,p,q⟩=>?_));calc nX (WK (bE (g a l c m _ n q) λb w ⟨y,z,A,B,C⟩=>?_));calc nX (Zs (nX (WK (bE (hs a w c z x y v j b u _ A p B r C) λ_ G ⟨D,E,F⟩=>?_))));calc wpAny_release ⟨c,D,E,F⟩
def ki(b:TE)(g:TG):TS:=λD a H=>b a H λx c=>g x a c D.nx
theorem s_{b e:J}{c:TE}{g:TG}(he:JE X e c)(f:JG X b g)(hs:swapsWithSole [b] e pos.line X.env=pure ι:=by rfl)(i:swappedStores [b] e X.env=pure η:=by rfl)
  (j:(assignEach [b] X.env).map (·.2)=[assign b X.env]:=by rfl):JS X (.Assign [b] e pos) (ki c g):=by
 calc⟨?_⟩;ext a s d H D I h;calc wpAny_Assign_stores (bE (he a s d H _ I h) λv k ⟨x,l,m,n,o⟩=>?_) hs i;rw[j];calc bE (f a k d l x v _ m n o) λ_ p q=>q
theorem ti{i:Nat}{x:R}{e:J}{c:TE}{a:Ε}(d:X.N.Nodup)(f:X.N[i]?=ζ x)(g:Loc X.env.scope x)(he:JE X e c)(hs:swapsWith e (ζ (.Name x a)) pos.line X.env=pure ι:=by rfl)(j:ik X x:=by first|exact .inl Y|exact .inr Y|assumption):
  JS X (.Assign [.Name x a] e pos) (ki c (nN i)):=by
 calc⟨?_⟩;ext b s k H D I h;calc wpAny_Assign_Name (bE (he b s k H _ I h) λv q ⟨y,l,m,n,o⟩=>?_) hs;calc Bk m d f g n (λr p=>⟨_,l,p,o⟩) j
def I7(c:TT)(tb:TS):TS:=λD a H=>∃W:Nat->St->Hp->Prop,(∃m,W m a H)/\∀m a H,W m a H →
 c a H λb e=>if b=θ then ∃N:St->Hp->Prop,(∀d f,N d f->∃g,g<m/\W g d f)/\tb {D with nx:=N,ct:=N,bk:=D.nx} a e else D.nx a e
theorem I_{c:υ}{g:-χ}{u:TT}{tb:TS}(x:PassesOwn (ς X.prog X.w) X.A X.env X.xe)(F:JT X c u)(G:ee X g tb):JS X (.While c g [] pos) (I7 u tb):=by
 calc⟨?_⟩;ext a s J H D I h;let⟨W,⟨K,L⟩,i⟩:=h;calc wpAny_While (codeAny_whileLoop (λn M=>∃j y,Inv X a j y M/\W n j y) ?_ K ⟨J,H,I,L⟩);ext n O ⟨e,z,P,Q⟩;refine YT x (bE (F a O e z _ P (i n e z Q)) λb R ⟨B,C,l⟩=>?_)
 cases b with
 |true =>
  let⟨N,E,l⟩:=l;rw[VE Y];refine YT x (bE (G a R e B _ C l) λf S m=>?_)
  cases f with
  |next =>
   let⟨d,k,o,p⟩:=m;let⟨q,r,t⟩:=E d k p;exact⟨q,r,d,k,o,t⟩
  |cont =>
   let⟨d,k,o,p⟩:=m;let⟨q,r,t⟩:=E d k p;exact⟨q,r,d,k,o,t⟩
  |brk=>exact m
  |ret v=>exact m
 |false =>
  rw[VC Wo];calc Zx ⟨e,B,C,l⟩
end
structure It where
 go:Nat->Hp->Prop
 o7:Nat->Hp->V->Hp->Prop
 stop:Nat->Hp->Prop
def cz(X:Cx)(a:a5)(H:Hp)(b:U):Prop :=
 H b=η/\b≠X.env.locals/\b∉X.fs/\(b∈X.ex\/⇑X.s₀<=b)/\(∀x c,X.env.cells.lookup x=ζ c->c≠b)/\∀p∈X.pn++a,p.1≠b
theorem Inv.i7{X:Cx}{a:a5}{f:St}{H H':Hp}{s:L}{b:U}(I:Inv X a f H s)(d:⇑s<=b)(hn:H' b=η):cz X a H' b:=by
 refine⟨hn,Yc (VS I.lt d),I.vF d,.inr (Wr I.sz d),λx c e z=>?_,λp g z=>?_⟩
 .let⟨v,q⟩:=I.cell x c e
  exact absurd (VS q.lt (by rw[z];calc d)) (X9 _)
 .calc absurd (VS (Vz (I.pin p g).1) (by rw[z];calc d)) (X9 _)
structure Turn(P:ψ)(w:l)(K:KD)(tg:υ)(J:It)(fp:-U)(it:U)(tn:Nat->Α->Prop):Prop where
 mem:it∈fp
 obj:∀i h,tn i h->∀b∈fp,∃o,h.get? b=ζ o/\∀v,o.data≠.cell v
 keep:∀i h h',tn i h->(∀b∈fp,∀o,h.get? b=ζ o->h'.get? b=ζ o)->tn i h'
 item:∀(X:Cx),X.prog=P->X.w=w->X.K=K->X.calm=θ->∀(i:Nat)(pins:a5)(s:L)(σ:St)(H:Hp)(E:br),Inv X pins σ H s->(∀b∈fp,cz X pins H b)->tn i s.heap->J.go i H →
  G (B P w) X.A (pyNext (.ref it)) (λr s1=>∃u,r=ζ u ∧
   G (B P w) X.A (letOwnedTupleGo tg (.ref it) u) (λ_ s2=>∃x H',Inv X pins σ H' s2/\RelV x u/\J.o7 i H x H'/\tn (i+1) s2.heap/\∀b∈fp,H' b=η) E s1) E s
 done:∀(X:Cx),X.prog=P->X.w=w->X.K=K->X.calm=θ->∀(i:Nat)(pins:a5)(s:L)(σ:St)(H:Hp)(E:br),Inv X pins σ H s->(∀b∈fp,cz X pins H b)->tn i s.heap->J.stop i H →
  G (B P w) X.A (pyNext (.ref it)) (λr s1=>r=η/\Inv X pins σ H s1) E s
 self:∀(A:t)(i:Nat)(s:L)(Q:br)(E:br),tn i s.heap->Q (.ref it) s->G (B P w) A (pyIter (.ref it)) Q E s
abbrev TI:=St->Hp->(It->Hp->Prop)->Prop
def vO(X:Cx)(a:a5)(i:St)(j:υ)(R:It->Hp->Prop)(c:M)(e:L):Prop :=
 ∃(f:U)(g:-U)(h:Nat->Q->Prop)(J:It)(d:Hp),c=.ref f/\Inv X a i d e/\Turn X.prog X.w X.K j J g f h/\h 0 e.heap/\(∀b∈g,cz X a d b)/\R J d
structure JI(X:Cx)(tg iter:J)(wi:TI):Prop where
 out:∀(pins:a5)(s:L)(σ:St)(H:Hp)(R:It->Hp->Prop),Inv X pins σ H s->wi σ H R →
  G (B X.prog X.w) X.A (eval iter X.env) (λv s1=>G (B X.prog X.w) X.A (pyIter v) (vO X pins σ tg R) X.xe s1) X.xe s
instance {X:Cx} {tg iter:J} {wi:TI}:CoeFun (JI X tg iter wi) (λ_=>∀(pins:a5)(s:L)(σ:St)(H:Hp)(R:It->Hp->Prop),Inv X pins σ H s->wi σ H R->G (B X.prog X.w) X.A (eval iter X.env) (λv s1=>G (B X.prog X.w) X.A (pyIter v) (vO X pins σ tg R) X.xe s1) X.xe s):=⟨JI.out⟩
theorem vP {M:Model} {A:t} {E:br} {s:L} {b:J} {c:U} {u:ν} {o:Γ} {n:String} {vs:Array ν} {Q:Unit->L->Prop} (d:s.heap.get? c=ζ o) (e:o.cls = .type n) (hd:o.data = .fields vs)
  (hn:["enumerate", "zip", "dict_itemiterator", "dict_reverseitemiterator", "odict_iterator", "itertools.zip_longest", "itertools.pairwise"].contains n=ι) (a:Q () s):G M A (letOwnedTupleGo b (.ref c) u) Q E s:=by
 unfold letOwnedTupleGo
 cases b<;>first
  | exact B7 a
  | (cases u<;>first
    | exact B7 a
    | (refine nX (q1r d ?_)
       rw[e,hd];show G M A (if (["enumerate", "zip", "dict_itemiterator", "dict_reverseitemiterator", "odict_iterator", "itertools.zip_longest", "itertools.pairwise"].contains n && vs[0]? == ζ (rawInt _))=θ then _ else _) Q E s;rw[VC (by ext h;rw[hn,q1Z] at h;cases h)]
       calc B7 a))
noncomputable def Br(K:KD)(a:U):It :=
 ⟨λi H=>∃b x,bS K H a b/\b[i]?=ζ x,λi H x c=>c=H/\∀b,bS K H a b->b[i]?=ζ x,λi H=>∃b,bS K H a b/\↑b<=i⟩
noncomputable def Bs(K:KD)(a:U):It :=
 ⟨λi H=>∃b x,cF K H a b/\b[i]?=ζ x,λi H x c=>c=H/\∀b,cF K H a b->b[i]?=ζ x,λi H=>∃b,cF K H a b/\↑b<=i⟩
noncomputable def qp(a:Int)(n:Nat):It:=⟨λi _=>i<n,λi H x b=>b=H/\x=.int (a+i),λi _=>n<=i⟩
theorem Ja{P:ψ}{w:ω}{K:KD}{R:υ}(a j:ξ):Turn P w K R (Br K a) [j] j (λi h=>h.IsListIter j a i) where
 mem:=by simp
 obj:=λi h f b l=>by
  let e:b=j:=by simpa using l
  subst e;let⟨o,e,c,d⟩:=f;exact⟨o,e,λv z=>by rw[d] at z;cases z⟩
 keep:=λi h n f k=>f.at λo e=>k j (by simp) o e
 item:=by
  ext X t y A O i g s Q H E I q f B;subst t y A;let⟨S,x,r,C⟩:=B;let⟨D,F,p,T⟩:=I.list r;let⟨u,U,V⟩:=F.get C;let⟨G,J,Y,L,M,N⟩:=q j (by simp);calc wpAny_pyNext_list_item f p.isList (x:=u) U⁻¹ λn m Z=>?_;let I1:Inv X g Q H {s with heap:=n}:=I.turned (t':=s.toks) (λb o l e=>(Z.2 b l).trans e) G J L M N;let⟨o,e,c,d⟩:=id m;exact⟨u,rfl,vP (s:={s with heap:=n}) e c d (by decide) ⟨x,H,I1,V,⟨rfl,λys hy=>by rw[I.i5 hy r];calc C⟩,m,λb l=>(q b l).1⟩⟩
 done:=by
  ext X t y A O i g s Q H E I q f B;subst t y A;let⟨S,r,C⟩:=B;let⟨D,F,p,T⟩:=I.list r;let⟨G,J,Y,L,M,N⟩:=q j (by simp);let hl:=↑F;exact wpAny_pyNext_list_end (I.ok.hd O) f p.isList (by simp;symm) λn eb=>⟨rfl,I.turned (t':=s.toks) (λb o l e=>eb b o l e) G J L M N⟩
 self:=λ_ _ _ _ _ f h=>wpAny_pyIter_listiter f h
theorem Jb{P:ψ}{w:ω}{K:KD}{R:υ}(a j:ξ):Turn P w K R (Bs K a) [j] j (λi h=>h.IsTupleIter j a i) where
 mem:=by simp
 obj:=λi h f b l=>by
  let e:b=j:=by simpa using l
  subst e;let⟨o,e,c,d⟩:=f;exact⟨o,e,λv z=>by rw[d] at z;cases z⟩
 keep:=λi h q f k=>f.at λo e=>k j (by simp) o e
 item:=by
  ext X y A B O i g s Q H E I r f C;subst y A B;let⟨S,x,t,D⟩:=C;let⟨m,F,p,T⟩:=I.tuple t;let⟨u,U,V⟩:=F.get D;let⟨G,J,Y,L,M,N⟩:=r j (by simp);calc wpAny_pyNext_tuple_item f (show s.heap.IsTuple a m.toArray from p) (x:=u) U⁻¹ λq n Z=>?_;let I1:Inv X g Q H {s with heap:=q}:=I.turned (t':=s.toks) (λb o l e=>(Z.2 b l).trans e) G J L M N;let⟨o,e,c,d⟩:=id n;exact⟨u,rfl,vP (s:={s with heap:=q}) e c d (by decide) ⟨x,H,I1,V,⟨rfl,λys hy=>by rw[I.ib hy t];calc D⟩,n,λb l=>(r b l).1⟩⟩
 done:=by
  ext X y A B O i g s Q H E I r f C;subst y A B;let⟨S,t,D⟩:=C;let⟨m,F,p,T⟩:=I.tuple t;let⟨G,J,Y,L,M,N⟩:=r j (by simp);let hl:=↑F;exact wpAny_pyNext_tuple_end (I.ok.hd O) f (show s.heap.IsTuple a m.toArray from p) (by simp;symm) λq eb=>⟨rfl,I.turned (t':=s.toks) (λb o l e=>eb b o l e) G J L M N⟩
 self:=λ_ _ _ _ _ f h=>wpAny_pyIter_tupleiter f h
theorem Jc{P:ψ}{w:ω}{K:KD}{J:υ}(c:U)(j:Int)(n:Nat):Turn P w K J (qp j n) [c] c (λi h=>IsRangeIter h c (j+(i:Nat)*1) ((n:Int)-(i:Nat)) 1) where
 mem:=by simp
 obj:=λi h a b f=>by
  let e:b=c:=by simpa using f
  subst e
  exact⟨_,a,λv z=>by
   let L:Data.fields _=Data.cell v:=z
   cases L⟩
 keep:=λi h l a k=>k c (by simp) _ a
 item:=by
  ext X p q r u i d s F H E I m a x;subst p q r;let⟨y,A,M,B,C,D⟩:=m c (by simp);let W:=Walks.range (prog:=X.prog) (w:=X.w) (I.ok.hd u) c j 1 n;calc W.item i s _ _ x a λv l G N g O=>?_;let⟨t,rfl⟩:=N;let Q:Inv X d F H {s with heap:=l,toks:=G}:=I.turned (λb o f e=>O b o f⁻¹ e) y A B C D;calc⟨_,Y,vP (s:={s with heap:=l,toks:=G}) (n:="range_iterator") g Y Y (by decide) ⟨.int (j+i),H,Q,⟨t,?_⟩,⟨Y,Y⟩,g,λb f=>(m b f).1⟩⟩;rw[q5M]
 done:=by
  ext X p q r u i d s F H E I m a x;subst p q r;let⟨y,A,M,B,C,D⟩:=m c (by simp);exact wpAny_pyNext_range_end (I.ok.hd u) a (by let:n<=i:=x;symm) λl R=>⟨Y,I.turned (t':=s.toks) (λb o f e=>R b o f e) y A B C D⟩
 self:=λ_ _ _ _ _ a h=>wpAny_pyIter_rangeiter a h
section
variable{X:Cx}{tg:J}
theorem Bt{d:a5}{f:St}{H:Hp}{s:L}{R:It->Hp->Prop}{E:br}{a c:Int}{t u v:Tok}{tk:Nat}(I:Inv X d f H s)(h : -(2 ^ 62)<=a)(i:a<2 ^ 62)(j : -(2 ^ 62)<=c)(k:c<2 ^ 62)
  (q:R (qp a (c-a).toNat) H):G (B X.prog X.w) X.A (pyIter (.ref ⇑s)) (vO X d f tg R) E {s with heap:=s.heap.push {cls:=.type "range",data:=.fields #[.int a t,.int c u,.int 1 v]},toks:=tk}:=by
 calc wpAny_pyIter_range (IsRange.new ..) (small_one h i j k) ?_;let g:Inv X d f H {s with heap:=s.heap.push {cls:=.type "range",data:=.fields #[.int a t,.int c u,.int 1 v]},toks:=tk}:=I.kept λb o e=>B5 _ e
 refine⟨(s.heap.push {cls:=.type "range",data:=.fields #[.int a t,.int c u,.int 1 v]}).objs.size,[(s.heap.push {cls:=.type "range",data:=.fields #[.int a t,.int c u,.int 1 v]}).objs.size],_,_,H,Y,
  g.kept (t':=tk) λb o e=>B5 _ e,Jc _ a (c-a).toNat,?_,λb l=>?_,q⟩
 .let m:a+((0:Nat):Int)*1=a:=by simp
  let n:(((c-a).toNat:Nat):Int)-((0:Nat):Int)=q1i a c 1:=by rw[q4d];split<;>symm
  show IsRangeIter _ _ (a+((0:Nat):Int)*1) ((((c-a).toNat:Nat):Int)-((0:Nat):Int)) 1;rw[m,n];exact UD _ Y
 .let e:b=(s.heap.push {cls:=.type "range",data:=.fields #[.int a t,.int c u,.int 1 v]}).objs.size:=by simpa using l
  subst e;calc g.i7 (B6 _) (g.bf.fresh (B6 _))
def Jd(ta:TA):TI:=λa H R=>ta a H λb c=>∃j:Int,b=[.int j] /\ -(2 ^ 62)<=j/\j<2 ^ 62/\R (qp 0 j.toNat) c
def Je(ta:TA):TI:=λa H R=>ta a H λb c=>∃i j:Int,b=[.int i,.int j]/\(-(2 ^ 62)<=i/\i<2 ^ 62 /\ -(2 ^ 62)<=j/\j<2 ^ 62)/\R (qp i (j-i).toNat) c
theorem Jf{a:J}{ta:TA}{p pos:Ε}(d:Gl X "range")(f:X.mg "range" = η)(g:JA X [a] ta)(hs:starEach [a] X.env=[(ι,eval a X.env)]:=by rfl):JI X tg (.Call (.Name "range" p) [a] [] pos) (Jd ta):=by
 calc⟨?_⟩;ext b s i H R I h;calc Call_ (m8 I d f boot_range (Yn (bE (g pos b s i H _ I h) λo u ⟨v,w,k,l,c⟩=>?_) hs Y));let⟨j,e,c,m,q⟩:=c;subst e
 cases l with
 |cons r n =>
  cases n
  let⟨t,rfl⟩:=r;calc call_range_1 (Bt k ⋯ ⋯ c m q⁻¹)
theorem Jg{a b:J}{ta:TA}{p pos:Ε}(k:Gl X "range")(l:X.mg "range" = η)(m:JA X [a,b] ta)(hs:starEach [a,b] X.env=[(ι,eval a X.env),(ι,eval b X.env)]:=by rfl)(c:starEach [b] X.env=[(ι,eval b X.env)]:=by rfl):
  JI X tg (.Call (.Name "range" p) [a,b] [] pos) (Je ta):=by
 calc⟨?_⟩;ext d s n H R I h;calc Call_ (m8 I k l boot_range (Yn (bE (m pos d s n H _ I h) λz A ⟨B,C,o,u,f⟩=>?_) (by rw[hs,c]) (by rw[c];rfl)));let⟨i,j,e,⟨f,v,w,x⟩,q⟩:=f;subst e
 cases u with
 |cons r g =>
  cases g with
  |cons y g =>
   cases g
   let⟨t,rfl⟩:=r;let⟨D,rfl⟩:=y;calc call_range_2 (Bt o f v w x q)
def qq(f:TI)(g:TG)(tb:TS):TS:=λD a H=>f a H λJ h=>∃W:Nat->Nat->St->Hp->Prop,(∃m,W 0 m a h)/\∀i m a H,W i m a H →
 (J.stop i H/\D.nx a H)\/(J.go i H/\∃N:St->Hp->Prop,(∀b c,N b c->∃e,e<m/\W (i+1) e b c)/\∀x c,J.o7 i H x c->g x a c λd j=>tb {D with nx:=N,ct:=N,bk:=D.nx} d j)
noncomputable def qr(fp:-U)(h:Q):-(U×Γ):=fp.filterMap λb=>(h.get? b).map λo=>(b,o)
theorem tj{fp:-U}{h:Q}{b:U}{o:Γ}(a:b∈fp)(e:h.get? b=ζ o):(b,o)∈qr fp h:=Zy.mpr ⟨b,a,by rw[e];rfl⟩
theorem Jh{fp:-U}{h:Q}{p:U×Γ}(a:p∈qr fp h):p.1∈fp/\h.get? p.1=ζ p.2:=by
 let⟨b,c,e⟩:=Zy.mp a
 cases q:h.get? b with
 |none=>rw[q] at e;cases e
 |some o =>
  rw[q] at e;let d:(b,o)=p:=WD e;subst d;calc⟨c,q⟩
theorem Inv.pinned{a:a5}{c:St}{H:Hp}{s:L}{fp:-U}(I:Inv X a c H s)(h:∀b∈fp,cz X a H b)(i:∀b∈fp,∃o,s.heap.get? b=ζ o/\∀v,o.data≠.cell v):Inv X (a++qr fp s.heap) c H s :=
 I.gX λp j=>(VZ.mp j).elim (λz=>I.pin p (V7 _ z)) λz=>by
  let⟨f,e⟩:=Jh z;let⟨k,l,m,_⟩:=h p.1 f;let⟨o,g,d⟩:=i p.1 f;rw[e] at g;cases g;calc⟨e,k,l,m,d⟩
theorem Inv.fG{a pl:a5}{b:St}{H:Hp}{s:L}(I:Inv X (a++pl) b H s):Inv X a b H s:=I.gX λp c=>I.pin p (V7 _ (XD _ c))
theorem vQ{j:υ}{C:-χ}{wi:TI}{g:TG}{tb:TS}{pos:Ε}(G:PassesOwn (ς X.prog X.w) X.A X.env X.xe)(hc:X.calm=θ)(hi:JI X tg j wi)(hg:JG X tg g)(k:ee X C tb)
  (hs:∀x,foldedSetIterable j X.env x=pure x:=by ext _;rfl):JS X (.For tg j C [] pos) (qq wi g tb):=by
 calc⟨?_⟩;ext a s σ H D I h;calc wpAny_For (bE (hi a s σ H _ I h) λv s1 h1=>bE h1 λJi s2 h2=>?_) hs;let⟨it,K,tn,J,H2,e,I2,T,U,f2,W,⟨m0,w0⟩,L⟩:=h2;subst e;let l:∀{B:Hp},(∀b∈K,B b=η)->∀b∈K,cz X a B b:=λhn b k=>⟨hn b k,(f2 b k).2⟩;calc codeAny_forLoop_any (λn s'=>∃i p B,Inv X a p B s'/\tn i s'.heap/\(∀b∈K,B b=η)/\W i n p B) ?_ m0 ⟨0,σ,H2,I2,U,λb k=>(f2 b k).1,w0⟩;ext n s3 ⟨i,q,S,I3,M,O,w3⟩;rcases L i n q S w3 with⟨P,qn⟩|⟨go,N,hN,Q⟩
 .refine YT G (bE (T.done X rfl rfl rfl hc i a s3 q S X.xe I3 (l O) M P) λr s4 ⟨V,I4⟩=>?_)
  subst V;exact Zx ⟨q,S,I4,qn⟩
 .refine YT G (bE (T.item X rfl rfl rfl hc i a s3 q S X.xe I3 (l O) M go) λr s4 ⟨u,V,h4⟩=>?_)
  subst V;calc YT G (bE h4 λ_ s5 ⟨x,H5,I5,r5,y5,F,Y⟩=>?_);let Z:=I5.pinned (l Y) (T.obj _ _ F);calc YT G (bE (hg _ s5 q H5 x u _ Z r5 (Q x H5 y5)) λ_ s6 ⟨σ6,H6,I6,q6⟩=>?_);refine YT G (bE (k _ s6 σ6 H6 _ I6 q6) λf s7 E=>?_)
  let z:∀{c:St}{t:Hp},Inv X (a++qr K s5.heap) c t s7->N c t->∃m,m<n/\∃i p B,Inv X a p B s7/\tn i s7.heap/\(∀b∈K,B b=η)/\W i m p B:=λ{c t} y R=>by
   let⟨m',hm,w7⟩:=hN c t R;calc⟨m',hm,i+1,c,t,y.fG,T.keep _ _ _ F λb k o e=>(y.pin (b,o) (V7 _ (V7 _ (tj k e)))).1,λb k=>?_,w7⟩;let⟨o,e,d⟩:=T.obj _ _ F b k;exact(y.pin (b,o) (V7 _ (V7 _ (tj k e)))).2.1
  cases f with
  |next=>let⟨c,t,y,R⟩:=E;exact z y R
  |cont=>let⟨c,t,y,R⟩:=E;exact z y R
  |brk=>let⟨c,t,y,E⟩:=E;exact⟨c,t,y.fG,E⟩
  |ret v=>let⟨x7,c,t,y,r7,E⟩:=E;calc⟨x7,c,t,y.fG,r7,E⟩
end
abbrev R2:=V->V->Hp->VK->Prop
def fA(X:Cx)(f:M->M->Sem M)(r:R2):Prop :=
 ∀(a:a5)(s:L)(b:St)(H:Hp)(x y:V)(v u:M)(Q:VK),Inv X a b H s->RelV x v->RelV y u->r x y H Q →
  G (B X.prog X.w) X.A (f v u) (EP X a b Q) X.xe s
def g6(X:Cx)(f:M)(r:-V->Hp->VK->Prop):Prop :=
 ∀(a:a5)(s:L)(b:St)(H:Hp)(c:-V)(d:-M)(Q:VK),Inv X a b H s->Vals c d->r c H Q →
  G (B X.prog X.w) X.A (call f d) (EP X a b Q) X.xe s
def qt(r:R2)(ta tb:TE):TE:=λa H Q=>ta a H λx b=>tb a b λy c=>r x y c Q
def rI(C:Int->Int->Prop)(g:Int->Int->V):R2:=λx y H Q=>∃i j,x=.int i/\y=.int j/\C i j/\Q (g i j) H
def mi(g:Int->Int->V):R2:=λx y H Q=>∃i j,x=.int i/\y=.int j/\Q (g i j) H
section
variable{X:Cx}{a b c:J}{ta tb tc:TE}{pos:I}
theorem nP(k:JE X a ta)(l:JE X b tb){c:a5}{s:L}{d:St}{H:Hp}{R:V->V->Hp->Prop}(I:Inv X c d H s)
  (h:ta d H λx j=>tb d j λy H2=>R x y H2) {Q:br} {f:M->M->Sem M}
  (n:∀v u i x y H2,Inv X c d H2 i->RelV x v->RelV y u->R x y H2->G (ς X.prog X.w) X.A (f v u) Q X.xe i) :
  G (ς X.prog X.w) X.A (eval a X.env) (λv e=>G (ς X.prog X.w) X.A (eval b X.env) (λu g=>G (ς X.prog X.w) X.A (f v u) Q X.xe g) X.xe e) X.xe s:=by
 calc bE (k c s d H _ I h) λv o ⟨x,j,p,q,r⟩=>?_;calc bE (l c o d j _ p r) λu i ⟨y,m,t,z,B⟩=>?_;calc n v u i x y m t q z B
theorem qu{op:Operator}{r:R2}(d:fA X (binaryOp op) r)(e:JE X a ta)(f:JE X b tb):JE X (.BinOp a op b pos) (qt r ta tb):=by
 calc⟨?_⟩;ext c s g H Q I h;calc wpAny_BinOp (nP e f I h λv u i x y j k l m q=>d c i g j x y v u Q k l m q)
theorem tm{f:M->M->Sem M}{C:Int->Int->Prop}{g:Int->Int->Int}
  (a:∀(i j:Int)(t u:Tok)(s:L)(Q:br)(E:br),C i j->Q (.int (g i j) s.toks) {s with toks:=s.toks+1}->G (B X.prog X.w) X.A (f (.int i t) (.int j u)) Q E s) :
  fA X f (rI C λi j=>.int (g i j)):=by
 ext b s l H x y v u Q I c d h;let⟨i,j,rfl,rfl,e,q⟩:=h;let⟨t,rfl⟩:=c;let⟨k,rfl⟩:=d;calc a i j t k s _ _ e ⟨.int (g i j),H,I.tok _,⟨_,Y⟩,q⟩
theorem qv{f:M->M->Sem M}{g:Int->Int->Int}
  (a:∀(i j:Int)(t u:Tok)(s:L)(Q:br)(E:br),Q (.int (g i j) s.toks) {s with toks:=s.toks+1}->G (B X.prog X.w) X.A (f (.int i t) (.int j u)) Q E s) :
  fA X f (mi λi j=>.int (g i j)):=by
 ext b s k H x y v u Q I c d h;let⟨i,j,rfl,rfl,q⟩:=h;let⟨t,rfl⟩:=c;let⟨e,rfl⟩:=d;calc a i j t e s _ _ ⟨.int (g i j),H,I.tok _,⟨_,Y⟩,q⟩
theorem mj{f:M->M->Sem M}{g:Int->Int->Bool}
  (a:∀(i j:Int)(t u:Tok)(s:L)(Q:br)(E:br),Q (.bool (g i j)) s->G (B X.prog X.w) X.A (f (.int i t) (.int j u)) Q E s) :
  fA X f (mi λi j=>.bl (g i j)):=by
 ext b s k H x y v u Q I c d h;let⟨i,j,rfl,rfl,q⟩:=h;let⟨t,rfl⟩:=c;let⟨e,rfl⟩:=d;calc a i j t e s _ _ ⟨.bl (g i j),H,I,Y,q⟩
def ir(i j:Int):Prop:=0<=j/\j<=1000000/\i.natAbs<2 ^ 64
def kj(i j:Int):Prop:=(-(2 ^ 64)<i/\i<2 ^ 64)\/(-(2 ^ 64)<j/\j<2 ^ 64)
theorem kj.ok{i j:Int}(h:kj i j):IntMulOk i j:=by
 rcases h with⟨a,b⟩|⟨a,b⟩
 .exact .of_left (q4e a b)
 .calc .of_right (q4e a b)
theorem Bu:fA X (binaryOp .Add) (mi λi j=>.int (i+j)):=qv λ_ _ _ _ _ _ _ q=>add_int q
theorem Jj:fA X (binaryOp .Sub) (mi λi j=>.int (i-j)):=qv λ_ _ _ _ _ _ _ q=>sub_int q
theorem Jk:fA X (binaryOp .Mult) (rI kj λi j=>.int (i*j)):=tm λ_ _ _ _ _ _ _ a q=>mul_int q a.ok
theorem vR:fA X (binaryOp .Mod) (rI (λ_ j=>0<j) λi j=>.int (i%j)):=tm λi j _ _ _ _ _ a q=>by
 let b:(0:Int)<j:=a;calc mod_int' ⋯ (by rw[Int.fmod_eq_emod_of_nonneg i ⋯];calc q)
theorem Jl:fA X (binaryOp .Pow) (rI ir λi j=>.int (i ^ j.toNat)):=tm λ_ _ _ _ _ _ _ a q=>pow_int_small a.1 a.2.1 a.2.2 q
theorem Bv{a:a5}{b:St}{H:Hp}{s:L}{Q:VK}{k c:Bool}(I:Inv X a b H s)(q:Q (.bl k) H)(e:k=c):EP X a b Q (.bool c) s:=by
 subst e;calc⟨.bl k,H,I,Y,q⟩
theorem Jo:fA X (compareOp .Lt) (mi λi j=>.bl (S (i<j))):=mj λ_ _ _ _ _ _ _ q=>lt_int q
theorem Jp:fA X (compareOp .LtE) (mi λi j=>.bl (S (i<=j))):=mj λ_ _ _ _ _ _ _ q=>le_int q
theorem Jq:fA X (compareOp .Gt) (mi λi j=>.bl (S (j<i))):=mj λ_ _ _ _ _ _ _ q=>gt_int q
theorem Jr:fA X (compareOp .GtE) (mi λi j=>.bl (S (j<=i))):=mj λ_ _ _ _ _ _ _ q=>ge_int q
theorem Js:fA X (compareOp .Is) (λx y H Q=>y=.non/\Q (.bl (S (x=.non))) H):=by
 ext a s d H x y v u Q I b c h;let⟨rfl,q⟩:=h;cases c
 refine is_none_gen (Bv I q ?_)
 cases x<;>first
  |(cases b;rfl)
  |(let⟨t,rfl⟩:=b;rfl)
theorem Jt:fA X (compareOp .IsNot) (λx y H Q=>y=.non/\Q (.bl (!S (x=.non))) H):=by
 ext a s d H x y v u Q I b c h;let⟨rfl,q⟩:=h;cases c
 refine isnot_none_gen (Bv I q ?_)
 cases x<;>first
  |(cases b;rfl)
  |(let⟨t,rfl⟩:=b;rfl)
theorem vS(b:J){op:CmpOp}(h:op≠.In:=by decide)(a:op≠.NotIn:=by decide):behindInMarks op b=ι:=by
 let c:(op==CmpOp.In)=ι:=by cases op<;>first|rfl|exact absurd Y h
 let d:(op==CmpOp.NotIn)=ι:=by cases op<;>first|rfl|exact absurd Y a
 cases b<;>simp[behindInMarks,c,d]
theorem Ju{op:CmpOp}{r:R2}(d:fA X (compareOp op) r)(e:JE X a ta)(f:JE X b tb)(g:behindInMarks op b=ι):JE X (.Compare a [op] [b] pos) (qt r ta tb):=by
 calc⟨?_⟩;ext c s i H Q I h;calc wpAny_Compare1 (nP e f I h λv u j x y k l m n q=>d c j i k x y v u Q l m n q) g
def Jv(t:TE):TT:=λa H Q=>t a H λx b=>∃k,x=.bl k/\Q k b
theorem Jw{op:CmpOp}{r:R2}(g:fA X (compareOp op) r)(i:JE X a ta)(j:JE X b tb)(l:behindInMarks op b=ι):JT X (.Compare a [op] [b] pos) (Jv (qt r ta tb)):=by
 calc⟨?_⟩;ext d s f H Q I h
 refine q1N (bE (i d s f H _ I h) λv m ⟨x,n,o,p,q⟩=>bE (j d m f n _ o q) λu t ⟨y,w,A,B,C⟩ =>
  bE (g d t f w x y v u _ A p B C) λc J ⟨z,D,E,F,k,e,G⟩=>?_) l
 subst e;cases F
 calc Yu ⟨D,E,G⟩
def Jx(r c:R2)(ta tb d:TE):TE:=λa H Q=>ta a H λx e=>tb a e λy f=>r x y f λz b=>∃k,z=.bl k ∧
 (if k=θ then d a b λg h=>c y g h Q else Q (.bl ι) b)
theorem Jy{op g:CmpOp}{r l:R2}(q:fA X (compareOp op) r)(j:fA X (compareOp g) l)(t:JE X a ta)(w:JE X b tb)(A:JE X c tc)
  (B:lastMarks [op,g] [b,c]=ι:=by with_unfolding_all rfl):JE X (.Compare a [op,g] [b,c] pos) (Jx r l ta tb tc):=by
 calc⟨?_⟩;ext f s i H Q I h
 refine Compare_chain (bE (t f s i H _ I h) λv C ⟨x,D,E,F,G⟩=>chain_link (bE (w f C i D _ E G) λu J ⟨y,K,L,m,M⟩ =>
  bE (q f J i K x y v u _ L F m M) λd N ⟨z,n,o,O,k,e,p⟩=>?_)) B
 subst e;cases O
 refine Yu ?_
 cases k with
 |false=>exact ite_ff ⟨.bl ι,n,o,Y,p⟩
 |true=>calc ite_tt (chain_last (bE (A f N i n _ o p) λP R ⟨S,T,U,V,W⟩↦j f R i T y S u P Q U m V W))
theorem o8:(sizeLine:Nat)<2 ^ 63:=by rw[Yh];decide
theorem Jz:fA X (binaryOp .Add) (λx y H Q=>∃i j,x=.str i/\y=.str j/\↑i+↑j<=sizeLine/\Q (.str (i++j)) H):=by
 ext a s f H x y v u Q I b c h;let⟨i,j,rfl,rfl,d,q⟩:=h;let⟨t,rfl⟩:=b;let⟨e,rfl⟩:=c;calc add_str (λe g=>⟨.str (i++j),H,I.tok _,⟨_,Y⟩,q⟩) d
theorem vals1{x:V}{us:-M}(r:Vals [x] us):∃u,us=[u]/\RelV x u:=by
 cases r with
 |cons a b=>cases b;calc⟨_,Y,a⟩
theorem vals2{x y:V}{us:-M}(r:Vals [x,y] us):∃u a,us=[u,a]/\RelV x u/\RelV y a:=by
 cases r with
 |cons b c =>
  cases c with
  |cons d e=>cases e;calc⟨_,_,Y,b,d⟩
theorem JB(c:X.calm=θ):g6 X (.builtin "max") (λxs H Q=>∃i j,xs=[.int i,.int j]/\Q (.int (if j>i then j else i)) H):=by
 ext b s e H d f Q I r h;let⟨i,j,rfl,q⟩:=h;let⟨u,g,rfl,⟨t,rfl⟩,⟨l,rfl⟩⟩:=vals2 r;refine max_two_ints (I.ok.hd c) λm n k=>⟨_,H,I.kept k,?_,q⟩
 by_cases a:j>i
 .rw[VE a,VE a];exact⟨_,Y⟩
 .rw[VC a,VC a];calc⟨_,Y⟩
theorem JD(c:X.calm=θ):g6 X (.builtin "min") (λxs H Q=>∃i j,xs=[.int i,.int j]/\Q (.int (if j<i then j else i)) H):=by
 ext b s e H d f Q I r h;let⟨i,j,rfl,q⟩:=h;let⟨u,g,rfl,⟨t,rfl⟩,⟨l,rfl⟩⟩:=vals2 r;refine min_two_ints (I.ok.hd c) λm n k=>⟨_,H,I.kept k,?_,q⟩
 by_cases a:j<i
 .rw[VE a,VE a];exact⟨_,Y⟩
 .rw[VC a,VC a];calc⟨_,Y⟩
end
structure jF(h:Q)(x dx C:U)(mA:R->Option M):Prop where
 obj:h.get? x=ζ (YH C dx)
 ns:h.Ns1 dx mA
 ne:dx≠x
theorem JH{h:Q}{d:U}{f:R->Option M}(n:h.Ns1 d f):∃od,h.get? d=ζ od/\∀name,q0A name od=ζ (f name):=by
 let⟨o,g,r,i,j,k,_,l⟩:=n;calc⟨o,i,λb=>?_⟩;let e:=l b;unfold nsFind findBy at e;rw[<-Array.find?_toList] at e;unfold q0A;rw[j];dsimp only;split
 .rename_i y q
  rw[q] at e;exact congrArg ζ e
 .rename_i q
  rw[q] at e
  let a:g.toList.any (·.refKey)=ι:=by
   rw[YU];ext y m;let⟨z,t,c⟩:=k y (Array.mem_toList_iff.mp m);simp[DictEntry.refKey,c]
  let p:¬ g.toList.any (·.refKey)=θ:=by rw[a];exact Wo
  rw[VC p];calc congrArg ζ e
theorem jF.look{h:Q}{x a C:U}{b:R->Option M}(I:jF h x a C b):∃od,PySem.W.InstAt h x (YH C a) C (ζ od)/\∀name,q0A name od=ζ (b name) :=
 let⟨c,d,e⟩:=JH I.ns
 ⟨c,⟨I.obj,Y,Y,d⟩,e⟩
section
variable{prog:X}{w:l}{A:t}{E:br}{s:L}{K:KD}{x dx C f:U}{mA:R->Option M}{name:R}{v:M}
theorem JJ{a:Bool}{Q:br}(X:K.In s.heap)(I:jF s.heap x dx C mA)(c:Z5 K C name=θ)(d:q0V K C=θ)
  (e:XT K (.ref C) name=ζ η) (f:mA name=ζ v) (b:q26 v=θ) (h:Q v {s with toks:=s.toks+1}) :
  G (B prog w) A (getAttr (.ref x) name a) Q E s:=by
 let⟨i,J,g⟩:=I.look;calc PySem.W.get_value X J (q0l c).1 (PySem.W.findObj_own d e Y (by rw[g,f])) b h
theorem JK{pl:Sem Bool}{Q:M×-M->L->Prop}(X:K.In s.heap)(I:jF s.heap x dx C mA)(a:Z5 K C name=θ)
  (b:XT K (.ref C) name=ζ (ζ (.ref f))) (c:q1t K (.ref f)=θ) (d:mA name=η) (h:Q (.ref f,[.ref x]) s) :
  G (B prog w) A (getMethod (.ref x) name pl) Q E s:=by
 let⟨e,J,g⟩:=I.look;calc PySem.W.method_fn X J (q0l a).1 (q0l a).2 b (q1u.mp c) (by show(q0A name e).map (·.isSome)=ζ ι;rw[g,d];rfl) h
theorem JL{ns:-R}{Q:Unit->L->Prop}(X:K.In s.heap)(I:jF s.heap x dx C mA)
  (hs:XT K (.ref C) "__setattr__" = ζ (ζ (.builtin "object.__setattr__"))) (j:q2G K C=θ) (k:q1D K C name=ζ η) (l:q0V K C=θ)
  (m:q2E mA ns) (hsz:↑ns<=sizeLine)
  (h:∀h',jF h' x dx C (λy=>if y=name then ζ v else mA y)->Zk dx s.heap h'->Q () {s with heap:=h',toks:=s.toks+2}) :
  G (ς prog w) A (setAttr (.ref x) name v) Q E s:=by
 let⟨u,J,z⟩:=I.look;calc PySem.W.set_plain X J hs (PySem.W.osa_open (s:={s with toks:=s.toks+1}) (r:=none) X J j k λb=>?_);let⟨B,n,e⟩:=PySem.W.any_some l;let o:s.heap.get? x=ζ ⟨.ref C,ζ dx,.plain,#[]⟩:=I.obj;calc nX (B7 (nX (nX (wpAny_loadPart o (nX (PySem.W.Looks.here (s:={s with toks:=s.toks+1}) (PySem.W.looks_clsIn X n) ?_))))));rw[e];calc B7 (a:=ζ dx) (nX (B7 (nX ?_)));calc wpAny_nsSet1 (s:={s with toks:=s.toks+1}) I.ns λt c d=>?_;let⟨D,p,q,f,g,i⟩:=c.count (PySem.Within.cons name v m);refine nX (wpAny_lookBehind f (by rw[g];calc pastItsLine_dict (Wr i (by rw[wo];symm))) ?_)
 calc B7 (h _ ⟨(d.2 _ (Yz I.ne)).trans I.obj,c,I.ne⟩ d)
theorem JM{R:Result->L->Prop}{vs:-M}{b:-(π×M)}(X:K.In s.heap)(c:q3t K C=θ)
  (e:XT K (.ref C) "__init__" = ζ (ζ (.ref f))) (i:PySem.W.typeIn K (.ref f)=ζ (.type "function"))
  (h:codeAny (B prog w) (A.under (.builtin "type.__call__" ⟨.ref C::vs,b⟩)) (.call (.ref f) ⟨.ref (⇑s+1)::vs,b⟩) (PySem.W.InitBack (⇑s+1) R)
   {s with heap:=(s.heap.push X7).push (YH C ⇑s)}) :
  codeAny (B prog w) A (.call (.ref C) ⟨vs,b⟩) R s:=by
 let⟨j,g,d,t,k⟩:=s;calc PySem.W.make_core (PySem.W.makes_of X c) (PySem.W.looks_findIn X e) (λa=>PySem.W.bind_fn X a i) (.inl Y) h
end
noncomputable def dR(f:R)(v:V):-(R×V)->-(R×V)
 |[]=>[(f,v)]
 |(g,x)::r=>if g=f then(g,v)::r else(g,x)::dR f v r
theorem Bw(f g:R)(v:V):∀fs:-(R×V),(dR f v fs).lookup g=if g=f then ζ v else fs.lookup g
 |[]=>by
  show Y7 g [(f,v)]=_
  by_cases h:g=f
  .let a:(g==f)=θ:=q1u.mpr h
   erw[Y7,a,VE h]
  .let a:(g==f)=ι:=YZ.mpr h
   erw[Y7,a,VC h]
 |(k,x)::r=>by
  let c:=Bw f g v r;rw[show dR f v ((k,x)::r)=(if k=f then(k,v)::r else(k,x)::dR f v r) from Y]
  by_cases b:k=f
  .rw[VE b]
   by_cases h:g=k
   .let a:(g==k)=θ:=q1u.mpr h
    erw[Y7,a,VE (h.trans b)]
   .let a:(g==k)=ι:=YZ.mpr h
    erw[Y7,a,VC (λe:g=f=>h (e.trans b.symm))]
  .rw[VC b]
   by_cases h:g=k
   .let a:(g==k)=θ:=q1u.mpr h
    erw[Y7,a,VC (λe:g=f=>b (h.symm.trans e))]
   .let a:(g==k)=ι:=YZ.mpr h
    erw[Y7,a];calc c
theorem vT(f:R)(v:V):∀fs:-(R×V),f∈(dR f v fs).map (·.1)/\∀g,g∈fs.map (·.1)->g∈(dR f v fs).map (·.1)
 |[]=>⟨by simp[dR],λg h=>by simp at h⟩
 |(k,x)::r=>by
  let⟨b,c⟩:=vT f v r;rw[show dR f v ((k,x)::r)=(if k=f then(k,v)::r else(k,x)::dR f v r) from Y]
  by_cases a:k=f
  .rw[VE a]
   subst a;exact⟨by simp,λg h=>by simpa using h⟩
  .rw[VC a]
   refine⟨?_,λg h=>?_⟩
   .rw[UB]
    exact UA _ b
   .rw[UB] at h ⊢
    rcases Uy.mp h with e|e
    .exact Uy.mpr (.inl e)
    .calc UA _ (c g e)
theorem Bx(f:R)(v:V):∀fs:-(R×V),↑(dR f v fs)<=fs.length+1
 |[]=>by simp[dR]
 |(k,x)::r=>by
  let b:=Bx f v r;rw[show dR f v ((k,x)::r)=(if k=f then(k,v)::r else(k,x)::dR f v r) from Y]
  by_cases a:k=f
  .rw[VE a,wo,wo];symm
  .rw[VC a,wo,wo];symm
theorem eC.some_of{v:V}{o:Option M}(r:eC (ζ v) o):∃u,o=ζ u/\RelV v u:=by
 cases o with
 |none=>exact(show False from r).elim
 |some u=>calc⟨u,Y,r⟩
theorem eC.none_of{o:Option M}(r:eC η o):o=η:=by
 cases o with
 |none=>rfl
 |some u=>calc(show False from r).elim
theorem JN{v:V}{u:M}(r:RelV v u):q26 u=θ:=by
 cases v with
 |non=>cases(show u=WB from r);rfl
 |bl b=>cases(show u=Y9 b from r);rfl
 |int i=>let⟨t,e⟩:=(show ∃t,u=Xm i t from r);cases e;rfl
 |str x=>let⟨t,e⟩:=(show ∃t,u=q1g x t from r);cases e;rfl
 |byt b=>let⟨t,e⟩:=(show ∃t,u=Value.bytes b t from r);cases e;rfl
 |flt b=>let⟨t,e⟩:=(show ∃t,u=q3k b t from r);cases e;rfl
 |ref a=>cases(show u=WQ a from r);rfl
 |ty n=>cases(show u=XS n from r);rfl
section
variable{P:X}{w:l}{H H':Hp}{h h':Q}{a C dx:U}{fs IB:-(R×V)}
theorem tq(c:fz P w H h)(e:H a=ζ (.ins C dx fs)):∃b,jF h a dx C b/\(∀f,eC (fs.lookup f) (b f))/\q2E b (fs.map (·.1))/\fs.length<=1000/\H dx=ζ (.own a):=by
 let⟨d,z,g,i,b,n,r,q⟩:=(show bp P w H h a (.ins C dx fs) from c a _ e);calc⟨b,⟨i,n,g⟩,r,q,z,d⟩
end
structure i8(K:KD)(C:U):Prop where
 pg:Z5 K C Str.empty=θ
 hd:q0V K C=θ
 po:q2G K C=θ
 sa:XT K (.ref C) "__setattr__" = ζ (ζ (.builtin "object.__setattr__"))
theorem i8.get{K:KD}{C:U}(c:i8 K C)(f:R):Z5 K C f=θ:=c.pg
def dF(K:KD)(C:U)(f:R):Prop:=XT K (.ref C) f=ζ η
theorem dF.qw{K:KD}{C:U}{f:R}(n:dF K C f):q1D K C f=ζ η:=by
 unfold q1D;rw[show XT K (.ref C) f=ζ η from n];rfl
structure Meth(K:KD)(C:U)(m:R)(f:U):Prop where
 at_:XT K (.ref C) m=ζ (ζ (.ref f))
 fn:q1t K (.ref f)=θ
 kp:XA K (.ref f)=θ
section
variable{X:Cx}{pins:a5}{σ:St}{H:Hp}{s:L}{a C dx:U}{fs:-(R×V)}{f:R}{v:V}{A:t}{E:br}
theorem JO{b:Bool}{Q:br}(I:Inv X pins σ H s)(e:H a=ζ (.ins C dx fs))(c:i8 X.K C)(n:dF X.K C f)(l:fs.lookup f=ζ v)
  (h:∀u s',Inv X pins σ H s'->RelV v u->Q u s'):G (B X.prog X.w) A (getAttr (.ref a) f b) Q E s:=by
 let⟨g,O,r,_,_,_⟩:=tq I.bf e;let⟨u,i,d⟩:=eC.some_of (v:=v) (o:=g f) (by rw[<-l];calc r f);calc JJ I.gB O (c.get f) c.hd n i (JN d) (h u _ (I.tok _) d)
theorem By{m:R}{g:U}{pl:Sem Bool}{Q:M×-M->L->Prop}(I:Inv X pins σ H s)(e:H a=ζ (.ins C dx fs))(c:i8 X.K C)(k:Meth X.K C m g)(l:fs.lookup m=η)
  (h:Q (.ref g,[.ref a]) s):G (B X.prog X.w) A (getMethod (.ref a) m pl) Q E s:=by
 let⟨b,O,r,_,_,_⟩:=tq I.bf e;let d:b m=η:=eC.none_of (by rw[<-l];calc r m);calc JK I.gB O (c.get m) k.at_ k.fn d h
theorem JP{y:V}{u:M}{Q:Unit->L->Prop}(I:Inv X pins σ H s)(e:H a=ζ (.ins C dx fs))(c:i8 X.K C)(n:dF X.K C f)(G:fs.length<1000)(l:RelV y u)
  (h:∀s',Inv X pins σ (upd H a (.ins C dx (dR f y fs))) s'->Q () s'):ρ (ς X.prog X.w) A (setAttr (.ref a) f u) Q E s:=by
 let⟨i,O,r,j,_,k⟩:=tq I.bf e;let m:↑(fs.map (·.1))<=sizeLine:=by rw[nW,Yh];symm
 calc JL I.gB O c.sa c.po n.qw c.hd j m λp d t=>h _ ?_;let B:∃o,p.get? dx=ζ o:=let⟨o,_,_,v,_⟩:=d.ns;⟨o,v⟩;calc I.write (x:=a) (e:=dx) (by rw[e];calc Yv) (.inr k) (λb q D z=>(t.2 b D).trans z) B ?_;refine⟨by rw[bt O.ne];calc k,?_,O.ne,d.obj,_,d.ns,λg=>?_,λg F=>?_⟩
 .let:=Bx f y fs;symm
 .show eC ((dR f y fs).lookup g) (if g=f then ζ u else i g)
  rw[Bw]
  by_cases q:g=f
  .rw[VE q,VE q];exact l
  .rw[VC q,VC q];exact r g
 .by_cases q:g=f
  .rw[q];exact(vT f y fs).1
  .refine (vT f y fs).2 g (j g λz=>F ?_)
   show(if g=f then ζ u else i g)=η;rw[VC q];calc z
theorem Inv.made(I:Inv X pins σ H s):Inv X pins σ (upd (upd H ⇑s (.own (⇑s+1))) (⇑s+1) (.ins C ⇑s []))
  {s with heap:=(s.heap.push X7).push (YH C ⇑s)}:=by
 let c:(s.heap.push X7).get? ⇑s=ζ X7:=UD s.heap Y
 let f:((s.heap.push X7).push (YH C ⇑s)).get? (⇑s+1)=ζ (YH C ⇑s):=by
  let:=UD (s.heap.push X7) (o:=YH C ⇑s) Y
  rwa [XG] at this
 let h:(s.heap.push X7).Ns ⇑s (λ_=>η):=⟨X7,#[],_,c,Y,(λe g=>absurd g (by simp)),λ_=>Y⟩;let i:=I.laid (a:=s.heap.objs.size) (o:=.own (⇑s+1)) (h':=s.heap.push X7) (t':=s.toks) (λb u q=>B5 _ q) (B6 _) ⟨_,c⟩;calc i.laid (a:=⇑s+1) (o:=.ins C ⇑s []) (t':=s.toks) (λb u q=>B5 _ q) (q2H (XG _ _)) ?_;let d:⇑s≠⇑s+1:=VF (Xa _);calc⟨by rw[bt d,cw],VY _,d,f,λ_=>η,(Heap.Ns1.of_empty h).at λo q=>B5 _ q,λ_=>Yv,λy j=>absurd Y j⟩
theorem JQ{prog:ψ}{w:l}{env:u}{e:J}{f:R}{pos:I}{s:L}{Q:br}(b:attributeBase e f env (eval e env)=eval e env)
  (h:G (B prog w) A (eval e env) (λo a=>G (B prog w) A (getAttr o f θ) Q E a) E s):G (B prog w) A (eval (.Attribute e f pos) env) Q E s :=
 Attribute_any_ h (by rw[arm_eval_Attribute,b])
end
def vU(K:KD)(ta:TE)(f:R):TE:=λd H Q=>ta d H λx b=>∃a C e c v,x=.ref a/\b a=ζ (.ins C e c)/\i8 K C/\dF K C f/\c.lookup f=ζ v/\Q v b
def vV(K:KD)(ta g:TE)(f:R):TS:=λD b H=>g b H λy h=>ta b h λx d=>∃a C e c,x=.ref a/\d a=ζ (.ins C e c)/\i8 K C/\dF K C f/\↑c<1000 ∧
 D.nx b (upd d a (.ins C e (dR f y c)))
section
variable{X:Cx}{o e value:J}{f:R}{pos pos' vW:I}{ta tv:TE}
theorem JR(he:JE X e ta)(d:attributeBase e f X.env (eval e X.env)=eval e X.env):JE X (.Attribute e f pos) (vU X.K ta f):=by
 calc⟨?_⟩;ext b s g H Q I h;calc JQ d (bE (he b s g H _ I h) λu t ⟨x,i,j,k,a,C,w,y,v,m,o,c,n,l,q⟩=>?_);subst m;obtain rfl:u=WQ a:=k;calc JO j o c n l λz A p r=>⟨v,i,p,r,q⟩
theorem JU(e:JE X o ta)(g:JE X value tv)(hs:swapsWith value (ζ (.Attribute o f pos')) pos.line X.env=pure ι):JS X (.Assign [.Attribute o f pos'] value pos) (vV X.K ta tv f):=by
 calc⟨?_⟩;ext b s d H D I h;calc plainObj_wpAny_Assign_Attribute (bE (g b s d H _ I h) λu i ⟨y,j,k,m,q⟩=>bE (e b i d j _ k q) λp B ⟨x,E,r,t,a,C,F,G,v,w,c,n,l,z⟩=>?_) hs;subst v;obtain rfl:p=WQ a:=t;calc JP r w c n l m λJ A=>⟨d,_,A,z⟩
end
section
variable{X:Cx}{pins:a5}{σ:St}{H:Hp}{s:L}{A:t}{E:br}{Q:br}{c:M}{b:Bool}
inductive fH (K:KD) (H:Hp):V->M->Prop where
 |non:fH K H .non (.type "NoneType")
 |bl (x:Bool):fH K H (.bl x) (.type "bool")
 |int (i:Int):fH K H (.int i) (.type "int")
 |str (x:R):fH K H (.str x) (.type "str")
 |flt (x:UInt64):fH K H (.flt x) (.type "float")
 |lst {a:U} {xs:-V} (e:H a=ζ (.lst xs)):fH K H (.ref a) (.type "list")
 |frz {a:U} {o:Γ} {xs:-V} (e:H a=ζ (.frz o (.lst xs))):fH K H (.ref a) (.type "list")
 |tup {a:U} {xs:-V} (e:H a=ζ (.tup xs)):fH K H (.ref a) (.type "tuple")
 |dK {a:U} {kvs:-(Key×V)} (e:H a=ζ (.dK kvs)):fH K H (.ref a) (.type "dict")
 |dT {a:U} {kvs:-(-Key×V)} (e:H a=ζ (.dT kvs)):fH K H (.ref a) (.type "dict")
 |ins {a C dx:U} {fs:-(R×V)} (e:H a=ζ (.ins C dx fs)) (cl:i8 K C) (ha:XT K (.ref C) "__class__" = ζ (ζ (.builtin "object.__class__")))
   (hn:PySem.W.specialIn K (.builtin "object.__class__") "__get__" = ζ (ζ (.builtin "getset_descriptor.__get__"))) (Uw:PySem.W.takesIn K (.builtin "object.__class__")=ζ θ)
   (hm:PySem.W.mroIn K C (.type "object")=ζ θ):fH K H (.ref a) (.ref C)
theorem JV{x:V}{u t:ν}(I:Inv X pins σ H s)(d:RelV x u)(v:fH X.K H x t)(e:X_ X.K t c=ζ b)(h:∀tk,Q (.bool b) {s with toks:=tk}):
  ρ (ς X.prog X.w) A (call (.builtin "isinstance") [u,c]) Q E s:=by
 cases v with
 |non=>cases(show u=WB from d);exact XU PySem.W.kitx_none I.gB Yv e (λz=>nomatch z) h
 |bl y=>cases(show u=Y9 y from d);exact XU PySem.W.kitx_bool I.gB Yv e (λz=>nomatch z) h
 |int i=>let⟨t,q⟩:=(show ∃t,u=Xm i t from d);cases q;exact XU PySem.W.kitx_int I.gB Yv e (λz=>nomatch z) h
 |str y=>let⟨t,q⟩:=(show ∃t,u=q1g y t from d);cases q;exact XU PySem.W.kitx_str I.gB Yv e (λz=>nomatch z) h
 |flt y=>let⟨t,q⟩:=(show ∃t,u=q3k y t from d);cases q;exact XU PySem.W.kitx_float I.gB Yv e (λz=>nomatch z) h
 | @lst a k f =>
  cases(show u=WQ a from d)
  let⟨_,_,n,_,g⟩:=(show bp X.prog X.w H s.heap a (.lst k) from I.bf a _ f);exact XU q2I I.gB ⟨_,g,Y⟩ e (λz=>nomatch z) h
 | @frz a B k f =>
  cases(show u=WQ a from d)
  let⟨_,_,_,n,_,g⟩:=(show bp X.prog X.w H s.heap a (.frz B (.lst k)) from I.bf a _ f);exact XU q2I I.gB ⟨_,g,Y⟩ e (λz=>nomatch z) h
 | @tup a k f =>
  cases(show u=WQ a from d)
  let⟨_,_,_,p⟩:=(show bp X.prog X.w H s.heap a (.tup k) from I.bf a _ f);let⟨o,g,l,_⟩:=p;exact XU PySem.W.kitx_tuple I.gB ⟨o,g,l⟩ e (λz=>nomatch z) h
 | @dK a j f =>
  cases(show u=WQ a from d)
  let⟨_,_,N,_,p⟩:=(show bp X.prog X.w H s.heap a (.dK j) from I.bf a _ f);let⟨o,D,F,g,l,_⟩:=p;exact XU q2J I.gB ⟨o,g,l.1⟩ e (λz=>nomatch z) h
 | @dT a j f =>
  cases(show u=WQ a from d)
  let⟨_,_,k,_,o,D,F,g,l,_⟩:=(show bp X.prog X.w H s.heap a (.dT j) from I.bf a _ f);exact XU q2J I.gB ⟨o,g,l.1⟩ e (λz=>nomatch z) h
 | @ins a C P R f r G L m M =>
  cases(show u=WQ a from d)
  let⟨S,O,_⟩:=tq I.bf f;let⟨T,J,_⟩:=O.look;calc XU (PySem.W.kitx_own (r.get _) r.hd G L m M) I.gB J e (λz=>nomatch z) h
end
structure bw(k:Nat)(A:t):Prop where
 hd:A.handled=η
 dp:A.depth+3*k+5<recursionLimit
 un:A.units+16*k+200<cLine
 gd:A.guards=ζ []
theorem bw.mono{j k:Nat}{A:t}(r:bw k A)(h:j<=k):bw j A:=⟨r.hd,by let:=r.dp;symm,by let:=r.un;symm,r.gd⟩
theorem bw.deeper{k:Nat}{A:t}(r:bw (k+1) A)(env:u):bw k (A.deeper env) :=
 ⟨r.hd,by let:=r.dp;show A.depth+1+3*k+5<_;symm,by let:=r.un;show A.units+3+16*k+200<_;symm,r.gd⟩
theorem bw.in1{k:Nat}{A:t}(r:bw (k+1) A):bw k A.in1 :=
 ⟨r.hd,by let:=r.dp;show A.depth+3*k+5<_;symm,by let:=r.un;show A.units+1+16*k+200<_;symm,r.gd⟩
theorem JX{A:t}{C:U}{us:-M}{a:-(R×M)}:(A.under (.builtin "type.__call__" ⟨.ref C::us,a⟩)).depth=A.depth+1:=by
 first|rfl|simp[q2K,Code.weight,Code.isCreation,Code.isGuard,Code.isCaller,Code.frames,q2L,guardIds]
theorem JY{A:t}{C:U}{us:-M}{a:-(R×M)}:(A.under (.builtin "type.__call__" ⟨.ref C::us,a⟩)).units=A.units+1:=by
 first|rfl|simp[q2K,Code.cUnits,Code.frames,q2L]
theorem bw.make{k:Nat}{A:t}(r:bw (k+1) A)(C:U)(us:-M)(a:-(R×M)):bw k (A.under (.builtin "type.__call__" ⟨.ref C::us,a⟩)) :=
 ⟨r.hd,by let:=r.dp;rw[JX];symm,by let:=r.un;rw[JY];symm,r.gd⟩
theorem bw.depth{k:Nat}{A:t}(r:bw k A):A.depth<recursionLimit:=by let:=r.dp;symm
theorem bw.units{k:Nat}{A:t}(r:bw k A):A.units+64<cLine:=by let:=r.un;symm
def iv:TA:=λ_ H Q=>Q [] H
def jG(ta:TE)(b:TA):TA:=λa H Q=>ta a H λx c=>b a c λd e=>Q (x::d) e
section
variable{X:Cx}{e:J}{es:-J}{te:TE}{t:TA}{pos:I}
theorem bY:JA X [] iv:=⟨λ_ _ _ _ H Q I h=>q2M ⟨[],H,I,.nil,h⟩⟩
theorem km(d:JE X e te)(f:JA X es t)(hs:dE X e es:=by rfl):JA X (e::es) (jG te t):=by
 calc⟨?_⟩;ext b a s c H Q I h;rw[hs];show G _ _ (spliced ((ι,eval e X.env)::backTo b (starEach es X.env))) _ _ s;calc q2t (bE (d a s c H _ I h) λu g ⟨x,i,j,k,l⟩=>?_);calc bE (f b a g c i _ j l) λr v ⟨m,n,o,p,q⟩↦⟨x::m,n,o,.cons k p,q⟩
def vX(t:TA):TE:=λc H Q=>t c H λa b=>↑a<=sizeLine/\∀p,b p=η->Q (.ref p) (upd b p (.tup a))
def qx(t:TA):TE:=λc H Q=>t c H λa b=>↑a<=sizeLine/\∀p,b p=η->Q (.ref p) (upd b p (.lst a))
theorem Bz{g}(h:JA X es t):JE X (.Tuple es g pos) (vX t):=by
 calc⟨?_⟩;ext a s i H Q I j;calc wpAny_Tuple_spliced (bE (h pos a s i H _ I j) λk c ⟨l,d,f,r,z,q⟩=>⟨by rw[<-↑r];calc z,?_⟩);let m:d ⇑c=η:=f.bf.fresh (B6 _);calc⟨.ref ⇑c,upd d ⇑c (.tup l),f.laid (t':=c.toks) (λb u e=>B5 _ e) (B6 _) ?_,Y,q _ m⟩;calc⟨z,k,r,⟨_,UD _ Y,Y,_,Y⟩⟩
theorem tr(h:JA X es t):JE X (.List es pos) (qx t):=by
 calc⟨?_⟩;ext a s g H Q I i;calc wpAny_List_spliced (bE (h pos a s g H _ I i) λj c ⟨k,d,f,r,z,q⟩=>⟨by rw[<-↑r];calc z,?_⟩);let l:d ⇑c=η:=f.bf.fresh (B6 _);calc⟨.ref ⇑c,upd d ⇑c (.lst k),f.laid (t':=c.toks) (λb u e=>B5 _ e) (B6 _) ?_,Y,q _ l⟩;calc⟨z,j,0,r,UD _ Y⟩
end
abbrev Sp:=-V->Hp->VK->XK->Prop
abbrev kS:=-u->Hp->L->XK->M->L->Prop
structure jH(P:X)(w:l)(K:KD)(mg:R->Option M)(base:Q)(A:t)(outer:-u)(s:L)(H:Hp):Prop where
 frames:A.frames=ζ outer
 mod:Mod K mg base
 bs:∀b o,base.get? b=ζ o->s.heap.get? b=ζ o/\(H b=η\/∃xs,H b=ζ (.tup xs))
 k_:base.objs.size<=⇑s
 fj:s.heap.FunFrames base outer
 lT:∀b∈kP outer,H b=η
 bf:fz P w H s.heap
 bare:AllBare s.gens
def CE(outer:-Ζ)(P:X)(w:l)(H:Hp)(s:L)(Q:VK)(u:M)(s':L):Prop :=
 ∃v a,s'.os=s.os/\AllBare s'.gens/\Un (kP outer) [] H a s.heap s'.heap/\fz P w a s'.heap/\RelV v u/\Q v a
def CR(CX:kS)(outer:-Ζ)(P:X)(w:l)(H:Hp)(s:L)(Q:VK)(E:XK)(r:Result)(s':L):Prop :=
 match r with
 |.ok (.ret u)=>CE outer P w H s Q u s'
 |.ok _=>False
 |.error e=>CX outer H s E e s'
structure cG(P:X)(w:l)(K:KD)(mg:R->Option M)(base:Α)(CX:kS)(k:Nat)(f:U)(fd:FuncData)(ps:-R)(sp:Sp):Prop where
 len:∀vs H Q E,sp vs H Q E->↑vs=↑ps
 run:∀(A:t)(outer:-u)(s:L)(H:Hp)(args:Args)(us:-M)(vs:-V)(Q:VK)(E:XK),bw k A->jH P w K mg base A outer s H->BindsTo s fd args (ps.zip us)->Vals vs us->sp vs H Q E →
  codeAny (B P w) A (.call (.ref f) args) (CR CX outer P w H s Q E) s
theorem jH.make{P:X}{w:l}{K:KD}{a:R->Option M}{base:Q}{A:t}{outer:-u}{s:L}{H:Hp}(e:jH P w K a base A outer s H)(C:U)(us:-M)(b:-(R×M)):
  jH P w K a base (A.under (.builtin "type.__call__" ⟨.ref C::us,b⟩)) outer s H:=⟨by first|exact e.frames|(simpa[q2K,Code.envs,q2L,pushEnvs] using e.frames),e.mod,e.bs,e.k_,e.fj,e.lT,e.bf,e.bare⟩
section
variable{X:Cx}{pins:a5}{σ:St}{H:Hp}{s s':L}
theorem Inv.nQ(I:Inv X pins σ H s):jH X.prog X.w X.K X.mg X.base X.A X.stack s H :=
 ⟨I.ok.frames,I.ok.mod,I.bs,Wr I.ok.k_ I.sz,I.stack,I.jW,I.bf,I.bare⟩
theorem Inv.after{Q:VK}{u:M}(I:Inv X pins σ H s)(h:CE X.stack X.prog X.w H s Q u s'):EP X pins σ Q u s':=by
 let⟨v,f,i,a,j,c,r,q⟩:=h;let⟨k,g,d,t,e⟩:=s';obtain rfl:e=s.os:=i;calc⟨v,f,I.call (h':=k) (g':=g) (d':=d) (t':=t) (ch:=[]) j c a (λb z=>absurd z (by simp)),r,q⟩
end
def qy(sp:Sp)(a:-V)(E:XK)(t:TA):TE:=λb H Q=>t b H λc d=>sp (c++a) d Q E
def vY(C:U)(m:R)(sp:Sp)(b:-V)(E:XK)(ta:TE)(t:TA):TE:=λc H Q=>ta c H λx d=>∃a f e,x=.ref a/\d a=ζ (.ins C f e)/\e.lookup m=η ∧
 t c d λg h=>sp (x::(g++b)) h Q E
def JZ(C:U)(sp:Sp)(b:-V)(E:XK)(t:TA):TE:=λd H Q=>t d H λe c=>∀x a,c x=η->c a=η->a≠x →
 sp (.ref x::(e++b)) (upd (upd c a (.own x)) x (.ins C a [])) (λv f=>v=.non/\Q (.ref x) f) E
def Binds(K:KD)(c:FuncData)(b:-R)(ds:-M):Prop :=
 ∀(s:L)(a:-M),K.In s.heap->↑(a++ds)=↑b->BindsTo s c ⟨a,[]⟩ (b.zip (a++ds))
theorem Binds.all{K:KD}{b:FuncData}{a:-R}(h:∀us:-M,↑us=↑a->bindArgs b ⟨us,[]⟩=pure (a.zip us)):Binds K b a []:=λs d _ c=>by
 rw[dV] at c ⊢;calc .of_eq (h d c)
def m9(CX:kS)(X:Cx)(E:XK):Prop:=∀(a:a5)(c:St)(H:Hp)(s:L)(e:M)(b:L),Inv X a c H s->CX X.stack H s E e b->X.xe e b
section
variable{X:Cx}{CX:kS}{k:Nat}{f C:U}{fd:FuncData}{ps:-R}{sp:Sp}{i9:-V}{ds:-M}{E:XK}{x m:R}{p pos apos:I}{e o:J}{es:-J}{ta:TE}{t:TA}
theorem tu{a:a5}{c:St}{H:Hp}{s:L}{Q:VK}{us:-M}{vs:-V}(F:cG X.prog X.w X.K X.mg X.base CX k f fd ps sp)(g:bw k X.A)(i:Binds X.K fd ps ds)(hd:Vals i9 ds)(j:m9 CX X E)
  (I:Inv X a c H s) (r:Vals vs us) (h:sp (vs++i9) H Q E):G (B X.prog X.w) X.A (call (.ref f) us) (EP X a c Q) X.xe s:=by
 let d:Vals (vs++i9) (us++ds):=r.append hd;let l:↑(us++ds)=↑ps:=by rw[<-↑d];exact F.len _ _ _ _ h
 refine q0w (YF (F.run X.A X.stack s H ⟨us,[]⟩ (us++ds) (vs++i9) Q E g I.nQ (i s us I.gB l) d h) λr m b=>?_)
 cases r with
 |error e=>exact j a c H s e m I b
 |ok n =>
  cases n with
  |ret u=>exact I.after b
  |next=>exact XN b
  |brk=>exact XN b
  |cont=>calc XN b
theorem qz(F:cG X.prog X.w X.K X.mg X.base CX k f fd ps sp)(g:bw k X.A)(i:Gl X x)(j:X.mg x=ζ (.ref f))(l:XA X.K (.ref f)=θ)(m:Binds X.K fd ps ds)(hd:Vals i9 ds)(n:m9 CX X E)
  (o:JA X (e::es) t) (b:cy x:=by decide) (he:dE X e es:=by rfl) (c:dQ X pos es:=by rfl) :
  JE X (.Call (.Name x p) (e::es) [] pos) (qy sp i9 E t):=by
 calc⟨?_⟩;ext a s u H Q I h;calc YN (sY I i j ?_ b);calc q0B (h₀:=X.base) I.ok.mod.ju l (bE (o pos a s u H _ I h) λv y ⟨z,B,d,r,q⟩=>⟨d.gB,?_⟩) he c;calc tu F g m hd n d r q
theorem J0(F:cG X.prog X.w X.K X.mg X.base CX k f fd ps sp)(c:bw k X.A)(d:Gl X x)(e:X.mg x=ζ (.ref f))(g:XA X.K (.ref f)=θ)(i:Binds X.K fd ps ds)(hd:Vals i9 ds)(j:m9 CX X E)
  (a:cy x:=by decide):JE X (.Call (.Name x p) [] [] pos) (qy sp i9 E iv):=by
 calc⟨?_⟩;ext b s l H Q I h;calc YN (sY I d e ?_ a);calc q1_ I.gB g (tu (us:=[]) F c i hd j I .nil h)
theorem J6 {pl:Sem Bool} (he:JE X o ta) (c:i8 X.K C) (i:Meth X.K C m f) (F:cG X.prog X.w X.K X.mg X.base CX k f fd ps sp) (v:bw k X.A) (y:Binds X.K fd ps ds) (hd:Vals i9 ds) (z:m9 CX X E) (B:JA X (e :: es) t)
  (d:dE X e es:=by rfl) (g:dQ X pos es:=by rfl)
  (D:eval (.Call (.Attribute o m apos) (e :: es) [] pos) X.env=(do
   let ov <- eval o X.env
   standAt apos.atName
   let (f,first) <- holding [ov] (getMethod ov m pl)
   callWith pos f first (backTo pos (starEach (e :: es) X.env)) (backToKw pos (keywordEach [] X.env))):=by rfl) :
  JE X (.Call (.Attribute o m apos) (e :: es) [] pos) (vY C m sp i9 E ta t):=by
 calc⟨?_⟩;ext b s j H Q I h;calc q1O (pl:=pl) (bE (he b s j H _ I h) λu G ⟨x,J,n,L,a,P,R,M,N,l,q⟩ => ?_) D;subst M;obtain rfl:u=WQ a:=L;calc By n N c i l ?_;calc q0B (first:=[.ref a]) (h₀ := X.base) I.ok.mod.ju i.kp (bE (B pos b G j J _ n q) λus S ⟨vs,T,p,r,O⟩=>⟨p.gB,?_⟩) d g;calc tu (us := .ref a :: us) (vs := .ref a :: vs) F v y hd z p (.cons Y r) O
theorem J7 {pl:Sem Bool} (he:JE X o ta) (c:i8 X.K C) (e:Meth X.K C m f) (F:cG X.prog X.w X.K X.mg X.base CX k f fd ps sp) (g:bw k X.A) (i:Binds X.K fd ps ds) (hd:Vals i9 ds) (j:m9 CX X E)
  (n:eval (.Call (.Attribute o m apos) [] [] pos) X.env=(do
   let ov <- eval o X.env
   standAt apos.atName
   let (f,first) <- holding [ov] (getMethod ov m pl)
   callWith pos f first (backTo pos (starEach [] X.env)) (backToKw pos (keywordEach [] X.env))):=by rfl) :
  JE X (.Call (.Attribute o m apos) [] [] pos) (vY C m sp i9 E ta iv):=by
 calc⟨?_⟩;ext b s p H Q I h;calc q1O (pl:=pl) (bE (he b s p H _ I h) λu y ⟨x,z,d,r,a,B,D,t,v,l,q⟩ => ?_) n;subst t;obtain rfl:u=WQ a:=r;calc By d v c e l ?_;calc q1_ (first:=[.ref a]) d.gB e.kp (tu (us:=[.ref a]) (vs:=[.ref a]) F g i hd j d (.cons Y .nil) q)
structure Mk(K:KD)(C f:U):Prop where
 makes:q3t K C=θ
 init:XT K (.ref C) "__init__" = ζ (ζ (.ref f))
 fn:q1t K (.ref f)=θ
 kp:XA K (.ref C)=θ
theorem J8{a:a5}{g:St}{H:Hp}{s:L}{Q:VK}{us:-ν}{vs:-V}(M:Mk X.K C f)(F:cG X.prog X.w X.K X.mg X.base CX k f fd ps sp)(l:bw (k+1) X.A)(m:Binds X.K fd ps ds)(hd:Vals i9 ds)
  (n:m9 CX X E) (I:Inv X a g H s) (r:Vals vs us)
  (h:∀x c,H x=η->H c=η->c≠x->sp (.ref x::(vs++i9)) (upd (upd H c (.own x)) x (.ins C c [])) (λv H2=>v=.non/\Q (.ref x) H2) E) :
  G (ς X.prog X.w) X.A (call (.ref C) us) (EP X a g Q) X.xe s:=by
 let i:=h (⇑s+1) ⇑s (I.bf.fresh (q0c _)) (I.bf.fresh (B6 _)) (VF (Xa _));let d:=Inv.made (C:=C) I;let j:Vals (V.ref (⇑s+1)::(vs++i9)) (WQ (⇑s+1)::(us++ds)):=.cons Y (r.append hd)
 let o:↑(WQ (⇑s+1)::us++ds)=↑ps:=by
  let e:=↑j;rw[F.len _ _ _ _ i] at e;exact e.symm
 refine q0w (JM (f:=f) I.gB M.makes M.init (q1u.mp M.fn) (YF (F.run _ X.stack _ _ ⟨WQ (⇑s+1)::us,[]⟩ (WQ (⇑s+1)::(us++ds)) _ _ E (l.make C us [])
  (d.nQ.make C us []) (m _ (WQ (⇑s+1)::us) d.gB o) j i) λr p b=>?_))
 cases r with
 |error e=>exact n a g _ _ e p d b
 |ok q =>
  cases q with
  |ret u =>
   let⟨v,t,y,z,B,D⟩:=d.after b;subst B;exact⟨z,⟨V.ref (⇑s+1),t,y,Y,D⟩⟩
  |next=>exact XN b
  |brk=>exact XN b
  |cont=>calc XN b
theorem J9(M:Mk X.K C f)(F:cG X.prog X.w X.K X.mg X.base CX k f fd ps sp)(g:bw (k+1) X.A)(i:Gl X x)(j:X.mg x=ζ (.ref C))(l:Binds X.K fd ps ds)(hd:Vals i9 ds)(m:m9 CX X E)
  (n:JA X (e::es) t) (b:cy x:=by decide) (he:dE X e es:=by rfl) (c:dQ X pos es:=by rfl) :
  JE X (.Call (.Name x p) (e::es) [] pos) (JZ C sp i9 E t):=by
 calc⟨?_⟩;ext a s o H Q I h;calc YN (sY I i j ?_ b);calc q0B (h₀:=X.base) I.ok.mod.ju M.kp (bE (n pos a s o H _ I h) λu v ⟨y,z,d,r,q⟩=>⟨d.gB,?_⟩) he c;calc J8 M F g l hd m d r q
end
section
variable{X:Cx}{CX:kS}{k:Nat}{f C:U}{fd:FuncData}{ps ks:-R}{sp:Sp}{E:XK}{x m:R}{p pos apos nR:I}{e o:J}{es:-J}{Ux:-Keyword}{te ta:TE}{t tk:TA}{nm:Option R}
variable{g:-M->-M->-M}{gV:-V->-V->-V}
end
structure lU(N P:-R)(sc:o):Prop where
 kind:sc.kind=.function
 co:sc.isCoroutine=ι
 gen:sc.isGenerator=ι
 nd:N.Nodup
 pre:N.take ↑P=P
 par:∀x∈P,sc.names.lookup x=ζ .local\/sc.names.lookup x=ζ .cell
 nS:∀y∈sc.names,y.2≠.free
theorem BA{b:R->Option NameKind}{x:R}:∀{a:-(R×M)}{m:R->Option M},(∀v,(x,v)∉a)->bindL b a m x=m x
 |[],_,_=>Y
 |(n,v)::r,m,h=>by
  unfold bindL;rw[BA λw c=>h w (UA _ c)];split
  .let:x≠n:=by ext rfl;exact h v Uz
   simp[this]
  .rfl
theorem BB{b:R->Option NameKind}{x:R}:∀{a:-(R×M)}{m:R->Option M},(∀v,(x,v)∉a)->bindC b a m x=m x
 |[],_,_=>Y
 |(n,v)::r,m,h=>by
  unfold bindC;rw[BB λw c=>h w (UA _ c)];split
  .rfl
  .let:x≠n:=by ext rfl;exact h v Uz
   simp[this]
theorem BC{a:R->Option NameKind}{x:R}{v:M}:∀{P:-R}{vs:-M}{i:Nat}{m:R->Option M},P.Nodup->P[i]?=ζ x->vs[i]?=ζ v->a x=ζ .local →
  bindL a (P.zip vs) m x=ζ v
 |[],_,_,_,_,h,_,_=>by simp at h
 |_::_,[],_,_,_,_,h,_=>by simp at h
 |p::P,w::d,0,m,e,b,c,f=>by
  simp at b c;subst b;subst c;show bindL a ((p,w)::P.zip d) m p=_;unfold bindL;rw[BA λv g=>(Yy.mp e).1 (q1E g).1,VE f];simp
 |p::P,w::d,i+1,m,e,b,c,f=>by
  show bindL a ((p,w)::P.zip d) m x=_;unfold bindL;calc BC (i:=i) (Yy.mp e).2 b⁻¹ c⁻¹ f
theorem BE{a:R->Option NameKind}{x:R}{v:M}:∀{P:-R}{vs:-M}{i:Nat}{m:R->Option M},P.Nodup->P[i]?=ζ x->vs[i]?=ζ v->a x≠ζ .local →
  bindC a (P.zip vs) m x=ζ v
 |[],_,_,_,_,h,_,_=>by simp at h
 |_::_,[],_,_,_,_,h,_=>by simp at h
 |p::P,w::d,0,m,e,b,c,f=>by
  simp at b c;subst b;subst c;show bindC a ((p,w)::P.zip d) m p=_;unfold bindC;rw[BB λv g=>(Yy.mp e).1 (q1E g).1,VC f];simp
 |p::P,w::d,i+1,m,e,b,c,f=>by
  show bindC a ((p,w)::P.zip d) m x=_;unfold bindC;calc BE (i:=i) (Yy.mp e).2 b⁻¹ c⁻¹ f
noncomputable def start(N:-R)(vs:-V):St:=vs.map ζ++VG (↑N-↑vs) η
noncomputable def gh(CX:kS)(P:X)(w:l)(K:KD)(mg:R->Option M)(base:Q)(N:-R)(a:R)(scope:o)(f:U)(c:M)(A:t)(outer:-u)(s:L)(H:Hp)(E:XK):Cx where
 prog:=P
 w:=w
 K:=K
 mg:=mg
 base:=base
 A:=A.deeper (envOfC a scope ⇑s f c)
 N:=N
 s₀:=s
 H₀:=H
 env:=envOfC a scope ⇑s f c
 outer:=outer
 stack:=envOfC a scope ⇑s f c::outer
 ex:=[]
 calm:=true
 fn:=λ_=>θ
 pn:=[]
 xe:=λe d=>G (B P w) (A.deeper (envOfC a scope ⇑s f c)) (leaving (envOfC a scope ⇑s f c) e) (λ_ b=>CX outer H s E e b) (λg b=>CX outer H s E g b) d
theorem BF{a:o}{n:Nat}{x:R}(h:a.names.lookup x=ζ .cell):∃c,(cellsFrom n a.names []).lookup x=ζ c:=by
 let q:=ZS a.names n [] (.inl h);calc q03.mp q
theorem J_{CX:kS}{P:X}{w:ω}{K:KD}{G:π->Option ν}{base:Α}{N l:-π}{d:π}{scope:Δ}{f:ξ}{C:ν}{A:Β}{outer:-Ζ}{s I:ο}{H:Hp}{E:XK}{us:-ν}{vs:-V}
  (S:lU N l scope) (hd:A.handled=η) (j:jH P w K G base A outer s H) (R:↑vs=↑l) (r:Vals vs us)
  (x:InCallC s ⇑s (bindL (envOfC d scope ⇑s f C).kindOf (l.zip us) λ_=>η) (cellsFrom (⇑s+1) scope.names []) (bindC (envOfC d scope ⇑s f C).kindOf (l.zip us) λ_=>η) I) :
  Inv (gh CX P w K G base N d scope f C A outer s H E) [] (start N vs) H I:=by
 let M:↑l<=↑N:=by let:=congrArg q5P S.pre;rw[Ww] at this;symm
 let⟨D,T,rfl,J⟩:=x.done;let m:∀b:ξ,b∉(gh CX P w K G base N d scope f C A outer s H E).ex:=λb z=>absurd (show b∈([]:-ξ) from z) (by simp)
 refine⟨⟨j.mod,S.kind,Y,Y,B6 _,λy z c D g=>?_,λy o=>?_,λy c _ h=>?_,λ_=>hd,q10 j.frames,.inr ⟨Y,Y⟩,λb z=>absurd z (m b),j.bs,j.k_,λb _ _=>m b,λb z=>absurd z (m b),j.fj,j.lT⟩,
  Y,j.bare,Un.kept J,⟨_,x.toInCall.ns,λi y v D g U=>?_⟩,λy c h=>⟨_,x.cell y c h⟩,j.bf.fresh (B6 _),λy c h=>?_,λp t=>absurd (show p∈([]:a5) from t) (by simp),j.bf.kept J,?_⟩
 .exact name_of_addr x.apart (XM D) (XM g)
 .let o:scope.names.lookup y=ζ .cell\/scope.names.lookup y=ζ .free:=o
  rcases o with o|o
  .exact BF o
  .exact absurd Y (S.nS _ (XM o))
 .exact Xd (x.above y c (XM h))
 .let F:i<↑vs:=by
   unfold start at g
   by_cases F:i<↑vs
   .exact F
   .rw[My F⁻¹] at g
    rw[ZF] at g;split at g<;>cases g
  let O:vs[i]?=ζ v:=by
   unfold start at g;rw[KI F⁻¹,B8] at g
   cases e:vs[i]? with
   |none=>rw[e] at g;cases g
   |some a=>rw[e] at g;cases g;rfl
  let⟨u,L,Q⟩:=r.get O
  let t:l[i]?=ζ y:=by
   rw[<-S.pre,W5 ⋯];exact D
  let B:l.Nodup:=by rw[<-S.pre];exact S.nd.sublist (q2B _ _)
  calc⟨u,Q,?_⟩;rcases S.par y (WU t) with k|k
  .exact .inl ⟨k,BC B t L k⟩
  .let⟨c,e⟩:=BF (n:=⇑s+1) k
   calc .inr ⟨.inl k,c,e,?_⟩;let q:=x.cell y c e;rw[BE B t L (by show scope.names.lookup y≠_;rw[k];decide)] at q;exact q
 .exact j.bf.fresh (Xd (x.above y c (XM h)))
 .unfold start
  show _=↑N;rw[qG,nW,Zc];symm
theorem BG{CX:kS}{P:ψ}{w:ω}{K:KD}{G:π->Option ν}{base:Α}{k:Nat}{f:ξ}{name a:π}{g:Arguments}{h:-χ}{scope:Δ}{Z kV z pm d ct oc:ν}{an od:Option ξ}
  {M:Array (Option ν)} {N L:-π} {sp:Sp} (lk:K.lookup f=ζ ⟨oc,od,.func (Xt name a g h scope Z kV z pm an d ct),M⟩) (O:Zh K d a=θ) (S:lU N L scope)
  (B:∀vs H Q E,sp vs H Q E->↑vs=↑L)
  (j:∀(A:Β)(outer:-Ζ)(s:ο)(H:Hp)(vs:-V)(Q:VK)(E:XK),bw k (A.deeper (envOfC a scope ⇑s f d))->sp vs H Q E →
   ∃t,ee (gh CX P w K G base N a scope f d A outer s H E) h t/\t {nx:=λ_ H'=>Q .non H',rt:=Q} (start N vs) H) :
  cG P w K G base CX (k+1) f (Xt name a g h scope Z kV z pm an d ct) L sp:=by
 calc⟨B,λA c s H args us R Q E T C hb r D=>?_⟩;let hl:=B _ _ _ _ D;let KX:K.In s.heap:=C.mod.ju.keeps λb o e=>(C.bs b o e).1;let U:s.heap.NoLimit:=C.mod.nolimit.keeps λb o e=>(C.bs b o e).1
 let l:∀y∈L.zip us,scope.names.lookup y.1=ζ .local\/(scope.names.lookup y.1=ζ .cell/\((cellsFrom (⇑s+1) scope.names []).lookup y.1).isSome=θ):=λ⟨n,v⟩ hy↦by
  rcases S.par n (q1E hy).1 with q|q
  .exact .inl q
  .exact .inr ⟨q,ZS _ _ _ (.inl q)⟩
 calc codeAny_call_function T.depth (KX _ _ lk) rfl S.co S.gen rfl (PySem.W.codeRec_of KX O) (hb _ _ _ _ ?_);calc wpAny_newFunctionEnv_cells S.kind l λenv he s1 x=>?_;subst he;calc⟨U.keeps x.toInCall.keep,codeAny_func ?_⟩;let⟨t,ht,hq⟩:=j A c s H R Q E (T.deeper _) D;let I:Inv (gh CX P w K G base N a scope f d A c s H E) [] (start N R) H s1:=J_ S T.hd C hl r x;refine X0 (ht [] s1 (start N R) H _ I hq) (λfl X p=>?_) λe X p=>p
 let F:∀{i:St}{m:Hp}{v:V}{u:ν},Inv (gh CX P w K G base N a scope f d A c s H E) [] i m X->RelV v u->Q v m->CE c P w H s Q u X :=
  λ{i m v u} J Y q=>⟨v,m,J.os,J.bare,J.base,J.bf,Y,q⟩
 cases fl with
 |ret u =>
  let⟨v,i,m,J,Y,q⟩:=p;exact F J Y q
 |next =>
  let⟨i,m,J,q⟩:=p;exact F (v:=V.non) (u:=WB) J rfl q
 |brk =>
  let⟨_,_,_,q⟩:=p;exact XN q
 |cont =>
  let⟨_,_,_,q⟩:=p;calc XN q
section
variable{X:Cx}{x:R}{p pos:I}{e:J}{es:-J}{t:TA}{id T:String}{r:-V->Hp->VK->Prop}
def qA(r:-V->Hp->VK->Prop)(t:TA):TE:=λa H Q=>t a H λb c=>r b c Q
theorem o9(f:g6 X (.builtin id) r)(g:Gl X x)(i:X.mg x=η)(j:bootBuiltins x=ζ (.builtin id))(k:JA X (e::es) t)(hn:x≠"__name__" := by decide)(b:cy x:=by decide)
  (he:dE X e es:=by rfl) (c:dQ X pos es:=by rfl):JE X (.Call (.Name x p) (e::es) [] pos) (qA r t):=by
 calc⟨?_⟩;ext a s d H Q I h;calc YN (m8 I g i j ?_ hn b);calc PyProof.Rows.callWith_builtin1 (bE (k pos a s d H _ I h) λl m ⟨n,o,q,u,v⟩↦f a m d o n l Q q u v) he c
theorem ml(f:g6 X (.type T) r)(g:Gl X x)(i:X.mg x=η)(j:bootBuiltins x=ζ (.type T))(k:JA X (e::es) t)(hn:x≠"__name__" := by decide)(b:cy x:=by decide)
  (he:dE X e es:=by rfl) (c:dQ X pos es:=by rfl):JE X (.Call (.Name x p) (e::es) [] pos) (qA r t):=by
 calc⟨?_⟩;ext a s d H Q I h;calc YN (m8 I g i j ?_ hn b);calc Yn (bE (k pos a s d H _ I h) λl m ⟨n,o,q,u,v⟩↦f a m d o n l Q q u v) he c
end
end L2
namespace HT
open PySem PyProof.Rows
noncomputable def lexLt:-Int->-Int->Bool
 |[],[]=>ι
 |[],_::_=>θ
 |_::_,[]=>ι
 |x::a,y::b=>if x=y then lexLt a b else S (x<y)
theorem lV(x y:Int)(xs ys:-Int):lexLt (x::xs) (y::ys)=if x=y then lexLt xs ys else S (x<y):=rfl
theorem BH:lexLt [] []=ι:=rfl
theorem BI(y:Int)(ys:-Int):lexLt [] (y::ys)=θ:=rfl
theorem BJ(x:Int)(xs:-Int):lexLt (x::xs) []=ι:=rfl
theorem BK(A:Β)(s:L)(a:Int)(t:Tok)(c:Int)(u:Tok):∃e,q1s A s (.int a t) (.int c u) e/\(e=θ↔a=c) :=
 ⟨(a==c),q2u a t c u,by simp⟩
theorem Ka(A:Β)(s:L)(a:Int)(t:Tok)(c:Int)(u:Tok)(prog:X)(w:l)(E:br)(Q:br)(h:Q (.bool (S (a<c))) s):
  G (B prog w) A (richCompare .Lt (.int a t) (.int c u)) Q E s :=
 (q0m h:G (B prog w) A (compareOp .Lt (.int a t) (.int c u)) Q E s)
section
open PySem.SeqAt
open PySem.AutoSeq1 (wpAny_loadPart')
open PySem.MeetsSeq PySem.MeetsSeq2 PySem.MeetsSeq3
theorem Kb(l b:ξ)(items f:Array ν)(n S:Nat)(T K:Option ξ)(sl L:Array (Option ν))(ns ms:-Int)(O:IntsAre items.toList ns)(P:IntsAre f.toList ms):
  Meets (Builtin.«tuple.__lt__» ⟨[.ref l,.ref b],[]⟩)
   (λ_ R s=>s.heap.get? l=ζ {cls:=.type "tuple",dict:=T,data:=.seq items n,slots:=sl}/\s.heap.get? b=ζ {cls:=.type "tuple",dict:=K,data:=.seq f S,slots:=L} ∧
    R (.ok (.ret (.bool (lexLt ns ms)))) s) :=
 .of_wp λp w A R s h=>by
  let⟨F,g,d,G,H⟩:=s;let⟨hl,hb,h⟩:=h;let W:=q04;let X:items.size=↑ns:=by rw[<-↑O];simp
  let Y:f.size=↑ms:=by rw[<-↑P];simp
  wp_walk using XH hl,XH hb,q1c _ (λr b M=>b.1=η/\M=⟨F,g,d,G,H⟩/\∃(I J:-ν)(j k:-Int),r=I.zip J ∧
   IntsAre I j/\IntsAre J k/\↑j+f.size=k.length+items.size/\R (.ok (.ret (.bool (lexLt j k)))) ⟨F,g,d,G,H⟩) _
  case turn =>
   ext⟨y,x⟩ r b M ⟨B,rfl,I,J,j,k,m,C,o,i,v⟩
   cases C with
   |nil=>rw[Ze] at m;cases m
   |cons a t D =>
    cases o with
    |nil=>rw[q0C] at m;cases m
    |cons c u E =>
     rw[YE] at m;injection m with vZ la;injection vZ with hy hx;subst hy hx;rw[lV] at v;erw[wo] at i;let⟨e,U,z⟩:=BK A.in1 ⟨F,g,d,G,H⟩ a t c u;refine nX (U p w _ _ ?_)
     cases e with
     |true =>
      rw[VE (z.mp rfl)] at v
      wp_walk
      exact⟨rfl,rfl,_,_,_,_,la,D,E,⋯,v⟩
     |false =>
      rw[VC (λq=>absurd (z.mpr q) Wo)] at v;let N:=Ka A.in1 ⟨F,g,d,G,H⟩ a t c u p w
      wp_walk using N
      exact⟨_,rfl,by simpa using v⟩
  case fin =>
   ext⟨Z,b2⟩ M ⟨B,rfl,I,J,j,k,m,C,o,i,v⟩;simp only at B;subst B
   let Q:lexLt j k=μ (items.size<f.size):=by
    cases C with
    |nil =>
     cases o with
     |nil =>
      erw[VP] at i;rw[BH];exact(VD ⋯).symm
     |cons c u V =>
      erw[VP,wo] at i;rw[BI];exact(VH ⋯).symm
    |cons a t Q =>
     cases o with
     |nil =>
      erw[VP,wo] at i;rw[BJ];exact(VD ⋯).symm
     |cons c u V =>
      rw[YE] at m;cases m
   rw[Q] at v
   wp_walk
   exact⟨_,rfl,by simpa[ZZ] using v⟩
  case h =>
   calc⟨rfl,rfl,items.toList,f.toList,ns,ms,rfl,O,P,⋯,h⟩
end
section
variable{prog:X}{w:l}{A:t}{E:br}{s:L}
theorem v3{l b:U}{items a:Array M}{ns ms:-Int}{Q:br}(q:IsTup s.heap l items)(r:IsTup s.heap b a)(t:IntsAre items.toList ns)(u:IntsAre a.toList ms)
  (v:A.units<cLine) (h:Q (.bool (lexLt ns ms)) s):G (ς prog w) A (compareOp .Lt (.ref l) (.ref b)) Q E s:=by
 let⟨⟨y,z,j,B⟩,k,m,n,o⟩:=id q;let⟨⟨p,f,g,i⟩,c,d,C,e⟩:=id r;simp only at m o d e;subst m o d e
 exact q1v (op:=.Lt) ⟨_,k,Y⟩ ⟨_,c,Y⟩ PySem.F.slot_tuple_lt PySem.F.entry_tuple_lt (PySem.F.args_tuple_lt_2 _ _) (Kb l b items a n C z f B i ns ms t u)
  ⟨k,c,show Y9 (lexLt ns ms)≠q11/\Q (.bool (lexLt ns ms)) s from⟨(λx=>nomatch x),h⟩⟩ v
theorem Kc{t b:U}{vs ws:-M}{Q:br}(u:IsTup s.heap t vs.toArray)(v:IsTup s.heap b ws.toArray)(k:vs≠[])
  (x:ws=[]->Q (.ref t) s) (y:ws≠[]->Q (.ref ⇑s) {s with heap:=s.heap.push {cls:=.type "tuple",data:=.seq (vs++ws).toArray}})
  (hsz:↑vs+↑ws<=sizeLine):G (B prog w) A (binaryOp .Add (.ref t) (.ref b)) Q E s:=by
 let⟨⟨cls,l,data,m⟩,h,o,n,p⟩:=id u;let⟨⟨q,c,j,d⟩,a,f,r,g⟩:=id v;simp only at o p f g;subst o p f g;let e:vs.toArray++ws.toArray=(vs++ws).toArray:=by simp
 by_cases i:ws=[]
 .exact q2N ⟨_,h,Y⟩ ⟨_,a,Y⟩ q1j q2k ZT ZG (Zt _ _)
   (tuple_addW1 t b vs.toArray ws.toArray n r l c m d k⁻¹ (by simp[i])) ⟨h,a,x i⟩
 .refine q2N ⟨_,h,Y⟩ ⟨_,a,Y⟩ q1j q2k ZT ZG (Zt _ _)
   (tuple_addW2 t b vs.toArray ws.toArray n r l c m d k⁻¹ i⁻¹ (by rw[KG,KG];calc hsz)) ⟨h,a,?_⟩
  rw[e];calc y i
noncomputable def bM(n d:Nat):Option Int->Nat
 |none=>d
 |some v=>if v<0 then(v+(n:Int)).toNat else min v.toNat n
theorem Kd(n d:Nat):bM n d η=d:=rfl
theorem v5(n d k:Nat):bM n d (ζ (k:Int))=min k n:=by
 show(if(k:Int)<0 then((k:Int)+(n:Int)).toNat else min (k:Int).toNat n)=min k n;rw[VC ⋯,V8]
theorem Ke(n d:Nat)(hd:d<=n)(o:Option Int):bM n d o<=n:=by
 cases o with
 |none=>exact hd
 |some v =>
  show(if v<0 then(v+(n:Int)).toNat else min v.toNat n)<=n
  by_cases a:v<0
  .rw[VE a];symm
  .rw[VC a];calc Nat.min_le_right _ _
theorem BL(v:Int)(n d:Nat):(if v<0 then max (v+(n:Int)) 0 else min v (n:Int))=((bM n d (ζ v):Nat):Int):=by
 show(if v<0 then max (v+(n:Int)) 0 else min v (n:Int))=(((if v<0 then(v+(n:Int)).toNat else min v.toNat n):Nat):Int)
 by_cases a:v<0
 .erw[VE a];symm
 .erw[VC a];symm
theorem Kg(a b:Option Int)(n:Nat):Zo a b 1 (n:Int)=(((bM n 0 a:Nat):Int),((bM n n b:Nat):Int)):=by
 let c:¬ ((1:Int)<0):=by symm
 unfold Zo;erw[c,W8];refine Prod.ext ?_ ?_
 .cases a with
  |none=>rfl
  |some v=>exact BL v n 0
 .cases b with
  |none=>rfl
  |some v=>calc BL v n n
theorem Kh(i j:Nat):YR (i:Int) (j:Int) 1=j-i:=by
 unfold YR;let a:(1:Int)>0:=by symm
 erw[a,Xk,Int.ediv_one];split<;>symm
theorem BM{v:M}{o:Option Int}{Q:Option Int->L->Prop}(p:IsPart v o)(h:Q o s):G (B prog w) A (Builtin.Slice.slicePartIndex v) Q E s:=by
 cases p with
 |none=>exact slicePart_none h
 |int i t=>calc slicePart_int h
theorem BN{sl:U}{e f:M}{a b:Option Int}{n:Nat}{Q:Int×Int×Nat->L->Prop}(hs:s.heap.IsSliceOf sl e f .none)(pl:IsPart e a)(g:IsPart f b)
  (h:Q (((bM n 0 a:Nat):Int),1,bM n n b-bM n 0 a) s):G (B prog w) A (q0D (.ref sl) (pure (n:Int))) Q E s:=by
 let⟨j,c,i,d⟩:=id hs;unfold q0D Builtin.Slice.sliceFields;calc nX (nX (ZH c d (x:=e) Y (nX (ZH c d (x:=f) Y (nX (ZH c d (x:=.none) Y (B7 ?_)))))));calc nX (slicePart_none ?_);show G _ _ (if((1:Int)==0)=θ then _ else _) _ _ s;rw[VC (by decide)];refine nX (BM pl (nX (BM g (nX (B7 ?_)))))
 show G _ _ (match Zo a b 1 (n:Int) with|(a,b)=>pure (a,(1:Int),YR a b 1)) _ _ s;rw[Kg a b n];show G _ _ (pure (((bM n 0 a:Nat):Int),(1:Int),YR ((bM n 0 a:Nat):Int) ((bM n n b:Nat):Int) 1)) _ _ s;rw[Kh];calc B7 h
theorem Ki(xs:Array M)(i k:Nat):((Wq k).filterMap λ(m:Nat)=>xs[((i:Int)+(m:Int)*1).toNat]?).toArray=((xs.toList.drop i).take k).toArray:=by
 let e:(λ(m:Nat)=>xs[((i:Int)+(m:Int)*1).toNat]?)=λm=>xs[i+m]?:=by
  funext m;let:((i:Int)+(m:Int)*1).toNat=i+m:=by symm
  rw[this]
 rw[e];let:=pick_run xs i k;rw[q2p] at this;let a:((λx=>xs[x]?)∘λx=>i+x)=λm=>xs[i+m]?:=Y;rw[a] at this;rw[this]
theorem Kj{t sl:U}{items:Array M}{i j:M}{a b:Option Int}{Q:br}(c:IsTup s.heap t items)(hs:s.heap.IsSliceOf sl i j .none)(pl:IsPart i a)(k:IsPart j b)
  (l:¬ (bM items.size 0 a=0/\bM items.size items.size b=items.size))
  (h:Q (.ref ⇑s) {s with heap:=s.heap.push {cls:=.type "tuple",data:=.seq ((items.toList.drop (bM items.size 0 a)).take (bM items.size items.size b-bM items.size 0 a)).toArray}})
  (hsz:items.size<=sizeLine):G (B prog w) A (getItem (.ref t) (.ref sl)) Q E s:=by
 let jY:sizeOk (.seq ((items.toList.drop (bM items.size 0 a)).take (bM items.size items.size b-bM items.size 0 a)).toArray):=by
  show((items.toList.drop (bM items.size 0 a)).take (bM items.size items.size b-bM items.size 0 a)).toArray.size<=sizeLine;rw[KG,Ww,YK,UC];symm
 let p:bM items.size items.size b<=items.size:=Ke _ _ (B6 _) b;let⟨n,d,e,o⟩:=id hs;let f:s.TypeIs (.ref sl) "slice" := ⟨n,d,e⟩;unfold getItem
 try with_reducible refine WK ?_
 first|refine nX (B7 ?_)|skip
 refine nX (q2O c.typeIs (by decide) ?_)
 refine nX (Yk (name:=Xz "__getitem__") c.typeIs Xy
  (XJ Xy c.typeIs q2a ?_ (q2v _ _)))
 show G _ _ (q0E (.ref t) >>= _) _ _ s;calc nX (tupleItemsOf_ c ?_);calc nX (q0o f ?_);rw[VE (by decide)];refine nX (BN hs pl k ?_)
 let g:¬ ((((bM items.size 0 a:Nat):Int)==0&&(1:Int)==1&&(bM items.size items.size b-bM items.size 0 a)==items.size)=θ):=by
  ext q;rw[Xo,Xo] at q;let r:((bM items.size 0 a:Nat):Int)=0:=XX q.1.1;let u:bM items.size items.size b-bM items.size 0 a=items.size:=XX q.2;exact l ⟨⋯,⋯⟩
 show G _ _ (if(((bM items.size 0 a:Nat):Int)==0&&(1:Int)==1&&(bM items.size items.size b-bM items.size 0 a)==items.size)=θ then _ else _) _ _ s;rw[VC g,Ki]
 first
  |exact nX (m:=YX _) (XP (B7 ⟨_,Y,B7 h⟩) jY)
  |exact nX (m:=YX _) (XP (nX (B7 (B7 ⟨_,Y,B7 h⟩))) jY)
  |exact nX (nX (m:=YX _) (XP (B7 (B7 ⟨_,Y,B7 h⟩)) jY))
  |calc nX (nX (m:=YX _) (XP (B7 ⟨_,Y,B7 h⟩) jY))
end
end HT
namespace L2
open PySem PySem.Spec PyProof.Rows
abbrev TO:=St->Hp->(Option Int->Hp->Prop)->Prop
def PO(X:Cx)(e:Option J)(t:TO):Prop :=
 ∀(a:a5)(s:L)(b:St)(H:Hp)(Q:Option Int->Hp->Prop),Inv X a b H s->t b H Q →
  G (B X.prog X.w) X.A (evalPart e X.env) (λu d=>∃o c,Inv X a b c d/\IsPart u o/\Q o c) X.xe s
def Kk:TO:=λ_ H Q=>Q η H
def Kl(t:TE):TO:=λa H Q=>t a H λx b=>∃i,x=.int i/\Q (ζ i) b
theorem intsAre_of{ns:-Int}:∀{us:-M},Vals (ns.map V.int) us->IntsAre us ns:=by
 induction ns with
 |nil=>ext a r;rw[V9] at r;cases r;exact .nil
 |cons n f b =>
  ext a r;rw[UB] at r
  cases r with
  |cons c d =>
   let⟨t,e⟩:=c;subst e;calc .cons n t (b d)
section
variable{X:Cx}{e:J}{te:TE}{lo hi:Option J}{tl th:TO}{pos p2:I}
theorem BO:PO X η Kk:=by
 ext a s b H Q I h;rw[q4g];calc B7 ⟨η,H,I,.none,h⟩
theorem tw(h:JE X e te):PO X (ζ e) (Kl te):=by
 ext a s b H Q I c;rw[evalPart_some];calc bE (h a s b H _ I c) λu k ⟨x,d,f,g,j⟩=>?_;let⟨i,rfl,q⟩:=j;let⟨t,rfl⟩:=g;calc⟨ζ i,d,f,.int i t,q⟩
def m_(X:Cx)(r:V->Option Int->Option Int->Hp->VK->Prop):Prop :=
 ∀(a:a5)(s:L)(b:St)(H:Hp)(x:V)(v c d:M)(e f:Option Int)(g:U)(Q:VK),Inv X a b H s->RelV x v->s.heap.IsSliceOf g c d .none->IsPart c e->IsPart d f->r x e f H Q →
  ∃T h,typeLookup (.type T) "__getitem__" = pure (ζ (.builtin h))/\s.TypeIs v T/\G (B X.prog X.w) X.A (getItem v (.ref g)) (EP X a b Q) X.xe s
theorem m_.or{r d:V->Option Int->Option Int->Hp->VK->Prop}(h:m_ X r)(h':m_ X d):m_ X (λx b c H Q=>r x b c H Q\/d x b c H Q):=by
 ext a s e H x v f g b c i Q I j k l m q;rcases q with q|q
 .exact h a s e H x v f g b c i Q I j k l m q
 .calc h' a s e H x v f g b c i Q I j k l m q
def Km(r:V->Option Int->Option Int->Hp->VK->Prop)(b:TE)(c d:TO):TE:=λa H Q=>b a H λx e=>c a e λl f=>d a f λu g=>r x l u g Q
theorem v7{r:V->Option Int->Option Int->Hp->VK->Prop}(j:m_ X r)(he:JE X e te)(k:PO X lo tl)(m:PO X hi th):JE X (.Subscript e (.Slice lo hi η p2) pos) (Km r te tl th):=by
 calc⟨?_⟩;ext a s d H Q I h;calc Subscript_ (bE (he a s d H _ I h) λv n ⟨x,o,p,t,y⟩=>?_);calc wpAny_Slice (bE (k a n d o _ p y) λf z ⟨l,B,C,D,E⟩=>bE (m a z d B _ C E) λg c ⟨u,i,F,G,J⟩=>?_);rw[q4g];calc B7 ?_;let K:Inv X a d i {c with heap:=c.heap.push {cls:=.type "slice",data:=.fields #[f,g,.none]}}:=F.kept (t':=c.toks) λb O q=>B5 _ q;let⟨T,P,L,M,N⟩:=j a {c with heap:=c.heap.push {cls:=.type "slice",data:=.fields #[f,g,.none]}} d i x v f g l u ⇑c Q K t (Heap.IsSliceOf.new ..) D G J;show ρ (ς X.prog X.w) X.A (subscriptTail e (.Slice lo hi η p2) v (.ref ⇑c)) (EP X a d Q) X.xe {c with heap:=c.heap.push {cls:=.type "slice",data:=.fields #[f,g,.none]}}
 calc tail_any (ops:=[.ref ⇑c,v]) M L N (by with_unfolding_all rfl)
noncomputable def eF(xs:-V)(a b:Option Int):-V:=(xs.drop (HT.bM ↑xs 0 a)).take (HT.bM ↑xs ↑xs b-HT.bM ↑xs 0 a)
theorem BP(xs:-V)(a b:Option Int):↑(eF xs a b)<=↑xs:=by
 unfold eF;rw[Ww,YK];symm
def v8(K:KD):V->Option Int->Option Int->Hp->VK->Prop:=λx c d H Q=>∃a b,x=.ref a/\cF K H a b ∧
 ¬ (HT.bM ↑b 0 c=0/\HT.bM ↑b ↑b d=↑b)/\∀p,H p=η->Q (.ref p) (upd H p (.tup (eF b c d)))
theorem Kn:m_ X (v8 X.K):=by
 ext i s w H x v y z e f A Q I l m n p h;let⟨a,d,rfl,t,u,q⟩:=h;cases l
 let⟨g,r,j,k⟩:=I.tuple t;let c:g.toArray.size=↑d:=by rw[KG];exact r.length.symm
 calc⟨"tuple",_,Xy.lookup,j.typeIs,?_⟩;calc HT.Kj j m n p (by rw[c];calc u) ?_ (by rw[c];calc k);rw[c];calc⟨.ref ⇑s,_,I.laid (t':=s.toks) (o:=.tup (eF d e f)) (λb B q=>B5 _ q) (B6 _) ?_,Y,q _ (I.bf.fresh (B6 _))⟩;calc⟨Wr (BP d e f) k,_,(r.drop (HT.bM ↑d 0 e)).take (HT.bM ↑d ↑d f-HT.bM ↑d 0 e),IsTup.new _ _⟩
def v9(K:KD):R2:=λx y H Q=>∃a b c d,x=.ref a/\y=.ref b/\cF K H a (c.map V.int)/\cF K H b (d.map V.int)/\Q (.bl (HT.lexLt c d)) H
theorem Ko(i:X.A.units<cLine):fA X (compareOp .Lt) (v9 X.K):=by
 ext e s z H x y v u Q I j k h;let⟨a,b,f,g,rfl,rfl,l,m,q⟩:=h;cases j
 cases k
 let⟨d,n,o,_⟩:=I.tuple l;let⟨c,p,r,_⟩:=I.tuple m;let t:IntsAre d.toArray.toList f:=intsAre_of n;let w:IntsAre c.toArray.toList g:=intsAre_of p;calc HT.v3 o r t w i ⟨.bl (HT.lexLt f g),H,I,Y,q⟩
def Kp(K:KD):R2:=λx y H Q=>∃a b d c,x=.ref a/\y=.ref b/\cF K H a d/\cF K H b c/\d≠[]/\↑d+↑c<=sizeLine ∧
 (c=[]->Q (.ref a) H)/\(c≠[]->∀p,H p=η->Q (.ref p) (upd H p (.tup (d++c))))
theorem Vals.gY{xs:-V}{us:-M}(r:Vals xs us):us=[]↔xs=[]:=by
 cases r with
 |nil=>simp
 |cons _ _=>simp
theorem Kq:fA X (binaryOp .Add) (Kp X.K):=by
 ext e s D H x y v u Q I i j h;let⟨a,b,k,l,rfl,rfl,m,n,p,f,r,t⟩:=h;cases i
 cases j
 let⟨A,d,B,_⟩:=I.tuple m;let⟨g,c,C,_⟩:=I.tuple n;calc HT.Kc B C (λz=>p (d.gY.mp z)) (λz=>⟨.ref a,H,I,Y,r (c.gY.mp z)⟩) (λz=>?_) (by rw[<-↑d,<-↑c];calc f);calc⟨.ref ⇑s,_,I.laid (t':=s.toks) (o:=.tup (k++l)) (λb E q=>B5 _ q) (B6 _) ?_,Y,t (λw=>z (c.gY.mpr w)) _ (I.bf.fresh (B6 _))⟩;calc⟨by rw[qG];calc f,_,d.append c,IsTup.new _ _⟩
end
noncomputable def i_(n:Nat)(i:Int):Option Nat:=if 0<=i then(if i<n then ζ i.toNat else η) else if -(n:Int)<=i then ζ (i+n).toNat else η
noncomputable def eW{a:Type}(xs:-a)(i:Int):Option a:=(i_ ↑xs i).bind λj=>xs[j]?
theorem BQ{n:Nat}{i:Int}{j:Nat}(h:i_ n i=ζ j):seqIndex? i n=ζ j/\j<n /\ -(n:Int)<=i/\i<n:=by
 unfold i_ at h
 by_cases b:0<=i
 .rw[VE b] at h
  by_cases a:i<n
  .rw[VE a] at h
   let e:i.toNat=j:=WD h;exact⟨by rw[q3l b a,e],⋯,⋯,a⟩
  .rw[VC a] at h;cases h
 .rw[VC b] at h
  by_cases a : -(n:Int)<=i
  .rw[VE a] at h
   let e:(i+n).toNat=j:=WD h;exact⟨by rw[q2P ⋯ a,e],⋯,a,⋯⟩
  .rw[VC a] at h;cases h
theorem v_{a:Type}{xs:-a}{i:Int}{v:a}(h:eW xs i=ζ v):∃j,seqIndex? i ↑xs=ζ j/\xs[j]?=ζ v/\j<↑xs /\ -(↑xs:Int)<=i/\i<↑xs:=by
 unfold eW at h
 cases e:i_ ↑xs i with
 |none=>rw[e] at h;cases h
 |some j =>
  rw[e] at h;let⟨b,c,d,f⟩:=BQ e;calc⟨j,b,h,c,d,f⟩
theorem iP{a:Type}{xs:-a}{j:Nat}{v:a}(h:xs[j]?=ζ v):eW xs (j:Int)=ζ v:=by
 let b:j<↑xs:=(pa.mp h).1
 let e:i_ ↑xs (j:Int)=ζ j:=by
  unfold i_;rw[VE ⋯,VE ⋯];simp
 unfold eW;rw[e];calc h
def wa(b:J):Prop:=∀o i,subscripted b ι o i=operate [o,i] (getItem o i)
def lW(X:Cx)(r:R2):Prop :=
 ∀(c a:J)(b:a5)(s:L)(d:St)(H:Hp)(x y:V)(v u:M)(Q:VK),Inv X b d H s->RelV x v->RelV y u->r x y H Q →
  subscripted a ι v u=operate [v,u] (getItem v u)->G (B X.prog X.w) X.A (subscriptTail c a v u) (EP X b d Q) X.xe s
def wb(X:Cx)(e:String)(r:V->-V->Hp->VK->Prop):Prop :=
 ∀(a:a5)(s:L)(b:St)(H:Hp)(x:V)(c:-V)(v:M)(d:-M)(Q:VK),Inv X a b H s->RelV x v->Vals c d->r x c H Q →
  G (B X.prog X.w) X.A (call (.builtin e) (v::d)) (EP X a b Q) X.xe s
section
variable{X:Cx}{a b:J}{ta tb:TE}{pos:I}
theorem lW.or{r d:R2}(h:lW X r)(h':lW X d):lW X (λx y H Q=>r x y H Q\/d x y H Q):=by
 ext a b c s e H x y v u Q I f g q i;rcases q with q|q
 .exact h a b c s e H x y v u Q I f g q i
 .calc h' a b c s e H x y v u Q I f g q i
theorem wc{r:R2}(d:lW X r)(e:JE X a ta)(f:JE X b tb)(hs:wa b):JE X (.Subscript a b pos) (qt r ta tb):=by
 calc⟨?_⟩;ext c s g H Q I h;calc Subscript_ (nP e f I h λv u i x y j k l m q=>d a b c i g j x y v u Q k l m q (hs _ _))
def qB(K:KD):R2:=λx y H Q=>∃p a i v,x=.ref p/\y=.int i/\bS K H p a/\eW a i=ζ v/\Q v H
def qC(K:KD):R2:=λx y H Q=>∃p a i v,x=.ref p/\y=.int i/\cF K H p a/\eW a i=ζ v/\Q v H
def qD:R2:=λx y H Q=>∃z i c,x=.str z/\y=.int i/\↑z<=sizeLine/\eW z.cps.toList i=ζ c/\Q (.str ⟨#[c]⟩) H
theorem iw:lW X (qB X.K):=by
 ext d e a s m H x y v u Q I B C h n;let⟨p,N,i,z,rfl,rfl,D,E,q⟩:=h;cases B
 let⟨t,rfl⟩:=C;let⟨f,r,g,O⟩:=I.list D;let⟨j,c,F,P,G,J⟩:=v_ E;let⟨w,o,k⟩:=r.get F;let L:=↑r;let R:=o8;let b:EP X a m Q w s:=⟨z,H,I,k,q⟩
 by_cases A:0<=i
 .let l:i.toNat=j:=by
   rw[q3l A J] at c;exact WD c
  exact item_listR g.isList A ⋯ (by rw[l];simpa using o) b n
 .let l:(i+(f.toArray.size:Int)).toNat=j:=by
   rw[q2P ⋯ G] at c;rw[KG,<-L];exact WD c
  exact q1w (x:=w) g.isList.typeIs q2Q.lookup
   (wpAny_getItem_list_neg (Q:=λr M=>r=w/\EP X a m Q r M) g.isList ⋯ (by rw[KG]<;>symm) ⋯ (by rw[l];simpa using o) ⟨Y,b⟩) n
theorem lb:lW X (qC X.K):=by
 ext b c a s f H x y v u Q I k l h m;let⟨p,G,i,z,rfl,rfl,n,o,q⟩:=h;cases k
 let⟨t,rfl⟩:=l;let⟨A,r,g,J⟩:=I.tuple n;let⟨j,B,C,L,M,N⟩:=v_ o;let⟨w,D,d⟩:=r.get C;let E:=↑r;let O:=o8;let e:EP X a f Q w s:=⟨z,H,I,d,q⟩
 exact q1w (x:=w) g.typeIs slot_tuple_getitem.lookup
  (getItem_tuple (j:=j) (Q:=λr F=>r=w/\EP X a f Q r F) g ⋯ ⋯ (by rw[KG,<-E];calc B) D⁻¹ ⟨Y,e⟩) m
theorem BR:lW X qD:=by
 ext a b d s A H x y v u Q I f g h k;let⟨z,i,c,rfl,rfl,B,l,q⟩:=h;let⟨t,rfl⟩:=f;let⟨C,rfl⟩:=g;let⟨j,e,m,D,n,o⟩:=v_ l;let p:↑z.cps.toList=↑z:=by simp[Str.length]
 rw[p] at e n o;let E:=o8
 exact tail_any (typeIs_str s z t) slot_str_getitem.lookup (getItem_str (c:=c) (by
  let r:S (i < -(2 ^ 63:Int))=ι:=VD ⋯;let w:S (i ≥ 2 ^ 63)=ι:=VD ⋯
  rw[r,w,Wv]) (by rw[e];simpa using m) ⟨.str ⟨#[c]⟩,H,I.tok _,⟨_,Y⟩,q⟩) k
def Kr(K:KD):R2:=λx y H Q=>qB K x y H Q\/qC K x y H Q\/qD x y H Q
theorem Ks:lW X (Kr X.K):=iw.or (lb.or BR)
theorem Kt(a:-M)(n j:Nat)(u:M):Xv (·.setIfInBounds j u) {cls:=.type "list",data:=.seq a.toArray n}={cls:=.type "list",data:=.seq (a.set j u).toArray n}:=by
 simp[Xv]
theorem Inv.lst{b:a5}{c:St}{H:Hp}{s:L}{p:U}{xs:-V}(I:Inv X b c H s)(h:H p=ζ (.lst xs)):
  ∃(a:-M)(n:Nat),Vals xs a/\s.heap.get? p=ζ {cls:=.type "list",data:=.seq a.toArray n}/\↑xs<=sizeLine:=by
 let⟨z,a,n,r,e⟩:=I.bf p _ h;calc⟨a,n,r,e,z⟩
theorem Inv.nT{a:a5}{g:St}{H:Hp}{s:L}{p:U}{xs ys:-V}{c its':-M}{n d:Nat}{f:Γ->Γ}(I:Inv X a g H s)(h:H p=ζ (.lst xs))
  (j:s.heap.get? p=ζ {cls:=.type "list",data:=.seq c.toArray n}) (i:f {cls:=.type "list",data:=.seq c.toArray n}={cls:=.type "list",data:=.seq its'.toArray d}) (r:Vals ys its') (hz:↑ys<=sizeLine) (t:Nat) :
  Inv X a g (upd H p (.lst ys)) {s with heap:=s.heap.update p f,toks:=t}:=by
 let e:(s.heap.update p f).get? p=ζ {cls:=.type "list",data:=.seq its'.toArray d}:=by
  rw[Xl f j (by rw[i]<;>rfl),i]
 calc I.write (x:=p) (e:=p) (by rw[h];trivial) (.inl Y) (λb u k q=>(XF _ _ (Yz k)).trans q) ⟨_,e⟩ ?_;calc⟨hz,its',d,r,e⟩
def BS:V->V->V->Hp->(Hp->Prop)->Prop:=λo i v H Q=>∃p a k j,o=.ref p/\i=.int k/\H p=ζ (.lst a)/\i_ ↑a k=ζ j/\Q (upd H p (.lst (a.set j v)))
theorem set_list:qh X BS:=by
 ext a s y H o i v F G u Q I z A B h;let⟨p,C,k,j,rfl,rfl,g,D,q⟩:=h;cases z
 let⟨t,rfl⟩:=A;let⟨b,n,r,d,E⟩:=I.lst g;let⟨c,J,l,m⟩:=BQ D;let e:=↑r;let K:=o8
 let w:Inv X a y (upd H p (.lst (C.set j v))) {s with heap:=s.heap.update p (Xv (·.setIfInBounds j u))} :=
  I.nT g d (Kt b n j u) (r.set B j) (by rw[XW];calc E) s.toks
 by_cases x:0<=k
 .let f:k.toNat=j:=by
   rw[q3l x m] at c;exact WD c
  exact PySem.W.ki_setAt d x ⋯ (by rw[KG,<-e];calc m) (by rw[f];calc⟨_,w,q⟩)
 .let f:(k+(b.toArray.size:Int)).toNat=j:=by
   rw[q2P ⋯ l] at c;rw[KG,<-e];exact WD c
  calc PySem.W.ki_setBack d ⋯ (by rw[KG,<-e];calc l) ⋯ (by rw[f];calc⟨_,w,q⟩)
theorem Ku(a b:Option Int)(n:Nat):(sliceBounds a b η n).1=((HT.bM n 0 a:Nat):Int)/\(sliceBounds a b η n).2.1=((HT.bM n n b:Nat):Int)/\(sliceBounds a b η n).2.2=1:=by
 refine⟨?_,?_,Y⟩
 .cases a with
  |none=>simp[sliceBounds,HT.bM]
  |some i =>
   erw[sliceBounds,HT.bM,q1a,show(1:Int)>0 by decide,Xk]
   by_cases h:i<0
   .erw[h,Xk]<;>symm
   .erw[h,W8]<;>symm
 .cases b with
  |none=>simp[sliceBounds,HT.bM]
  |some i =>
   erw[sliceBounds,HT.bM,q1a,show(1:Int)>0 by decide,Xk]
   by_cases h:i<0
   .erw[h,Xk]<;>symm
   .erw[h,W8]<;>symm
theorem Kv(a:-M)(b c:Option Int):slicePick a.toArray b c η=((a.drop (HT.bM ↑a 0 b)).take (HT.bM ↑a ↑a c-HT.bM ↑a 0 b)).toArray:=by
 let⟨d,e,f⟩:=Ku b c a.toArray.size;unfold slicePick;rw[d,e,f];erw[sliceRange_one,pick_run,KG]<;>rfl
def wd(K:KD):V->Option Int->Option Int->Hp->VK->Prop:=λx c d H Q=>∃a b,x=.ref a/\bS K H a b/\∀p,H p=η->Q (.ref p) (upd H p (.lst (eF b c d)))
theorem iy:m_ X (wd X.K):=by
 ext g s u H x v w y e f z Q I j k l m h;let⟨a,c,rfl,n,q⟩:=h;cases j
 let⟨p,r,i,t⟩:=I.list n;let d:=↑r;calc⟨"list",_,q2Q.lookup,i.isList.typeIs,?_⟩;calc wpAny_getItem_list_slice i.isList k l m .none (by simp) ?_ (by rw[KG]<;>symm);rw[Kv,<-d];calc⟨.ref ⇑s,_,I.laid (t':=s.toks) (o:=.lst (eF c e f)) (λb A q=>B5 _ q) (B6 _) ?_,Y,q _ (I.bf.fresh (B6 _))⟩;calc⟨Wr (BP c e f) t,_,0,(r.drop (HT.bM ↑c 0 e)).take (HT.bM ↑c ↑c f-HT.bM ↑c 0 e),UD _ Y⟩
theorem BU:g6 X (.builtin "len") (λxs H Q=>∃p ys,xs=[.ref p]/\(bS X.K H p ys\/cF X.K H p ys)/\Q (.int ↑ys) H):=by
 ext g s l H k m Q I r h;let⟨p,f,rfl,b,q⟩:=h;let⟨u,rfl,i⟩:=vals1 r;cases i
 let n:=o8;rcases b with b|b
 .let⟨c,d,e,j⟩:=I.list b
  let a:=↑d;exact Calls.call_len_list e.isList (by erw[KG]<;>symm) ⟨.int ↑f,H,I.tok _,⟨s.toks+1,by rw[KG,a]⟩,q⟩
 .let⟨c,d,e,j⟩:=I.tuple b
  let a:=↑d;calc len_tuple e (by erw[KG]<;>symm) ⟨.int ↑f,H,I.tok _,⟨s.toks+1,by rw[KG,a]⟩,q⟩
theorem Kw:g6 X (.builtin "len") (λxs H Q=>∃z,xs=[.str z]/\↑z<=sizeLine/\Q (.int ↑z) H):=by
 ext a s c H b d Q I r h;let⟨z,rfl,e,q⟩:=h;let⟨u,rfl,t,rfl⟩:=vals1 r;let f:=o8;calc len_str ⋯ ⟨.int ↑z,H,I.tok _,⟨_,Y⟩,q⟩
theorem qE:g6 X (.type "list") (λxs H Q=>∃p ys,xs=[.ref p]/\(bS X.K H p ys\/cF X.K H p ys)/\∀l,H l=η->Q (.ref l) (upd H l (.lst ys))):=by
 ext g s C H E F Q I r h;let⟨p,v,rfl,i,q⟩:=h;let⟨u,rfl,D⟩:=vals1 r;cases D
 let m:∀(a:-M),Vals v a->v.length<=sizeLine->∀(c:Α)(d:Nat),(∀b B,s.heap.get? b=ζ B->c.get? b=ζ B) →
   c.get? ⇑s=ζ {cls:=.type "list",dict:=none,data:=.seq a.toArray d,slots := #[]}->EP X g C Q (.ref ⇑s) {s with heap:=c}:=λa f j c d k e =>
  ⟨.ref ⇑s,_,I.laid (t':=s.toks) k (B6 _) (show bp X.prog X.w _ c _ (.lst v) from⟨j,a,d,f,e⟩),Y,q _ (I.bf.fresh (B6 _))⟩
 rcases i with i|i
 .let⟨a,f,x,j⟩:=I.list i
  let t:=↑f;let⟨o,y,z,n,A⟩:=x.isList;exact q4h p (.inl Y) y z A (λc d k e=>m a f j c d k e) (by erw[KG]<;>symm)
 .let⟨a,f,x,j⟩:=I.tuple i
  let t:=↑f;let⟨o,y,z,n,A⟩:=x;calc q4h p (.inr Y) y z A (λc d k e=>m a f j c d k e) (by erw[KG]<;>symm)
theorem BV:g6 X (.type "tuple") (λxs H Q=>∃p ys,xs=[.ref p]/\((bS X.K H p ys/\∀l,H l=η->Q (.ref l) (upd H l (.tup ys)))\/(cF X.K H p ys/\Q (.ref p) H))):=by
 ext a s k H z A Q I r h;let⟨p,j,rfl,h⟩:=h;let⟨u,rfl,v⟩:=vals1 r;cases v
 rcases h with⟨f,q⟩|⟨f,q⟩
 .let⟨c,g,i,m⟩:=I.list f
  let n:=↑g;calc call_tuple_list i.isList (λd x=>?_) (by erw[KG]<;>symm);let t:Inv X a k H {s with heap:=d}:=I.kept (t':=s.toks) x
  let y:Inv X a k (upd H d.objs.size (.tup j)) {s with heap:=d.push {cls:=.type "tuple",data:=.seq c.toArray}} :=
   t.laid (t':=s.toks) (λb o e=>B5 _ e) (B6 _) (show bp X.prog X.w _ _ _ (.tup j) from⟨m,c,g,IsTup.new _ _⟩)
  exact⟨.ref d.objs.size,_,y,Y,q _ (t.bf.fresh (B6 _))⟩
 .let⟨c,g,i,m⟩:=I.tuple f
  calc call_tuple_same i ⟨.ref p,H,I,Y,q⟩
def we(K:KD)(T:String)(x:V)(H:Hp):Prop:=match x with
 |.str _=>T="str"
 |.int _=>T="int"
 |.ref p=>(T="list" /\ ∃b,bS K H p b)\/(T="tuple" /\ ∃o,K.lookup p=ζ o/\o.cls=.type "tuple" /\ o.dict=η) ∨
   (T="dict" /\ ((∃a,H p=ζ (.dK a))\/∃a,H p=ζ (.dT a)))\/(T="set" /\ ∃S n,H p=ζ (.set S n))
 |_=>False
theorem BW{f:a5}{q:St}{H:Hp}{s:L}{T:String}{x:V}{v:M}(I:Inv X f q H s)(r:RelV x v)(g:we X.K T x H):
  s.TypeIs v T/\∀a,v=.ref a->∃l,s.heap.get? a=ζ l/\l.dict=η:=by
 cases x with
 |str z =>
  let⟨t,rfl⟩:=r;cases(show T="str" from g)
  exact⟨typeIs_str s z t,λ_ e=>nomatch e⟩
 |int i =>
  let⟨t,rfl⟩:=r;cases(show T="int" from g)
  exact⟨q3Q s i t,λ_ e=>nomatch e⟩
 |ref p =>
  cases r
  rcases g with⟨rfl,A,u⟩|⟨rfl,o,b,w,h⟩|⟨rfl,b⟩|⟨rfl,S,n,b⟩
  .let⟨y,_,m,_⟩:=I.list u
   calc⟨m.isList.typeIs,λa e=>?_⟩;cases e
   let⟨o,n,e,c,h,_⟩:=m;exact⟨o,e,h⟩
  .refine⟨⟨o,I.gB p o b,w⟩,λa e=>?_⟩
   cases e
   exact⟨o,I.gB _ o b,h⟩
  .let z:∃o,s.heap.get? p=ζ o/\o.ExactDict:=by
    rcases b with⟨j,b⟩|⟨j,b⟩
    .let⟨_,_,_,_,o,_,_,e,d,_⟩:=I.bf p _ b
     exact⟨o,e,d⟩
    .let⟨_,_,_,_,o,_,_,e,d,_⟩:=I.bf p _ b
     exact⟨o,e,d⟩
   let⟨o,e,d⟩:=z;calc⟨⟨o,e,d.1⟩,λa k=>?_⟩;cases k
   exact⟨o,e,d.2.1⟩
  .let⟨o,_,_,_,e,d,_⟩:=I.bf p _ b
   calc⟨⟨o,e,d.1⟩,λa k=>?_⟩;cases k
   exact⟨o,e,d.2.1⟩
 |_=>calc XN g
def qF(K:KD)(T:String)(r:V->-V->Hp->VK->Prop)(b:TE):TE:=λc H Q=>b c H λx a=>we K T x a/\r x [] a Q
def o_(K:KD)(T:String)(r:V->-V->Hp->VK->Prop)(c:TE)(t:TA):TE:=λa H Q=>c a H λx b=>we K T x b/\t a b λd e=>r x d e Q
variable{o e:J}{es:-J}{to:TE}{t:TA}{name:R}{apos eG:I}{T id:String}{r:V->-V->Hp->VK->Prop}
theorem Ky(i:PlainAttrs T)(slot:Slot T name id)(d:typeOf (.builtin id)=pure (.type "method_descriptor"))(j:wb X id r)(k:JE X o to)
  (b:attributeBase o name X.env (eval o X.env)=eval o X.env:=by rfl) (c:(apos.endLine==eG.line)=θ:=by rfl):JE X (.Call (.Attribute o name apos) [] [] eG) (qF X.K T r to):=by
 calc⟨?_⟩;ext a s e H Q I h;calc wpAny_Call_method0_late b c (bE (k a s e H _ I h) λv l ⟨x,m,f,g,n,p⟩=>?_);let⟨q,t⟩:=BW f g n;calc⟨T,id,i,slot,d,q,t,ZU Y (PySem.evalArgs_none (j a l e m x [] v [] Q f g .nil p))⟩
theorem kU(l:PlainAttrs T)(slot:Slot T name id)(f:typeOf (.builtin id)=pure (.type "method_descriptor"))(m:wb X id r)(n:JE X o to)(p:JA X (e::es) t)
  (b:attributeBase o name X.env (eval o X.env)=eval o X.env:=by rfl)
  (d:((backTo eG (starEach (e::es) X.env)).all (λx => !x.1)&&(backToKw eG (keywordEach [] X.env)).all (λx=>x.1.isSome)
   && S (↑(e::es)+↑([]:-Keyword)+(if([]:-Keyword).isEmpty then 0 else 1)<30))=θ:=by rfl)
  (c:(apos.endLine==eG.line)=θ:=by rfl) (hs:dE X e es:=by rfl) (hplain:dQ X eG es:=by rfl) :
  JE X (.Call (.Attribute o name apos) (e::es) [] eG) (o_ X.K T r to t):=by
 calc⟨?_⟩;ext a s g H Q I h;calc wpAny_Call_method_late b d c Y (bE (n a s g H _ I h) λv q ⟨x,u,i,j,w,y⟩=>?_);let⟨z,A⟩:=BW i j w;calc⟨T,id,l,slot,f,z,A,?_⟩;let k:=p eG a q g u _ i y;rw[hs] at k ⊢;calc ZU (by show(ι||(backTo eG (starEach es X.env)).any (·.1))=ι;rw[hplain]<;>rfl) (q12 ?_);calc bE k λB C ⟨D,E,F,G,J⟩↦m a C g E x D v B Q F j G J
end
def qH(X:Cx)(e:String)(r:V->-V->Hp->VK->Prop):Prop :=
 ∀(a:a5)(s:L)(b:St)(H:Hp)(x:V)(c:-V)(v:M)(d:-M)(Q:VK),Inv X a b H s->RelV x v->Vals c d->r x c H Q →
  G (B X.prog X.w) X.A (call (.builtin e) (v::d)) (EP X a b Q) X.xe s
theorem Vals.one:∀{x:V}{us:-M},Vals [x] us->∃u,us=[u]/\RelV x u:=by
 ext x a h
 cases h with
 |cons r h=>cases h;calc⟨_,Y,r⟩
theorem Vals.two:∀{x y:V}{us:-M},Vals [x,y] us->∃u v,us=[u,v]/\RelV x u/\RelV y v:=by
 ext x y a h
 cases h with
 |cons r h =>
  let⟨v,rfl,q⟩:=Vals.one h;calc⟨_,_,Y,r,q⟩
theorem Vals.eraseIdx:∀{xs:-V}{us:-M}(i:Nat),Vals xs us->Vals (xs.eraseIdx i) (us.eraseIdx i)
 |_,_,_,.nil=>.nil
 |_,_,0,.cons _ t=>t
 |_,_,i+1,.cons r t=>.cons r (Vals.eraseIdx i t)
theorem Vals.rep{xs:-V}{us:-M}(h:Vals xs us):∀k:Nat,Vals (VG k xs).flatten (VG k us).flatten
 |0=>.nil
 |k+1=>by
  rw[VN,VN,Yw,Yw];calc Vals.append h (Vals.rep h k)
theorem BX{a:Type}:∀(l:-a)(i:Nat),↑(l.eraseIdx i)<=↑l
 |[],_=>B6 _
 |_::_,0=>q0c _
 |_::r,i+1=>Z6 (BX r i)
theorem foldl_rep(a:-M):∀(k:Nat)(b:-M),
  q3R (λc d=>c++d) b.toArray (VG k a.toArray)=(b++(VG k a).flatten).toArray
 |0,b=>by simp
 |k+1,b=>by
  let e:b.toArray++a.toArray=(b++a).toArray:=by simp
  let f:(b++a)++(VG k a).flatten=b++(VG (k+1) a).flatten:=by
   rw[VN,Yw,X1]
  rw[<-f,<-foldl_rep a k (b++a),<-e,VN,mq]
section
variable{X:Cx}{pins:a5}{σ:St}{H:Hp}{s:L}{l b:U}{xs ys zs:-V}
theorem Inv.nU{a its':-M}{n:Nat}{f:Array M->Array M}{t':Nat}(I:Inv X pins σ H s)(b:H l=ζ (.lst xs))
  (e:s.heap.get? l=ζ {cls:=.type "list",data:=.seq a.toArray n}) (c:f a.toArray=its'.toArray) (d:Vals ys its') (hz:↑ys<=sizeLine) :
  Inv X pins σ (upd H l (.lst ys)) {s with heap:=s.heap.update l (Xv f),toks:=t'}:=by
 let q:=PySem.IsL.update e f;rw[c] at q;calc I.write (x:=l) (e:=l) (by rw[b];calc trivial) (.inl Y) (λi u g h=>(XF s.heap (Xv f) (Yz g)).trans h) ⟨_,q⟩ ?_;calc⟨hz,its',_,d,q⟩
theorem Inv.df{a:-M}{t':Nat}(I:Inv X pins σ H s)(b:Vals ys a)(hz:↑ys<=sizeLine):
  Inv X pins σ (upd H ⇑s (.lst ys)) {s with heap:=s.heap.push {cls:=.type "list",data:=.seq a.toArray},toks:=t'} :=
 I.laid (λ_ _ q=>B5 _ q) (B6 _) ⟨hz,a,0,b,UD _ Y⟩
theorem Inv.fresh(I:Inv X pins σ H s):H ⇑s=η:=I.bf.fresh (B6 _)
theorem Inv.jI(I:Inv X pins σ H s)(b:H l=ζ (.lst xs)):↑xs<=sizeLine/\∃(a:-M)(n:Nat),Vals xs a/\↑xs=↑a/\s.heap.get? l=ζ {cls:=.type "list",data:=.seq a.toArray n}:=by
 let⟨z,a,n,r,e⟩:=I.bf l _ b;calc⟨z,a,n,r,↑r,e⟩
theorem BY{n:Nat}(h:n<=sizeLine):YY n=ι:=by
 unfold YY;calc VD ⋯
end
section
variable{X:Cx}
def wj:V->-V->Hp->VK->Prop:=λx b H Q=>∃l a y,x=.ref l/\b=[y]/\H l=ζ (.lst a)/\↑a<sizeLine/\Q .non (upd H l (.lst (a++[y])))
theorem mm:qH X "list.append" wj:=by
 ext b s i H x j v k Q I d f h;let⟨l,m,y,rfl,rfl,c,o,q⟩:=h;cases d
 let⟨u,rfl,g⟩:=f.one;let⟨z,a,n,r,p,e⟩:=I.jI c;calc q1x F.slot_list_append ⟨_,e,Y⟩ F.entry_list_append (F.args_list_append_2 _ _) (PySem.list_append l a.toArray n u (by rw[KG];symm)) ⟨e,?_⟩;calc⟨.non,_,I.nU (its':=a++[u]) c e (by simp) (r.append (.cons g .nil)) ?_,Y,q⟩;rw[qG,WJ];symm
def BZ:V->-V->Hp->VK->Prop:=λx d H Q=>∃l b a c,x=.ref l/\d=[.ref b]/\H l=ζ (.lst a)/\H b=ζ (.lst c)/\↑a+↑c<=sizeLine/\Q .non (upd H l (.lst (a++c)))
theorem B1:qH X "list.extend" BZ:=by
 ext g s A H x B v C Q I j k h;let⟨l,b,D,E,rfl,rfl,i,m,G,q⟩:=h;cases j
 let⟨u,rfl,o⟩:=k.one;cases o
 let⟨z,c,n,r,J,e⟩:=I.jI i;let⟨K,a,p,t,w,y⟩:=I.jI m;let f:c.toArray.size+a.toArray.size<=sizeLine:=by rw[KG,KG];symm
 let d:¬ (!c.toArray.isEmpty&&YY (c.toArray.size+a.toArray.size))=θ:=by
  rw[BY f,q3S];exact Wo
 refine q1x F.slot_list_extend ⟨_,e,Y⟩ F.entry_list_extend (F.args_list_extend_2 _ _)
  (AutoSeq1.list_extend_list_list_0 l c.toArray n b a.toArray p d (by rw[KG];symm) ⋯) ⟨e,y,?_⟩
 calc⟨.non,_,I.nU (its':=c++a) i e (by simp) (r.append t) ?_,Y,q⟩;rw[qG];symm
def B2:V->-V->Hp->VK->Prop:=λx b H Q=>∃l a i k y,x=.ref l/\b=[.int i]/\H l=ζ (.lst a) /\ -(2 ^ 63)<=i/\i<2 ^ 63/\seqIndex? i ↑a=ζ k/\a[k]?=ζ y/\Q y (upd H l (.lst (a.eraseIdx k)))
theorem Kz:qH X "list.pop" B2:=by
 ext c s E H x G v J Q I f g h;let⟨l,j,i,k,y,rfl,rfl,d,m,o,p,A,q⟩:=h;cases f
 let⟨u,rfl,B⟩:=g.one;let⟨t,rfl⟩:=B;let⟨z,a,n,r,C,e⟩:=I.jI d;let⟨w,D,b⟩:=r.get A
 refine q1x F.slot_list_pop ⟨_,e,Y⟩ F.entry_list_pop (F.args_list_pop_2 _ _)
  (MeetsSeq.list_pop_at l a.toArray n i t k w (q3T m o) (by rw[KG,<-C];calc p) (by rw[<-Wt];calc D) (by rw[KG];symm)) ⟨e,?_⟩
 refine⟨y,_,I.nU (its':=a.eraseIdx k) d e ?_ (r.eraseIdx k) ?_,b,q⟩
 .show a.toArray.eraseIdxIfInBounds k=(a.eraseIdx k).toArray
  rw[List.eraseIdxIfInBounds_toArray]
 .let:=BX j k
  symm
def wk:R2:=λx y H Q=>∃l b a c,x=.ref l/\y=.ref b/\H l=ζ (.lst a)/\H b=ζ (.lst c)/\↑a+↑c<=sizeLine/\∀p,H p=η->Q (.ref p) (upd H p (.lst (a++c)))
theorem B3:fA X (binaryOp .Add) wk:=by
 ext d s t H x y v u Q I f g h;let⟨l,b,w,A,rfl,rfl,i,j,B,q⟩:=h;cases f
 cases g
 let⟨z,c,n,r,C,e⟩:=I.jI i;let⟨D,a,E,k,m,o⟩:=I.jI j;calc PySem.P.add_list e o ?_ (by rw[KG,KG];symm);let p:c.toArray++a.toArray=(c++a).toArray:=by simp
 rw[p];calc⟨.ref _,_,I.df (t':=s.toks) (r.append k) (by rw[qG];symm),Y,q _ I.fresh⟩
def wm:R2:=λx y H Q=>∃l k a,x=.ref l/\y=.int k/\H l=ζ (.lst a) /\ -(2 ^ 63)<=k/\k<2 ^ 63/\↑a*k.toNat<=sizeLine ∧
 ∀p,H p=η->Q (.ref p) (upd H p (.lst (VG k.toNat a).flatten))
theorem len_rep{a:Type}(xs:-a)(k:Nat):(VG k xs).flatten.length=k*↑xs:=by
 induction k with
 |zero=>simp
 |succ k b=>rw[VN,Yw,qG,b,q4O,Nat.add_comm]
theorem KC:fA X (binaryOp .Mult) wm:=by
 ext p s L H x y v u Q I A B h;let⟨l,k,M,rfl,rfl,C,D,E,w,q⟩:=h;cases A
 let⟨t,rfl⟩:=B;let⟨z,b,n,r,G,e⟩:=I.jI C;let d:b.toArray.size*k.toNat<=sizeLine:=by rw[KG,<-G];exact w
 let f:¬ b.toArray.size*k.toNat>(2 ^ 63-1) / 8:=by
  let:(sizeLine:Nat)<=(2 ^ 63-1) / 8:=by decide
  symm
 let g:¬ (!Builtin.List.listFitsIndex k)=θ:=by
  rw[q3T D E];exact Wo
 let c:¬ YY (b.toArray.size*k.toNat)=θ:=by
  rw[BY d];exact Wo
 let i:q3R (λj o=>j++o) #[] (VG (if b.toArray.isEmpty=θ then 0 else k.toNat) b.toArray)=(VG k.toNat b).flatten.toArray:=by
  let J:∀m:Nat,q3R (λj o=>j++o) #[] (VG m b.toArray)=(VG m b).flatten.toArray:=λm=>by
   let:=foldl_rep b m [];rw[Wd] at this;exact this
  rw[J]
  cases b with
  |nil=>simp
  |cons a N=>rw[VC (by simp)]
 refine wpAny_binaryOp_repeat_ref (T:="list") (U:="int") (by decide) ⟨_,e,Y⟩ (λK=>q3Q K k t) noFill_list_mul F.fills_int_mul q3v repeat_list F.slot_int_index.lookup
  (q1x q3v (q3Q s k t) F.entry_int_rmul (F.args_int_rmul_2 _ _) (int___rmul___int_list k t l b.toArray n)
   ⟨e,Y,⟨_,e,Y⟩,q1x F.slot_list_mul ⟨_,e,Y⟩ F.entry_list_mul (F.args_list_mul_2 _ _) (AutoListH.list___mul___list_int_3 l b.toArray n k t g f c) ⟨e,?_⟩⟩)
 rw[i];calc⟨.ref _,_,I.df (t':=s.toks) (r.rep k.toNat) (by rw[len_rep,q4G];calc w),Y,q _ I.fresh⟩
end
section
variable{prog:X}{w:l}{A:t}{E:br}{s:L}
end
section
variable{X:Cx}
end
end L2
namespace Att
open PySem PySem.W PySem.Calls PyProof.Rows
theorem gK{P:Params}{h:Q}:∀(ns:-Int)(vs:-M),WellAll P h vs (ns.map WData.int)->IntsAre vs ns:=by
 ext c
 induction c with
 |nil =>
  ext d w;rw[V9] at w;cases w
  exact .nil
 |cons n c e =>
  ext d w;rw[UB] at w
  cases w with
  |cons a b =>
   cases a
   calc .cons _ _ (e _ b)
theorem kq{l:OpenLaw}{n:Nat}(hn:l.most=ζ n){P:Params}{h:Q}{args:-WData}{b:-M}
  (c:l.row.toRowW.claim.pre args=θ) (j:WellAll P h b args) :
  ∃a vs ns,b=[WQ a]/\args=[WData.list (ns.map WData.int)]/\h.get? a=ζ {cls:=.type "list",data:=.seq vs.toArray}/\IntsAre vs ns/\↑ns<=n:=by
 let k:WShape.hasAll [] args [.list .int]=θ:=(pre_splitW c).1;let m:l.pre.holds [] {args:=args}=θ:=(pre_splitW c).2;let⟨d,r,rfl,o,p⟩:=hasAllW_cons k;obtain rfl:=hasAllW_nil p;let⟨x,rfl,s⟩:=hasW_list o;let⟨e,rfl⟩:=items_int s
 let f:↑e<=n:=by
  unfold OpenLaw.pre at m
  let i:(WTm.not (.lt (.lit (.int (n:Int))) (.len (.arg 0)))).holds [] {args:=[.list (e.map .int)]}=θ:=by
   let i:=(holds_andW m).1;rw[hn] at i;exact i
  let h5:=condW_of i (w_not (w_lt w_lit (w_len_list (w_arg Y))));rw[nW] at h5;calc Z4 λq=>?_;let t:(n:Int)<((↑e:Nat):Int):=by symm
  first
   |(rw[VH t] at h5;calc absurd h5 (by decide))
   |(simp at h5;symm)
 cases j with
 |cons u v =>
  cases v
  cases u with
  |list w g=>calc⟨_,_,e,Y,Y,w,gK e _ g,f⟩
theorem kr(l:OpenLaw)(args:-WData):l.row.toRowW.claim.post args (.bool θ) args=θ :=
 postW_of (r:=l.row.toRowW) (X:=(θ==θ))
  (show WShape.has [] (.bool θ) .bool=θ by first|rfl|decide|simp[WShape.has,WShape.arms,WShape.armsAll])
  (show(WTm.eq .res (.lit (.bool θ))).value [] {args:=args,res:=ζ (.bool θ),after:=args}=ζ (.bool (θ==θ)) from w_eq_bool (w_res Y) w_lit) Y
theorem ja{l:OpenLaw}{n:Nat}{q:ψ}{c:-π}{B:(π->Option ν)->Α->Prop}{C:ω->Α->Prop}{d:DefRec}
  (hn:l.most=ζ n) (u:d.params.defaults=[])
  (j:∀(w:ω)(e b:ο)(s v:π->Option ν)(i:ξ)(o:Γ)(x t g:ν)(a:ξ)(vs:-ν)(ns:-Int),
   Ground q c [] B w e s v b.heap->C w b.heap →
   b.heap.get? i=ζ o->o.data=.func (docDef d.name d.params d.body d.scope x t g)->b.heap.CodeRec t d.name->s d.name=ζ (.ref i) →
   b.heap.get? a=ζ {cls:=.type "list",data:=.seq vs.toArray}->IntsAre vs ns->↑ns<=n->b.gens = #[] →
   codeAny (ς l.prog w) callerA (.call (.ref i) ⟨[.ref a],[]⟩) (λr s'=>r=.ok (.ret (.bool θ))/\OldK b.heap s'.heap/\s'.os=b.os/\AllBare s'.gens) b) :
  WalkO q c B C l.row.toRowW d [] (λf vs=>q3V f vs):=by
 ext w e b s v G Y i o x t g K L M N y D z O E F X k H P A Q;obtain rfl:K=.none:=Dflts.none D u;obtain rfl:L=.none:=Dflts.noKw D;let⟨a,I,J,rfl,rfl,m,h,p⟩:=kq hn k A;calc enter_call (YF (j w e b s v i o x t g a I J G Y M (fd_plain N) y z m h p O) λr W R=>?_);let⟨rfl,S,T,U⟩:=R;calc⟨.inl ⟨.bool θ,.bool θ,[],rfl,λ_=>rfl,.bool θ,kr l _,λ_=>⟨q2C,λ_ V=>(nomatch V)⟩⟩,S,T,U⟩
section
variable{prog:X}{w:l}{A:t}{E:br}{s:L}{K:Frag}
end
end Att
namespace L2
open PySem PySem.Spec PyProof.Rows
theorem B4:∀{vs:-M}{ns:-Int},IntsAre vs ns->Vals (ns.map V.int) vs
 |_,_,.nil=>.nil
 |_,_,.cons n t h=>.cons ⟨t,Y⟩ (B4 h)
noncomputable def inClass(s:y)(j:Nat):y:=match s with
 |.ClassDef _ _ _ a _ _ _ _ _ _ _=>a.getD j (.Pass ⟨0,0,0,0⟩)
 |_=>.Pass ⟨0,0,0,0⟩
noncomputable def jw(s:y):Arguments:=match s with
 |.FunctionDef _ a _ _ _ _ _ _ _ _=>a
 |_=>{posonlyargs:=[],args:=[],vararg:=none,kwonlyargs:=[],kw_defaults:=[],kwarg:=none,defaults:=[]}
noncomputable def gZ(s:y):-y:=match s with
 |.FunctionDef _ _ b _ _ _ _ _ _ _=>b
 |_=>[]
noncomputable def dq(s:y):o:=match s with
 |.FunctionDef _ _ _ _ _ _ a _ _ _=>a
 |_=>{kind:=.function,names:=[],isGenerator:=false,isCoroutine:=false}
abbrev fZ:kS:=λ_ _ _ _ _ _=>False
abbrev E0:XK:=λ_ _ _=>False
theorem mr{X:Cx}:m9 fZ X E0:=λ_ _ _ _ _ _ _ h=>h.elim
structure hG(K:KD)(x qual:R)(st:y)(f:U)(fd:FuncData):Prop where
 ex:∃(oc:M)(od:Option U)(kV doc pm:M)(an:Option U)(nh ct:M)(KN:Array (Option M)),
  fd=Xt x qual (jw st) (gZ st) (dq st) .none kV doc pm an nh ct/\K.lookup f=ζ ⟨oc,od,.func fd,KN⟩/\Zh K nh qual=θ
 kp:XA K (.ref f)=θ
section
variable{P:X}{w:l}{K:KD}{mg:R->Option M}{base:Q}
theorem hG.qJ{x a:R}{st:χ}{f:U}{l:FuncData}{N e:-R}{k:Nat}{sp:Sp}(F:hG K x a st f l)(S:lU N e (dq st))(g:∀vs H Q E,sp vs H Q E->↑vs=↑e)
  (d:∀(b:M)(A:Β)(outer:-Ζ)(s:L)(H:Hp)(vs:-V)(Q:VK)(E:XK),bw k (A.deeper (envOfC a (dq st) ⇑s f b))->sp vs H Q E →
   ∃t,ee (gh fZ P w K mg base N a (dq st) f b A outer s H E).kQ (gZ st) t/\t {nx:=λ_ H'=>Q .non H',rt:=Q} (start N vs) H):cG P w K mg base fZ (k+1) f l e sp:=by
 let⟨u,v,y,n,z,B,b,C,o,rfl,p,i⟩:=F.ex;calc BG p i S g λA c s H m Q E r j=>?_;let⟨t,h,q⟩:=d b A c s H m Q E r j;calc⟨t,h.kQ,q⟩
theorem hG.binds{x a:R}{st:y}{f:U}{j:FuncData}{d:-R}(F:hG K x a st f j)
  (h:∀(e b g:M)(i:Option U)(c ct:M)(us:-M),↑us=↑d->bindArgs (Xt x a (jw st) (gZ st) (dq st) .none e b g i c ct) ⟨us,[]⟩=pure (d.zip us)):Binds K j d []:=by
 let⟨n,o,e,b,g,i,c,k,l,rfl,p,m⟩:=F.ex;calc .all (h e b g i c k)
theorem tF{x a:R}{st:y}{f:U}{oc:M}{od g:Option U}{e:Array (Option M)}{h d i b ct:M}(l:K.lookup f=ζ ⟨oc,od,.func (Xt x a (jw st) (gZ st) (dq st) .none h d i g b ct),e⟩)
  (c:Zh K b a=θ) (k:XA K (.ref f)=θ):hG K x a st f (Xt x a (jw st) (gZ st) (dq st) .none h d i g b ct):=⟨⟨oc,od,h,d,i,g,b,ct,e,Y,l,c⟩,k⟩
end
theorem kW{n:Nat}(h:n<=1000):n<sizeLine:=Zz h (by decide)
section
variable{X:Cx}
theorem jv(i:Nat){x:R}{pos:I}(b:X.N[i]?=ζ x:=by rfl)(c:qc X.env.scope x:=by first|exact q0q Y|exact q1R (q0q Y)|calc q1R (q1R Y))(hd:cy x:=by decide)
  (a:(x==("__classdict__" : R))=ι:=by decide):JE X (.Name x pos) (iZ i):=Bl b c hd a
end
def a_(H H':Hp):Prop:=∀b o,H b=ζ o->H' b=ζ o
theorem a_.trans{H d H2:Hp}(a:a_ H d)(b:a_ d H2):a_ H H2:=λc o h=>b c o (a c o h)
theorem a_.free{H H':Hp}(e:a_ H H'){l:U}(h:H' l=q5R):H l=q5R:=by
 cases q:H l with
 |none=>rfl
 |some o =>
  rw[e l o q] at h;cases h
theorem a_.seq{K:KD}{H H':Hp}{a:U}{xs:-V}(e:a_ H H')(h:bS K H a xs):bS K H' a xs:=by
 rcases h with(h|⟨o,h⟩)|h
 .exact .inl (.inl (e _ _ h))
 .exact .inl (.inr ⟨o,e _ _ h⟩)
 .calc .inr h
theorem KO{prog:X}{w:ω}{A:Β}{R:Result->L->Prop}{s:L}{o a g:J}{p:-J}{scope:Δ}{pos:Ε}{D q:M}{env:Ζ}(I:Nat->L->Prop)
  (y:∀n s,I n s->G (ς prog w) A (pyNext D) (λr e=>match r with
   |none=>R (.ok .next) e
   |some v=>G (ς prog w) A (letOwnedTupleGo a D v) (λ_ i=>G (ς prog w) A (assign a env v) (λ_ j =>
     G (ς prog w) A (forIn p θ λc r=>if r=θ then do let t <- isTrue c env (eval c env);pure (Yd t) else pure (Yd r)) (λt b =>
      if t=θ then G (ς prog w) A (eval o env) (λx k =>
       G (ς prog w) A (call (.builtin "list.append") [q,x]) (λ_ u=>∃m,m<n/\I m u) (λ_ _=>False) k) (λ_ _=>False) b
      else ∃m,m<n/\I m b) (λ_ _=>False) j) (λ_ _=>False) i) (λ_ _=>False) e) (λ_ _=>False) s)
  (n:Nat) (h:I n s) :
  codeAny (ς prog w) A (.compLoop (.ListComp o [⟨a,g,p,0⟩] scope pos) 0 D q env) R s:=by
 calc codeAny_loop Y I (λn s E=>?_) n h;show G _ A ((compTurn (.ListComp o [⟨a,g,p,0⟩] scope pos) 0 D q env).onRaise (λx=>do noteFrame x env;theTreesLotGoes x)) _ _ s;calc wpAny_noted ?_;rw[compTurn_list];refine nX (Zs (nX (X0 (y n s E) (λr e l=>?_) λ_ _ f=>XN f)))
 cases r with
 |none=>exact B7 l
 |some v =>
  calc nX (X0 l (λ_ i z=>?_) λ_ _ f=>XN f);refine nX (X0 z (λ_ j B=>nX (X0 B (λt b d=>?_) λ_ _ f=>XN f)) λ_ _ f=>XN f)
  cases t with
  |false=>exact B7 ⟨Y,d⟩
  |true =>
   calc nX (nX (X0 d (λx b d=>nX (X0 d (λ_ k C=>B7 (B7 ⟨Y,C⟩)) λ_ _ f=>XN f)) λ_ _ f=>XN f))
theorem wt{env:Ζ}:∀(names:-(R×NameKind))(b:-(R×U)),(∀y∈names,y.2=.free->∃c,env.cells.lookup y.1=ζ c)->(∀x c,b.lookup x=ζ c->env.cells.lookup x=ζ c) →
  ∃cl,(forIn names b (λ(x:Str×NameKind) (cs:-(Str×Addr))=>if x.2==Yp then cellOf env x.1 >>= λa=>pure (Yd ((x.1,a)::cs)) else pure (Yd cs)):Sem (-(R×U)))=pure cl ∧
   (∀x c,cl.lookup x=ζ c->env.cells.lookup x=ζ c)/\(∀y∈names,y.2=.free->∃c,cl.lookup y.1=ζ c)/\(∀x c,b.lookup x=ζ c->∃c,cl.lookup x=ζ c)
 |[],b,_,i=>⟨b,Y,i,λ_ f=>absurd f (by simp),λx c e=>⟨c,e⟩⟩
 |(n,k)::r,b,m,i=>by
  rw[List.forIn_cons]
  by_cases o:k=.free
  .subst o
   let⟨c,u⟩:=m (n,.free) Uz Y;let g:env.cells.lookup n=ζ c:=u;let v:cellOf env n=pure c:=by unfold cellOf;rw[g]
   let p:∀x d,((n,c)::b).lookup x=ζ d->env.cells.lookup x=ζ d:=λx d e=>by
    rw[Wl] at e
    cases q:x==n with
    |true =>
     rw[q] at e;cases e
     rw[XX q];exact g
    |false =>
     rw[q] at e;exact i x d e
   let⟨l,e,s,t,h⟩:=wt r ((n,c)::b) (λy f=>m y (UA _ f)) p;refine⟨l,?_,s,λy f j=>?_,λx d e=>?_⟩
   .dsimp only
    rw[VE (by decide),v];exact e
   .rcases Uy.mp f with rfl|f
    .exact h n c (by simp)
    .exact t y f j
   .cases q:x==n with
    |true=>exact h x c (by rw[Wl,q])
    |false=>exact h x d (by rw[Wl,q];calc e)
  .let⟨l,e,s,t,h⟩:=wt r b (λy f=>m y (UA _ f)) i
   refine⟨l,?_,s,λy f j=>?_,h⟩
   .dsimp only
    rw[VC o⁻¹];exact e
   .rcases Uy.mp f with rfl|f
    .exact absurd j o
    .calc t y f j
theorem B9{scope:o}{env:u}(h:∀y∈scope.names,y.2=.free->∃c,env.cells.lookup y.1=ζ c):
  ∃cl,closureFor scope env=pure cl/\(∀x c,cl.lookup x=ζ c->env.cells.lookup x=ζ c)/\∀y∈scope.names,y.2=.free->∃c,cl.lookup y.1=ζ c:=by
 let⟨d,e,f,g,_⟩:=wt scope.names [] h (λx c e=>by simp at e);calc⟨d,?_,f,g⟩;let i:closureFor scope env=(forIn scope.names ([]:-(R×U)) (λ(x:Str×NameKind) (b:-(Str×Addr))=>if x.2==Yp then cellOf env x.1 >>= λa=>pure (Yd ((x.1,a)::b)) else pure (Yd b)):Sem (-(R×U))) >>= pure:=Y;rw[i,e];rfl
structure BD where
 cl:-(R×U)
 C:U
 s:L
 H:Hp
 fp:-U
@[reducible] noncomputable def dH (X:Cx) (scope:o) (Nb:-R) (d:BD):Cx where
 prog:=X.prog
 w:=X.w
 K:=X.K
 mg:=X.mg
 base:=X.base
 A:=X.A
 N:=Nb
 s₀:=d.s
 H₀:=d.H
 env:=compEnvC scope d.cl d.C X.env
 outer:=X.stack
 stack:=X.stack
 ex:=d.fp
 fn:=λx=>S (scope.names.lookup x=ζ .cell)
 calm:=X.calm
 pn:=[]
 xe:=λ_ _=>False
noncomputable def jx(cp:-(Option Nat))(a:St):St:=cp.map λo=>match o with
 |some i=>(a[i]?).join
 |none=>η
noncomputable def lh(N:-R)(a scope:o)(Nb:-R)(cp:-(Option Nat)):Bool :=
 (scope.names.all λy=>(S (y.2≠.cell)||S (scope.names.lookup y.1=ζ .cell))&&(S (y.2≠.local)||S (scope.names.lookup y.1=ζ .local))&&(S (y.2≠.free)||S (a.names.lookup y.1=ζ .cell)||S (a.names.lookup y.1=ζ .free))) &&
 S (↑cp=↑Nb)&&(cp.zip Nb).all λz=>match z.1 with
  |none=>θ
  |some i=>S (N[i]?=ζ z.2)&&S (scope.names.lookup z.2=ζ .free)
structure tG(X:Cx)(scope:o)(Nb:-R)(cp:-(Option Nat)):Prop where
 kind:scope.kind=.function
 cell:∀y∈scope.names,y.2=.cell->scope.names.lookup y.1=ζ .cell
 names:∀y∈scope.names,y.2=.local->scope.names.lookup y.1=ζ .local
 free:∀y∈scope.names,y.2=.free->(X.env.kindOf y.1=ζ .cell\/X.env.kindOf y.1=ζ .free)
 len:↑cp=↑Nb
 qK:∀(j i:Nat)(x:R),cp[j]?=ζ (ζ i)->Nb[j]?=ζ x->X.N[i]?=ζ x/\scope.names.lookup x=ζ .free
theorem x5Y{X:Cx}{scope:o}{Nb:-R}{cp:-(Option Nat)}(c:scope.kind=.function)(h:lh X.N X.env.scope scope Nb cp=θ):tG X scope Nb cp:=by
 unfold lh at h;erw[Xo,Yg,q0g,V0] at h;let⟨⟨b,d⟩,f⟩:=h;refine⟨c,λy a e=>(b y a).1.1.resolve_left (λz=>z e),λy a e=>?_,λy a e=>?_,d,λj i x g k=>?_⟩
 .rcases (b y a).1.2 with z|z
  .exact absurd e z
  .exact z
 .rcases (b y a).2 with(z|z)|z
  .exact absurd e z
  .exact .inl z
  .exact .inr z
 .let l:(ζ i,x)∈cp.zip Nb:=by
   let:(cp.zip Nb)[j]?=ζ (ζ i,x):=by
    rw[List.getElem?_zip_eq_some];exact⟨g,k⟩
   exact WU this
  let:=f _ l;simpa using this
theorem wu{env:u}{x:R}:∀{names:-(R×NameKind)}{k:NameKind},names.lookup x=ζ k →
  (names.map λ(n,k)=>if(k==Yp&&env.scope.kind==.function&&env.kindOf n==ζ .cell) then(n,Ya) else(n,k)).lookup x =
   ζ (if(k==Yp&&env.scope.kind==.function&&env.kindOf x==ζ .cell) then Ya else k)
 |[],k,h=>by simp at h
 |(n,k')::r,k,h=>by
  let c:=@wu env x r k;show Y7 x ((if(k'==Yp&&env.scope.kind==.function&&env.kindOf n==ζ .cell)=θ then(n,Ya) else(n,k'))::_)=_
  cases b:x==n with
  |true =>
   erw[Wl,b] at h;cases h
   let e:x=n:=XX b;subst e
   by_cases a:(k'==Yp&&env.scope.kind==.function&&env.kindOf x==ζ .cell)=θ
   .rw[VE a,VE a];simp[Wl]
   .rw[VC a,VC a];simp[Wl]
  |false =>
   erw[Wl,b] at h
   by_cases a:(k'==Yp&&env.scope.kind==.function&&env.kindOf n==ζ .cell)=θ
   .rw[VE a];erw[Wl,b];exact c h
   .rw[VC a];erw[Wl,b];calc c h
theorem B_{env:u}{x:R}:∀{names:-(R×NameKind)},names.lookup x=η →
  (names.map λ(n,k)=>if(k==Yp&&env.scope.kind==.function&&env.kindOf n==ζ .cell) then(n,Ya) else(n,k)).lookup x=η
 |[],h=>by simp
 |(n,b)::r,h=>by
  let c:=@B_ env x r;show Y7 x ((if(b==Yp&&env.scope.kind==.function&&env.kindOf n==ζ .cell)=θ then(n,Ya) else(n,b))::_)=_
  cases a:x==n with
  |true=>erw[Wl,a] at h;cases h
  |false =>
   erw[Wl,a] at h
   by_cases d:(b==Yp&&env.scope.kind==.function&&env.kindOf n==ζ .cell)=θ
   .rw[VE d];erw[Wl,a];exact c h
   .rw[VC d];erw[Wl,a];calc c h
structure JF(X:Cx)(ifs:-J)(t:TT):Prop where
 out:∀(pins:a5)(s:L)(σ:St)(H:Hp)(Q:Bool->Hp->Prop),Inv X pins σ H s->t σ H Q →
  G (B X.prog X.w) X.A (forIn ifs θ λc r=>if r=θ then do let ok <- isTrue c X.env (eval c X.env);pure (Yd ok) else pure (Yd r)) (TP X pins σ Q) X.xe s
instance {X:Cx} {ifs:-J} {t:TT}:CoeFun (JF X ifs t) (λ_=>∀(pins:a5)(s:L)(σ:St)(H:Hp)(Q:Bool->Hp->Prop),Inv X pins σ H s->t σ H Q->G (B X.prog X.w) X.A (forIn ifs θ λc r=>if r=θ then do let ok <- isTrue c X.env (eval c X.env);pure (Yd ok) else pure (Yd r)) (TP X pins σ Q) X.xe s):=⟨JF.out⟩
def wx:TT:=λ_ H Q=>Q θ H
theorem nY{X:Cx}:JF X [] wx:=⟨λ_ _ _ H _ I h=>wpAny_tests_nil ⟨H,I,h⟩⟩
theorem KP{X:Cx}{c:J}{t:TT}(h:JT X c t):JF X [c] t:=⟨λa s b H Q I d=>wpAny_tests_one (h a s b H Q I d)
⟩
def KQ(g:TG)(f:TT)(h:TE)(l:U)(x:V)(i:St)(H:Hp)(N:St->Hp->Prop):Prop :=
 g x i H λa j=>f a j λb d=>if b=θ then h a d λy e=>∃c,e l=ζ (.lst c)/\↑c<sizeLine/\N a (upd e l (.lst (c++[y]))) else N a d
def Ca(J:It)(g:TG)(f:TT)(h:TE)(l:U)(c:St)(j:Hp)(Q:VK):Prop :=
 ∃W:Nat->Nat->St->Hp->Prop,(∃m,W 0 m c j)/\∀i m d H,W i m d H →
  (J.stop i H/\Q (.ref l) H)\/(J.go i H/\∃N:St->Hp->Prop,(∀a b,N a b->∃e,e<m/\W (i+1) e a b)/\∀x b,J.o7 i H x b->KQ g f h l x d b N)
def qL(c:TI)(cp:-(Option Nat))(g:BD->TG)(e:BD->TT)(f:BD->TE):TE:=λa H Q=>c a H λJ b=>∀(d:BD)(l:U),b l=η->Ca J (g d) (e d) (f d) l (jx cp a) (upd b l (.lst [])) Q
theorem pb:∀{names:-(R×NameKind)}{n:Nat}{a:-(R×U)}{x:R}{c:U},(cellsFrom n names a).lookup x=ζ c->a.lookup x=ζ c\/(n<=c/\(x,Ya)∈names)
 |[],n,a,x,c,h=>.inl h
 |(y,k)::r,n,a,x,c,h=>by
  unfold cellsFrom at h;split at h
  .rename_i b
   let d:k=.cell:=XX b;subst d;rcases pb h with h|⟨h,m⟩
   .rw[Wl] at h
    cases q:x==y with
    |true=>rw[q] at h;cases h;rw[XX q];exact .inr ⟨B6 _,Uz ..⟩
    |false=>rw[q] at h;exact .inl h
   .exact .inr ⟨⋯,UA _ m⟩
  .rcases pb h with h|⟨h,m⟩
   .exact .inl h
   .calc .inr ⟨h,UA _ m⟩
theorem wy:∀{names:-(R×NameKind)}{n:Nat}{a:-(R×U)}{x:R}{c:U},(x,Ya)∈names->(cellsFrom n names a).lookup x=ζ c->n<=c
 |[],n,a,x,c,m,h=>by cases m
 |(y,k)::r,n,a,x,c,m,h=>by
  unfold cellsFrom at h
  by_cases b:(x,Ya)∈r
  .split at h
   .let:=wy b h;symm
   .exact wy b h
  .let e:(x,Ya)=(y,k):=by
    rcases Uy.mp m with e|e
    .exact e
    .exact absurd e b
   cases e
   rw[VE (by decide)] at h;rcases pb h with h|⟨h,_⟩
   .rw[Wl,We] at h
    cases h;exact B6 _
   .omega
theorem wz:∀{names:-(R×NameKind)}{n:Nat}{a:-(R×U)}{x y:R}{c:U},(∀u v c,a.lookup u=ζ c->a.lookup v=ζ c->u=v)->(∀u c,a.lookup u=ζ c->c<n)->(cellsFrom n names a).lookup x=ζ c->(cellsFrom n names a).lookup y=ζ c->x=y
 |[],n,a,x,y,c,i,_,e,b=>i x y c e b
 |(z,k)::r,n,a,x,y,c,i,j,e,b=>by
  unfold cellsFrom at e b;split at e
  .rename_i l
   rw[VE l] at b;refine wz (λu v c f d=>?_) (λu c q=>?_) e b
   .rw[Wl] at f d
    cases g:u==z with
    |true =>
     rw[g] at f;cases f
     cases h:v==z with
     |true=>rw[XX g,XX h]
     |false=>rw[h] at d;exact absurd (j v _ d) (X9 _)
    |false =>
     rw[g] at f
     cases h:v==z with
     |true=>rw[h] at d;cases d;exact absurd (j u _ f) (X9 _)
     |false=>rw[h] at d;exact i u v c f d
   .rw[Wl] at q
    cases g:u==z with
    |true=>rw[g] at q;cases q;exact Xa _
    |false=>rw[g] at q;exact WR (j u c q)
  .rename_i l
   rw[VC l] at b;calc wz i j e b
theorem wA:∀{names:-(R×NameKind)}{n:Nat}{a:-(R×U)}{x:R},(x,Ya)∉names->(cellsFrom n names a).lookup x=a.lookup x
 |[],n,a,x,_=>Y
 |(y,k)::r,n,a,x,m=>by
  unfold cellsFrom;split
  .rename_i b
   let c:k=.cell:=XX b;subst c;rw[wA λz=>m (UA _ z),Wl]
   cases q:x==y with
   |true=>exact absurd (by rw[XX q];calc Uz ..) m
   |false=>rfl
  .calc wA λz=>m (UA _ z)
theorem wB:∀{names:-(R×NameKind)}{h:Q}{a:-(R×U)}{x:R}{c:U},(∀u c,a.lookup u=ζ c->∃v,h.IsCell c v)->(cellsFrom h.objs.size names a).lookup x=ζ c->∃v,(pushCells h names).IsCell c v
 |[],h,a,x,c,b,e=>b x c e
 |(y,k)::r,h,a,x,c,b,e=>by
  unfold cellsFrom at e;unfold pushCells;split at e
  .rename_i d
   rw[VE d];let g:(h.push {cls:=.type "cell",data:=.cell η}).objs.size=h.objs.size+1:=XG ..;rw[<-g] at e;calc wB (λu c q=>?_) e;rw[Wl] at q
   cases f:u==y with
   |true=>rw[f] at q;cases q;exact⟨η,_,UD _ Y,Y⟩
   |false =>
    rw[f] at q;let⟨v,o,i,j⟩:=b u c q;exact⟨v,o,B5 _ i,j⟩
  .rename_i d
   rw[VC d];calc wB b e
theorem KR{M:Model}{A:t}{E:br}{s:L}{scope:o}{g:U}{cl:-(R×U)}{a:R}{env:u}{Q:u->L->Prop}
  (h:Q (newEnv scope ⇑s g (cellsFrom (⇑s+1) scope.names cl) a η .none (ζ env) builtinsNs) {s with heap:=pushCells (s.heap.push {cls:=.type "dict",data:=.dict #[]}) scope.names}) :
  G M A (newFunctionEnv scope g cl [] a η .none (ζ env)) Q E s:=by
 erw[newFunctionEnv,q0F,Xk];calc nX (wpAny_alloc ?_);calc nX (wpAny_layCells _ (λe b c=>by cases d:b==Ya<;>simp[d]) _ _ _ _ ?_);rw[show({s with heap:=s.heap.push {cls:=.type "dict",data:=.dict #[]}}:L).heap.objs.size=⇑s+1 from XG ..];calc nX ?_;rw[List.forIn_nil];calc B7 (B7 h)
section
variable{X:Cx}{elt tg iter:J}{ifs:-J}{scope:o}{pos:I}{Nb:-R}{cp:-(Option Nat)}{wi:TI}{g:BD->TG}{tf:BD->TT}{te:BD->TE}
variable{pins:a5}{σ:St}{H:Hp}{s:L}
noncomputable abbrev qM(scope:o)(s:L)(cl:-(R×U)):-(R×U):=cellsFrom (⇑s+1) scope.names cl
theorem KU{fp:-U}{cl:-(R×U)}(S:tG X scope Nb cp)(I:Inv X pins σ H s)(g:∀b∈fp,cz X pins H b)(m:∀b∈fp,∃o,s.heap.get? b=ζ o)
  (f:∀x c,cl.lookup x=ζ c->X.env.cells.lookup x=ζ c) (p:∀y∈scope.names,y.2=.free->∃c,cl.lookup y.1=ζ c):(dH X scope Nb ⟨qM scope s cl,⇑s,s,H,fp⟩).Ok:=by
 let i:∀b∈fp,b∉kP X.stack:=λb d z=>by
  let⟨_,r,t,_⟩:=g b d;rcases Uy.mp (I.ip b z) with e|e
  .exact r e
  .exact t e
 let w:∀u c,cl.lookup u=ζ c->c<⇑s:=λu c e=>by
  let⟨v,q⟩:=I.cell u c (f _ _ e);exact q.lt
 refine⟨I.ok.mod,?_,I.ok.glob,I.ok.blt,B6 _,λx y c A B=>?_,λx n=>?_,λx c h C=>?_,I.ok.hd,I.ok.frames,.inl Y,λb d=>⟨?_,λx c e=>?_⟩,I.bs,Wr I.ok.k_ I.sz,λb o e d=>?_,i,I.stack,I.jW⟩
 .exact S.kind
 .exact wz (λu v c D E=>I.ok.inj u v c (f _ _ D) (f _ _ E)) (λu c e=>WR (w u c e)) A B
 .cases q:scope.names.lookup x with
  |none =>
   let z:(relabel scope X.env).names.lookup x=η:=B_ q;let a:(relabel scope X.env).names.lookup x=ζ .cell\/(relabel scope X.env).names.lookup x=ζ .free:=n;rw[z] at a;rcases a with h|h<;>cases h
  |some k =>
   let F:=XM q;let z:(relabel scope X.env).names.lookup x=_:=wu (env:=X.env) q;let a:(relabel scope X.env).names.lookup x=ζ .cell\/(relabel scope X.env).names.lookup x=ζ .free:=n;rw[z] at a
   let G:k=.free\/k=.cell:=by
    by_cases j:k=.free
    .exact .inl j
    .let:(k==Yp)=ι:=by simpa using j
     erw[this,q1Z,VQ,W8] at a;rcases a with h|h
     .exact .inr (WD h)
     .exact absurd (WD h) j
   calc q03.mp (ZS scope.names _ cl ?_);rcases G with rfl|rfl
   .let⟨c,e⟩:=p (x,.free) F Y
    exact .inr (by rw[show cl.lookup x=ζ c from e];rfl)
   .exact .inl q
 .let J:scope.names.lookup x=ζ .cell:=W_ h
  let:=wy (XM J) C;exact q2S this
 .let⟨o,e⟩:=m b d
  exact VF (Vz e)
 .rcases pb e with e|⟨e,_⟩
  .exact (g b d).2.2.2.2.1 x c (f _ _ e)
  .let⟨o,K⟩:=m b d
   let l:=Vz K;ext z;subst z;exact absurd (q2T e) (q64.mpr (Xd l))
 .rcases (g b d).2.2.2.1 with z|z
  .exact I.ok.iY b o e z
  .calc absurd (VS (Vz (I.ok.bs b o e).1) z) (X9 _)
theorem KW{cp:-(Option Nat)}{a:St}{j:Nat}{v:V}(h:(jx cp a)[j]?=ζ (ζ v)):∃i,cp[j]?=ζ (ζ i)/\a[i]?=ζ (ζ v):=by
 unfold jx at h;rw[B8] at h
 cases e:cp[j]? with
 |none=>rw[e] at h;cases h
 |some o =>
  rw[e] at h
  cases o with
  |none=>cases h
  |some i =>
   calc⟨i,Y,?_⟩;let b:(a[i]?).join=ζ v:=WD h
   cases q:a[i]? with
   |none=>rw[q] at b;cases b
   |some z =>
    rw[q] at b;let:z=ζ v:=b;rw[this]
theorem KY{fp:-ξ}{cl:-(π×ξ)}{l:Α}{tk:Nat}(S:tG X scope Nb cp)(I:Inv X pins σ H s)(C:∀b∈fp,cz X pins H b)(D:∀b∈fp,∃o,s.heap.get? b=ζ o)
  (n:∀x c,cl.lookup x=ζ c->X.env.cells.lookup x=ζ c) (A:∀y∈scope.names,y.2=.free->∃c,cl.lookup y.1=ζ c)
  (hn:l.Ns ⇑s (λx=>([]:-(π×ν)).reverse.lookup x)) (q:∀b o,s.heap.get? b=ζ o->l.get? b=ζ o) (r:∀x c,(qM scope s cl).lookup x=ζ c->∃v,l.IsCell c v) :
  Inv (dH X scope Nb ⟨qM scope s cl,⇑s,s,H,fp⟩) [] (jx cp σ) H {s with heap:=l,toks:=tk}:=by
 refine⟨KU S I C D n A,Y,I.bare,Un.kept q,⟨_,hn,λj x v E F U=>?_⟩,r,I.bf.fresh (B6 _),λx c e=>?_,λp G=>absurd (show p∈([]:a5) from G) (by simp),I.bf.kept q,?_⟩
 .let⟨i,J,K⟩:=KW F
  let⟨L,t⟩:=S.qK j i x J E;let B:=XM t;let a:=S.free _ B Y;let⟨m,_,M⟩:=I.loc
  let w:qc X.env.scope x:=by
   rcases a with h|h
   .exact .inr (.inl h)
   .exact .inr (.inr h)
  let⟨u,N,O⟩:=M i x v L K w;refine⟨u,N,?_⟩
  let P:X.env.kindOf x≠ζ .local:=by
   rcases a with h|h
   .ext z;rw[h] at z;cases z
   .ext z;rw[h] at z;cases z
  rcases O with⟨k,_⟩|⟨_,c,Q,R⟩
  .exact absurd k P
  .let⟨c',f⟩:=A (x,.free) B Y
   let g:=n _ _ f;rw[Q] at g;cases g;let T:(x,Ya)∉scope.names:=λz=>by let:=S.cell _ z Y;rw[show scope.names.lookup x=ζ .free from t] at this;cases this
   refine .inr ⟨?_,c,(wA T).trans f,?_⟩
   .let z:(relabel scope X.env).names.lookup x=_:=wu (env:=X.env) t
    show(relabel scope X.env).names.lookup x=ζ .cell\/(relabel scope X.env).names.lookup x=ζ .free;rw[z];split
    .exact .inl Y
    .exact .inr Y
   .let⟨o,e,d⟩:=R
    exact⟨o,q _ _ e,d⟩
 .rcases pb e with e|⟨e,_⟩
  .exact I.dB x c (n _ _ e)
  .exact I.bf.fresh (q2S e)
 .unfold jx
  rw[nW];calc S.len
theorem KZ{fp:-ξ}{d:BD}{it l:ξ}{tn:Nat->Α->Prop}{J:It}{R:Result->ο->Prop}{Q:VK}{H1:Hp}{I:ο}{D:St}(hc:X.calm=θ)
  (hg:JG (dH X scope Nb d) tg (g d)) (hf:JF (dH X scope Nb d) ifs (tf d)) (he:JE (dH X scope Nb d) elt (te d)) (T:Turn X.prog X.w X.K tg J fp it tn)
  (UE:d.fp=fp) (I1:Inv (dH X scope Nb d) [] D H1 I) (L:tn 0 I.heap) (M:∀b∈fp,cz (dH X scope Nb d) [] H1 b)
  (W:Nat->Nat->St->Hp->Prop) (w0:∃m,W 0 m D H1)
  (O:∀i m D H,W i m D H->(J.stop i H/\Q (.ref l) H)\/(J.go i H/\∃N:St->Hp->Prop,(∀a H',N a H'->∃k,k<m/\W (i+1) k a H')/\∀x H',J.o7 i H x H'->g d x D H' λp H2=>tf d p H2 λb v =>
   if b=θ then te d p v λy H4=>∃ys,H4 l=ζ (.lst ys)/\↑ys<sizeLine/\N p (upd H4 l (.lst (ys++[y]))) else N p v))
  (fin:∀a H' s',Inv (dH X scope Nb d) [] a H' s'->Q (.ref l) H'->R (.ok .next) s') :
  codeAny (ς X.prog X.w) X.A (.compStart (.ListComp elt [⟨tg,iter,ifs,0⟩] scope pos) 0 (.ref it) (.ref l) (compEnvC scope d.cl d.C X.env)) R I:=by
 let c:∀{j:Hp},(∀b∈fp,j b=η)->∀b∈fp,cz (dH X scope Nb d) [] j b:=λhn b q=>⟨hn b q,(M b q).2⟩
 let t:codeAny (ς X.prog X.w) X.A (.compLoop (.ListComp elt [⟨tg,iter,ifs,0⟩] scope pos) 0 (.ref it) (.ref l) (compEnvC scope d.cl d.C X.env)) R I:=by
  let⟨m0,w0⟩:=w0;calc KO (λn s'=>∃i a j,Inv (dH X scope Nb d) [] a j s'/\tn i s'.heap/\(∀b∈fp,j b=η)/\W i n a j) ?_ m0 ⟨0,D,H1,I1,L,λb q=>(M b q).1,w0⟩;ext n s3 ⟨i,f,v,I3,P,S,w3⟩;rcases O i n f v w3 with⟨U,qn⟩|⟨go,N,hN,V⟩
  .refine bE (T.done (dH X scope Nb d) rfl rfl rfl hc i [] s3 f v (λ_ _=>False) I3 (c S) P U) λr s4 ⟨hr,I4⟩=>?_
   subst hr;exact fin f v s4 I4 qn
  .refine bE (T.item (dH X scope Nb d) rfl rfl rfl hc i [] s3 f v (λ_ _=>False) I3 (c S) P go) λr s4 ⟨u,hr,h4⟩=>?_
   subst hr;calc bE h4 λ_ s5 ⟨x,H5,I5,r5,y5,z,K1⟩=>?_;let K3:=I5.pinned (c K1) (T.obj _ _ z);refine bE (hg _ s5 f H5 x u _ K3 r5 (V x H5 y5)) λ_ s6 ⟨B,H6,I6,q6⟩=>?_
   let h:∀{s:St}{E:Hp}{F:ο}{k:Nat},Inv (dH X scope Nb d) ([]++qr fp s5.heap) s E F->k<n->W (i+1) k s E->∃m,m<n/\∃i Y j,Inv (dH X scope Nb d) [] Y j F/\tn i F.heap/\(∀b∈fp,j b=η)/\W i m Y j:=λ{s E F k} G Z w7=>by
    calc⟨k,Z,i+1,s,E,G.fG,T.keep _ _ _ z λb q o e=>(G.pin (b,o) (V7 _ (V7 _ (tj q e)))).1,λb q=>?_,w7⟩;let⟨o,e,d⟩:=T.obj _ _ z b q;exact(G.pin (b,o) (V7 _ (V7 _ (tj q e)))).2.1
   refine bE (hf _ s6 B H6 _ I6 q6) λok F ⟨E,G,q7⟩=>?_
   cases ok with
   |false =>
    rw[VC Wo] at q7 ⊢;let⟨k,Z,w7⟩:=hN _ _ q7;exact h G Z w7
   |true =>
    rw[VE rfl] at q7 ⊢;calc bE (he _ F B E _ G q7) λy s8 ⟨yv,H8,I8,r8,ys,hy,hz,q8⟩=>?_;let⟨k,Z,w8⟩:=hN _ _ q8;calc bE (mm _ s8 B H8 (.ref l) [yv] (.ref l) [y] (λ_ H9=>H9=upd H8 l (.lst (ys++[yv]))) I8 rfl (.cons r8 .nil) ⟨l,ys,yv,rfl,rfl,hy,hz,rfl⟩) λ_ s9 ⟨_,H9,I9,_,e9⟩=>?_;subst e9;exact h I9 Z w8
 calc codeAny_compStart_list t (T.self _ 0 I _ _ L t)
theorem K4{fp:-U}{d:BD}{g:St}{e H':Hp}{f s':L}(h:Inv X pins σ e f)(hs:d.s=f)(i:d.H=e)(hd:d.fp=fp)(a:∀b∈fp,cz X pins e b)(J:Inv (dH X scope Nb d) [] g H' s'):Inv X pins σ H' s':=by
 subst hs i hd;calc h.qd (ch:=d.fp) J.os J.base J.bf J.bare λb c=>⟨(a b c).2.2.2.1,(a b c).2.1,(a b c).2.2.2.2.1,(a b c).2.2.2.2.2⟩
theorem Cb{use:Option (ν->Sem Unit)}{P:br}{Q:VK}(hc:X.calm=θ)(S:tG X scope Nb cp)(hi:JI X tg iter wi)(hg:∀d,JG (dH X scope Nb d) tg (g d))(hf:∀d,JF (dH X scope Nb d) ifs (tf d))(he:∀d,JE (dH X scope Nb d) elt (te d))
  (hs:∀x,foldedSetIterable iter X.env x=pure x) (I:Inv X pins σ H s) (h:qL wi cp g tf te σ H Q)
  (F:∀(l C:ξ)(H':Hp)(s':ο)(m:π->Option ν),Inv X pins σ H' s'->cz X pins H' C->(∀p c,X.env.cells.lookup p=ζ c->c≠C)->s'.heap.Ns C m->Q (.ref l) H'->compPost (ς X.prog X.w) X.A X.xe use P (.ref l) C (.ok .next) s') :
  ρ (ς X.prog X.w) X.A (comprehension (.ListComp elt [⟨tg,iter,ifs,0⟩] scope pos) scope X.env (firstIterPos [⟨tg,iter,ifs,0⟩] pos) (newList []) ι (eval iter X.env) use) P X.xe s:=by
 let⟨cl,K,L,c2⟩:=B9 (scope:=scope) (env:=X.env) λy hy G=>by
  rcases S.free y hy G with z|z
  .exact I.ok.has _ (.inl z)
  .exact I.ok.has _ (.inr z)
 calc wpAny_comprehension_free (cl:=cl) rfl hs K S.kind S.names (bE (hi pins s σ H _ I h) λv s1 h1=>bE h1 λJi i h2=>?_);let⟨it,fp,tn,J,E,e,Y,T,k,Z,q2⟩:=h2;subst e;calc XP ?_;let hl:E ⇑i=η:=Y.fresh;let n:Inv X pins σ (upd E ⇑i (.lst [])) {i with heap:=i.heap.push {cls:=.type "list",data:=.seq ([]:-ν).toArray}}:=Y.df (t':=i.toks) (ys:=[]) .nil (VY _);let k3:∀b o,i.heap.get? b=ζ o->(i.heap.push {cls:=.type "list",data:=.seq ([]:-ν).toArray}).get? b=ζ o:=λb o e=>B5 _ e
 let t:∀b∈fp,cz X pins (upd E ⇑i (.lst [])) b:=λb j=>by
  let⟨o,e,_⟩:=T.obj _ _ k b j;calc⟨?_,(Z b j).2⟩;rw[bt (VF (Vz e))];exact(Z b j).1
 generalize M:upd E ⇑i (.lst [])=H3 at n t;generalize N:({i with heap:=i.heap.push {cls:=.type "list",data:=.seq ([]:-ν).toArray}}:ο)=a at n;let B:∀b o,i.heap.get? b=ζ o->a.heap.get? b=ζ o:=by rw[<-N];exact k3
 let o3:∀b∈fp,∃o,a.heap.get? b=ζ o:=λb j=>let⟨o,e,_⟩:=T.obj _ _ k b j;⟨o,B b o e⟩;calc KR ?_;let O:∀b o,a.heap.get? b=ζ o->(pushCells (a.heap.push {cls:=.type "dict",data:=.dict #[]}) scope.names).get? b=ζ o:=λb o e=>q3w _ _ _ _ (B5 _ e);let f:(pushCells (a.heap.push {cls:=.type "dict",data:=.dict #[]}) scope.names).Ns ⇑a (λx=>([]:-(π×ν)).reverse.lookup x):=(Heap.Ns.new a.heap (.type "dict")).keeps (q3w _ _)
 let I4:=KY (Nb:=Nb) (tk:=a.toks) S n t o3 L c2 f O λx c e=>by
  let hz:(a.heap.push {cls:=.type "dict",data:=.dict #[]}).objs.size=⇑a+1:=XG ..;let e':(cellsFrom (a.heap.push {cls:=.type "dict",data:=.dict #[]}).objs.size scope.names cl).lookup x=ζ c:=by rw[hz];exact e
  calc wB (λu c q=>?_) e';let⟨v,o,g1,g2⟩:=n.cell u c (L _ _ q);exact⟨v,o,B5 _ g1,g2⟩
 generalize UG:pushCells (a.heap.push {cls:=.type "dict",data:=.dict #[]}) scope.names=h₁ at O f I4 ⊢;let⟨W,w0,D⟩:=q2 ⟨qM scope a cl,⇑a,a,H3,fp⟩ ⇑i hl;rw[M] at w0;refine KZ (d:=⟨qM scope a cl,⇑a,a,H3,fp⟩) (fp:=fp) (tn:=tn) (J:=J) (Q:=Q) hc (hg _) (hf _) (he _) T rfl I4 (T.keep _ _ _ k λb j o e=>O b o (B b o e)) (λb j=>?_) W w0 D fun τ' V s' R q5=>?_
 .let⟨o,e⟩:=o3 b j
  refine⟨(t b j).1,VF (Vz e),λz=>?_,.inl j,λx c ec=>?_,λp hp=>absurd (show p∈([]:a5) from hp) (by simp)⟩
  .rcases Uy.mp (n.ip b z) with r|r
   .exact (t b j).2.1 r
   .exact (t b j).2.2.1 r
  .rcases pb ec with q|⟨q,_⟩
   .exact (t b j).2.2.2.2.1 x c (L _ _ q)
   .let U:=Vz e
    ext z;subst z;exact absurd (q2T q) (q64.mpr (Xd U))
 .let I6:Inv X pins σ V s':=K4 n rfl rfl rfl t R
  let⟨m,hn,_⟩:=R.loc;let fC:cz X pins V ⇑a:=n.i7 (B6 _) R.free;calc F _ _ _ _ m I6 fC (λp c e=>fC.2.2.2.2.1 p c e) hn q5
theorem Cc(cp:-(Option Nat))(Nb:-R)(i:X.calm=θ)(j:JI X tg iter wi)(k:∀d,JG (dH X scope Nb d) tg (g d))(n:∀d,JF (dH X scope Nb d) ifs (tf d))(he:∀d,JE (dH X scope Nb d) elt (te d))
  (p:scope.kind=.function:=by rfl) (r:lh X.N X.env.scope scope Nb cp=θ:=by first|rfl|kernel_rfl) (hs:∀x,foldedSetIterable iter X.env x=pure x:=by ext _;rfl) :
  JE X (.ListComp elt [⟨tg,iter,ifs,0⟩] scope pos) (qL wi cp g tf te):=by
 calc⟨?_⟩;ext f s A H Q I h;rw[eval_ListComp];calc Cb (use:=none) i (x5Y p r) j k n he hs I h λl C t u m v a w y q=>⟨m,y,λB c=>⟨.ref l,t,?_,Y,q⟩⟩;calc v.turned (t':=u.toks) (λb o z e=>(c.2 b z).trans e) a.1 a.2.1 a.2.2.2.1 a.2.2.2.2.1 a.2.2.2.2.2
theorem K5(cp:-(Option Nat))(Nb:-π){i:Nat}{x:π}{c f:Ε}(B:X.N.Nodup)(E:X.N[i]?=ζ x)(F:Loc X.env.scope x)(G:X.calm=θ)(p:JI X tg iter wi)(J:∀d,JG (dH X scope Nb d) tg (g d))(K:∀d,JF (dH X scope Nb d) ifs (tf d))(he:∀d,JE (dH X scope Nb d) elt (te d))
  (L:scope.kind=.function:=by rfl) (M:lh X.N X.env.scope scope Nb cp=θ:=by first|rfl|kernel_rfl) (hs:∀x,foldedSetIterable iter X.env x=pure x:=by ext _;rfl)
  (r:swapsWith (.ListComp elt [⟨tg,iter,ifs,0⟩] scope pos) (ζ (.Name x c)) f.line X.env=pure θ:=by rfl)
  (t:ik X x:=by first|exact .inl rfl|exact .inr rfl|assumption) :
  JS X (.Assign [.Name x c] (.ListComp elt [⟨tg,iter,ifs,0⟩] scope pos) f) (ki (qL wi cp g tf te) (nN i)):=by
 calc⟨?_⟩;ext k s Y H D I h;rw[exec_Assign_Name_used _ _ _ _ r];calc nX (Zs (nX ?_));show ρ _ X.A (do let _ <- comprehension (.ListComp elt [⟨tg,iter,ifs,0⟩] scope pos) scope X.env _ (newList []) ι (eval iter X.env) (ζ (assign (.Name x c) X.env))) _ _ s;calc nX (bE (Cb (use:=ζ (assign (.Name x c) X.env)) (P:=λ_ n=>SP X k D .next n) G (x5Y L M) p J K he hs I h λl C O n m Q j u R q=>?_) λ_ n S=>B7 (B7 S));show ρ _ X.A (assign (.Name x c) X.env (.ref l)) _ _ n;refine q2F (Bj Q B E F (v:=.ref l) rfl (λw y ⟨a,T,U⟩=>?_) t)
 let V:C≠a:=by
  rcases U with e|e
  .rw[e];exact j.2.1
  .exact Yz (u _ _ e)
 calc⟨m,R.sameBut T V,λZ z=>⟨_,O,?_,q⟩⟩;calc y.turned (t':=w.toks) (λb o W e=>(z.2 b W).trans e) j.1 j.2.1 j.2.2.2.1 j.2.2.2.2.1 j.2.2.2.2.2
end
section
variable{g:TG}{tf:TT}{te:TE}
end
section
variable{X:Cx}{pins:a5}{σ:St}{H:Hp}{s:L}{h':Q}{T:U}{o:HO}{ch:-U}{t':Nat}
theorem Inv.jb(I:Inv X pins σ H s)(f:∀b∈ch,cz X pins H b)(k:∀b u,b∉ch->s.heap.get? b=ζ u->h'.get? b=ζ u)(j:⇑s<=T)(i:bp X.prog X.w (upd H T o) h' T o):
  Inv X pins σ (upd H T o) {s with heap:=h',toks:=t'}:=by
 let g:H T=η:=I.bf.fresh j;let h:∀b u,H b=ζ u->b∉ch:=λb u e a=>by rw[(f b a).1] at e;cases e
 refine I.step (g':=s.gens) (d':=s.drawn) (ch:=ch) (λb a=>⟨(f b a).2.2.2.1,(f b a).2.1,(f b a).2.2.2.2.1,(f b a).2.2.2.2.2⟩) (λb u _ _ d e _=>k b u d e) (λb u _ _ d e _=>⟨u.slots,k b u d e⟩)
  (λb u _ e n=>by rw[bt (VF (VS (Vz e) j))];calc n) (λb u d e=>⟨u,k b u d e⟩) (λb l e=>by rw[bt (ed e g)];calc e)
  (λb u l e=>by rw[bt (ed e g)];calc e) (λb A e=>⟨#[],by rw[bt (ed e g),e];simp⟩) (λb _ u _ e d=>k b u d e) (λm p=>?_) (λb u e=>?_) I.bare
 .let⟨u,t,x,y,r⟩:=p
  exact⟨u,t,x,k _ u (λa=>(f _ a).2.1 Y) y,r⟩
 .by_cases a:b=T
  .subst a;rw[cw] at e;cases e;exact i
  .rw[bt a] at e
   refine(I.bf b u e).iV (λc v d q=>k c v ?_ q) (λc q=>by rw[bt (ed q g)];calc q) λc l q=>by rw[bt (ed q g)];exact q
   rcases d with z|z
   .rw[z];exact h b u e
   .calc h c _ z
end
noncomputable def pd(K:KD)(a:U):It :=
 ⟨λi H=>∃b x,bS K H a b/\b[i]?=ζ x,λi H x c=>∃T v,x=.ref T/\H T=η/\c=upd H T (.tup [.int (i:Nat),v])/\∀b,bS K H a b->b[i]?=ζ v,λi H=>∃b,bS K H a b/\↑b<=i⟩
theorem Cd{P:ψ}{w:ω}{K:KD}{n:-υ}{x1}{tp:Ε}(a e g:ξ)(r:e≠g):
  Turn P w K (.Tuple n x1 tp) (pd K a) [e,g] e (λi h=>(∃c,IsEnum h e g (i:Nat) c)/\h.IsListIter g a i) where
 mem:=by simp
 obj:=λi h j b d=>by
  let⟨⟨c,f⟩,o,l,F,hd⟩:=j;rcases Uy.mp d with rfl|d
  .exact⟨_,f,λv z=>by cases z⟩
  .let z:b=g:=by simpa using d
   subst z;exact⟨o,l,λv z=>by rw[hd] at z;cases z⟩
 keep:=λi h h' j k=>by
  let⟨⟨c,f⟩,l⟩:=j;exact⟨⟨c,k e (by simp) _ f⟩,l.at λo q=>k g (by simp) o q⟩
 item:=by
  ext X G J L F i t s σ H E I C j M;subst G J L;let⟨⟨c,f⟩,l⟩:=j;let⟨xs,x,D,N⟩:=M;let⟨O,R,p,hz⟩:=I.list D;let⟨u,hu,ru⟩:=R.get N;calc wpAny_pyNext_enum_item f l p.isList (x:=u) hu⁻¹ r λh1 S T U hsz hk=>⟨_,rfl,?_⟩;calc q0G S λZ y m=>?_;let hT:⇑s≠e:=Yc (Vz f);let V:Z.get? ⇑s=ζ {cls:=.type "tuple",data:=.seq #[.int i s.toks,u]}:=(m.2 _ hT).trans U
  let k2:∀b o,b∉[e,g]->s.heap.get? b=ζ o->Z.get? b=ζ o:=λb o d q=>by
   let B:b≠e:=λz=>d (by simp[z]);let Y:b≠g:=λz=>d (by simp[z]);exact(m.2 _ B).trans (hk b o B Y q)
  let hn:H ⇑s=η:=I.bf.fresh (B6 _);refine⟨.ref ⇑s,upd H ⇑s (.tup [.int i,x]),I.jb (ch:=[e,g]) (t':=s.toks+1) C k2 (B6 _) ?_,rfl,⟨_,x,rfl,hn,rfl,λys hy=>by rw[I.i5 hy D];calc N⟩,⟨⟨u,?_⟩,?_⟩,λb d=>?_⟩
  .exact⟨by show 2<=sizeLine;decide,[.int i s.toks,u],.cons ⟨_,rfl⟩ (.cons ru .nil),_,V,rfl,_,rfl⟩
  .let e3:((i:Int)+1)=(((i+1:Nat)):Int):=by symm
   rw[e3] at y;exact y
  .exact T.at λo q=>(m.2 _ (Yz r)).trans q
  .let:b<⇑s:=by
    let⟨o,q,_⟩:=l;rcases Uy.mp d with rfl|d
    .exact Vz f
    .let z:b=g:=by simpa using d
     subst z;exact Vz q
   rw[bt (VF this)];exact(C b d).1
 done:=by
  ext X G J L F i t s σ H E I C j M;subst G J L;let⟨⟨c,f⟩,l⟩:=j;let⟨xs,D,N⟩:=M;let⟨O,R,p,hz⟩:=I.list D;let hl:=↑R;calc wpAny_pyNext_enum_end (I.ok.hd F) f l p.isList (by simp;symm) λh1 eb=>⟨rfl,?_⟩;let⟨f0,f1,f2,f3,f4,f5⟩:=C g (by simp);exact I.turned (t':=s.toks) (λb o d q=>eb b o d q) f0 f1 f3 f4 f5
 self:=λA i s Q E j h=>by
  let⟨⟨c,f⟩,l⟩:=j;let hT:s.TypeIs (.ref e) "enumerate" := ⟨_,f,rfl⟩;calc YG f h
section
variable{X:Cx}{elts:-J}{x1:Nat}{tp:I}
def Ce(K:KD)(ta:TA):TI:=λc H R=>ta c H λd b=>∃a,d=[.ref a]/\(∃e,bS K b a e)/\R (pd K a) b
theorem Cf:bootBuiltins "enumerate" = ζ (.type "enumerate"):=by decide +kernel
theorem Cg{a:υ}{ta:TA}{p pos:Ε}(n:Gl X "enumerate")(o:X.mg "enumerate" = η)(t:JA X [a] ta)(hs:starEach [a] X.env=[(ι,eval a X.env)]:=by rfl):
  JI X (.Tuple elts x1 tp) (.Call (.Name "enumerate" p) [a] [] pos) (Ce X.K ta):=by
 calc⟨?_⟩;ext c s j H R I h;calc Call_ (m8 I n o Cf (Yn (bE (t pos c s j H _ I h) λF d ⟨G,k,g,u,v⟩=>?_) hs Y));let⟨l,e,⟨J,w⟩,q⟩:=v;subst e
 cases u with
 |cons r x =>
  cases x
  cases r
  let⟨y,L,p,M⟩:=g.list w;calc q2b p.isList λA m B C D=>?_;let E:Inv X c j k {d with heap:=A}:=g.kept (t':=d.toks) D;calc YG m ?_;refine⟨_,_,_,_,k,Y,E,Cd l (⇑d+1) ⇑d (q1k _),⟨⟨_,m⟩,B⟩,λb i=>?_,q⟩
  let f:⇑d<=b:=by
   rcases Uy.mp i with rfl|i
   .exact q0c _
   .let z:b=⇑d:=by simpa using i
    rw[z];exact B6 _
  calc g.i7 f (g.bf.fresh f)
end
section
variable{X:Cx}{nm:R}{tp:I}
end
end L2
namespace L2
open PySem PySem.Spec PyProof.Rows PySem.W
open Builtin Builtin.ObjectAttr
section
variable{prog:X}{w:l}{A:t}{E:br}{s:L}{K:Frag}{x D:U}{ox:Γ}{UH:Option Γ}{name:R}
variable{h:Q}{g:Array GenState}{d:Drawn}{t:Nat}{os:OsState}{nm q:R}{C N:U}{bs bm UI:-M}{K6:Bool}{sn:-R}{sub:-M}{ab:Bool}{col:Option Bool}{dd:Option U}{k0 k1 k2 k3 k5:Option M}{B newId wC:String}
end
end L2
namespace L2
open PySem PySem.Spec PyProof.Rows
section
variable{X:Cx}{pins:a5}{σ:St}{H:Hp}{s:L}{C f:U}{CX:kS}{k:Nat}{fd:FuncData}{ps:-R}{sp:Sp}{E:XK}{x:R}{p pos pos':I}{e o value:J}{es:-J}{ta tv:TE}{t:TA}
end
section
variable{X:Cx}
noncomputable def qN:V->Option M
 |.ty n=>ζ (.type n)
 |.ref a=>ζ (.ref a)
 |_=>η
theorem K7{y:V}{u c:M}(r:RelV y u)(e:qN y=ζ c):u=c:=by
 cases y with
 |ty n=>cases e;exact r
 |ref a=>cases e;exact r
 |_=>cases e
theorem K8:g6 X (.builtin "isinstance") (λxs H Q=>∃x y c t b,xs=[x,y]/\qN y=ζ c/\fH X.K H x t/\X_ X.K t c=ζ b/\Q (.bl b) H):=by
 ext a s m H l n Q I d h;let⟨x,y,c,t,b,rfl,f,g,e,q⟩:=h;let⟨u,o,rfl,i,j⟩:=d.two;rw[K7 j f];calc JV I i g e λk=>⟨.bl b,H,I.tok k,Y,q⟩
end
theorem Ci{K:KD}{a:U}{xs:-V}{g:TG}{tb:TS}{D:Ends}{b:St}{H:Hp}(c:Nat->St->Hp->Prop)(j:c 0 b H)(k:∀i b H,i<=↑xs->c i b H->bS K H a xs)
  (hs:∀i x T b H,xs[i]?=ζ x->c i b H->H T=η->g (.ref T) b (upd H T (.tup [.int (i:Nat),x])) λd H2=>tb {D with nx:=c (i+1),ct:=c (i+1),bk:=D.nx} d H2) (hd:∀b H,c ↑xs b H->D.nx b H) :
  ∃W:Nat->Nat->St->Hp->Prop,(∃m,W 0 m b H)/\∀i m b H,W i m b H →
   ((pd K a).stop i H/\D.nx b H)\/((pd K a).go i H/\∃N:St->Hp->Prop,(∀σ' H',N σ' H'->∃h,h<m/\W (i+1) h σ' H')/\∀x H',(pd K a).o7 i H x H'->g x b H' λd H2=>tb {D with nx:=N,ct:=N,bk:=D.nx} d H2):=by
 calc⟨λi m b H=>m=↑xs-i/\i<=↑xs/\c i b H,⟨↑xs,by simp,VY _,j⟩,?_⟩;ext i m b H ⟨rfl,o,p⟩;let q:=k i b H o p
 by_cases f:i<↑xs
 .refine .inr ⟨⟨xs,xs[i],q,by simp[f]⟩,c (i+1),λl n r=>⟨↑xs-(i+1),⋯,Y,f,r⟩,λx n y=>?_⟩
  let⟨T,v,rfl,s,rfl,y⟩:=y;exact hs i v T b H (y xs q) p s
 .let e:i=↑xs:=by symm
  subst e;calc .inl ⟨⟨xs,q,B6 _⟩,hd b H p⟩
section
variable{g:TG}{tf:TT}{te:TE}{l:U}{τ0:St}{H0:Hp}{Q:VK}
end
section
variable{X:Cx}{es:-J}{te:TE}{t:TA}
theorem wD{c j p}(a:JE X (.Constant c j p) te)(b:JA X es t):JA X (.Constant c j p::es) (jG te t):=km a b Y
theorem jJ{x p}(a:JE X (.Name x p) te)(b:JA X es t):JA X (.Name x p::es) (jG te t):=km a b Y
theorem jK{f a k p}(b:JE X (.Call f a k p) te)(c:JA X es t):JA X (.Call f a k p::es) (jG te t):=km b c Y
theorem qO{a p}(b:JE X (.List a p) te)(c:JA X es t):JA X (.List a p::es) (jG te t):=km b c Y
theorem wF{a k p}(b:JE X (.Tuple a k p) te)(c:JA X es t):JA X (.Tuple a k p::es) (jG te t):=km b c Y
theorem wG{a k p}(b:JE X (.Subscript a k p) te)(c:JA X es t):JA X (.Subscript a k p::es) (jG te t):=km b c Y
end
inductive D where
 |non|bl (b:Bool)|int (i:Int)|str (x:R)|tup (xs:-D)|lst (xs:-D)
mutual
def Is (H:Hp):D->V->Prop
 |.non,v=>v=.non
 |.bl b,v=>v=.bl b
 |.int i,v=>v=.int i
 |.str x,v=>v=.str x
 |.tup ds,v=>∃a vs,v=.ref a/\H a=ζ (.tup vs)/\ax H ds vs
 |.lst ds,v=>∃a vs,v=.ref a/\H a=ζ (.lst vs)/\ax H ds vs
def ax (H:Hp):-D->-V->Prop
 |[],vs=>vs=[]
 |d::ds,vs=>∃v r,vs=v::r/\Is H d v/\ax H ds r
end
mutual
theorem Is.same {H H':Hp} (s:a_ H H'):∀{d:D}{v:V},Is H d v->Is H' d v
 |.non,_,h=>h
 |.bl _,_,h=>h
 |.int _,_,h=>h
 |.str _,_,h=>h
 |.tup _,_,h=>by
  erw[Is] at h ⊢;let⟨a,vs,e,b,c⟩:=h;exact⟨a,vs,e,s _ _ b,ax.same s c⟩
 |.lst _,_,h=>by
  erw[Is] at h ⊢;let⟨a,vs,e,b,c⟩:=h;calc⟨a,vs,e,s _ _ b,ax.same s c⟩
theorem ax.same {H H':Hp} (s:a_ H H'):∀{d:-D}{v:-V},ax H d v->ax H' d v
 |[],_,h=>h
 |_::_,_,h=>by
  erw[ax] at h ⊢;let⟨v,r,e,b,c⟩:=h;calc⟨v,r,e,Is.same s b,ax.same s c⟩
end
theorem ax.length{H:Hp}:∀{ds:-D}{vs:-V},ax H ds vs->↑vs=↑ds
 |[],_,h=>by erw[ax] at h;rw[h];rfl
 |_::_,_,h=>by
  erw[ax] at h;let⟨v,r,rfl,_,a⟩:=h;rw[wo,wo,ax.length a]
theorem ax.get{H:Hp}:∀{ds:-D}{vs:-V}{i:Nat}{v:V},ax H ds vs->vs[i]?=ζ v->∃d,ds[i]?=ζ d/\Is H d v
 |[],_,i,v,h,e=>by erw[ax] at h;rw[h] at e;simp at e
 |d::c,_,i,v,h,e=>by
  erw[ax] at h;let⟨f,r,rfl,a,b⟩:=h
  cases i with
  |zero=>simp at e;subst e;exact⟨d,Y,a⟩
  |succ i=>simp at e;simpa using ax.get b e
theorem ax.nil{H:Hp}:ax H [] []:=by erw[ax]
theorem ax.cons{H:Hp}{d:D}{ds:-D}{v:V}{vs:-V}(h:Is H d v)(r:ax H ds vs):ax H (d::ds) (v::vs):=by
 erw[ax];calc⟨v,vs,Y,h,r⟩
theorem ax.snoc{H:Hp}{d:D}{v:V}:∀{ds:-D}{vs:-V},ax H ds vs->Is H d v->ax H (ds++[d]) (vs++[v])
 |[],_,h,q=>by erw[ax] at h;subst h;exact .cons q .nil
 |_::_,_,h,q=>by
  erw[ax] at h;let⟨c,r,rfl,a,b⟩:=h;exact .cons a (ax.snoc b q)
mutual
noncomputable def dep:D->Nat
 |.tup ds=>bD ds+1
 |.lst ds=>bD ds+1
 |_=>0
noncomputable def bD:-D->Nat
 |[]=>0
 |d::ds=>max (dep d) (bD ds)
end
theorem wH:∀{ds:-D}{i:Nat}{d:D},ds[i]?=ζ d->dep d<=bD ds
 |[],i,d,e=>by simp at e
 |b::a,0,d,e=>by simp at e;subst e;erw[bD];exact Nat.le_max_left _ _
 |b::a,i+1,d,e=>by simp at e;erw[bD];calc Wr (wH e) (Nat.le_max_right _ _)
noncomputable def iz:D->String
 |.non=>"NoneType" | .bl _=>"bool" | .int _=>"int" | .str _=>"str" | .tup _=>"tuple" | .lst _=>"list"
theorem Is.ty{K:KD}{H:Hp}:∀{d:D}{v:V},Is H d v->fH K H v (.type (iz d))
 |.non,_,h=>by cases(show _=_ from h);exact .non
 |.bl b,_,h=>by cases(show _=_ from h);exact .bl b
 |.int i,_,h=>by cases(show _=_ from h);exact .int i
 |.str x,_,h=>by cases(show _=_ from h);exact .str x
 |.tup _,_,h=>by
  erw[Is] at h;let⟨a,e,rfl,c,_⟩:=h;exact .tup c
 |.lst _,_,h=>by
  erw[Is] at h;let⟨a,e,rfl,c,_⟩:=h;calc .lst c
noncomputable def fJ(T c:String):Bool:=T==c||(T=="bool" && c=="int")
section
variable{K:KD}
theorem K9:∀T∈["NoneType", "bool", "int", "str", "tuple", "list"],X_ K (.type T) (.type "bool")=ζ (fJ T "bool"):=by
 ext T a;erw[Uy,Wx,YC] at a;rcases a with rfl|rfl|rfl|rfl|rfl|rfl<;>kernel_rfl
theorem K_:∀T∈["NoneType", "bool", "int", "str", "tuple", "list"],X_ K (.type T) (.type "int")=ζ (fJ T "int"):=by
 ext T a;erw[Uy,Wx,YC] at a;rcases a with rfl|rfl|rfl|rfl|rfl|rfl<;>kernel_rfl
theorem kit_tuple:∀T∈["NoneType", "bool", "int", "str", "tuple", "list"],X_ K (.type T) (.type "tuple")=ζ (fJ T "tuple"):=by
 ext T a;erw[Uy,Wx,YC] at a;rcases a with rfl|rfl|rfl|rfl|rfl|rfl<;>kernel_rfl
theorem La:∀T∈["NoneType", "bool", "int", "str", "tuple", "list"],X_ K (.type T) (.type "list")=ζ (fJ T "list"):=by
 ext T a;erw[Uy,Wx,YC] at a;rcases a with rfl|rfl|rfl|rfl|rfl|rfl<;>kernel_rfl
theorem tH(d:D):iz d∈["NoneType", "bool", "int", "str", "tuple", "list"]:=by cases d<;>simp[iz]
end
section
variable{X:Cx}
theorem JE.weak{e:J}{t t':TE}(h:JE X e t)(k:∀a H Q,t' a H Q->t a H Q):JE X e t':=⟨λb s a H Q I q=>h b s a H Q I (k a H Q q)⟩
theorem JT.weak{e:J}{t t':TT}(h:JT X e t)(k:∀a H Q,t' a H Q->t a H Q):JT X e t':=⟨λb s a H Q I q=>h b s a H Q I (k a H Q q)⟩
theorem JA.weak{es:-J}{t t':TA}(h:JA X es t)(k:∀a H Q,t' a H Q->t a H Q):JA X es t':=⟨λc b s a H Q I q=>h c b s a H Q I (k a H Q q)⟩
theorem JS.weak{st:y}{t t':TS}(h:JS X st t)(k:∀D a H,t' D a H->t D a H):JS X st t':=⟨λb s a H D I q=>h b s a H D I (k D a H q)⟩
theorem ee.weak{st:-y}{t t':TS}(h:ee X st t)(k:∀D a H,t' D a H->t D a H):ee X st t':=⟨λb s a H D I q=>h b s a H D I (k D a H q)⟩
end
section
variable{κ:Type}[DecidableEq κ]
noncomputable def dh(kvs:-(κ×V))(k:κ):Option V:=(kvs.find? λa=>S (a.1=k)).map (·.2)
noncomputable def putK(kvs:-(κ×V))(k:κ)(v:V):-(κ×V) :=
 if(kvs.any λa=>S (a.1=k))=θ then kvs.map (λa=>if a.1=k then(a.1,v) else a) else kvs++[(k,v)]
noncomputable def ni(kvs:-(κ×V))(k:κ):-(κ×V):=kvs.filter λa=>S (a.1≠k)
theorem qP{p:κ×V}{r:-(κ×V)}{k:κ}(e:p.1=k):dh (p::r) k=ζ p.2:=by simp[dh,Zb,e]
theorem qQ{p:κ×V}{r:-(κ×V)}{k:κ}(e:¬ p.1=k):dh (p::r) k=dh r k:=by simp[dh,Zb,e]
theorem wI(k:κ):∀kvs:-(κ×V),(kvs.any λa=>S (a.1=k))=(dh kvs k).isSome
 |[]=>Y
 |p::r=>by
  rw[Wf]
  by_cases e:p.1=k
  .erw[qP e,VH e,q4P,q0F]
  .rw[qQ e,VD e,Bool.false_or];calc wI k r
theorem tI(kvs:-(κ×V))(k:κ)(v:V):↑(putK kvs k v)<=↑kvs+1:=by
 unfold putK;split
 .rw[nW];symm
 .rw[qG,wo,VP];symm
theorem Lb{kvs:-(κ×V)}{k:κ}(v:V)(h:dh kvs k=η):putK kvs k v=kvs++[(k,v)]:=by
 unfold putK;rw[wI,h];calc VC (by decide)
theorem eC.dJ{o:Option V}{u:Option M}(r:eC o u):o.isSome=u.isSome:=by
 cases o with
 |none=>cases u with
  |none=>rfl
  |some _=>exact(show False from r).elim
 |some _=>cases u with
  |none=>exact(show False from r).elim
  |some _=>rfl
theorem KV.val{kvs:-(κ×V)}{vs:-(κ×M)}(r:KV kvs vs)(k:κ):eC (dh kvs k) (valueAt vs k):=by
 unfold KV at r
 induction r with
 |nil=>exact Yv
 | @cons p q i a h t f =>
  let⟨d,g⟩:=h
  by_cases e:p.1=k
  .let c:q.1=k:=d.symm.trans e
   let b:valueAt (q::a) k=ζ q.2:=by simp[valueAt,Zb,c]
   rw[qP e,b];exact g
  .let c:¬ q.1=k:=λz=>e (d.trans z)
   let b:valueAt (q::a) k=valueAt a k:=by simp[valueAt,Zb,c]
   rw[qQ e,b];calc f
theorem KV.any{kvs:-(κ×V)}{vs:-(κ×M)}(r:KV kvs vs)(k:κ):(kvs.any λa=>S (a.1=k))=vs.any λa=>S (a.1=k):=by
 unfold KV at r
 induction r with
 |nil=>rfl
 |cons h t b=>rw[Wf,Wf,b,h.1]
theorem KV.jL{kvs:-(κ×V)}{vs:-(κ×M)}(r:KV kvs vs)(k:κ){y:V}{u:M}(c:RelV y u):
  KV (kvs.map λa=>if a.1=k then(a.1,y) else a) (vs.map λa=>if a.1=k then(a.1,u) else a):=by
 unfold KV at r ⊢
 induction r with
 |nil=>exact .nil
 | @cons p q g i h t d =>
  rw[UB,UB];calc .cons ?_ d;let⟨b,f⟩:=h
  by_cases e:p.1=k
  .rw[VE e,VE (b.symm.trans e)];exact⟨b,c⟩
  .rw[VC e,VC (λz=>e (b.trans z))];calc⟨b,f⟩
theorem KV.put{kvs:-(κ×V)}{vs:-(κ×M)}(r:KV kvs vs)(k:κ){y:V}{u:M}(a:RelV y u):KV (putK kvs k y) (stored vs k u):=by
 unfold putK stored;rw[r.any k]
 by_cases e:(vs.any λb=>S (b.1=k))=θ
 .rw[VE e,VE e];exact r.jL k a
 .rw[VC e,VC e];calc Paired.snoc r ⟨Y,a⟩
theorem KV.drop{kvs:-(κ×V)}{vs:-(κ×M)}(r:KV kvs vs)(k:κ):KV (ni kvs k) (without vs k):=by
 unfold KV at r ⊢;unfold ni without
 induction r with
 |nil=>exact .nil
 | @cons p q i j h t d =>
  let⟨c,f⟩:=h;rw[XB,XB]
  by_cases e:p.1=k
  .let a:¬ S (p.1≠k)=θ:=by simp[e]
   let b:¬ S (q.1≠k)=θ:=by simp[c.symm.trans e]
   rw[VC a,VC b];exact d
  .let g:¬ q.1=k:=λz=>e (c.trans z)
   let a:S (p.1≠k)=θ:=by simp[e]
   let b:S (q.1≠k)=θ:=by simp[g]
   rw[VE a,VE b];calc .cons ⟨c,f⟩ d
theorem KV.length{kvs:-(κ×V)}{vs:-(κ×M)}(r:KV kvs vs):↑kvs=↑vs:=q2j r
theorem Lc(kvs:-(κ×V))(k:κ):↑(ni kvs k)<=↑kvs:=W0 _ _
end
theorem nk{P:X}{w:l}{k:Key}{u:M}(r:RelV (kV k) u):(gJ P w).is k u=θ:=by
 cases k with
 |inl i=>let⟨t,e⟩:=(show ∃t,u=Xm i t from r);subst e;exact Iy P w i t
 |inr x=>let⟨t,e⟩:=(show ∃t,u=q1g x t from r);subst e;calc Iz P w x t
theorem Cj{P:X}{w:l}:∀{ks:-Key}{us:-M},Vals (ks.map kV) us->ItemsAre (gJ P w) ks us
 |[],_,r=>by rw[V9] at r;cases r;exact .nil
 |k::a,_,r=>by
  rw[UB] at r
  cases r with
  |cons h t=>calc .cons (nk h) (Cj t)
abbrev KT(H:Hp):-(-Key×V)->-(-Key×U×M)->Prop:=Paired λp q=>p.1=q.1/\H q.2.1=ζ (.tup (p.1.map kV))/\RelV p.2 q.2.2
theorem KT.val{H:Hp}{kvs:-(-Key×V)}{xs:-(-Key×U×M)}(r:KT H kvs xs)(k:-Key):eC (dh kvs k) ((atKey xs k).map (·.2)):=by
 induction r with
 |nil=>exact Yv
 | @cons p q i a h t f =>
  let⟨d,_,g⟩:=h
  by_cases e:p.1=k
  .let c:q.1=k:=d.symm.trans e
   let b:atKey (q::a) k=ζ q.2:=by simp[atKey,Zb,c]
   rw[qP e,b];exact g
  .let c:¬ q.1=k:=λz=>e (d.trans z)
   let b:atKey (q::a) k=atKey a k:=by simp[atKey,Zb,c]
   rw[qQ e,b];calc f
theorem KT.jL{H:Hp}{kvs:-(-Key×V)}{xs:-(-Key×U×M)}(r:KT H kvs xs)(k:-Key){y:V}{u:M}(d:RelV y u):
  KT H (kvs.map λb=>if b.1=k then(b.1,y) else b) (xs.map (putAt k u)):=by
 induction r with
 |nil=>exact .nil
 | @cons p q i j h t f =>
  rw[UB,UB];calc .cons ?_ f;let⟨a,c,g⟩:=h;unfold putAt
  by_cases e:p.1=k
  .rw[VE e,VE (a.symm.trans e)];exact⟨a,c,d⟩
  .rw[VC e,VC (λz=>e (a.trans z))];calc⟨a,c,g⟩
theorem KT.put{H:Hp}{kvs:-(-Key×V)}{xs:-(-Key×U×M)}(r:KT H kvs xs)(k:-Key){b:U}{y:V}{u:M}(c:H b=ζ (.tup (k.map kV)))(a:RelV y u):
  KT H (putK kvs k y) (storedH xs k b u):=by
 let e:(kvs.any λd=>S (d.1=k))=(atKey xs k).isSome:=by
  rw[wI,(r.val k).dJ,q0W]
 unfold putK storedH;rw[e]
 by_cases q:(atKey xs k).isSome=θ
 .rw[VE q,VE q];exact r.jL k a
 .rw[VC q,VC q];calc Paired.snoc r ⟨Y,c,a⟩
theorem KT.keeps{H H':Hp}{kvs:-(-Key×V)}{xs:-(-Key×U×M)}(r:KT H kvs xs)(a:∀b ys,H b=ζ (.tup ys)->H' b=ζ (.tup ys)):KT H' kvs xs :=
 Paired.nK r λ_ _ z=>⟨z.1,a _ _ z.2.1,z.2.2⟩
section
variable{P:X}{w:l}{H:Hp}{h:Q}{a:U}
theorem Cm{u:HO}(b:fz P w H h)(e:Rd H a u):bp P w H h a u:=e.ok b
theorem pe{kvs:-(Key×V)}(b:fz P w H h)(e:Rd H a (.dK kvs)):↑kvs<=sizeLine/\(a==sysModules)=ι/\∃vs,KV kvs vs/\h.DictOf (gJ P w) a vs :=
 show bp P w H h a (.dK kvs) from Cm b e
theorem nZ{kvs:-(Key×V)}(b:fz P w H h)(e:H a=ζ (.dK kvs)):↑kvs<=sizeLine/\(a==sysModules)=ι/\∃vs,KV kvs vs/\h.DictOf (gJ P w) a vs:=pe b (.inl e)
theorem qR{ks:-Key}(c:fz P w H h)(e:H a=ζ (.tup (ks.map kV))):(tupleKind (gJ P w)).is h ks a:=by
 let⟨_,b,r,o,d,f,n,g⟩:=(show bp P w H h a (.tup (ks.map kV)) from c a _ e);calc⟨o,b.toArray,n,d,f,g,by simpa using Cj r⟩
theorem pf{kvs:-(-Key×V)}(d:fz P w H h)(e:Rd H a (.dT kvs)):↑kvs<=sizeLine/\(a==sysModules)=ι ∧
  ∃xs,KT H kvs xs/\h.DictOfH (tupleKind (gJ P w)) a xs:=by
 let⟨z,y,g,r,o,i,j,k,n,s,u,v⟩:=(show bp P w H h a (.dT kvs) from Cm d e);refine⟨z,y,g,r,o,i,j,k,n,s,u,λx b=>?_,v⟩
 let c:∀{l:-(-Key×V)}{m:-(-Key×U×M)},KT H l m->∀x∈m,(tupleKind (gJ P w)).is h x.1 x.2.1:=by
  ext l m q
  induction q with
  |nil=>ext x b;exact nomatch b
  | @cons p q B C f t A =>
   ext x b;rcases Uy.mp b with e|b
   .subst e
    exact qR d (by rw[<-f.1];calc f.2.1)
   .exact A x b
 calc c r x b
theorem Ld{kvs:-(-Key×V)}(b:fz P w H h)(e:H a=ζ (.dT kvs)):↑kvs<=sizeLine/\(a==sysModules)=ι ∧
  ∃xs,KT H kvs xs/\h.DictOfH (tupleKind (gJ P w)) a xs:=pf b (.inl e)
end
def gL(H:Hp)(a:U)(y:V)(r:Option V):Prop :=
 (∃c k,Rd H a (.dK c)/\y=kV k/\r=dh c k)\/∃c k b,Rd H a (.dT c)/\y=.ref b/\H b=ζ (.tup (k.map kV))/\r=dh c k
def ky(H:Hp)(a:U)(y v:V)(H':Hp):Prop :=
 (∃c k,H a=ζ (.dK c)/\y=kV k/\↑c<sizeLine/\H'=upd H a (.dK (putK c k v))) ∨
 ∃c k b,H a=ζ (.dT c)/\y=.ref b/\H b=ζ (.tup (k.map kV))/\↑c<sizeLine/\H'=upd H a (.dT (putK c k v))
theorem gL.k{H:Hp}{a:U}{kvs:-(Key×V)}{k:Key}(e:H a=ζ (.dK kvs)):gL H a (kV k) (dh kvs k):=.inl ⟨kvs,k,.inl e,Y,Y⟩
theorem ky.k{H:Hp}{a:U}{kvs:-(Key×V)}{k:Key}{v:V}(e:H a=ζ (.dK kvs))(b:↑kvs<sizeLine):ky H a (kV k) v (upd H a (.dK (putK kvs k v))):=.inl ⟨kvs,k,e,Y,b,Y⟩
section
variable{X:Cx}{pins:a5}{σ:St}{H:Hp}{s:L}{a:U}{y v:V}{u r:M}{o:Option V}{A:t}{E:br}
theorem Inv.big(I:Inv X pins σ H s):sysModules<⇑s:=by
 let h:mainGlobals<⇑s:=(I.mod.glob.keeps I.bk).lt;calc q1n (by decide) h
theorem Le{Q:br}(t:A.units+1<cLine)(I:Inv X pins σ H s)(g:gL H a y (ζ v))(r:RelV y u)(h:∀f s',Inv X pins σ H s'->RelV v f->Q f s'):
  G (ς X.prog X.w) A (getItem (.ref a) u) Q E s:=by
 rcases g with⟨i,k,e,j,l⟩|⟨i,k,b,e,j,x,l⟩
 .subst j
  let⟨z,B,C,c,m⟩:=pe I.bf e;let⟨f,n,d⟩:=eC.some_of (v:=v) (o:=valueAt C k) (by rw[l];calc c.val k);exact wpAny_getItem_of (nk r) m.mapOf n (h f _ (I.tok _) d)
 .subst j
  cases(show u=WQ b from r)
  let⟨z,B,D,c,m⟩:=pf I.bf e;let⟨f,n,d⟩:=eC.some_of (v:=v) (o:=(atKey D k).map (·.2)) (by rw[l];calc c.val k);let⟨p,F,q⟩:=KJ.mp n;calc wpAny_getItem_heap (ZD t) (qR I.bf x) m F ?_;rw[q];calc h f _ (I.tok _) d
theorem wJ{Q:br}(n:A.units+1<cLine)(I:Inv X pins σ H s)(g:gL H a y o)(m:RelV y u)(h:∀s',Inv X pins σ H s'->Q (.bool o.isSome) s'):
  G (B X.prog X.w) A (compareOp .In u (.ref a)) Q E s:=by
 rcases g with⟨d,k,e,f,l⟩|⟨d,k,b,e,f,p,l⟩
 .subst f
  let⟨z,i,r,c,j⟩:=pe I.bf e;calc wpAny_in_of (nk m) i j.mapOf ?_;rw[<-(c.val k).dJ,<-l];exact h _ (I.tok _)
 .subst f
  cases(show u=WQ b from m)
  let⟨z,i,t,c,j⟩:=pf I.bf e;calc wpAny_in_heap (ZD n) (qR I.bf p) i j ?_;let q:=(c.val k).dJ;rw[q0W] at q;rw[<-q,<-l];calc h _ (I.tok _)
theorem Lf{Q:br}(n:A.units+1<cLine)(I:Inv X pins σ H s)(g:gL H a y o)(m:RelV y u)(h:∀s',Inv X pins σ H s'->Q (.bool (!o.isSome)) s'):
  G (B X.prog X.w) A (compareOp .NotIn u (.ref a)) Q E s:=by
 rcases g with⟨d,k,e,f,l⟩|⟨d,k,b,e,f,p,l⟩
 .subst f
  let⟨z,i,r,c,j⟩:=pe I.bf e;calc wpAny_notIn_of (nk m) i j.mapOf ?_;rw[<-(c.val k).dJ,<-l];exact h _ (I.tok _)
 .subst f
  cases(show u=WQ b from m)
  let⟨z,i,t,c,j⟩:=pf I.bf e;calc wpAny_notIn_heap (ZD n) (qR I.bf p) i j ?_;let q:=(c.val k).dJ;rw[q0W] at q;rw[<-q,<-l];calc h _ (I.tok _)
theorem qT{h':Q}{t':Nat}{c:HO}(I:Inv X pins σ H s)(mu:qb (H a))(hs:Zk a s.heap h')(he:∃q,h'.get? a=ζ q)(d:bp X.prog X.w (upd H a c) h' a c):
  Inv X pins σ (upd H a c) {s with heap:=h',toks:=t'} :=
 I.write (x:=a) (e:=a) mu (.inl Y) (λb q f z=>(hs.2 b f).trans z) he d
theorem tJ{P:ψ}{w:l}{H':Hp}{h':Q}{kvs:-(Key×V)}{vs:-(Key×M)}(z:↑kvs<=sizeLine)(hd:(a==sysModules)=ι)(b:KV kvs vs)(c:h'.DictOf (gJ P w) a vs):
  bp P w H' h' a (.dK kvs):=⟨z,hd,vs,b,c⟩
theorem Lg{H':Hp}{Q:Unit->ο->Prop}(K:A.units+1<cLine)(I:Inv X pins σ H s)(g:ky H a y v H')(C:RelV y u)(D:RelV v r)(h:∀s',Inv X pins σ H' s'->Q () s'):
  ρ (ς X.prog X.w) A (setItem (.ref a) u r) Q E s:=by
 rcases g with⟨d,k,e,m,l,n⟩|⟨d,k,b,e,m,F,l,n⟩
 .subst m n
  let⟨z,o,L,f,p⟩:=nZ I.bf e;let t:↑L<=sizeLine:=by rw[<-↑f];exact z
  let x:↑(putK d k v)<=sizeLine:=by let:=tI d k v;symm
  calc wpAny_setItem_pairs (hsz:=t) (nk C) p λG i B=>h _ ?_;let M:∃q,G.get? a=ζ q:=let⟨q,_,_,j,_⟩:=i;⟨q,j⟩;exact qT I (by rw[e];calc Yv) B M (tJ x o (f.put k D) i)
 .subst m n
  cases(show u=WQ b from C)
  let⟨z,o,N,f,p⟩:=Ld I.bf e;let t:↑N<=sizeLine:=by rw[<-q2j f];exact z
  let x:↑(putK d k v)<=sizeLine:=by let:=tI d k v;symm
  calc wpAny_setItem_heap (hsz:=t) (ZD K) (qR I.bf F) p λG i B=>h _ ?_;let⟨q,O,P,j,R,S,T,_,U⟩:=i;calc qT I (by rw[e];calc Yv) B ⟨q,j⟩ ⟨x,o,_,(f.put k F D).keeps λc V J=>?_,q,O,P,j,R,S,T,U⟩;rw[bt (IA J e (λz=>nomatch z))];calc J
end
section
variable{X:Cx}{pins:a5}{σ:St}{H:Hp}{s:L}{a:U}{kvs:-(Key×V)}{k:Key}{u:M}{A:t}{E:br}
theorem Lh{v:V}{more:-M}{Q:br}(I:Inv X pins σ H s)(e:H a=ζ (.dK kvs))(f:RelV (kV k) u)(l:dh kvs k=ζ v)(j:more=[]\/∃x,more=[x])
  (h:∀c s',Inv X pins σ (upd H a (.dK (ni kvs k))) s'->RelV v c->Q c s'):ρ (ς X.prog X.w) A (call (.builtin "dict.pop") (.ref a::u::more)) Q E s:=by
 let⟨z,p,m,b,n⟩:=nZ I.bf e;let⟨c,r,g⟩:=eC.some_of (v:=v) (o:=valueAt m k) (by rw[<-l];calc b.val k)
 let y:(keyPart u).isSome=θ:=by
  cases k with
  |inl i=>let⟨t,q⟩:=(show ∃t,u=Xm i t from f);subst q;rfl
  |inr x=>let⟨t,q⟩:=(show ∃t,u=q1g x t from f);subst q;rfl
 let B:argsOk "dict.pop" ⟨.ref a::u::more,[]⟩:=by
  rcases j with q|⟨x,q⟩
  .subst q;exact PySem.F.args_dict_pop_2 _ _
  .subst q;exact PySem.F.args_dict_pop_3 _ _ _
 refine q2U q1P n.typeIs PySem.F.entry_dict_pop B (meets_dict_pop_there (gJ X.prog X.w) a (nk f) more j y)
  ⟨m,c,n,by rw[<-↑b];calc z,r,λC d D=>h c _ ?_ g⟩
 let J:∃q,C.get? a=ζ q:=let⟨q,_,_,G,_⟩:=d;⟨q,G⟩;calc qT I (by rw[e];calc Yv) D J (tJ (Wr (Lc kvs k) z) p (b.drop k) d)
end
def n6(i:J):Prop:=∀a b,subscripted i ι a b=operate [a,b] (getItem a b)
theorem Li{prog:X}{w:ω}{A:t}{E:br}{s:L}{env:u}{b a:J}{pos:I}{T l:String}{Q:br}
  (m:typeLookup (.type T) "__getitem__" = pure (ζ (.builtin l))) (hs:n6 a)
  (h:G (B prog w) A (eval b env) (λo e=>G (B prog w) A (eval a env) (λi c=>c.TypeIs o T/\G (B prog w) A (getItem o i) Q E c) E e) E s) :
  G (B prog w) A (eval (.Subscript b a pos) env) Q E s:=by
 calc Subscript_ (X0 h (λo e g=>X0 g (λi c d=>?_) λ_ _ x=>x) λ_ _ x=>x);let⟨k,d⟩:=d;unfold subscriptTail;calc nX ?_;rw[getitemInPython_of_ne k.not_modules];refine nX (q0e k m ?_)
 let fin:G (B prog w) A (subscripted a ι o i) (λr f=>G (B prog w) A (letTemporaryGo b o r >>= λ_=>pure r) Q E f) E c:=by
  rw[hs o i];exact wpAny_operating (X0 d (λr f j=>nX (wpAny_letTemporaryGo (B7 j))) λ_ _ x=>x)
 first
  |exact B7 (nX fin)
  |exact nX (B7 (nX fin))
  |calc nX fin
theorem Lj{X:Cx}{c:a5}{h:St}{H:Hp}{s:L}{a:U}{y:V}{o:Option V}(I:Inv X c h H s)(g:gL H a y o):s.TypeIs (.ref a) "dict" := by
 rcases g with⟨d,k,e,_,_⟩|⟨d,k,b,e,_,_,_⟩
 .let⟨_,_,i,_,f⟩:=pe I.bf e
  exact f.typeIs
 .let⟨_,_,j,_,f⟩:=pf I.bf e
  calc f.typeIs
def Lk(d e:TE):TE:=λb H Q=>d b H λx f=>e b f λy c=>∃a v,x=.ref a/\gL c a y (ζ v)/\Q v c
def qU(d e:TE):TE:=λb H Q=>d b H λy f=>e b f λx c=>∃a o,x=.ref a/\gL c a y o/\Q (.bl o.isSome) c
def Co(d e:TE):TE:=λb H Q=>d b H λy f=>e b f λx c=>∃a o,x=.ref a/\gL c a y o/\Q (.bl (!o.isSome)) c
def Ll(d e f:TE):TS:=λD b H=>f b H λv g=>d b g λx h=>e b h λy i=>∃a c,x=.ref a/\ky i a y v c/\D.nx b c
section
variable{X:Cx}{o i e value:J}{pos pos' vW:I}{td ty tv:TE}
theorem Lm(f:X.A.units+1<cLine)(j:JE X o td)(k:JE X i ty)(hs:n6 i):JE X (.Subscript o i pos) (Lk td ty):=by
 calc⟨?_⟩;ext b s d H Q I h;calc Li PySem.F.slot_dict_getitem.lookup hs (bE (j b s d H _ I h) λu l ⟨x,m,n,p,q⟩=>bE (k b l d m _ n q) λC D ⟨y,r,e,t,a,v,w,g,z⟩=>?_);subst w;obtain rfl:u=WQ a:=p;calc⟨Lj e g,Le f e g t λE G B c=>⟨v,r,B,c,z⟩⟩
theorem Ln(d:X.A.units+1<cLine)(e:JE X i ty)(f:JE X o td):JC X .In i o (qU ty td):=by
 calc⟨?_⟩;ext b s c H Q I h;calc bE (e b s c H _ I h) λB j ⟨y,k,l,m,n⟩=>bE (f b j c k _ l n) λu C ⟨x,p,q,r,a,t,v,g,w⟩=>?_;subst v;obtain rfl:u=WQ a:=r;calc wJ d q g m λD z=>⟨.bl t.isSome,p,z,Y,w⟩
theorem Lo(d:X.A.units+1<cLine)(e:JE X i ty)(f:JE X o td):JC X .NotIn i o (Co ty td):=by
 calc⟨?_⟩;ext b s c H Q I h;calc bE (e b s c H _ I h) λB j ⟨y,k,l,m,n⟩=>bE (f b j c k _ l n) λu C ⟨x,p,q,r,a,t,v,g,w⟩=>?_;subst v;obtain rfl:u=WQ a:=r;calc Lf d q g m λD z=>⟨.bl (!t.isSome),p,z,Y,w⟩
theorem Cp(d:X.A.units+1<cLine)(e:JE X o td)(f:JE X i ty)(j:JE X value tv)(hs:swapsWith value (ζ (.Subscript o i pos')) pos.line X.env=pure ι):
  JS X (.Assign [.Subscript o i pos'] value pos) (Ll td ty tv):=by
 calc⟨?_⟩;ext b s c H D I h;calc wpAny_Assign_Subscript (bE (j b s c H _ I h) λr k ⟨v,l,m,n,p⟩=>bE (e b k c l _ m p) λu q ⟨x,t,w,z,B⟩=>bE (f b q c t _ w B) λL M ⟨y,N,C,E,a,F,G,g,J⟩=>?_) hs;subst G;obtain rfl:u=WQ a:=z;calc Lg d C g E n λO K=>⟨c,F,K,J⟩
end
theorem Cq{P:X}{w:l}{H:Hp}(h:Q)(a:sysModules<h.objs.size):bp P w H (h.push {cls:=.type "dict",data:=.dict #[]}) h.objs.size (.dK []) :=
 ⟨VY _,YZ.mpr (Yz (VF a)),[],.nil,Heap.DictOf.new h⟩
def Cr:TE:=λ_ H Q=>∀p,H p=η->Q (.ref p) (upd H p (.dK []))
section
variable{X:Cx}{pos:I}
theorem jc:JE X (.Dict [] [] pos) Cr:=⟨λb s c H Q I h =>
 wpAny_Dict_empty ⟨.ref ⇑s,_,I.laid (a:=s.heap.objs.size) (o:=.dK []) (t':=s.toks) (λ_ _ q=>B5 _ q) (B6 _) (Cq s.heap I.big),Y,h _ (I.bf.fresh (B6 _))⟩⟩
end
def tK:-(TE×TE)->St->Hp->(-(V×V)->Hp->Prop)->Prop
 |[],_,H,Q=>Q [] H
 |(b,c)::r,a,H,Q=>b a H λx d=>c a d λy e=>tK r a e λf g=>Q ((x,y)::f) g
abbrev VV:-(V×V)->-(M×M)->Prop:=Paired λp q=>RelV p.1 q.1/\RelV p.2 q.2
def qV(X:Cx)(pos:I)(keys:-(Option J))(a:-J)(c:-(TE×TE)):Prop :=
 ∀(b:a5)(s:L)(d:St)(H:Hp)(Q:-(V×V)->Hp->Prop),Inv X b d H s->tK c d H Q →
  G (B X.prog X.w) X.A (evalPairs (pairTrees keys a X.env pos)) (λg h=>∃e f,Inv X b d f h/\VV e g/\Q e f) X.xe s
theorem Lp{X:Cx}{pos:Ε}:qV X pos [] [] []:=λa s b H Q I h=>pairTrees_nil_walk ⟨[],H,I,.nil,h⟩
theorem Lq{X:Cx}{pos:Ε}{k v:J}{ks:-(Option J)}{vs:-J}{tk e:TE}{b:-(TE×TE)}(f:JE X k tk)(g:JE X v e)(i:qV X pos ks vs b):
  qV X pos (ζ k::ks) (v::vs) ((tk,e)::b):=λa s c H Q I h =>
 pairTrees_cons_walk (bE (f a s c H _ I h) λu j ⟨x,l,m,n,o⟩↦bE (g a j c l _ m o) λD p ⟨y,q,r,t,w⟩ ↦
  bE (i a p c q _ r w) λE F ⟨z,A,B,d,C⟩↦⟨(x,y)::z,A,B,.cons ⟨n,t⟩ d,C⟩)
noncomputable def n7(kvs more:-(Key×V)):-(Key×V):=more.foldl (λa b=>putK a b.1 b.2) kvs
theorem KV.merge:∀{more:-(Key×V)}{rs:-(Key×M)}{kvs:-(Key×V)}{vs:-(Key×M)},KV more rs->KV kvs vs->KV (n7 kvs more) (merged vs rs):=by
 ext b g a c r;unfold KV at r
 induction r generalizing a c with
 |nil=>ext q;exact q
 | @cons p q i j h t d =>
  ext f
  let e:KV (putK a p.1 p.2) (stored c q.1 q.2):=by
   let:=f.put p.1 h.2;rw[<-h.1];exact this
  calc d e
theorem Cu:∀(more kvs:-(Key×V)),↑(n7 kvs more)<=↑kvs+↑more
 |[],a=>by show ↑a<=↑a+0;symm
 |p::r,a=>by
  let b:=Cu r (putK a p.1 p.2);let c:=tI a p.1 p.2;show↑(n7 (putK a p.1 p.2) r)<=_;rw[wo];symm
theorem Cv{P:X}{w:l}:∀{kvs:-(Key×V)}{ws:-(M×M)},VV (kvs.map λd=>(kV d.1,d.2)) ws->∃rs,Carries (gJ P w) ws rs/\KV kvs rs
 |[],_,r=>by rw[V9] at r;cases r;exact⟨[],Yv,.nil⟩
 |p::e,_,r=>by
  rw[UB] at r
  cases r with
  | @cons a b i j h t =>
   let⟨f,c,q⟩:=Cv (P:=P) (w:=w) t;let⟨k,g⟩:=b;calc⟨(p.1,g)::f,⟨nk h.1,Y,c⟩,.cons ⟨Y,h.2⟩ q⟩
def Lr(b:-(TE×TE)):TE:=λe H Q=>∀p,H p=η->tK b e (upd H p (.dK [])) λf c=>c p=ζ (.dK [])/\∃a:-(Key×V),f=a.map (λd=>(kV d.1,d.2))/\↑a<=15/\Q (.ref p) (upd c p (.dK (n7 [] a)))
theorem Ls{X:Cx}{pos:Ε}{keys:-(Option υ)}{b:-υ}{d:-(TE×TE)}(h:qV X pos keys b d)(f:keys.all (·.isSome)=θ)(n:↑keys=↑b)(p:keys≠[])
  (k:↑keys<=15):JE X (.Dict keys b pos) (Lr d):=by
 calc⟨?_⟩;ext g s r H Q I q;let t:=I.bf.fresh (B6 ⇑s);let u:=I.laid (a:=s.heap.objs.size) (o:=.dK []) (h':=s.heap.push {cls:=.type "dict",data:=.dict #[]}) (t':=s.toks) (λ_ _ q=>B5 _ q) (B6 _) (Cq s.heap I.big);calc wpAny_Dict_walk (knd:=gJ X.prog X.w) f n p k (bE (h g _ r _ _ u (q _ t)) λM N ⟨O,R,m,l,e,i,v,S,x⟩=>?_);subst v;let⟨y,c,A⟩:=Cv (P:=X.prog) (w:=X.w) l;let⟨z,B,C,D,E⟩:=nZ m.bf e;cases D
 refine⟨y,c,E,λh' j F=>⟨.ref ⇑s,_,?_,Y,x⟩⟩
 let G:↑(n7 [] i)<=sizeLine:=by
  let J:=Cu i [];rw[VP] at J;rw[Yh];symm
 let L:∃q,h'.get? ⇑s=ζ q:=let⟨q,_,_,K,_⟩:=j;⟨q,K⟩;calc qT m (by rw[e];calc Yv) F L (tJ G B (A.merge .nil) j)
structure M1(X:Cx)(o:J)(m:R)(apos:I)(e:J)(eG:I):Prop where
 base:attributeBase o m X.env (eval o X.env)=eval o X.env
 iT:((backTo eG (starEach [e] X.env)).all (λx => !x.1)&&(backToKw eG (keywordEach [] X.env)).all (λx=>x.1.isSome)
  && S (↑([e]:-J)+↑([]:-Keyword)+(if([]:-Keyword).isEmpty then 0 else 1)<30))=θ
 line:(apos.endLine==eG.line)=θ
 trees:backTo eG (starEach [e] X.env)=[(ι,eval e X.env)]
def Cw(H:Hp)(a:U):Prop:=(∃b,Rd H a (.dK b))\/∃b,Rd H a (.dT b)
theorem Lu{X:Cx}{f:a5}{l:St}{H:Hp}{s:L}{a:U}(I:Inv X f l H s)(d:Cw H a):
  s.TypeIs (.ref a) "dict" /\ (∀b,WQ a=.ref b->∃c,s.heap.get? b=ζ c/\c.dict=η)/\(a==sysModules)=ι:=by
 rcases d with⟨h,e⟩|⟨h,e⟩
 .let⟨_,i,m,_,g⟩:=pe I.bf e
  calc⟨g.typeIs,λb q=>?_,i⟩;cases q
  let⟨c,_,_,j,k,_⟩:=g;exact⟨c,j,k.2.1⟩
 .let⟨_,i,n,_,g⟩:=pf I.bf e
  calc⟨g.typeIs,λb q=>?_,i⟩;cases q
  let⟨c,_,_,j,k,_⟩:=g;calc⟨c,j,k.2.1⟩
section
variable{X:Cx}{pins:a5}{σ:St}{H:Hp}{s:L}{a:U}{y d:V}{u r:M}{o:Option V}{A:t}{E:br}
end
def Lw(f g:TE):TE:=λc H Q=>f c H λx d=>∃a,x=.ref a/\Cw d a/\g c d λy e=>∃b k v,e a=ζ (.dK b)/\y=kV k/\dh b k=ζ v/\Q v (upd e a (.dK (ni b k)))
section
variable{X:Cx}{o e f:J}{apos eG:I}{td ty tx:TE}
theorem Lx(i:JE X o td)(he:JE X e ty)(m:M1 X o "pop" apos e eG):JE X (.Call (.Attribute o "pop" apos) [e] [] eG) (Lw td ty):=by
 calc⟨?_⟩;ext b s f H Q I h;calc wpAny_Call_method m.base m.iT m.line ZI q1P PySem.F.type_dict_pop (bE (i b s f H _ I h) λu j ⟨x,n,g,p,a,q,d,r⟩=>?_);subst q;obtain rfl:u=WQ a:=p;let⟨t,w,_⟩:=Lu g d;calc⟨t,w,?_⟩;rw[m.trees];calc ZU Y (q12 (q2t (bE (he b j f n _ g r) λJ K ⟨y,L,z,A,B,k,v,C,D,l,E⟩=>q2M ?_)));subst D;calc Lh z C A l (.inl Y) λM N G c=>⟨v,_,G,c,E⟩
end
section
variable{X:Cx}{pins:a5}{σ:St}{H:Hp}{s:L}{a:U}{kvs:-(Key×V)}{A:t}{E:br}
end
section
variable{X:Cx}{pins:a5}{σ:St}{H:Hp}{s:L}{a:U}{y:V}{u:M}{A:t}{E:br}
end
end L2
namespace L2
section
variable{κ:Type}[DecidableEq κ]
end
end L2
namespace L2
open PySem PySem.Spec PyProof.Rows
end L2
namespace LJS
open PySem
noncomputable def hp(i j:Int):Int:=reduceHash (Builtin.Tuple.tupleHashOf [hashInt i,hashInt j])
theorem Cy{prog:X}{w:l}(i j:Int):hT prog w [i,j]=hp i j:=rfl
noncomputable def tL:-(Int×Int):=(Wq 12).flatMap λj=>(Wq j).map λi:Nat=>(q28 i,q28 j)
theorem Ly:∀a∈tL,∀b∈tL,hp a.1 a.2=hp b.1 b.2->a=b:=by decide +kernel
theorem Cz{i j:Int}(c:0<=i)(d:i<j)(e:j<12):(i,j)∈tL:=by
 let⟨a,rfl⟩:∃a:Nat,i=a:=⟨i.toNat,⋯⟩;let⟨b,rfl⟩:∃b:Nat,j=b:=⟨j.toNat,⋯⟩;unfold tL;calc q29.mpr ⟨b,Wz.mpr ⋯,VI.mpr ⟨a,Wz.mpr ⋯,Y⟩⟩
end LJS
namespace L2
open PySem PySem.Spec PyProof.Rows
noncomputable def lj(S:U)(n:Nat):HO:=.ext λh=>∃a:-Int,↑a=n/\LJS.g4 h S a
theorem Lz{P:X}{w:l}{H:Hp}{h:Q}{S:U}{hs:-Int}{n:Nat}(e:LJS.g4 h S hs)(hn:↑hs=n):bp P w H h S (lj S n) :=
 ⟨⟨hs,hn,e⟩,let⟨o,_,_,_,b,_⟩:=e;⟨o,b⟩,λg i ⟨a,c,d⟩ k↦⟨a,c,LJS.vv d λo f=>k o f⟩⟩
section
variable{X:Cx}
theorem CA:∀{b:-U}{a:-M},Vals (b.map V.ref) a->a=b.map WQ
 |[],_,.nil=>Y
 |_::_,_,.cons r c=>by cases r;rw[CA c];rfl
theorem LA(Z:X.calm=θ)(hu:X.A.units+64<cLine):g6 X (.type "set") (λxs H Q=>∃(l:ξ)(g:-ξ)(ks:-(Int×Int)),xs=[.ref l]/\bS X.K H l (g.map V.ref)/\↑g=↑ks ∧
  (∀(i:Nat)(a:ξ)(k:Int×Int),g[i]?=ζ a->ks[i]?=ζ k->H a=ζ (.tup [.int k.1,.int k.2]))/\(∀k∈ks,0<=k.1/\k.1<k.2/\k.2<12)/\ks.Nodup/\↑ks<=30/\∀p,H p=η->Q (.ref p) (upd H p (lj p ↑ks))):=by
 ext T s σ H xs us Q I r h;let⟨l,g,c,rfl,hq,x,t,U,D,E,q⟩:=h;let⟨u,rfl,rx⟩:=vals1 r;cases rx
 let⟨lg,r',pl,_⟩:=I.list hq;obtain rfl:=CA r';let y:(g.map WQ).toArray.size=↑c:=by rw[KG,nW,x]
 let f:∀i,i<↑c->∃k,c[i]?=ζ k/\c.getD i (0,0)=k:=λi d=>⟨c[i],tE d,by rw[KH,tE d];rfl⟩;let w:∀i,i<↑c->∃a,g[i]?=ζ a/\g.getD i 0=a:=λi d=>⟨g[i]'(by rw[x];calc d),tE (by rw[x];calc d),by rw[KH,tE (by rw[x];calc d)];rfl⟩;refine LJS.Ia (λi=>g.getD i 0) (λi=>[(c.getD i (0,0)).1,(c.getD i (0,0)).2]) (I.ok.hd Z) ⋯ pl.isList (λi v W=>?_) (λi d=>?_) (λi j d hj=>?_) (by rw[y];calc E) λh' tk se kp=>?_
 .rw[YD,B8] at W
  let⟨a,F,rfl⟩:=KJ.mp W;rw[KH,F];rfl
 .rw[y] at d
  let⟨k,B,G⟩:=f i d;let⟨a,F,da⟩:=w i d;show IsTupleKey _ _ [(c.getD i (0,0)).1,(c.getD i (0,0)).2] (g.getD i 0);rw[G,da];let⟨_,Y,r2,o,ho,J,n,hd⟩:=I.bf a _ (t i a k F B)
  cases r2 with
  |cons ra rr =>
   cases rr with
   |cons rb rn =>
    cases rn
    let⟨t1,rfl⟩:=ra;let⟨t2,rfl⟩:=rb;exact⟨o,_,n,ho,J,hd,.cons (ZA ..) (.cons (ZA ..) .nil)⟩
 .rw[y] at d
  let⟨k,B,G⟩:=f i d;let⟨C,m,L⟩:=f j ⋯;show LJS.hT _ _ [(c.getD j (0,0)).1,(c.getD j (0,0)).2]≠LJS.hT _ _ [(c.getD i (0,0)).1,(c.getD i (0,0)).2];rw[G,L,LJS.Cy,LJS.Cy];ext z;let M:=U k (VL.mpr ⟨i,B⟩);let N:=U C (VL.mpr ⟨j,m⟩);let e:=LJS.Ly (C.1,C.2) (LJS.Cz N.1 N.2.1 N.2.2) (k.1,k.2) (LJS.Cz M.1 M.2.1 M.2.2) z;let e':C=k:=e;rw[e'] at m;let⟨O,P⟩:=pa.mp m;let⟨R,S⟩:=pa.mp B;let:=(Y3 (h₀:=O) (h₁:=R) D).mp (by rw[P,S]);symm
 .calc⟨.ref ⇑s,upd H ⇑s (lj ⇑s ↑c),I.laid (t':=tk) (λb o e=>kp b o (Vz e) e) (B6 _) (Lz se (by rw[nW,Xq,y])),rfl,q _ (I.bf.fresh (B6 _))⟩
theorem LB:g6 X (.builtin "len") (λxs H Q=>∃(p:U)(n:Nat),xs=[.ref p]/\H p=ζ (lj p n)/\n<1000/\Q (.int n) H):=by
 ext b s l H k m Q I r h;let⟨p,n,rfl,c,v,q⟩:=h;let⟨u,rfl,d⟩:=vals1 r;cases d
 let⟨⟨w,f,o,g,x,t,i,a,j,T⟩,_⟩:=I.bf p _ c;let e:g.size=n:=by rw[T.num,f]
 calc call_len_set i a j T.fits ⋯ ⟨.int n,H,I.tok _,⟨_,by rw[e]⟩,q⟩
theorem CB:∀{bs:-Bool}{a:-M},Vals (bs.map V.bl) a->a=bs.map Y9
 |[],_,.nil=>Y
 |_::_,_,.cons r b=>by cases r;rw[CB b];rfl
theorem all_range(bs:-Bool):(Wq bs.length).all (λi=>bs.getD i θ)=bs.all id:=by
 rw[Bool.eq_iff_iff,Yg,Yg]
 constructor
 .ext h b d
  let⟨i,a⟩:=VL.mp d;let c:=(pa.mp a).1;let:=h i (Wz.mpr c);rw[KH,a] at this;exact this
 .ext h i a
  let c:=Wz.mp a;rw[KH,tE c];calc h _ (Yi c)
theorem LC(j:X.calm=θ):g6 X (.builtin "all") (λxs H Q=>∃(l:U)(bs:-Bool),xs=[.ref l]/\bS X.K H l (bs.map V.bl)/\Q (.bl (bs.all id)) H):=by
 ext g s F H E G Q I r h;let⟨l,c,rfl,k,q⟩:=h;let⟨u,rfl,m⟩:=vals1 r;cases m
 let⟨n,p,t,_⟩:=I.list k;obtain rfl:=CB p;let f:=t.isList;let w:l<⇑s:=by let⟨o,e,_⟩:=f;exact Vz e
 let x:l≠⇑s:=VF w;calc call_all_walk (Yt f ?_);refine⟨⇑s,_,_,_,_,_,λi=>c.getD i θ,Y,ZC (by rw[ZE];calc I.ok.hd j) ⇑s l x _,⟨⟨_,UD _ Y,Y,Y⟩,f.push _⟩,λi v y A J d a=>?_,λL B C=>?_⟩
 .let d:(c.map Y9).toArray[i]?=ζ v:=d
  let a:A (c.getD i θ) y:=a;rw[YD,B8] at d;let⟨b,D,rfl⟩:=KJ.mp d;rw[KH,D] at a;exact Yu a
 .refine⟨.bl (c.all id),H,I.kept (t':=B) λb o e=>C b o (λz=>?_) (B5 _ e),?_,q⟩
  .let:=Vz e
   rw[Wn.mp z] at this;exact X9 _ this
  .show Y9 _=Y9 _
   rw[KG,nW,all_range]
end
end L2
namespace LJ
open PySem L2
structure Fn(P:X)(w:l)(K:KD)(mg:R->Option M)(base:Q)(k:Nat)(x:R)(ps:-R)(sp:Sp)(f:U)(fd:FuncData):Prop where
 ok:cG P w K mg base fZ k f fd ps sp
 ph:mg x=ζ (.ref f)
 kp:XA K (.ref f)=θ
 bd:Binds K fd ps []
theorem LF:bootBuiltins "bool" = ζ (.type "bool"):=by decide +kernel
theorem LG:bootBuiltins "int" = ζ (.type "int"):=by decide +kernel
theorem CD:bootBuiltins "tuple" = ζ (.type "tuple"):=by decide +kernel
theorem lX:bootBuiltins "list" = ζ (.type "list"):=by decide +kernel
theorem qW:bootBuiltins "set" = ζ (.type "set"):=by decide +kernel
theorem LH:bootBuiltins "all" = ζ (.builtin "all"):=by decide +kernel
section
variable{K:KD}
end
structure aH(many:Int)(ys:-(Int×Int×Int)):Prop where
 m1:1<=many
 iA:many<=12
 jE:↑ys<=30
 ends:∀y∈ys,0<=y.1/\y.1<y.2.1/\y.2.1<many/\0<=y.2.2/\y.2.2<=1000000000
 unlike:(ys.map λy=>(y.1,y.2.1)).Nodup
end LJ
namespace L2
open PySem PySem.Spec PyProof.Rows
section
variable{X:Cx}
end
end L2
namespace LJ
open PySem L2
noncomputable def jZ:Nat->-(Int×Int)
 |0=>[]
 |n+1=>jZ n++(Wq n).map λa:Nat=>(q28 a,q28 n)
theorem wK:∀{n:Nat}{k:Int×Int},k∈jZ n->0<=k.1/\k.1<k.2/\k.2<n
 |0,_,h=>nomatch h
 |n+1,k,h=>by
  rcases VZ.mp h with h|h
  .let:=wK h;symm
  .let⟨a,b,rfl⟩:=VI.mp h
   let:=Wz.mp b;refine⟨Int.natCast_nonneg a,?_,?_⟩
   .show (a:Int)<(n:Int);symm
   .show (n:Int)<((n+1:Nat):Int);symm
theorem CF:∀n:Nat,(jZ n).Nodup
 |0=>YL
 |n+1=>by
  refine Xs.mpr ⟨CF n,?_,λk c g d e=>?_⟩
  .refine XO.mpr (q0_.imp λ{a b} f e=>f ?_)
   exact q4i (congrArg q5T e)
  .subst e
   let⟨a,h,rfl⟩:=VI.mp d;let:=(wK c).2.2;let:(n:Int)<(n:Int):=this;symm
theorem CG:∀n:Nat,n<=12->↑(jZ n)<=66:=by
 ext n h;rcases n with _|_|_|_|_|_|_|_|_|_|_|_|_|n
 all_goals first|decide|symm
end LJ
namespace LJ
open PySem
theorem CH{j n:Nat}(h:j<n):seqIndex? (j:Int) n=ζ j:=by
 unfold seqIndex?
 first|(simp;symm)|skip
end LJ
namespace L2
open PySem PySem.Spec PyProof.Rows
section
variable{X:Cx}
theorem LI:g6 X (.type "range") (λxs H Q=>∃j:Int,xs=[.int j]/\∀r,H r=η->Q (.ref r) (upd H r (.rng 0 j))):=by
 ext a s d H c f Q I r h;let⟨j,rfl,q⟩:=h;let⟨u,rfl,t,rfl⟩:=vals1 r;calc call_range_1 ⟨.ref ⇑s,_,I.laid (t':=s.toks+1+1) (o:=.rng 0 j) (λb o e=>B5 _ e) (B6 _) ?_,Y,q _ (I.bf.fresh (B6 _))⟩;calc⟨_,_,_,UD _ Y⟩
noncomputable def bK(n:Nat):-Int:=(Wq n).map λa:Nat=>(a:Int)
theorem CI:∀{ns:-Int}{us:-M},↑us=↑ns->(∀(i:Nat)(u:M),us[i]?=ζ u->∃t,u=.int (ns.getD i 0) t)->Vals (ns.map V.int) us
 |[],[],_,_=>.nil
 |[],_::_,h,_=>by simp at h
 |_::_,[],h,_=>by simp at h
 |n::b,u::c,h,g=>by
  let⟨t,e⟩:=g 0 u Y;calc .cons ⟨t,e⟩ (CI h⁻¹ λi v a=>?_);let⟨t,e⟩:=g (i+1) v a⁻¹;calc⟨t,by simpa using e⟩
theorem LL(f:X.calm=θ):g6 X (.type "list") (λxs H Q=>∃(r:U)(n:Nat),xs=[.ref r]/\H r=ζ (.rng 0 (n:Int))/\n<=1000/\∀l,H l=η->Q (.ref l) (upd H l (.lst ((bK n).map V.int)))):=by
 ext d s C H B D Q I r h;let⟨a,n,rfl,g,j,q⟩:=h;let⟨u,rfl,k⟩:=vals1 r;cases k
 let⟨t,u,v,e⟩:=(show ∃t u v,s.heap.get? a=ζ {cls:=.type "range",data:=.fields #[.int 0 t,.int (n:Int) u,.int 1 v]} from I.bf a _ g);let m:q1i 0 (n:Int) 1=n:=by rw[q4d];split<;>symm
 calc call_list_range (n:=n) (I.ok.hd f) e (small_one ⋯ ⋯ ⋯ ⋯) m ⋯ λE p b w x y c=>?_;calc⟨.ref ⇑s,_,I.laid (t':=p) (o:=.lst ((bK n).map V.int)) x (B6 _) ?_,Y,q _ (I.bf.fresh (B6 _))⟩;calc⟨Xd (kW (by rw[nW,bK,nW,Xq];calc j)),b.toList,w,?_,by simpa using y⟩;refine CI ?_ λi u e=>?_
 .rw[UC,c.1,bK,nW,Xq]
 .rw[Wt] at e
  let⟨t',z⟩:=c.2 i u e;let A:i<n:=by rw[<-c.1];exact(q0r.mp e).1
  calc⟨t',z.trans ?_⟩;rw[bK,KH,B8,Yx A];show Xm (0+(i:Int)*1) t'=Xm (i:Int) t';rw[q2V,q5M]
theorem tM:∀{us:-M}{ns:-Int},IntsAre us ns->Vals (ns.map V.int) us
 |_,_,.nil=>.nil
 |_,_,.cons n t r=>.cons ⟨t,Y⟩ (tM r)
theorem LM:g6 X (.builtin "sorted") (λxs H Q=>∃(l:U)(ns:-Int),xs=[.ref l]/\bS X.K H l (ns.map V.int)/\↑ns<64/\∀(r:U)(a:-Int),a.Perm ns->a.Pairwise (· <= ·)->H r=η->Q (.ref r) (upd H r (.lst (a.map V.int)))):=by
 ext f s A H y B Q I r h;let⟨l,z,rfl,j,k,q⟩:=h;let⟨u,rfl,m⟩:=vals1 r;cases m
 let⟨d,g,n,_⟩:=I.list j;let p:=↑g;rw[nW] at p;calc sorted_ints n.isList (intsAre_of g)⁻¹ ⋯ λc a t i v=>?_;let w:H (⇑s+1)=η:=I.bf.fresh (q0c _);let⟨e,x⟩:=sortedAll_at s.heap d c;calc⟨.ref (⇑s+1),_,I.laid (t':=s.toks) (o:=.lst (a.map V.int)) (λb o e=>sortedAll_old e) (q0c _) ?_,Y,q _ a i v w⟩;calc⟨Xd (kW (by rw[nW,i.length_eq];symm)),c.toList,e,tM t,?_⟩;simpa[seqObj] using x
theorem CJ{prog:ψ}{w:ω}{A:Β}{E:br}{I l:U}{items:Array M}(W:Walks prog w A I [I,l] [I] items.size (λi v=>items[i]?=ζ v) (λi h=>h.IsListIter I l i/\h.IsList l items)):
  ∀(k i:Nat)(s:L)(Q:-M->L->Prop),i+k<=items.size->(s.heap.IsListIter I l i/\s.heap.IsList l items) →
   (∀h' tk,(h'.IsListIter I l (i+k)/\h'.IsList l items)->(∀b o,b∉[I]->s.heap.get? b=ζ o->h'.get? b=ζ o)->Q ((items.toList.drop i).take k) {s with heap:=h',toks:=tk})->G (B prog w) A (draw (.ref I) k) Q E s
 |0,i,s,Q,_,c,g=>by
  show G _ _ (pure []) Q E s;calc B7 ?_;let:=g s.heap s.toks c λ_ _ _ e=>e;rw[Wm] at this;exact this
 |k+1,i,s,Q,x,c,g=>by
  let d:i<items.size:=by symm
  show G _ _ (pyNext (.ref I) >>= _) Q E s;calc nX (W.item i s _ _ d c λv y r t f j=>?_);refine nX (WK (CJ W k (i+1) _ _ ⋯ f λu m n p=>B7 ?_))
  let e:items.toList.drop i=v::items.toList.drop (i+1):=by
   rw[YS (by rw[UC];calc d)];congr 1;let a:items[i]?=ζ v:=t;rw[Wk d] at a;simpa using a
  let:=g u m (by rw[show i+(k+1)=i+1+k by symm];calc n) λb o q e=>p b o q (j b o q e);rw[e,VT] at this;calc this
theorem LN{prog:ψ}{w:ω}{A:t}{E:br}{s:L}{l:U}{items:Array M}{Q:-M->L->Prop}(j:A.handled=η)(c:s.heap.IsList l items)
  (g:∀h' tk,(∀b o,b≠⇑s->s.heap.get? b=ζ o->h'.get? b=ζ o)->Q items.toList {s with heap:=h',toks:=tk}):G (B prog w) A (unpackItems (.ref l) items.size η) Q E s:=by
 let k:l<⇑s:=by let⟨o,e,_⟩:=c;exact Vz e
 let W:=ZC (prog:=prog) (w:=w) j ⇑s l (VF k) items;unfold unpackItems;calc nX ?_;unfold notIterableAtAll;calc nX (q0e c.typeIs slot_list_iter.lookup (B7 ?_));erw[VQ,W8];calc nX (WK (Yt c ?_));calc nX (WK (CJ W items.size 0 _ _ ⋯ ⟨⟨_,UD _ Y,Y,Y⟩,c.push _⟩ λp m a d=>?_));rw[q1U,Xc (by rw[UC];calc B6 _),VC (by rw[UC];calc X9 _)];rw[VJ] at a;calc nX (WK (W.done _ _ _ a λn f h=>?_));erw[Option.isSome_none,VQ,W8];calc B7 (g n f λb o i e=>h b o i⁻¹ (d b o i⁻¹ (B5 _ e)))
def LO(K:KD)(n:Nat)(t:kR):TG:=λv c H Q=>∃a b,v=.ref a/\bS K H a b/\↑b=n/\t b c H Q
theorem LP{es:-J}{k:Nat}{t:kR}{n:Nat}{pos:Ε}(m:X.calm=θ)(h:jX X es t)
  (hn:↑(assignEach es X.env)=n:=by rfl) (f:(assignEach es X.env).findIdx? (·.1)=η:=by rfl):JG X (.Tuple es k pos) (LO X.K n t):=by
 calc⟨?_⟩;ext c s j H v u Q I r g;let⟨a,p,q,w,x,g⟩:=g;subst q;cases r
 let⟨i,l,y,D⟩:=I.list w;let d:=↑l;rw[assign_Tuple];calc nX (Zs ?_);unfold unpack;rw[f,show↑(assignEach es X.env)=i.toArray.size by rw[hn,<-x,d];simp];calc nX (WK (LN (I.ok.hd m) y.isList λz A B=>?_));let C:Inv X c j H {s with heap:=z,toks:=A}:=I.kept λb o e=>B b o (VF (Vz e)) e;calc h c _ j H p _ Q C l⁻¹ g
theorem LQ:qH X "dict.setdefault" (λx vs H Q=>∃(d:U)(kvs:-(Key×V))(k:Key)(f:V),x=.ref d/\vs=[kV k,f]/\H d=ζ (.dK kvs)/\↑kvs<sizeLine/\(∀v,dh kvs k=ζ v->Q v H)/\(dh kvs k=η->Q f (upd H d (.dK (putK kvs k f))))):=by
 ext i s N H x O v P Q I p r h;let⟨d,b,k,f,rfl,rfl,j,R,t,u⟩:=h;cases p
 cases r with
 |cons A B =>
  cases B with
  |cons l C =>
   cases C
   rename_i S D;let⟨z,m,o,c,n⟩:=nZ I.bf j;let a:=c.val k;refine q2U q0h n.typeIs PySem.F.entry_dict_setdefault (PySem.F.args_dict_setdefault_3 _ _ _) (PySem.kt_meets_setdefault (gJ X.prog X.w) d (nk A) m D) ⟨o,n,by rw[<-↑c];calc z,λv E=>?_,λG J g K=>?_⟩
   .rw[E] at a
    cases e:dh b k with
    |none=>rw[e] at a;exact a.elim
    |some y =>
     rw[e] at a;exact⟨y,H,I.tok _,a,t y e⟩
   .rw[G] at a
    cases e:dh b k with
    |some y=>rw[e] at a;exact a.elim
    |none =>
     let M:∃q,J.get? d=ζ q:=let⟨q,_,_,L,_⟩:=g;⟨q,L⟩;let T:=tI b k f;calc⟨f,_,qT (t':=s.toks+1) I (by rw[j];calc Yv) K M (tJ ⋯ m (c.put k l) g),l,u e⟩
noncomputable def jd(v d:U):HO:=.ext λh=>h.IsValuesView v d
theorem LR:qH X "dict.values" (λx vs H Q=>∃(d:U)(kvs:-(Key×V)),x=.ref d/\vs=[]/\H d=ζ (.dK kvs)/\∀r,H r=η->Q (.ref r) (upd H r (jd r d))):=by
 ext a s t H x u v y Q I i j h;let⟨d,g,rfl,rfl,l,q⟩:=h;cases i
 cases j
 let⟨z,m,f,n,c⟩:=nZ I.bf l;calc q2U q05 c.typeIs PySem.F.entry_dict_values (PySem.F.args_dict_values_1 _) (meets_dict_values (gJ X.prog X.w) d m) ⟨⟨f,c⟩,?_⟩;let e:(s.heap.push {cls:=.type "dict_values",data:=.fields #[.ref d]}).IsValuesView ⇑s d:=⟨_,UD _ Y,Y,Y⟩;calc⟨.ref ⇑s,_,I.laid (t':=s.toks) (o:=jd ⇑s d) (λb o e=>B5 _ e) (B6 _) ⟨e,⟨_,UD _ Y⟩,λA B ⟨o,p,r⟩ k↦⟨o,k o p,r⟩⟩,Y,q _ (I.bf.fresh (B6 _))⟩
theorem CK:∀{kvs:-(Key×V)}{vs:-(Key×M)},KV kvs vs->Vals (kvs.map (·.2)) (vs.map (·.2))
 |[],_,.nil=>.nil
 |_::_,_,.cons r a=>.cons r.2 (CK a)
theorem LU(k:X.calm=θ):g6 X (.type "list") (λxs H Q=>∃(r d:U)(kvs:-(Key×V)),xs=[.ref r]/\H r=ζ (jd r d)/\H d=ζ (.dK kvs)/\∀l,H l=η->Q (.ref l) (upd H l (.lst (kvs.map (·.2))))):=by
 ext g s L H K M Q I m h;let⟨r,d,kvs,rfl,n,p,q⟩:=h;let⟨u,rfl,t⟩:=vals1 m;cases t
 let⟨x,_⟩:=I.bf r _ n;let⟨z,N,f,b,y⟩:=nZ I.bf p;let⟨o,A,ep,B,c⟩:=y;let C:s.heap.DictAt (gJ X.prog X.w) d f ep:=⟨o,A,B,c⟩;let O:=↑b;calc PySem.W.kdl_call (PySem.W.kdl_values (r:=r) (d:=d) (kvs:=f) (ep:=ep) (knd:=gJ X.prog X.w)) (I.ok.hd k) ⟨x,C⟩ ⋯ λP D a E F G i=>?_;let J:a.toList=f.map (·.2):=PySem.W.kdl_vals_eq a.toList (by rw[UC];calc i.1) λj v e=>i.2 j v (by rw[<-Wt];calc e);calc⟨.ref ⇑s,_,I.laid (t':=D) (o:=.lst (kvs.map (·.2))) F (B6 _) ?_,Y,q _ (I.bf.fresh (B6 _))⟩;calc⟨by rw[nW];calc z,a.toList,E,by rw[J];calc CK b,by simpa using G⟩
end
section
variable{X:Cx}{e:J}{te:TE}{pos p2 p3 p4:I}
end
inductive FV where
 |p (d:D)|w (a:U)
inductive DV where
 |p (d:D)|o (k:Nat)|t (d:D) (k:Nat)|w (a:U)|u (t:Bool) (fs:-FV)
noncomputable def FV.v:FV->DV
 |.p d=>.p d
 |.w a=>.w a
inductive OV where
 |lst (ds:-D)|dct (kvs:-(Key×D))|dtt (kvs:-(-Int×Int))
 |al (a:U) (ds:-D)|ac (a:U) (kvs:-(Key×D))|ins (a C:U) (fs:-(R×FV))|av (a:U) (kvs:-(Key×FV))
structure aI where
 sl:-(Option DV)
 mu:-(Option OV)
def d4{κ b:Type}(R:b->V->Prop):-(κ×b)->-(κ×V)->Prop
 |[],a=>a=[]
 |c::r,a=>∃v t,a=(c.1,v)::t/\R c.2 v/\d4 R r t
def je(F:Hp):FV->V->Prop
 |.p d,v=>Is F d v
 |.w a,v=>v=.ref a
abbrev tN(F:Hp):-(Key×D)->-(Key×V)->Prop:=d4 (Is F)
abbrev lY(F:Hp){κ:Type}:-(κ×FV)->-(κ×V)->Prop:=d4 (je F)
theorem d4.mono{κ b:Type}{R c:b->V->Prop}(s:∀a v,R a v->c a v):∀{ks:-(κ×b)}{ws:-(κ×V)},d4 R ks ws->d4 c ks ws
 |[],_,h=>h
 |_::_,_,⟨v,t,e,d,f⟩=>⟨v,t,e,s _ _ d,d4.mono s f⟩
theorem je.same{F F':Hp}(s:a_ F F'):∀(f:FV)(v:V),je F f v->je F' f v
 |.p _,_,h=>Is.same s h
 |.w _,_,h=>h
def fB(F:Hp)(a:U):OV->HO->Prop
 |.lst f,o=>∃e,o=.lst e/\ax F f e
 |.dct c,o=>∃d,o=.dK d/\tN F c d
 |.dtt c,o=>o=.dT (c.map λp=>(p.1.map YA,V.int p.2))
 |.al b f,o=>b=a/\∃e,o=.lst e/\ax F f e
 |.ac b c,o=>b=a/\∃d,o=.dK d/\tN F c d
 |.ins b C g,o=>b=a/\∃h d,o=.ins C h d/\lY F g d
 |.av b c,o=>b=a/\∃d,o=.dK d/\lY F c d
theorem fB.same{F F':Hp}{a:U}(s:a_ F F'):∀{ov:OV}{o:HO},fB F a ov o->fB F' a ov o
 |.lst _,_,⟨c,e,h⟩=>⟨c,e,h.same s⟩
 |.dct _,_,⟨b,e,h⟩=>⟨b,e,h.mono λ_ _=>Is.same s⟩
 |.dtt _,_,e=>e
 |.al _ _,_,⟨z,c,e,h⟩=>⟨z,c,e,h.same s⟩
 |.ac _ _,_,⟨z,b,e,h⟩=>⟨z,b,e,h.mono λ_ _=>Is.same s⟩
 |.ins _ _ _,_,⟨z,d,b,e,h⟩=>⟨z,d,b,e,h.mono (je.same s)⟩
 |.av _ _,_,⟨z,b,e,h⟩=>⟨z,b,e,h.mono (je.same s)⟩
noncomputable def mw:Bool->-V->HO
 |true,a=>.tup a
 |false,a=>.lst a
def fK(F:Hp):-FV->-V->Prop
 |[],a=>a=[]
 |f::r,a=>∃v t,a=v::t/\je F f v/\fK F r t
theorem fK.same{F F':Hp}(s:a_ F F'):∀{fs:-FV}{us:-V},fK F fs us->fK F' fs us
 |[],_,h=>h
 |_::_,_,⟨v,t,e,a,b⟩=>⟨v,t,e,je.same s _ _ a,fK.same s b⟩
def eN(F:Hp)(c:-U):DV->V->Prop
 |.p d,v=>Is F d v
 |.o k,v=>∃a,c[k]?=ζ a/\v=.ref a
 |.w a,v=>v=.ref a
 |.u t f,v=>∃b e,v=.ref b/\F b=ζ (mw t e)/\fK F f e
 |.t d k,v=>∃a b u,v=.ref a/\F a=ζ (.tup [u,.ref b])/\Is F d u/\c[k]?=ζ b
def Lv(b:-U)(mu:-(Option OV))(a:U):Prop:=∃(k:Nat)(c:OV),b[k]?=ζ a/\mu[k]?=ζ (ζ c)
class a8 where
 ad:-U
 ok:Hp->Prop
 same:∀{H H':Hp},ok H->a_ H H'->ok H'
 put:∀{H:Hp}{a:U}{o o':HO},ok H->H a=ζ o->((∃vs,o=.lst vs)\/(∃ws,o=.dK ws)\/(∃ws,o=.dT ws)\/∃C dx ws,o=.ins C dx ws)->ok (upd H a o')
 tb:∀{H:Hp}{a:U},ok H->a∈ad->∃ps,H a=ζ (.tbl ps)
 cs:Hp
 ct:∀{a:U}{o:HO},cs a=ζ o->∃vs,o=.tup vs
 co:∀{H:Hp},ok H->a_ cs H
theorem fB.kd{F:Hp}{a:U}:∀{ov:OV}{o:HO},fB F a ov o->(∃vs,o=.lst vs)\/(∃ws,o=.dK ws)\/(∃ws,o=.dT ws)\/∃C d ws,o=.ins C d ws
 |.lst _,_,⟨c,e,_⟩=>.inl ⟨c,e⟩
 |.dct _,_,⟨b,e,_⟩=>.inr (.inl ⟨b,e⟩)
 |.dtt _,_,e=>.inr (.inr (.inl ⟨_,e⟩))
 |.al _ _,_,⟨_,c,e,_⟩=>.inl ⟨c,e⟩
 |.ac _ _,_,⟨_,b,e,_⟩=>.inr (.inl ⟨b,e⟩)
 |.av _ _,_,⟨_,b,e,_⟩=>.inr (.inl ⟨b,e⟩)
 |.ins _ _ _,_,⟨_,d,b,e,_⟩=>.inr (.inr (.inr ⟨_,d,b,e⟩))
theorem fB.kind{F:Hp}{a:U}{ov:OV}{o:HO}(h:fB F a ov o)(b:Array M)(z:o=.tbl b):False:=by
 rcases h.kd with⟨_,e⟩|⟨_,e⟩|⟨_,e⟩|⟨_,_,_,e⟩<;>rw[e] at z<;>cases z
variable[a8]
structure NT(F:Hp):Prop where
 no:∀a∈a8.ad,F a=η
 cs:a_ a8.cs F
instance {F:Hp}:CoeFun (NT F) λ_=>∀a∈a8.ad,F a=η:=⟨NT.no⟩
theorem NT.up{F F':Hp}(h:NT F)(s:a_ F F')(n:∀a∈a8.ad,F' a=η):NT F':=⟨n,λa o e=>s a o (h.cs a o e)⟩
structure SR(F:Hp)(ad:-U)(δ:aI)(σ:St)(H:Hp):Prop where
 sub:a_ F H
 off:∀a,Lv ad δ.mu a->F a=η
 di:↑ad=↑δ.mu
 inj:∀(k l:Nat)(a:U)(ov ow:OV),ad[k]?=ζ a->ad[l]?=ζ a->δ.mu[k]?=ζ (ζ ov)->δ.mu[l]?=ζ (ζ ow)->k=l
 mu:∀(k:Nat)(ov:OV),δ.mu[k]?=ζ (ζ ov)->∃a o,ad[k]?=ζ a/\H a=ζ o/\fB F a ov o
 sl:∀(i:Nat)(x:DV),δ.sl[i]?=ζ (ζ x)->∃v,σ[i]?=ζ (ζ v)/\eN F ad x v
 len:↑σ=↑δ.sl
 tab:a8.ok H
 nt:NT F
structure Ext(F:Hp)(ad:-U)(mu:-(Option OV))(H:Hp)(F':Hp)(bV:-U)(gi:-(Option OV))(H':Hp):Prop where
 same:a_ F F'
 new:∀a o,F' a=ζ o->F a=ζ o\/H a=η\/Lv ad mu a
 keep:∀a o,H a=ζ o->¬ Lv ad mu a->a∉a8.ad->H' a=ζ o
 pre:∀(k:Nat)(a:U),ad[k]?=ζ a->bV[k]?=ζ a
 df:∀a,Lv bV gi a->Lv ad mu a\/H a=η
 iB:∀a o,H a=ζ o->∃o',H' a=ζ o'
section
variable{F F' CL H H' tO:Hp}{ad bV qX:-U}{mu gi qY:-(Option OV)}{δ:aI}{σ:St}
theorem c_{H:Hp}{a:U}{o:HO}(h:H a=η):a_ H (upd H a o):=λb u e=>by rw[bt (ed e h)];calc e
theorem Ext.refl:Ext F ad mu H F ad mu H:=⟨λ_ _ e=>e,λ_ _ e=>.inl e,λ_ _ e _ _=>e,λ_ _ e=>e,λ_ e=>.inl e,λ_ o e=>⟨o,e⟩⟩
theorem Ext.trans(x:Ext F ad mu H F' bV gi H')(y:Ext F' bV gi H' CL qX qY tO):Ext F ad mu H CL qX qY tO where
 same:=x.same.trans y.same
 new:=λa o e=>by
  rcases y.new a o e with h|h|h
  .exact x.new a o h
  .refine .inr (.inl ?_)
   cases q:H a with
   |none=>rfl
   |some u=>let⟨c,b⟩:=x.iB a u q;rw[h] at b;cases b
  .rcases x.df a h with h|h
   .exact .inr (.inr h)
   .exact .inr (.inl h)
 keep:=λa o e n t=>y.keep a o (x.keep a o e n t) (λl=>by
  rcases x.df a l with h|h
  .exact n h
  .rw[e] at h;cases h) t
 pre:=λk a e=>y.pre k a (x.pre k a e)
 df:=λa l=>by
  rcases y.df a l with h|h
  .exact x.df a h
  .refine .inr ?_
   cases q:H a with
   |none=>rfl
   |some u=>let⟨c,b⟩:=x.iB a u q;rw[h] at b;cases b
 iB:=λa o e=>let⟨d,f⟩:=x.iB a o e;y.iB a d f
theorem eN.ext{x:DV}{v:V}(h:eN F ad x v)(e:Ext F ad mu H F' bV gi H'):eN F' bV x v:=by
 cases x with
 |p d=>exact Is.same e.same h
 |o k=>let⟨a,c,f⟩:=h;exact⟨a,e.pre k a c,f⟩
 |w a=>exact h
 |u t l=>let⟨b,i,c,f,g⟩:=h;exact⟨b,i,c,e.same _ _ f,g.same e.same⟩
 |t d k=>let⟨a,b,u,c,f,g,j⟩:=h;calc⟨a,b,u,c,e.same _ _ f,g.same e.same,e.pre k b j⟩
theorem eN.same{x:DV}{v:V}(h:eN F ad x v)(s:a_ F F'):eN F' ad x v:=by
 cases x with
 |p d=>exact Is.same s h
 |o k=>exact h
 |w a=>exact h
 |u t j=>let⟨b,g,c,e,f⟩:=h;exact⟨b,g,c,s _ _ e,f.same s⟩
 |t d k=>let⟨a,b,u,c,e,f,i⟩:=h;calc⟨a,b,u,c,s _ _ e,f.same s,i⟩
theorem eN.pre{c:-U}{x:DV}{v:V}(h:eN F ad x v)(s:∀k a,ad[k]?=ζ a->x=.o k\/(∃d,x=.t d k)->c[k]?=ζ a):eN F c x v:=by
 cases x with
 |p d=>exact h
 |o k=>let⟨a,e,f⟩:=h;exact⟨a,s k a e (.inl Y),f⟩
 |w a=>exact h
 |u t j=>exact h
 |t d k=>let⟨a,b,u,e,f,g,i⟩:=h;calc⟨a,b,u,e,f,g,s k b i (.inr ⟨d,Y⟩)⟩
noncomputable def Nw(F H H':Hp):Hp:=λa=>match H a with
 |none=>H' a
 |some _=>F a
theorem Nw.same(s:a_ F H):a_ F (Nw F H H'):=λa o e=>by
 unfold Nw;rw[s a o e];calc e
theorem Nw.sub(s:a_ F H)(k:a_ H H'):a_ (Nw F H H') H':=λa o e=>by
 unfold Nw at e
 cases q:H a with
 |none=>rw[q] at e;exact e
 |some u=>rw[q] at e;calc k a o (s a o e)
theorem Nw.upd{p:U}{o:HO}(s:a_ F H)(b:H p=η):Nw F H (upd H p o)=upd F p o:=by
 funext a;unfold Nw L2.upd
 by_cases c:a=p
 .subst c;rw[b,VE Y];simp
 .rw[VC c,VC c]
  cases q:H a with
  |none =>
   cases d:F a with
   |none=>rfl
   |some u=>rw[s a u d] at q;cases q
  |some u=>rfl
theorem Nw.refl(s:a_ F H):Nw F H H=F:=by
 funext a;unfold Nw
 cases q:H a with
 |none =>
  cases b:F a with
  |none=>rfl
  |some u=>rw[s a u b] at q;cases q
 |some u=>rfl
theorem SR.al(S:SR F ad δ σ H)(k:a_ H H'):SR (Nw F H H') ad δ σ H':=by
 let f:=Nw.same (H':=H') S.sub;refine⟨Nw.sub S.sub k,λa l=>?_,S.di,S.inj,λi c e=>?_,λi x e=>?_,S.len,a8.same S.tab k,S.nt.up f λa g=>by let⟨n,q⟩:=a8.tb S.tab g;unfold Nw;rw[q];calc S.nt a g⟩
 .let⟨i,c,b,d⟩:=l
  let⟨a',o,j,m,_⟩:=S.mu i c d;rw[b] at j;cases j;unfold Nw;rw[m];exact S.off a ⟨i,c,b,d⟩
 .let⟨a,o,b,d,h⟩:=S.mu i c e
  exact⟨a,o,b,k a o d,h.same f⟩
 .let⟨v,b,h⟩:=S.sl i x e
  calc⟨v,b,h.same f⟩
theorem Ext.al(S:SR F ad δ σ H)(k:a_ H H'):Ext F ad δ.mu H (Nw F H H') ad δ.mu H' where
 same:=Nw.same S.sub
 new:=λa o e=>by
  unfold Nw at e
  cases q:H a with
  |none=>exact .inr (.inl Y)
  |some u=>rw[q] at e;exact .inl e
 keep:=λa o e _ _=>k a o e
 pre:=λ_ _ e=>e
 df:=λ_ l=>.inl l
 iB:=λa o e=>⟨o,k a o e⟩
theorem SR.own{p:U}{o:HO}{ov:OV}(S:SR F ad δ σ H)(r:H p=η)(h:fB F p ov o):SR F (ad++[p]) ⟨δ.sl,δ.mu++[ζ ov]⟩ σ (upd H p o):=by
 let g:∀{k:Nat}{w:OV},(δ.mu++[ζ ov])[k]?=ζ (ζ w)->(k<↑δ.mu/\δ.mu[k]?=ζ (ζ w))\/(k=↑δ.mu/\w=ov):=λ{k w} e=>by
  by_cases c:k<↑δ.mu
  .rw[KI c] at e;exact .inl ⟨c,e⟩
  .let A:=(pa.mp e).1
   rw[qG,WJ] at A;let B:k=↑δ.mu:=by symm
   subst B;rw[My (B6 _),Xh] at e;exact .inr ⟨Y,by simpa using e.symm⟩
 let j:∀{k:Nat},k<↑δ.mu->(ad++[p])[k]?=ad[k]?:=λ{k} c=>KI (by rw[S.di];calc c);let f:(ad++[p])[↑δ.mu]?=ζ p:=by rw[<-S.di,My (B6 _),Xh];rfl
 let y:∀{k:Nat}{a:U}{w:OV},ad[k]?=ζ a->δ.mu[k]?=ζ (ζ w)->a≠p:=λ{k a w} b d=>by
  let⟨a',u,m,t,_⟩:=S.mu k w d;rw[b] at m;cases m;exact ed t r
 refine⟨λa u e=>?_,λa l=>?_,by rw[qG,qG,S.di];rfl,λk l a w C b d m t=>?_,λk w e=>?_,λi x e=>?_,S.len,a8.same S.tab (c_ r),S.nt⟩
 .let:=S.sub a u e
  rw[bt (ed this r)];exact this
 .let⟨k,w,b,d⟩:=l
  rcases g d with⟨c,m⟩|⟨c,m⟩
  .rw[j c] at b;exact S.off a ⟨k,w,b,m⟩
  .subst c;rw[f] at b;cases b
   cases q:F p with
   |none=>rfl
   |some u=>rw[S.sub p u q] at r;cases r
 .rcases g m with⟨c,q⟩|⟨c,q⟩
  .rw[j c] at b
   rcases g t with⟨n,s⟩|⟨n,s⟩
   .rw[j n] at d;exact S.inj k l a w C b d q s
   .subst n;rw[f] at d;cases d;exact absurd Y (y b q)
  .subst c;rw[f] at b;cases b
   rcases g t with⟨n,s⟩|⟨n,s⟩
   .rw[j n] at d;exact absurd Y (y d s)
   .exact n.symm
 .rcases g e with⟨c,q⟩|⟨c,q⟩
  .let⟨a,u,b,d,z⟩:=S.mu k w q
   exact⟨a,u,by rw[j c];calc b,by rw[bt (y b q)];calc d,z⟩
  .subst c;subst q;exact⟨p,o,f,cw,h⟩
 .let⟨v,b,z⟩:=S.sl i x e
  calc⟨v,b,z.pre λk a d _=>by rw[KI (pa.mp d).1];calc d⟩
theorem Ext.own{p:U}{o:HO}{ov:OV}(S:SR F ad δ σ H)(d:H p=η):Ext F ad δ.mu H F (ad++[p]) (δ.mu++[ζ ov]) (upd H p o) where
 same:=λ_ _ e=>e
 new:=λ_ _ e=>.inl e
 keep:=λa u e _ _=>by rw[bt (ed e d)];exact e
 pre:=λk a e=>by rw[KI (pa.mp e).1];exact e
 df:=λa l=>by
  let⟨k,w,b,f⟩:=l
  by_cases c:k<↑δ.mu
  .rw[KI c] at f
   rw[KI (by rw[S.di];calc c)] at b;exact .inl ⟨k,w,b,f⟩
  .let g:=(pa.mp f).1
   rw[qG,WJ] at g;let h:k=↑ad:=by rw[S.di];symm
   subst h;rw[My (B6 _),Xh] at b;let:p=a:=by simpa using b
   subst this;exact .inr d
 iB:=λa u e=>⟨u,by rw[bt (ed e d)];calc e⟩
theorem SR.put{k:Nat}{a:U}{o:HO}{ov m:OV}(S:SR F ad δ σ H)(j:δ.mu[k]?=ζ (ζ m))(n:ad[k]?=ζ a)(h:fB F a ov o):SR F ad ⟨δ.sl,δ.mu.set k (ζ ov)⟩ σ (upd H a o):=by
 let t:=(pa.mp j).1
 let f:∀{l:Nat}{w:OV},(δ.mu.set k (ζ ov))[l]?=ζ (ζ w)->(l≠k/\δ.mu[l]?=ζ (ζ w))\/(l=k/\w=ov):=λ{l w} e=>by
  by_cases c:k=l
  .subst c;rw[Xg t] at e;exact .inr ⟨Y,by simpa using e.symm⟩
  .rw[Xj c] at e;exact .inl ⟨λz=>c z.symm,e⟩
 let v:∀{l:Nat}{w:OV}{b:U},ad[l]?=ζ b->(δ.mu.set k (ζ ov))[l]?=ζ (ζ w)->Lv ad δ.mu b:=λ{l w b} d g=>by
  rcases f g with⟨_,q⟩|⟨c,_⟩
  .exact⟨l,w,d,q⟩
  .subst c;exact⟨l,m,d,j⟩
 let y:a8.ok (upd H a o):=by
  let⟨a',u,d,g,p⟩:=S.mu k m j;rw[n] at d;cases d;exact a8.put S.tab g p.kd
 refine⟨λb u e=>?_,λb l=>?_,by rw[XW];calc S.di,λl s b w I d g A B=>?_,λl w e=>?_,λi x e=>?_,S.len,y,S.nt⟩
 .let r:b≠a:=λz=>by
   subst z;rw[S.off b ⟨k,m,n,j⟩] at e;cases e
  rw[bt r];exact S.sub b u e
 .let⟨l,w,d,g⟩:=l
  exact S.off b (v d g)
 .let C:∃w,δ.mu[l]?=ζ (ζ w):=by
   rcases f A with⟨_,q⟩|⟨c,_⟩
   .exact⟨_,q⟩
   .subst c;exact⟨_,j⟩
  let D:∃w,δ.mu[s]?=ζ (ζ w):=by
   rcases f B with⟨_,q⟩|⟨c,_⟩
   .exact⟨_,q⟩
   .subst c;exact⟨_,j⟩
  let⟨J,E⟩:=C;let⟨K,G⟩:=D;exact S.inj l s b _ _ d g E G
 .rcases f e with⟨c,q⟩|⟨c,q⟩
  .let⟨b,u,d,g,p⟩:=S.mu l w q
   let r:b≠a:=λz=>by subst z;exact c (S.inj l k b _ _ d n q j)
   exact⟨b,u,d,by rw[bt r];calc g,p⟩
  .subst c;subst q;exact⟨a,o,n,cw,h⟩
 .calc S.sl i x e
theorem Ext.put{k:Nat}{a:U}{o:HO}{ov d:OV}(S:SR F ad δ σ H)(f:δ.mu[k]?=ζ (ζ d))(i:ad[k]?=ζ a):Ext F ad δ.mu H F ad (δ.mu.set k (ζ ov)) (upd H a o) where
 same:=λ_ _ e=>e
 new:=λ_ _ e=>.inl e
 keep:=λb u e n _=>by rw[bt λz=>n (by subst z;calc⟨k,d,i,f⟩)];exact e
 pre:=λ_ _ e=>e
 df:=λb l=>by
  let⟨l,w,g,h⟩:=l
  by_cases c:k=l
  .subst c;exact .inl ⟨k,d,g,f⟩
  .rw[Xj c] at h;exact .inl ⟨l,w,g,h⟩
 iB:=λb u e=>by
  by_cases c:b=a
  .subst c;exact⟨o,cw⟩
  .calc⟨u,by rw[bt c];calc e⟩
theorem SR.fix{k:Nat}{a:U}{o:HO}{m:OV}(S:SR F ad δ σ H)(j:δ.mu[k]?=ζ (ζ m))(n:ad[k]?=ζ a)(t:H a=ζ o):SR (upd F a o) ad ⟨δ.sl,δ.mu.set k η⟩ σ H:=by
 let y:=(pa.mp j).1;let A:=S.off a ⟨k,m,n,j⟩;let p:a_ F (upd F a o):=λb u e=>by rw[bt (ed e A)];exact e
 let f:∀{l:Nat}{w:OV},(δ.mu.set k η)[l]?=ζ (ζ w)->l≠k/\δ.mu[l]?=ζ (ζ w):=λ{l w} e=>by
  by_cases c:k=l
  .subst c;rw[Xg y] at e;cases e
  .rw[Xj c] at e;exact⟨λz=>c z.symm,e⟩
 refine⟨λb u e=>?_,λb l=>?_,by rw[XW];calc S.di,λl B b w C d g D E=>S.inj l B b w C d g (f D).2 (f E).2,λl w e=>?_,λi x e=>?_,S.len,S.tab,S.nt.up p λb s=>?_⟩
 .by_cases c:b=a
  .subst c;rw[cw] at e;cases e;exact t
  .rw[bt c] at e;exact S.sub b u e
 .let⟨l,w,d,g⟩:=l
  let⟨c,q⟩:=f g;let r:b≠a:=λz=>by subst z;exact c (S.inj l k b _ _ d n q j)
  rw[bt r];exact S.off b ⟨l,w,d,q⟩
 .let⟨b,u,d,g,h⟩:=S.mu l w (f e).2
  exact⟨b,u,d,g,h.same p⟩
 .let⟨v,d,h⟩:=S.sl i x e
  exact⟨v,d,h.same p⟩
 .let⟨G,q⟩:=a8.tb S.tab s
  let r:b≠a:=λz=>by
   subst z;let⟨a',u,d,g,h⟩:=S.mu k m j;rw[n] at d;cases d;rw[q] at g;cases g;exact h.kind G Y
  rw[bt r];calc S.nt b s
theorem Ext.fix{k:Nat}{a:U}{o:HO}{f:OV}(S:SR F ad δ σ H)(g:δ.mu[k]?=ζ (ζ f))(h:ad[k]?=ζ a):Ext F ad δ.mu H (upd F a o) ad (δ.mu.set k η) H where
 same:=λb u e=>by rw[bt (ed e (S.off a ⟨k,f,h,g⟩))];exact e
 new:=λb u e=>by
  by_cases c:b=a
  .subst c;exact .inr (.inr ⟨k,f,h,g⟩)
  .rw[bt c] at e;exact .inl e
 keep:=λb u e _ _=>e
 pre:=λ_ _ e=>e
 df:=λb l=>by
  let⟨l,w,i,d⟩:=l
  by_cases c:k=l
  .subst c;rw[Xg (pa.mp g).1] at d;cases d
  .rw[Xj c] at d;exact .inl ⟨l,w,i,d⟩
 iB:=λb u e=>⟨u,e⟩
theorem SR.set{i:Nat}{x:DV}{v:V}(S:SR F ad δ σ H)(h:eN F ad x v):SR F ad ⟨δ.sl.set i (ζ x),δ.mu⟩ (σ.set i (ζ v)) H:=by
 refine⟨S.sub,S.off,S.di,S.inj,S.mu,λj y e=>?_,by rw[XW,XW];calc S.len,S.tab,S.nt⟩
 by_cases c:i=j
 .subst c
  let a:=(pa.mp e).1;rw[XW] at a;rw[Xg a] at e;cases e
  exact⟨v,Xg (by rw[S.len];calc a),h⟩
 .rw[Xj c] at e
  let⟨w,b,d⟩:=S.sl j y e;calc⟨w,by rw[Xj c];calc b,d⟩
end
abbrev WE:=aI->(DV->aI->Prop)->Prop
abbrev WA:=aI->(-DV->aI->Prop)->Prop
abbrev WT:=aI->(Bool->aI->Prop)->Prop
def dM(F:Hp)(b:-U):-DV->-V->Prop
 |[],a=>a=[]
 |x::c,a=>∃v r,a=v::r/\eN F b x v/\dM F b c r
theorem dM.ext{F F' H H':Hp}{c a:-U}{mu b:-(Option OV)}(e:Ext F c mu H F' a b H'):∀{xs:-DV}{vs:-V},dM F c xs vs->dM F' a xs vs
 |[],_,h=>h
 |_::_,_,⟨v,r,q,d,f⟩=>⟨v,r,q,d.ext e,dM.ext e f⟩
inductive tD (f:WE) (σ:St) (H:Hp) (Q:VK):Prop
 |mk (F:Hp) (ad:-U) (δ:aI) (K:DV->aI->Prop) (S:SR F ad δ σ H) (q:f δ K) (k:∀x δ',K x δ'->∀v F' bV H',Ext F ad δ.mu H F' bV δ'.mu H'->SR F' bV δ' σ H'->eN F' bV x v->Q v H')
inductive cX (f:WA) (σ:St) (H:Hp) (Q:-V->Hp->Prop):Prop
 |mk (F:Hp) (ad:-U) (δ:aI) (K:-DV->aI->Prop) (S:SR F ad δ σ H) (q:f δ K) (k:∀xs δ',K xs δ'->∀vs F' bV H',Ext F ad δ.mu H F' bV δ'.mu H'->SR F' bV δ' σ H'->dM F' bV xs vs->Q vs H')
inductive d5 (f:WT) (σ:St) (H:Hp) (Q:Bool->Hp->Prop):Prop
 |mk (F:Hp) (ad:-U) (δ:aI) (K:Bool->aI->Prop) (S:SR F ad δ σ H) (q:f δ K) (k:∀b δ',K b δ'->∀F' bV H',Ext F ad δ.mu H F' bV δ'.mu H'->SR F' bV δ' σ H'->Q b H')
def j2(F H:Hp):D->V->Prop
 |.lst c,v=>∃a b,v=.ref a/\H a=ζ (.lst b)/\ax F c b
 |d,v=>Is F d v
def dG(x:DV)(b:aI)(K:D->Prop):Prop:=match x with
 |.p d=>K d
 |.o k=>match b.mu[k]? with
  |some (some (.lst a))=>K (.lst a)
  |some (some (.al _ a))=>K (.lst a)
  |_=>False
 |.w _=>False
 |.u _ _=>False
 |.t _ _=>False
theorem j2.of{F H:Hp}(s:a_ F H):∀{d:D}{v:V},Is F d v->j2 F H d v
 |.lst _,_,h=>by
  erw[Is] at h;let⟨a,b,e,c,f⟩:=h;exact⟨a,b,e,s _ _ c,f⟩
 |.tup _,_,h=>h
 |.non,_,h=>h
 |.bl _,_,h=>h
 |.int _,_,h=>h
 |.str _,_,h=>h
theorem j2.is{F H:Hp}(s:a_ F H):∀{d:D}{v:V},j2 F H d v->Is H d v
 |.lst _,_,h=>by
  let⟨a,b,e,c,f⟩:=h;erw[Is];exact⟨a,b,e,c,f.same s⟩
 |.tup _,_,h=>Is.same s h
 |.non,_,h=>Is.same s h
 |.bl _,_,h=>Is.same s h
 |.int _,_,h=>Is.same s h
 |.str _,_,h=>Is.same s h
theorem kX{F H:Hp}{l:-U}{m:aI}{n:St}{x:DV}{v:V}{K:D->Prop}(S:SR F l m n H)(c:eN F l x v)(h:dG x m K):∃d,K d/\j2 F H d v:=by
 cases x with
 |p d=>exact⟨d,h,j2.of S.sub c⟩
 |o k =>
  unfold dG at h;dsimp only at h;split at h
  .rename_i q e
   let⟨a,f,rfl⟩:=c;let⟨a',o,b,g,i,rfl,j⟩:=S.mu k _ e;rw[f] at b;cases b;exact⟨_,h,a,i,Y,g,j⟩
  .rename_i q e
   let⟨a,f,rfl⟩:=c;let⟨a',o,b,g,_,i,rfl,j⟩:=S.mu k _ e;rw[f] at b;cases b;exact⟨_,h,a,i,Y,g,j⟩
  .exact h.elim
 |w _=>exact h.elim
 |u _ _=>exact h.elim
 |t _ _=>calc h.elim
def cA:-DV->aI->(-D->Prop)->Prop
 |[],_,K=>K []
 |x::b,a,K=>dG x a λd=>cA b a λc=>K (d::c)
def jM(F H:Hp):-D->-V->Prop
 |[],a=>a=[]
 |d::b,a=>∃v r,a=v::r/\j2 F H d v/\jM F H b r
theorem pj{F H:Hp}{c:-U}{e:aI}{f:St}(S:SR F c e f H):∀{xs:-DV}{vs:-V}{K:-D->Prop},dM F c xs vs->cA xs e K->∃ds,K ds/\jM F H ds vs
 |[],_,_,i,h=>⟨[],h,i⟩
 |x::n,_,_,⟨v,r,rfl,j,k⟩,h=>by
  let⟨d,l,m⟩:=kX S j h;let⟨g,a,b⟩:=pj S k l;calc⟨d::g,a,v,r,Y,m,b⟩
abbrev Made(F H:Hp)(K:D->Prop)(Q:VK):Prop:=∀z v a,K z->a_ H a->Is (Nw F H a) z v->Q v a
inductive wL (g:D->D->(D->Prop)->Prop) (x y:V) (H:Hp) (Q:VK):Prop
 |mk (F:Hp) (d e:D) (K:D->Prop) (s:a_ F H) (rd:j2 F H d x) (re:j2 F H e y) (q:g d e K) (md:Made F H K Q)
inductive CM (g:-D->(D->Prop)->Prop) (xs:-V) (H:Hp) (Q:VK):Prop
 |mk (F:Hp) (ds:-D) (K:D->Prop) (s:a_ F H) (rd:jM F H ds xs) (q:g ds K) (md:Made F H K Q)
def gC(X:Cx)(f:M->M->Sem M)(g:D->D->(D->Prop)->Prop):Prop :=
 fA X f λx y H Q=>wL g x y H Q
def CN(X:Cx)(g:D->D->(D->Prop)->Prop):Prop :=
 lW X λx y H Q=>wL g x y H Q
def eH(X:Cx)(f:M)(g:-D->(D->Prop)->Prop):Prop :=
 g6 X f λa H Q=>CM g a H Q
def d2(f g:WE)(op:D->D->(D->Prop)->Prop):WE:=λc K=>f c λx b=>g b λy a=>dG x a λd=>dG y a λe=>op d e λz=>K (.p z) a
def d1(f:WE)(op:D->(D->Prop)->Prop):WE:=λb K=>f b λx a=>dG x a λd=>op d λz=>K (.p z) a
def dN(f:WA)(op:-D->(D->Prop)->Prop):WE:=λb K=>f b λc a=>cA c a λd=>op d λz=>K (.p z) a
def dC(d:D):WE:=λa K=>K (.p d) a
def aa(i:Nat):WE:=λa K=>match a.sl[i]? with
 |some (some x)=>K x a
 |_=>False
def ae:WA:=λa K=>K [] a
def aq(f:WE)(g:WA):WA:=λc K=>f c λx a=>g a λd b=>K (x::d) b
section
variable{X:Cx}{a b c:J}{f g h:WE}{fa:WA}{pos:I}
theorem qZ{e:J}{d:D}{v:V}(h:JE X e (tC v))(a:∀F,Is F d v):JE X e (tD (dC d)):=h.weak λb H Q ⟨F,c,f,K,S,q,k⟩↦k _ _ q _ _ _ _ .refl S (a F)
theorem b9{i j pos}:JE X (.Constant (.int i) j pos) (tD (dC (.int i))):=qZ mZ λ_=>Y
theorem tP{i j pos}:JE X (.Constant (.bool i) j pos) (tD (dC (.bl i))):=qZ IG λ_=>Y
theorem kz{j pos}:JE X (.Constant .none j pos) (tD (dC .non)):=qZ IH λ_=>Y
theorem n8{x j pos}:JE X (.Constant (.str x) j pos) (tD (dC (.str x))):=qZ sX λ_=>Y
theorem LV{x:R}{i:Int}{u:M}{pos:I}(a:Gl X x)(b:X.mg x=ζ u)(r:RelV (.int i) u)(hd:cy x:=by decide):JE X (.Name x pos) (tD (dC (.int i))):=qZ (Bm a b r hd) λ_=>Y
theorem dv(i:Nat){x:R}{pos:I}(b:X.N[i]?=ζ x:=by rfl)(c:qc X.env.scope x:=by first|exact q0q Y|exact q1R (q0q Y)|calc q1R (q1R Y))
  (hd:cy x:=by decide) (a:(x==("__classdict__" : R))=ι:=by decide):JE X (.Name x pos) (tD (aa i)) :=
 (Bl b c hd a).weak λg H Q ⟨F,h,j,K,S,q,k⟩↦by
  unfold aa at q;split at q
  .rename_i x e
   let⟨v,d,f⟩:=S.sl i x e;exact⟨v,d,k _ _ q _ _ _ _ .refl S f⟩
  .calc q.elim
theorem tQ{r:R2}{ta tb:TE}{op:D->D->(D->Prop)->Prop}(l:∀x y H Q,(wL op x y H Q)->r x y H Q):∀b H Q,tD (d2 f g op) b H Q->qt r (tD f) (tD g) b H Q:=by
 ext b H Q ⟨F,m,n,K,S,q,k⟩;calc⟨F,m,n,_,S,q,λx c o O p h P s t u=>⟨p,h,c,_,t,o,λy w A R B C T i a E=>l _ _ _ _ ?_⟩⟩;let⟨d,G,I⟩:=kX a (u.ext i) A;let⟨e,J,L⟩:=kX a E G;calc⟨B,d,e,_,a.sub,I,L,J,λz v U M j N=>k _ _ M _ _ _ _ ((s.trans i).trans (Ext.al a j)) (a.al j) N⟩
theorem g7{op:Operator}{o:D->D->(D->Prop)->Prop}(c:gC X (binaryOp op) o)(d:JE X a (tD f))(e:JE X b (tD g)):JE X (.BinOp a op b pos) (tD (d2 f g o)) :=
 (qu c d e).weak (tQ (ta:=tD f) (tb:=tD g) λ_ _ _ _ h=>h)
theorem my{op:CmpOp}{o:D->D->(D->Prop)->Prop}(c:gC X (compareOp op) o)(d:JE X a (tD f))(e:JE X b (tD g))(i:behindInMarks op b=ι):JE X (.Compare a [op] [b] pos) (tD (d2 f g o)) :=
 (Ju c d e i).weak (tQ (ta:=tD f) (tb:=tD g) λ_ _ _ _ h=>h)
theorem dS{o:D->D->(D->Prop)->Prop}(c:CN X o)(d:JE X a (tD f))(e:JE X b (tD g))(hs:wa b):JE X (.Subscript a b pos) (tD (d2 f g o)) :=
 (wc c d e hs).weak (tQ (ta:=tD f) (tb:=tD g) λ_ _ _ _ h=>h)
theorem bq:JA X [] (cX ae):=bY.weak λa H Q ⟨F,b,c,K,S,q,k⟩↦k _ _ q _ _ _ _ .refl S Y
theorem n9:∀a H Q,cX (aq f fa) a H Q->jG (tD f) (cX fa) a H Q:=by
 ext a H Q ⟨F,e,g,K,S,q,k⟩;calc⟨F,e,g,_,S,q,λx b h i j c v l m n=>⟨j,c,b,_,m,h,λw o p r y s z d t u=>k _ _ p _ _ _ _ (l.trans d) t ⟨i,r,Y,n.ext d,u⟩⟩⟩
theorem jf{e:J}{es:-J}(a:JE X e (tD f))(b:JA X es (cX fa))(hs:dE X e es:=by rfl):JA X (e::es) (cX (aq f fa)):=(km a b hs).weak n9
theorem cB{es:-J}{c j p}(a:JE X (.Constant c j p) (tD f))(b:JA X es (cX fa)):JA X (.Constant c j p::es) (cX (aq f fa)):=(wD a b).weak n9
theorem a7{es:-J}{x p}(a:JE X (.Name x p) (tD f))(b:JA X es (cX fa)):JA X (.Name x p::es) (cX (aq f fa)):=(jJ a b).weak n9
theorem fm{es:-J}{x y k p}(a:JE X (.Call x y k p) (tD f))(b:JA X es (cX fa)):JA X (.Call x y k p::es) (cX (aq f fa)):=(jK a b).weak n9
theorem q3{es:-J}{x p}(a:JE X (.List x p) (tD f))(b:JA X es (cX fa)):JA X (.List x p::es) (cX (aq f fa)):=(qO a b).weak n9
theorem q4{es:-J}{x k p}(a:JE X (.Tuple x k p) (tD f))(b:JA X es (cX fa)):JA X (.Tuple x k p::es) (cX (aq f fa)):=(wF a b).weak n9
theorem cY{es:-J}{x k p}(a:JE X (.Subscript x k p) (tD f))(b:JA X es (cX fa)):JA X (.Subscript x k p::es) (cX (aq f fa)):=(wG a b).weak n9
theorem CO{r:-V->Hp->VK->Prop}{op:-D->(D->Prop)->Prop}(e:∀xs H Q,(CM op xs H Q)->r xs H Q):∀b H Q,tD (dN fa op) b H Q->qA r (cX fa) b H Q:=by
 ext b H Q ⟨F,f,g,K,S,q,k⟩;calc⟨F,f,g,_,S,q,λu h i w j l x m a n=>e _ _ _ ?_⟩;let⟨o,p,c⟩:=pj a n i;calc⟨j,o,_,a.sub,c,p,λz v y s d t=>k _ _ s _ _ _ _ (m.trans (Ext.al a d)) (a.al d) t⟩
theorem iQ{x:R}{p:I}{e:J}{es:-J}{c:String}{o:-D->(D->Prop)->Prop}(d:eH X (.builtin c) o)(f:Gl X x)(g:X.mg x=η)(i:bootBuiltins x=ζ (.builtin c))(j:JA X (e::es) (cX fa))(hn:x≠"__name__" := by decide)(a:cy x:=by decide)
  (he:dE X e es:=by rfl) (b:dQ X pos es:=by rfl):JE X (.Call (.Name x p) (e::es) [] pos) (tD (dN fa o)) :=
 (o9 d f g i j hn a he b).weak (CO λ_ _ _ h=>h)
theorem q9{x:R}{p:I}{e:J}{es:-J}{T:String}{o:-D->(D->Prop)->Prop}(c:eH X (.type T) o)(d:Gl X x)(f:X.mg x=η)(g:bootBuiltins x=ζ (.type T))(i:JA X (e::es) (cX fa))(hn:x≠"__name__" := by decide)(a:cy x:=by decide)
  (he:dE X e es:=by rfl) (b:dQ X pos es:=by rfl):JE X (.Call (.Name x p) (e::es) [] pos) (tD (dN fa o)) :=
 (ml c d f g i hn a he b).weak (CO λ_ _ _ h=>h)
end
noncomputable def gD(k:Nat)(ds:-D):Option DV->Option DV
 |some (.o j)=>if j=k then ζ (.p (.lst ds)) else ζ (.o j)
 |some (.t d j)=>if j=k then η else ζ (.t d j)
 |s=>s
noncomputable def aI.fix(a:aI)(k:Nat)(ds:-D):aI:=⟨a.sl.map (gD k ds),a.mu.set k η⟩
def eg(x:DV)(a:aI)(K:D->aI->Prop):Prop:=match x with
 |.p d=>K d a
 |.o k=>match a.mu[k]? with
  |some (some (.lst b))=>K (.lst b) (a.fix k b)
  |_=>False
 |.w _=>False
 |.u _ _=>False
 |.t _ _=>False
def cq:-DV->aI->(-D->aI->Prop)->Prop
 |[],a,K=>K [] a
 |x::e,a,K=>eg x a λd b=>cq e b λf c=>K (d::f) c
section
variable{F F' H H':Hp}{ad bV:-U}{δ δ':aI}{σ σ':St}
theorem SR.fixed{k:Nat}{a:U}{vs:-V}{ds:-D}(S:SR F ad δ σ H)(n:δ.mu[k]?=ζ (ζ (.lst ds)))(l:ad[k]?=ζ a)(y:H a=ζ (.lst vs))(z:ax F ds vs):SR (upd F a (.lst vs)) ad (δ.fix k ds) σ H:=by
 let f:=S.fix n l y;let A:a_ F (upd F a (.lst vs)):=(Ext.fix (o:=.lst vs) S n l).same;calc⟨f.sub,f.off,f.di,f.inj,f.mu,λi x e=>?_,by rw[S.len];unfold aI.fix;rw[nW],f.tab,f.nt⟩;unfold aI.fix at e;rw[B8] at e;let⟨s,h,b⟩:=KJ.mp e
 match s,b with
 |none,b=>cases b
 |some (.p d),b =>
  cases(show ζ (DV.p d)=ζ x from b)
  exact f.sl i _ h
 |some (.w d),b =>
  cases(show ζ (DV.w d)=ζ x from b)
  exact f.sl i _ h
 |some (.u t B),b =>
  cases(show ζ (DV.u t B)=ζ x from b)
  exact f.sl i _ h
 |some (.t d j),b =>
  let g:(if j=k then η else ζ (DV.t d j))=ζ x:=b
  by_cases c:j=k
  .rw[VE c] at g;cases g
  .rw[VC c] at g;cases g;exact f.sl i _ h
 |some (.o j),b =>
  let g:(if j=k then ζ (DV.p (.lst ds)) else ζ (DV.o j))=ζ x:=b;clear b;let⟨v,q,a',m,r⟩:=S.sl i _ h
  by_cases c:j=k
  .rw[VE c] at g
   subst c;cases g
   rw[l] at m;cases m;calc⟨v,q,?_⟩;show Is _ (.lst ds) v;erw[Is];exact⟨a,vs,r,cw,z.same A⟩
  .rw[VC c] at g
   cases g
   calc⟨v,q,a',m,r⟩
theorem n_{x:DV}{v:V}{K:D->aI->Prop}(S:SR F ad δ σ H)(f:eN F ad x v)(h:eg x δ K):∃d b F',K d b/\Ext F ad δ.mu H F' ad b.mu H/\SR F' ad b σ H/\Is F' d v:=by
 cases x with
 |p d=>exact⟨d,δ,F,h,.refl,S,f⟩
 |o k =>
  unfold eg at h;dsimp only at h;split at h
  .rename_i m e
   let⟨a,c,rfl⟩:=f;let⟨a',o,g,l,i,rfl,j⟩:=S.mu k _ e;rw[c] at g;cases g;calc⟨_,_,_,h,Ext.fix S e c,S.fixed e c l j,?_⟩;erw[Is];exact⟨a,i,Y,cw,j.same (Ext.fix (o:=.lst i) S e c).same⟩
  .exact h.elim
 |w _=>exact h.elim
 |u _ _=>exact h.elim
 |t _ _=>calc h.elim
theorem tR:∀{xs:-DV}{vs:-V}{b:aI}{F:Hp}{K:-D->aI->Prop},SR F ad b σ H->dM F ad xs vs->cq xs b K->∃ds a F',K ds a/\Ext F ad b.mu H F' ad a.mu H/\SR F' ad a σ H/\ax F' ds vs
 |[],_,b,F,_,S,k,h=>⟨[],b,F,h,.refl,S,by erw[ax];calc k⟩
 |x::w,_,b,F,_,S,⟨v,r,e,l,m⟩,h=>by
  subst e;let⟨d,n,y,o,g,p,q⟩:=n_ S l h;let⟨j,c,s,f,i,t,u⟩:=tR p (m.ext g) o;calc⟨d::j,c,s,f,g.trans i,t,.cons (q.same i.same) u⟩
end
def bg(d:WA):WE:=λe K=>d e λf a=>cq f a λc b=>↑c<=1000/\K (.p (.tup c)) b
def bG(d:WA):WE:=λe K=>d e λf a=>cq f a λc b=>↑c<=1000/\K (.p (.lst c)) b
def eI(d:WA):WE:=λe K=>d e λf b=>cq f b λc a=>↑c<=1000/\K (.o ↑a.mu) ⟨a.sl,a.mu++[ζ (.lst c)]⟩
section
variable{X:Cx}{a b c:J}{es:-J}{f g h:WE}{fa:WA}{t u:WT}{pos:I}
theorem kY{n:Nat}(h:n<=1000):n<=sizeLine:=Xd (kW h)
theorem jN{i}(j:JA X es (cX fa)):JE X (.Tuple es i pos) (tD (bg fa)):=(Bz j).weak λB H Q ⟨F,l,m,K,S,q,k⟩ =>
 ⟨F,l,m,_,S,q,λC n r d D s f t u v=>by
  let⟨w,x,E,⟨y,z⟩,A,a,g⟩:=tR u v r;calc⟨kY (by rw[↑g];calc y),λp c=>?_⟩;let h:a_ f (upd f p (.tup d)):=c_ c;calc k _ _ z _ _ _ _ ((t.trans A).trans (Ext.al a h)) (a.al h) ?_;show Is _ (.tup w) _;erw[Is];rw[Nw.upd a.sub c];refine⟨p,d,Y,cw,g.same λb o e=>?_⟩
  rw[bt (ed (a.sub b o e) c)];calc e⟩
theorem kA(i:JA X es (cX fa)):JE X (.List es pos) (tD (bG fa)):=(tr i).weak λA H Q ⟨F,j,l,K,S,q,k⟩ =>
 ⟨F,j,l,_,S,q,λB m n d C r f s t u=>by
  let⟨v,w,D,⟨x,y⟩,z,a,g⟩:=tR t u n;calc⟨kY (by rw[↑g];calc x),λp c=>?_⟩;let h:a_ f (upd f p (.lst d)):=c_ c;calc k _ _ y _ _ _ _ ((s.trans z).trans (Ext.al a h)) (a.al h) ?_;show Is _ (.lst v) _;erw[Is];rw[Nw.upd a.sub c];refine⟨p,d,Y,cw,g.same λb o e=>?_⟩
  rw[bt (ed (a.sub b o e) c)];calc e⟩
theorem oa(f:JA X es (cX fa)):JE X (.List es pos) (tD (eI fa)):=(tr f).weak λy H Q ⟨F,g,h,K,S,q,k⟩ =>
 ⟨F,g,h,_,S,q,λz i j c A l B m n o=>by
  let⟨r,s,t,⟨u,v⟩,w,b,d⟩:=tR n o j;calc⟨kY (by rw[↑d];calc u),λp e=>?_⟩;let x:∀{a},fB t a (.lst r) (.lst c):=λ{a}=>⟨c,Y,d⟩;refine k _ _ v _ _ _ _ ((m.trans w).trans (Ext.own b e)) (b.own e x) ⟨p,?_,Y⟩
  rw[<-b.di,My (B6 _),Xh];rfl⟩
def fq(x:DV)(P:Bool->Prop):Prop:=match x with
 |.p (.bl b)=>P b
 |_=>False
def dT(f:WE):WT:=λc K=>f c λx a=>fq x λb=>K b a
def bT(t u:WT):WT:=λc K=>t c λb a=>if b=θ then u a K else K ι a
def eP(t u:WT):WT:=λc K=>t c λb a=>if b=θ then K θ a else u a K
def bQ(t:WT):WT:=λc K=>t c λb a=>K (!b) a
def fD(t:WT)(f g:WE):WE:=λc K=>t c λb a=>if b=θ then f a K else g a K
def eO(f g:WE):WE:=λc K=>f c λx a=>fq x λb=>if b=θ then g a K else K (.p (.bl ι)) a
def cZ(f g:WE):WE:=λc K=>f c λx a=>fq x λb=>if b=θ then K (.p (.bl θ)) a else g a K
def gj(f:WE):WE:=λc K=>f c λx a=>fq x λb=>K (.p (.bl (!b))) a
theorem q_{F:Hp}{a:-U}{x:DV}{v:V}{P:Bool->Prop}(c:eN F a x v)(h:fq x P):∃b,v=.bl b/\P b:=by
 unfold fq at h;split at h
 .rename_i b
  exact⟨b,c,h⟩
 .calc h.elim
theorem oe(d:JE X a (tD f))(he:∀c,isTrue a X.env c=(do let v <- c;standAt a.pos;holding [v] (truthy v)):=by ext _;rfl):JT X a (d5 (dT f)) :=
 (IJ d he).weak λp H Q ⟨F,e,g,K,S,q,k⟩↦⟨F,e,g,_,S,q,λx h i v r j s l m n=>by
  let⟨b,rfl,o⟩:=q_ n i
  calc⟨b,Y,k _ _ o _ _ _ l m⟩⟩
theorem gE{op:CmpOp}{o:D->D->(D->Prop)->Prop}(c:gC X (compareOp op) o)(d:JE X a (tD f))(e:JE X b (tD g))(i:behindInMarks op b=ι):JT X (.Compare a [op] [b] pos) (d5 (dT (d2 f g o))) :=
 (Jw c d e i).weak λj H Q ⟨F,l,m,K,S,q,k⟩↦tQ (ta:=tD f) (tb:=tD g) (λ_ _ _ _ h=>h) j H _ ⟨F,l,m,_,S,q,λx n p v y r z s t u=>by
  let⟨b,rfl,w⟩:=q_ u p
  calc⟨b,Y,k _ _ w _ _ _ s t⟩⟩
theorem rh(c:JT X a (d5 t)):JT X (.UnaryOp .Not a pos) (d5 (bQ t)):=(IQ c).weak λl H Q ⟨F,d,e,K,S,q,k⟩↦⟨F,d,e,_,S,q,λb f g m h n i j=>k _ _ g _ _ _ i j⟩
theorem LW:∀c H Q,d5 (bT t u) c H Q->qe (d5 t) (d5 u) c H Q:=λc H Q ⟨F,h,i,K,S,q,k⟩↦⟨F,h,i,_,S,q,λb d a j e r f g=>by
 cases b with
 |true =>
  rw[VE Y] at a ⊢;exact⟨j,e,d,_,g,a,λb l m s n v o p=>k _ _ m _ _ _ (f.trans o) p⟩
 |false =>
  rw[VC Wo] at a ⊢
  calc k _ _ a _ _ _ f g⟩
theorem LX:∀c H Q,d5 (eP t u) c H Q->Bo (d5 t) (d5 u) c H Q:=λc H Q ⟨F,h,i,K,S,q,k⟩↦⟨F,h,i,_,S,q,λb d a j e r f g=>by
 cases b with
 |false =>
  rw[VC Wo] at a ⊢;exact⟨j,e,d,_,g,a,λb l m s n v o p=>k _ _ m _ _ _ (f.trans o) p⟩
 |true =>
  rw[VE Y] at a ⊢
  calc k _ _ a _ _ _ f g⟩
theorem JW.weak{e:J}{t t':TT}(h:JW X e t)(k:∀a H Q,t' a H Q->t a H Q):JW X e t':=⟨λc b s a H Q I q=>h c b s a H Q I (k a H Q q)⟩
theorem ri(b:JT X a (d5 t)):JW X (.BoolOp .And [a] pos) (d5 t):=IK b
theorem rj(b:JT X a (d5 t)):JW X (.BoolOp .Or [a] pos) (d5 t):=IL b
theorem pq{c:-J}(d:JT X a (d5 t))(e:JW X (.BoolOp .And (b::c) pos) (d5 u)):JW X (.BoolOp .And (a::b::c) pos) (d5 (bT t u)):=(IM d e).weak LW
theorem pv{c:-J}(d:JT X a (d5 t))(e:JW X (.BoolOp .Or (b::c) pos) (d5 u)):JW X (.BoolOp .Or (a::b::c) pos) (d5 (eP t u)):=(IP d e).weak LX
theorem CP{op}(b:JE X a (tD f)):JE X (.BoolOp op [a] pos) (tD f):=IU b
theorem wM{c:-J}(l:JE X a (tD f))(m:JE X (.BoolOp .And (b::c) pos) (tD g)):JE X (.BoolOp .And (a::b::c) pos) (tD (eO f g)) :=
 (IV l m).weak λB H Q ⟨F,n,o,K,S,q,k⟩=>⟨F,n,o,_,S,q,λx e p v r h C i j s=>by
  let⟨b,rfl,d⟩:=q_ s p;refine⟨b,Y,?_⟩
  cases b with
  |true =>
   rw[VE Y] at d ⊢;exact⟨r,h,e,_,j,d,λx t u v D w E y z A=>k _ _ u _ _ _ _ (i.trans y) z A⟩
  |false =>
   rw[VC Wo] at d ⊢
   calc k _ _ d _ _ _ _ i j Y⟩
theorem LY(c:JE X a (tD f)):JE X (.UnaryOp .Not a pos) (tD (gj f)) :=
 (IW c).weak λo H Q ⟨F,d,e,K,S,q,k⟩↦⟨F,d,e,_,S,q,λx g h v p i r j l m=>by
  let⟨b,rfl,n⟩:=q_ m h
  calc⟨b,Y,k _ _ n _ _ _ _ j l Y⟩⟩
theorem CQ(u:JT X c (d5 t))(w:JE X a (tD f))(y:JE X b (tD g)):JE X (.IfExp c a b pos) (tD (fD t f g)) :=
 (IY u w y).weak λD H Q ⟨F,z,A,K,S,q,k⟩↦⟨F,z,A,_,S,q,λb d h p e E r s=>by
  cases b with
  |true =>
   rw[VE Y] at h ⊢;exact⟨p,e,d,_,s,h,λx i j v B l C m n o=>k _ _ j _ _ _ _ (r.trans m) n o⟩
  |false =>
   rw[VC Wo] at h ⊢
   calc⟨p,e,d,_,s,h,λx i j v B l C m n o=>k _ _ j _ _ _ _ (r.trans m) n o⟩⟩
end
structure KS where
 nx:aI->Prop
 rt:DV->aI->Prop
 bk:aI->Prop:=λ_=>False
 ct:aI->Prop:=λ_=>False
abbrev WS:=KS->aI->Prop
def Cn(F:Hp)(f:-U)(mu:-(Option OV))(H:Hp)(P:aI->Prop)(R:St->Hp->Prop):Prop:=∀a,P a->∀e b c d,Ext F f mu H e b a.mu d->SR e b a c d->R c d
class j3 where
 ok:Nat->Int->Prop
 kp:-U->-(Option OV)->Hp->Prop
 st:∀{F ad mu H F' bV gi H'},Ext F ad mu H F' bV gi H'->kp ad mu H->kp bV gi H'
instance (priority:=low) LZ:j3:=⟨λ_ _=>False,λ_ _ _=>True,λ_ _=>trivial⟩
section
variable[j3]
structure tT(F:Hp)(ad:-U)(mu:-(Option OV))(H:Hp)(K:KS)(D:Ends):Prop where
 nx:Cn F ad mu H K.nx D.nx
 bk:Cn F ad mu H K.bk D.bk
 ct:Cn F ad mu H K.ct D.ct
 rt:∀x δ',K.rt x δ'->∀v F' bV σ' H',Ext F ad mu H F' bV δ'.mu H'->SR F' bV δ' σ' H'->eN F' bV x v->D.rt v H'
 kp:j3.kp ad mu H
theorem Cn.ext{F F' H H':Hp}{f a:-U}{mu b:-(Option OV)}{P:aI->Prop}{R:St->Hp->Prop}(c:Cn F f mu H P R)(e:Ext F f mu H F' a b H'):Cn F' a b H' P R:=λd h _ _ _ _ E S=>c d h _ _ _ _ (e.trans E) S
theorem tT.ext{F F' H H':Hp}{f a:-U}{mu b:-(Option OV)}{K:KS}{D:Ends}(c:tT F f mu H K D)(e:Ext F f mu H F' a b H'):tT F' a b H' K D :=
 ⟨c.nx.ext e,c.bk.ext e,c.ct.ext e,λx d h _ _ _ _ _ E S V=>c.rt x d h _ _ _ _ _ (e.trans E) S V,j3.st e c.kp⟩
inductive eh (G:WS) (D:Ends) (σ:St) (H:Hp):Prop
 |mk (F:Hp) (ad:-U) (δ:aI) (K:KS) (S:SR F ad δ σ H) (q:G K δ) (k:tT F ad δ.mu H K D)
def az(G a:WS):WS:=λK b=>G {K with nx:=a K} b
def cP:WS:=λK a=>K.nx a
def c3:WS:=λK a=>K.bk a
def c4:WS:=λK a=>K.ct a
def aJ(i:Nat)(f:WE):WS:=λK b=>f b λx a=>K.nx ⟨a.sl.set i (ζ x),a.mu⟩
def dr(f:WE):WS:=λK b=>f b λ_ a=>K.nx a
def aY(f:WE):WS:=λK b=>f b λx a=>K.rt x a
def gM:WS:=λK a=>K.rt (.p .non) a
def bh(t:WT)(G c:WS):WS:=λK d=>t d λb a=>if b=θ then G K a else c K a
section
variable{X:Cx}{e c:J}{st:y}{rest:-y}{f:WE}{t:WT}{G G':WS}{pos:I}
theorem kB:ee X [] (eh cP):=mf.weak λD a H ⟨F,b,c,K,S,q,k⟩↦k.nx _ q _ _ _ _ .refl S
theorem dy(h:JS X st (eh G)):ee X [st] (eh G):=qf h
theorem bZ(h:JS X st (eh G))(r:ee X rest (eh G')):ee X (st::rest) (eh (az G G')) :=
 (nL h r).weak λD e H ⟨F,b,c,K,S,q,k⟩↦⟨F,b,c,_,S,q,⟨λa h _ _ _ _ E d=>⟨_,_,a,K,d,h,k.ext E⟩,k.bk,k.ct,k.rt,k.kp⟩⟩
theorem L0{i:Nat}:∀D a H,eh (aJ i f) D a H->ki (tD f) (nN i) D a H:=λD a H ⟨F,b,c,K,S,q,k⟩↦⟨F,b,c,_,S,q,λx d e v m g n h j l=>k.nx _ e _ _ _ _ h (j.set l)⟩
theorem f6{i:Nat}{x:R}{a:I}(b:X.N.Nodup)(c:X.N[i]?=ζ x)(d:Loc X.env.scope x)(he:JE X e (tD f))(hs:swapsWith e (ζ (.Name x a)) pos.line X.env=pure ι:=by rfl)
  (g:ik X x:=by first|exact .inl Y|exact .inr Y|assumption):JS X (.Assign [.Name x a] e pos) (eh (aJ i f)):=(ti b c d he hs g).weak L0
theorem jy(he:JE X e (tD f))(hs:swapsWith e η pos.line X.env=pure ι:=by rfl):JS X (.Expr e pos) (eh (dr f)) :=
 (Bq he hs).weak λD j H ⟨F,a,b,K,S,q,k⟩↦⟨F,a,b,_,S,q,λx c d v l g m h i n=>k.nx _ d _ _ _ _ h i⟩
theorem f7(he:JE X e (tD f)):JS X (.Return (ζ e) pos) (eh (aY f)) :=
 (vJ he).weak λD l H ⟨F,a,b,K,S,q,k⟩↦⟨F,a,b,_,S,q,λx c d v m g n h i j=>k.rt _ _ d _ _ _ _ _ h i j⟩
theorem j4{a b:-y}(j:JT X c (d5 t))(l:ee X a (eh G))(m:ee X b (eh G')):JS X (.If c a b pos) (eh (bh t G G')) :=
 (I0 j l m).weak λD p H ⟨F,n,o,K,S,q,k⟩↦⟨F,n,o,_,S,q,λb d f g e r h i=>by
  cases b with
  |true =>
   rw[VE Y] at f ⊢;exact⟨g,e,d,K,i,f,k.ext h⟩
  |false =>
   rw[VC Wo] at f ⊢
   calc⟨g,e,d,K,i,f,k.ext h⟩⟩
def eX:WS:=λ_ _=>False
abbrev WG:=DV->aI->(aI->Prop)->Prop
inductive j5 (g:WG) (v:V) (σ:St) (H:Hp) (Q:St->Hp->Prop):Prop
 |mk (F:Hp) (ad:-U) (δ:aI) (x:DV) (K:aI->Prop) (S:SR F ad δ σ H) (V:eN F ad x v) (q:g x δ K) (k:Cn F ad δ.mu H K Q)
abbrev og:=-D->aI->(aI->Prop)->Prop
def mz(g:og):kR:=λd e H Q=>∃F b a c K,SR F b a e H/\ax F c d/\g c a K/\Cn F b a.mu H K Q
def bj(i:Nat):WG:=λx a K=>K ⟨a.sl.set i (ζ x),a.mu⟩
def dt:og:=λa b K=>match a with
 |[]=>K b
 |_=>False
def cj(g:WG)(g':og):og:=λb c K=>match b with
 |d::r=>g (.p d) c λa=>g' r a K
 |[]=>False
theorem JG.weak{c:J}{t t':TG}(h:JG X c t)(k:∀v a H Q,t' v a H Q->t v a H Q):JG X c t':=⟨λb s a H v u Q I r q=>h b s a H v u Q I r (k v a H Q q)⟩
theorem jX.weak{ts:-J}{t t':kR}(h:jX X ts t)(k:∀v a H Q,t' v a H Q->t v a H Q):jX X ts t':=⟨λb s a H v u Q I r q=>h b s a H v u Q I r (k v a H Q q)⟩
theorem hH{i:Nat}{x:R}(a:X.N.Nodup)(b:X.N[i]?=ζ x)(c:Loc X.env.scope x)(d:ik X x:=by first|exact .inl Y|exact .inr Y|assumption):JG X (.Name x pos) (j5 (bj i)) :=
 (qi a b c d).weak λv e H Q ⟨F,f,g,x,K,S,V,q,k⟩↦k _ q _ _ _ _ .refl (S.set V)
theorem pw:jX X [] (mz dt):=iq.weak λa b H Q ⟨F,c,d,e,K,S,V,q,k⟩↦by
 unfold dt at q;split at q
 .erw[ax] at V
  exact⟨V,k _ q _ _ _ _ .refl S⟩
 .calc q.elim
theorem lq{es:-J}{g:WG}{g':og}(b:JG X e (j5 g))(c:jX X es (mz g'))(hs:(assignEach (e::es) X.env).map (·.2)=assign e X.env::(assignEach es X.env).map (·.2):=by rfl):jX X (e::es) (mz (cj g g')) :=
 (qk b c hs).weak λo s H Q ⟨F,f,i,t,K,S,V,q,k⟩↦by
  unfold cj at q;split at q
  .rename_i d r
   erw[ax] at V;let⟨v,j,e,l,m⟩:=V;exact⟨v,j,e,F,f,i,.p d,_,S,l,q,λa h _ _ _ _ E n=>⟨_,_,a,r,K,n,m.same E.same,h,k.ext E⟩⟩
  .calc q.elim
def dz(n:Nat)(g:og):WG:=λx b K=>dG x b λd=>match d with
 |.tup a=>↑a=n/\g a b K
 |.lst a=>↑a=n/\g a b K
 |_=>False
theorem JG.or{c:J}{t t':TG}(h:JG X c t)(h':JG X c t'):JG X c (λv b H Q=>t v b H Q\/t' v b H Q):=⟨λa s b H v u Q I r q=>q.elim (λq=>h a s b H v u Q I r q) λq=>h' a s b H v u Q I r q⟩
theorem px{es:-J}{k:Nat}{g:og}{n:Nat}(m:X.calm=θ)(h:jX X es (mz g))(hn:↑(assignEach es X.env)=n:=by rfl)(b:(assignEach es X.env).findIdx? (·.1)=η:=by rfl):JG X (.Tuple es k pos) (j5 (dz n g)) :=
 ((vM m h hn b).or (LP m h hn b)).weak λv s H Q ⟨F,o,p,x,K,S,V,q,k⟩↦by
  let⟨d,q,r⟩:=kX S V q;split at q
  .rename_i i
   let c:Is F (.tup i) v:=r;erw[Is] at c;let⟨a,j,e,l,f⟩:=c;exact .inl ⟨a,j,e,cF.of (S.sub _ _ l),by rw[↑f];calc q.1,F,o,p,i,K,S,f,q.2,k⟩
  .rename_i i
   let⟨a,j,e,l,f⟩:=r;exact .inr ⟨a,j,e,bS.of l,by rw[↑f];calc q.1,F,o,p,i,K,S,f,q.2,k⟩
  .calc q.elim
def b6(f:WE)(g:WG):WS:=λK b=>f b λx a=>g x a K.nx
theorem CS{a:J}{g:WG}(he:JE X e (tD f))(h:JG X a (j5 g))(hs:swapsWithSole [a] e pos.line X.env=pure ι:=by rfl)(i:swappedStores [a] e X.env=pure η:=by rfl)
  (b:(assignEach [a] X.env).map (·.2)=[assign a X.env]:=by rfl):JS X (.Assign [a] e pos) (eh (b6 f g)) :=
 (s_ he h hs i b).weak λD r H ⟨F,j,l,K,S,q,k⟩↦⟨F,j,l,_,S,q,λx c b v m d s n o p=>⟨m,d,c,x,K.nx,o,p,b,k.nx.ext n⟩⟩
end
end
structure nq where
 items:-D
 gF:aI->Prop
abbrev WI:=aI->(nq->aI->Prop)->Prop
def oh(F:Hp)(h:-U)(c:nq)(J:It):Prop:=∀(e:Hp)(b:-U)(g:aI)(j:St)(H:Hp),a_ F e->(∀(k:Nat)(a:U),h[k]?=ζ a->b[k]?=ζ a)->SR e b g j H->c.gF g →
 J.stop ↑c.items H/\∀(i:Nat)(d:D),c.items[i]?=ζ d->J.go i H/\∀x f,J.o7 i H x f->a_ H f/\Is (Nw e H f) d x
inductive kC (w:WI) (σ:St) (H:Hp) (R:It->Hp->Prop):Prop
 |mk (F:Hp) (ad:-U) (δ:aI) (K:nq->aI->Prop) (S:SR F ad δ σ H) (q:w δ K) (k:∀it δ',K it δ'->∀J F' bV H',Ext F ad δ.mu H F' bV δ'.mu H'->SR F' bV δ' σ H'->oh F' bV it J->R J H')
noncomputable def fL(n:Nat):Option DV->Option DV->Option DV
 |none,_=>η
 |some _,some (.o k)=>if k<n then ζ (.o k) else η
 |some _,some (.t d k)=>if k<n then ζ (.t d k) else η
 |some _,s=>s
noncomputable def du(n:Nat):-(Option DV)->-(Option DV)->-(Option DV)
 |a::b,s::r=>fL n a s::du n b r
 |[],_::r=>η::du n [] r
 |_,[]=>[]
noncomputable def aI.trim(δ0 a:aI):aI:=⟨du ↑δ0.mu δ0.sl a.sl,a.mu.take ↑δ0.mu⟩
theorem wN{n:Nat}:∀(a l:-(Option DV)),↑(du n a l)=↑l
 |_::b,_::r=>by rw[du,wo,wo,wN b r]
 |[],_::r=>by rw[du,wo,wo,wN [] r]
 |[],[]=>Y
 |_::_,[]=>Y
theorem wO{n:Nat}:∀{f l:-(Option DV)}{i:Nat}{x:DV},(du n f l)[i]?=ζ (ζ x)->l[i]?=ζ (ζ x)/\∀k,x=.o k\/(∃d,x=.t d k)->k<n
 |a::b,s::r,0,x,h=>by
  let h:fL n a s=ζ x:=by simpa[du] using h
  match a,s,h with
  |none,_,h=>cases h
  |some _,none,h=>cases h
  |some _,some (.p d),h=>cases(show ζ (DV.p d)=ζ x from h);exact⟨Y,λk e=>by rcases e with e|⟨_,e⟩<;>cases e⟩
  |some _,some (.w d),h=>cases(show ζ (DV.w d)=ζ x from h);exact⟨Y,λk e=>by rcases e with e|⟨_,e⟩<;>cases e⟩
  |some _,some (.u t d),h=>cases(show ζ (DV.u t d)=ζ x from h);exact⟨Y,λk e=>by rcases e with e|⟨_,e⟩<;>cases e⟩
  |some _,some (.t d k),h =>
   let h:(if k<n then ζ (DV.t d k) else η)=ζ x:=h
   by_cases c:k<n
   .rw[VE c] at h;cases h;exact⟨Y,λk' e=>by rcases e with e|⟨_,e⟩<;>cases e;calc c⟩
   .rw[VC c] at h;cases h
  |some _,some (.o k),h =>
   let h:(if k<n then ζ (DV.o k) else η)=ζ x:=h
   by_cases c:k<n
   .rw[VE c] at h;cases h;exact⟨Y,λk' e=>by rcases e with e|⟨_,e⟩<;>cases e;calc c⟩
   .rw[VC c] at h;cases h
 |a::b,s::r,i+1,x,h=>by
  let h:(du n b r)[i]?=ζ (ζ x):=by simpa[du] using h
  simpa using wO h
 |[],s::r,0,x,h=>by simp[du] at h
 |[],s::r,i+1,x,h=>by
  let h:(du n [] r)[i]?=ζ (ζ x):=by simpa[du] using h
  simpa using wO h
 |[],[],i,x,h=>by simp[du] at h
 |_::_,[],i,x,h=>by simp[du] at h
section
variable{F F' H H':Hp}{ad bV:-U}{δ δ' δ0:aI}{σ σ' τ:St}{mu gi:-(Option OV)}{l:U}{o:HO}
theorem Lv.take{n:Nat}{a:U}(h:Lv (ad.take n) (mu.take n) a):Lv ad mu a:=by
 let⟨k,d,b,c⟩:=h
 let e:k<n:=by
  let:=(pa.mp b).1;rw[Ww] at this;symm
 rw[W5 e] at b c;calc⟨k,d,b,c⟩
theorem SR.trim(S:SR F ad δ σ H):SR F (ad.take ↑δ0.mu) (δ0.trim δ) σ H:=by
 let g:∀{k:Nat}{a:U},(ad.take ↑δ0.mu)[k]?=ζ a->k<↑δ0.mu/\ad[k]?=ζ a:=λ{k a} e=>by
  let b:k<↑δ0.mu:=by
   let:=(pa.mp e).1;rw[Ww] at this;symm
  rw[W5 b] at e;exact⟨b,e⟩
 let f:∀{k:Nat}{w:Option OV},(δ.mu.take ↑δ0.mu)[k]?=ζ w->k<↑δ0.mu/\δ.mu[k]?=ζ w:=λ{k w} e=>by
  let b:k<↑δ0.mu:=by
   let:=(pa.mp e).1;rw[Ww] at this;symm
  rw[W5 b] at e;exact⟨b,e⟩
 refine⟨S.sub,λa x=>S.off a x.take,?_,λk l a w j c d m n=>S.inj k l a w j (g c).2 (g d).2 (f m).2 (f n).2,λk p e=>?_,λi x e=>?_,?_,S.tab,S.nt⟩
 .show ↑(ad.take _)=↑(δ.mu.take _)
  rw[Ww,Ww,S.di]
 .let⟨a,o,c,d,h⟩:=S.mu k p (f e).2
  exact⟨a,o,by rw[W5 (f e).1];calc c,d,h⟩
 .let⟨c,d⟩:=wO e
  let⟨v,q,r⟩:=S.sl i x c;exact⟨v,q,r.pre λk a s z=>by rw[W5 (d k z)];calc s⟩
 .show ↑σ=↑(du _ _ _)
  rw[wN];calc S.len
theorem Ext.trim{n:Nat}(e:Ext F ad mu H F' bV gi H')(hn:↑ad=n):Ext F ad mu H F' (bV.take n) (gi.take n) H' :=
 ⟨e.same,e.new,e.keep,λk a h=>by rw[W5 (by rw[<-hn];calc(pa.mp h).1)];calc e.pre k a h,λa x=>e.df a x.take,e.iB⟩
theorem SR.other(S:SR F ad δ σ H)(d:F l=η)(f:¬ Lv ad δ.mu l)(tk:a8.ok (upd H l o)):SR F ad δ σ (upd H l o):=by
 refine⟨λa u e=>?_,S.off,S.di,S.inj,λk b e=>?_,S.sl,S.len,tk,S.nt⟩
 .rw[bt (ed e d)];exact S.sub a u e
 .let⟨a,u,c,g,h⟩:=S.mu k b e
  calc⟨a,u,c,by rw[bt λz=>f (by subst z;calc⟨k,b,c,e⟩)];calc g,h⟩
theorem Ext.other(e:Ext F ad mu H F' bV gi H')(b:H l=η):Ext F ad mu H F' bV gi (upd H' l o) :=
 ⟨e.same,e.new,λa u h n t=>by rw[bt (ed h b)];calc e.keep a u h n t,e.pre,e.df,λa u h=>by rw[bt (ed h b)];calc e.iB a u h⟩
theorem SR.adopt(S:SR F ad δ σ H)(m:F l=η)(g:H l=ζ o)(n:¬ Lv ad δ.mu l)(p:∀b,o≠.tbl b:=by ext _ z;cases z):SR (upd F l o) ad δ σ H:=by
 let d:a_ F (upd F l o):=c_ m
 refine⟨λa u e=>?_,λa x=>?_,S.di,S.inj,λk r e=>?_,λi x e=>?_,S.len,S.tab,S.nt.up d λa j=>by
  let⟨b,q⟩:=a8.tb S.tab j;rw[bt λz=>by subst z;rw[g] at q;calc p b (WD q)]
  calc S.nt a j⟩
 .by_cases c:a=l
  .subst c;rw[cw] at e;cases e;exact g
  .rw[bt c] at e;exact S.sub a u e
 .rw[bt λz=>n (by subst z;calc x)];exact S.off a x
 .let⟨a,u,f,s,h⟩:=S.mu k r e
  exact⟨a,u,f,s,h.same d⟩
 .let⟨v,f,h⟩:=S.sl i x e
  calc⟨v,f,h.same d⟩
theorem Ext.adopt(e:Ext F ad mu H F' bV gi H')(b:H l=η)(d:F' l=η):Ext F ad mu H (upd F' l o) bV gi H' :=
 ⟨e.same.trans (c_ d),λa u h=>by
  by_cases c:a=l
  .subst c;exact .inr (.inl b)
  .rw[bt c] at h;calc e.new a u h,e.keep,e.pre,e.df,e.iB⟩
theorem SR.dU{ov:OV}(S:SR F ad δ σ H)(A:F l=η)(B:H l=ζ o)(p:¬ Lv ad δ.mu l)(h:fB F l ov o):SR F (ad++[l]) ⟨δ.sl,δ.mu++[ζ ov]⟩ σ H:=by
 let g:∀{k:Nat}{w:OV},(δ.mu++[ζ ov])[k]?=ζ (ζ w)->(k<↑δ.mu/\δ.mu[k]?=ζ (ζ w))\/(k=↑δ.mu/\w=ov):=λ{k w} e=>by
  by_cases c:k<↑δ.mu
  .rw[KI c] at e;exact .inl ⟨c,e⟩
  .let p:=(pa.mp e).1
   rw[qG,WJ] at p;let C:k=↑δ.mu:=by symm
   subst C;rw[My (B6 _),Xh] at e;exact .inr ⟨Y,by simpa using e.symm⟩
 let j:∀{k:Nat},k<↑δ.mu->(ad++[l])[k]?=ad[k]?:=λ{k} c=>KI (by rw[S.di];calc c);let b:(ad++[l])[↑δ.mu]?=ζ l:=by rw[<-S.di,My (B6 _),Xh];rfl
 refine⟨S.sub,λa x=>?_,by rw[qG,qG,S.di];rfl,λk t a w y d f r z=>?_,λk w e=>?_,λi x e=>?_,S.len,S.tab,S.nt⟩
 .let⟨k,w,d,f⟩:=x
  rcases g f with⟨c,r⟩|⟨c,r⟩
  .rw[j c] at d;exact S.off a ⟨k,w,d,r⟩
  .subst c;rw[b] at d;cases d;exact A
 .rcases g r with⟨c,q⟩|⟨c,q⟩
  .rw[j c] at d
   rcases g z with⟨m,n⟩|⟨m,n⟩
   .rw[j m] at f;exact S.inj k t a w y d f q n
   .subst m;rw[b] at f;cases f;exact absurd ⟨k,w,d,q⟩ p
  .subst c;rw[b] at d;cases d
   rcases g z with⟨m,n⟩|⟨m,n⟩
   .rw[j m] at f;exact absurd ⟨t,y,f,n⟩ p
   .exact m.symm
 .rcases g e with⟨c,q⟩|⟨c,q⟩
  .let⟨a,u,d,f,s⟩:=S.mu k w q
   exact⟨a,u,by rw[j c];calc d,f,s⟩
  .subst c;subst q;exact⟨l,o,b,B,h⟩
 .let⟨v,d,s⟩:=S.sl i x e
  calc⟨v,d,s.pre λk a f _=>by rw[KI (pa.mp f).1];calc f⟩
theorem Ext.dU{ov:OV}(e:Ext F ad mu H F' bV gi H')(i:H l=η)(g:↑bV=↑gi):Ext F ad mu H F' (bV++[l]) (gi++[ζ ov]) H' :=
 ⟨e.same,e.new,e.keep,λk a h=>by rw[KI (pa.mp (e.pre k a h)).1];calc e.pre k a h,λa x=>by
  let⟨k,w,b,d⟩:=x
  by_cases c:k<↑gi
  .rw[KI c] at d
   rw[KI (by rw[g];calc c)] at b;exact e.df a ⟨k,w,b,d⟩
  .let f:=(pa.mp d).1
   rw[qG,WJ] at f;let j:k=↑bV:=by rw[g];symm
   subst j;rw[My (B6 _),Xh] at b;let:l=a:=by simpa using b
   subst this;calc .inr i,e.iB⟩
theorem SR.back{sl:-(Option DV)}(a:SR F ad δ σ H)(e:Ext F ad δ.mu H F' bV gi H')(S:SR F' bV ⟨sl,gi⟩ τ H'):SR F' bV ⟨δ.sl,gi⟩ σ H' :=
 ⟨S.sub,S.off,S.di,S.inj,S.mu,λi x q=>let⟨v,b,c⟩:=a.sl i x q;⟨v,b,c.ext e⟩,a.len,S.tab,S.nt⟩
noncomputable def bN(cp:-(Option Nat))(sl:-(Option DV)):-(Option DV):=cp.map λo=>match o with
 |some i=>(sl[i]?).join
 |none=>η
theorem SR.rm{cp:-(Option Nat)}(S:SR F ad δ σ H):SR F ad ⟨bN cp δ.sl,δ.mu⟩ (jx cp σ) H:=by
 calc⟨S.sub,S.off,S.di,S.inj,S.mu,λj x e=>?_,by unfold jx bN;rw[nW,nW],S.tab,S.nt⟩;unfold bN at e;rw[B8] at e;let⟨o,b,a⟩:=KJ.mp e
 match o,a with
 |none,a=>cases a
 |some i,a =>
  let a:(δ.sl[i]?).join=ζ x:=a
  cases q:δ.sl[i]? with
  |none=>rw[q] at a;cases a
  |some z =>
   rw[q] at a;let c:z=ζ x:=a;subst c;let⟨v,d,f⟩:=S.sl i x q;calc⟨v,?_,f⟩;unfold jx;rw[B8,b];show ζ ((σ[i]?).join)=ζ (ζ v);rw[d];rfl
end
def kZ(δ0:aI)(a:aI->Prop)(g:WG)(b:WS)(K:KS):-D->aI->Prop
 |[],e=>a e/\K.nx e
 |d::r,e=>a e/\g (.p d) e λf=>b {nx:=λc=>kZ δ0 a g b K r (δ0.trim c),ct:=λc=>kZ δ0 a g b K r (δ0.trim c),bk:=K.nx,rt:=K.rt} f
def bH(w:WI)(g:WG)(b:WS):WS:=λK d=>w d λc a=>kZ a c.gF g b K c.items a
def j6(δ0:aI)(c:aI->Prop)(g:WG)(t:WT)(f:WE)(K:-D->aI->Prop):-D->-D->aI->Prop
 |[],a,h=>c h/\K a h
 |d::r,a,h=>c h/\g (.p d) h λj=>t j λb i=>if b=θ then f i λx k=>eg x k λe l=>↑a<1000/\j6 δ0 c g t f K r (a++[e]) (δ0.trim l) else j6 δ0 c g t f K r a (δ0.trim i)
def cx(w:WI)(cp:-(Option Nat))(g:WG)(t:WT)(f:WE):WE:=λe K=>w e λd a=>j6 ⟨bN cp a.sl,a.mu⟩ d.gF g t f (λb c=>K (.p (.lst b)) ⟨a.sl,c.mu⟩) d.items [] ⟨bN cp a.sl,a.mu⟩
def eY(w:WI)(cp:-(Option Nat))(g:WG)(t:WT)(f:WE):WE:=λe K=>w e λd a=>j6 ⟨bN cp a.sl,a.mu⟩ d.gF g t f (λc b=>K (.o ↑b.mu) ⟨a.sl,b.mu++[ζ (.lst c)]⟩) d.items [] ⟨bN cp a.sl,a.mu⟩
section
variable{X:Cx}{tg iter elt:J}{body:-y}{w:WI}{g:WG}{b:WS}{pos:I}{ifs:-J}{t:WT}{f:WE}{scope:o}
theorem lr[j3](hp:PassesOwn (ς X.prog X.w) X.A X.env X.xe)(hc:X.calm=θ)(hi:JI X tg iter (kC w))(hg:JG X tg (j5 g))(hb:ee X body (eh b))(hs:∀x,foldedSetIterable iter X.env x=pure x:=by ext _;rfl):
  JS X (.For tg iter body [] pos) (eh (bH w g b)):=(vQ hp hc hi hg hb hs).weak λD σ H ⟨F,ad,δ,K,S,q,k⟩=>by
 calc⟨F,ad,δ,_,S,q,λn d h1 J G o W E1 I Y=>?_⟩;let C:=k.ext E1;calc⟨λi m j s=>∃t c a,i+m=↑n.items/\Ext G o d.mu W t c a.mu s/\SR t c a j s/\kZ d n.gF g b K (n.items.drop i) a,⟨↑n.items,G,o,d,⋯,.refl,I,h1⟩,?_⟩;ext i m j s ⟨t,c,a,hm,r,u,h⟩
 by_cases v:i<↑n.items
 .rw[YS v] at h
  let⟨L,h⟩:=h;let⟨go,yl⟩:=(Y t c a j s r.same r.pre u L).2 i _ (tE v);calc .inr ⟨go,λz B=>∃E l e,Ext G o d.mu W E l e.mu B/\SR E l e z B/\kZ d n.gF g b K (n.items.drop (i+1)) e,λz B ⟨E,l,e,e1,e2,e3⟩↦⟨m-1,⋯,E,l,e,⋯,e1,e2,e3⟩,λx B y=>?_⟩;let⟨Z,is⟩:=yl x B y;let E2:=r.trans (Ext.al u Z);calc⟨_,c,a,.p _,_,u.al Z,is,h,λM h3 F3 N σ3 H3 E3 S3=>?_⟩;let f:=E2.trans E3;refine⟨F3,N,M,_,S3,h3,⟨λO P Q R T H4 U V=>⟨Q,_,_,(f.trans U).trim I.di,V.trim,P⟩,C.nx.ext f,λO P Q R T H4 U V=>⟨Q,_,_,(f.trans U).trim I.di,V.trim,P⟩,(C.ext f).rt,(C.ext f).kp⟩⟩
 .let ei:i=↑n.items:=by symm
  subst ei;rw[q1y (B6 _)] at h;let⟨L,h⟩:=h;calc .inl ⟨(Y t c a j s r.same r.pre u L).1,C.nx _ h _ _ _ _ r u⟩
def bI:WT:=λa K=>K θ a
theorem JF.weak{a:-J}{t t':TT}(h:JF X a t)(k:∀b H Q,t' b H Q->t b H Q):JF X a t':=⟨λc s b H Q I q=>h c s b H Q I (k b H Q q)⟩
theorem wQ:JF X [] (d5 bI):=nY.weak λa H Q ⟨F,b,c,K,S,q,k⟩↦k _ _ q _ _ _ .refl S
theorem tU{c:J}(h:JT X c (d5 t)):JF X [c] (d5 t):=KP h
theorem CT{J:It}{l:ξ}{F:Hp}{j:-ξ}{b:aI}{σ:St}{L:Hp}{C:nq}{cp:-(Option Nat)}{Q:VK}{K:-D->aI->Prop}(P:SR F j b σ L)(I1:oh F j C J)(R:L l=η)
  (h:j6 ⟨bN cp b.sl,b.mu⟩ C.gF g t f K C.items [] ⟨bN cp b.sl,b.mu⟩)
  (fin:∀n c F' d W H' ys,K n c->Ext F j b.mu L F' d c.mu H'->SR F' d c W H'->H' l=ζ (.lst ys)->F' l=η->¬ Lv d c.mu l->ax F' n ys->Q (.ref l) H') :
  Ca J (j5 g) (d5 t) (tD f) l (jx cp σ) (upd L l (.lst [])) Q:=by
 let f1:F l=η:=by
  cases q:F l with
  |none=>rfl
  |some u=>rw[P.sub l u q] at R;cases R
 let nl:∀{ad mu},(∀a,Lv ad mu a->Lv j b.mu a\/L a=η)->True:=λ_=>trivial
 let l1:¬ Lv j b.mu l:=λ⟨k,ov,e1,e2⟩↦by
  let⟨a,o,e3,e4,_⟩:=P.mu k ov e2;rw[e1] at e3;cases e3;rw[R] at e4;cases e4
 let S0:SR F j ⟨bN cp b.sl,b.mu⟩ (jx cp σ) (upd L l (.lst [])):=P.rm.other f1 l1 (a8.same P.tab (c_ R));calc⟨λi m W S=>∃M d c n N,i+m=↑C.items/\Ext F j b.mu L M d c.mu S/\SR M d c W S/\S l=ζ (.lst N)/\M l=η/\¬ Lv d c.mu l/\ax M n N/\j6 ⟨bN cp b.sl,b.mu⟩ C.gF g t f K (C.items.drop i) n c,⟨↑C.items,F,j,_,[],[],⋯,Ext.refl.other R,S0,cw,f1,l1,.nil,h⟩,?_⟩;ext i m W S ⟨M,d,c,n,N,hm,T,Y,G,Z,H,ia,h⟩
 by_cases tV:i<↑C.items
 .rw[YS tV] at h
  let⟨ck,h⟩:=h;let⟨go,yl⟩:=(I1 M d c W S T.same T.pre Y ck).2 i _ (tE tV)
  let O:∀{B:Hp}{s:-ξ}{U:-(Option OV)}{E:Hp},Ext M d c.mu S B s U E->E l=ζ (.lst N)/\B l=η/\¬ Lv s U l/\ax B n N:=λ{B s U E} e=>by
   refine⟨e.keep _ _ G H (λz=>by let⟨ps,q⟩:=a8.tb P.tab z;rw[R] at q;cases q),?_,λz=>?_,ia.same e.same⟩
   .cases q:B l with
    |none=>rfl
    |some u =>
     rcases e.new l u q with z|z|z
     .rw[Z] at z;cases z
     .rw[G] at z;cases z
     .exact absurd z H
   .rcases e.df l z with z|z
    .exact H z
    .rw[G] at z;cases z
  refine .inr ⟨go,fun τ2 E=>∃B s A w I,Ext F j b.mu L B s A.mu E/\SR B s A τ2 E/\E l=ζ (.lst I)/\B l=η/\¬ Lv s A.mu l/\ax B w I/\j6 ⟨bN cp b.sl,b.mu⟩ C.gF g t f K (C.items.drop (i+1)) w A,
   fun τ2 E ⟨B,s,A,w,I,r⟩↦⟨m-1,⋯,B,s,A,w,I,⋯,r⟩,λx E y=>?_⟩
  let⟨sm,is⟩:=yl x E y;let X2:=Ext.al Y sm;calc⟨_,d,c,.p _,_,Y.al sm,is,h,fun δ3 h3 F3 CU σ3 H3 X3 S3=>?_⟩;calc⟨F3,CU,δ3,_,S3,h3,λbb δ4 X F4 CV H4 X4 S4=>?_⟩;let V:=(X2.trans X3).trans X4
  cases bb with
  |false =>
   dsimp only at X ⊢;rw[VC Wo] at X ⊢;let⟨a1,a2,a3,a4⟩:=O V;exact⟨F4,_,_,n,N,(T.trans V).trim P.di,S4.trim (δ0:=⟨bN cp b.sl,b.mu⟩),a1,a2,λz=>a3 z.take,a4,X⟩
  |true =>
   dsimp only at X ⊢;rw[VE rfl] at X ⊢;calc⟨F4,CV,δ4,_,S4,X,λy δ5 h5 v F5 UJ H5 X5 S5 V5=>?_⟩;let⟨e,δ6,F6,⟨hlen,h6⟩,X6,S6,i6⟩:=n_ S5 V5 h5;let CW:=(V.trans X5).trans X6;let⟨a1,a2,a3,a4⟩:=O CW;calc⟨N,a1,kW (by rw[↑a4];symm),F6,_,_,n++[e],N++[v],?_,(S6.other a2 a3 (a8.put S6.tab a1 (.inl ⟨_,rfl⟩))).trim (δ0:=⟨bN cp b.sl,b.mu⟩),cw,a2,λz=>a3 z.take,a4.snoc i6,h6⟩;exact((T.trans CW).other R).trim P.di
 .let ei:i=↑C.items:=by symm
  subst ei;rw[q1y (B6 _)] at h;let⟨ck,h⟩:=h;calc .inl ⟨(I1 M d c W S T.same T.pre Y ck).1,fin _ _ _ _ _ _ _ h T Y G Z H ia⟩
theorem CY{cp:-(Option Nat)}:∀b H Q,tD (cx w cp g t f) b H Q->qL (kC w) cp (λ_=>j5 g) (λ_=>d5 t) (λ_=>tD f) b H Q:=λb H Q ⟨F,r,s,K,S,q,k⟩=>by
 calc⟨F,r,s,_,S,q,λG u v J I x L y m z=>λd l c=>?_⟩;calc CT m z c v λe h n A M N o B p C i a j D=>?_;let E:a_ n (upd n l (.lst o)):=c_ a;calc k _ _ B _ _ _ _ (y.trans (p.adopt c a)) (SR.back (sl:=h.sl) m (p.adopt c a) (C.adopt a i j)) ?_;show Is _ (.lst e) _;erw[Is];calc⟨l,o,Y,cw,D.same E⟩
theorem L1{cp:-(Option Nat)}:∀b H Q,tD (eY w cp g t f) b H Q->qL (kC w) cp (λ_=>j5 g) (λ_=>d5 t) (λ_=>tD f) b H Q:=λb H Q ⟨F,p,r,K,S,q,k⟩=>by
 calc⟨F,p,r,_,S,q,λG s u J I v L x m y=>λd l n=>?_⟩;calc CT m y n u λa c M z N O A B C e h i j D=>?_;let E:=e.dU (ov:=.lst a) i h j ⟨A,Y,D⟩;let o:=C.dU (ov:=.lst a) n e.di;calc k _ _ B _ _ _ _ (x.trans o) (SR.back (sl:=c.sl) m o E) ⟨l,?_,Y⟩;rw[<-e.di,My (B6 _),Xh];rfl
theorem tW(cp:-(Option Nat))(Nb:-R)(a:X.calm=θ)(b:JI X tg iter (kC w))(c:∀d,JG (dH X scope Nb d) tg (j5 g))(e:∀d,JF (dH X scope Nb d) ifs (d5 t))(he:∀d,JE (dH X scope Nb d) elt (tD f))
  (h:scope.kind=.function:=by rfl) (i:lh X.N X.env.scope scope Nb cp=θ:=by first|rfl|kernel_rfl) (hs:∀x,foldedSetIterable iter X.env x=pure x:=by ext _;rfl) :
  JE X (.ListComp elt [⟨tg,iter,ifs,0⟩] scope pos) (tD (cx w cp g t f)):=(Cc cp Nb a b c e he h i hs).weak CY
theorem L3(cp:-(Option Nat))(Nb:-R)(a:X.calm=θ)(b:JI X tg iter (kC w))(c:∀d,JG (dH X scope Nb d) tg (j5 g))(e:∀d,JF (dH X scope Nb d) ifs (d5 t))(he:∀d,JE (dH X scope Nb d) elt (tD f))
  (h:scope.kind=.function:=by rfl) (i:lh X.N X.env.scope scope Nb cp=θ:=by first|rfl|kernel_rfl) (hs:∀x,foldedSetIterable iter X.env x=pure x:=by ext _;rfl) :
  JE X (.ListComp elt [⟨tg,iter,ifs,0⟩] scope pos) (tD (eY w cp g t f)):=(Cc cp Nb a b c e he h i hs).weak L1
theorem wR[j3](cp:-(Option Nat))(Nb:-R){i:Nat}{x:R}{a b:Ε}(j:X.N.Nodup)(l:X.N[i]?=ζ x)(m:Loc X.env.scope x)(n:X.calm=θ)(c:JI X tg iter (kC w))(o:∀d,JG (dH X scope Nb d) tg (j5 g))(p:∀d,JF (dH X scope Nb d) ifs (d5 t))(he:∀d,JE (dH X scope Nb d) elt (tD f))
  (r:scope.kind=.function:=by rfl) (s:lh X.N X.env.scope scope Nb cp=θ:=by first|rfl|kernel_rfl) (hs:∀x,foldedSetIterable iter X.env x=pure x:=by ext _;rfl)
  (e:swapsWith (.ListComp elt [⟨tg,iter,ifs,0⟩] scope pos) (ζ (.Name x a)) b.line X.env=pure θ:=by rfl)
  (h:ik X x:=by first|exact .inl Y|exact .inr Y|assumption) :
  JS X (.Assign [.Name x a] (.ListComp elt [⟨tg,iter,ifs,0⟩] scope pos) b) (eh (aJ i (cx w cp g t f))) :=
 (K5 cp Nb j l m n c o p he r s hs e h).weak λD u H ⟨F,y,z,K,S,q,k⟩↦CY u H _ ⟨F,y,z,_,S,q,λx A B v J C L E G I=>k.nx _ B _ _ _ _ E (G.set I)⟩
end
inductive RV where
 |p (d:D)|n (ds:-D)|a (j:Nat)|t (d:D) (ds:-D)
def oj(F' H H':Hp)(d:D)(ds:-D)(v:V):Prop:=∃a b u c,v=.ref a/\F' a=ζ (.tup [u,.ref b])/\Is F' d u/\H b=η/\H' b=ζ (.lst c)/\F' b=η/\ax F' ds c
abbrev GD:=-DV->-OV->(RV->-OV->Prop)->Prop
structure tX(F:Hp)(ad:-U)(H:Hp)(r:RV)(ows:-OV)(v:V)(F' H':Hp):Prop where
 sub:a_ F' H'
 same:a_ F F'
 new:∀a o,F' a=ζ o->F a=ζ o\/H a=η
 keep:∀a o,H a=ζ o->a∉ad->a∉a8.ad->H' a=ζ o
 tab:a8.ok H'
 nt:NT F'
 len:↑ows=↑ad
 own:∀(j:Nat)(ow:OV),ows[j]?=ζ ow->∃a o,ad[j]?=ζ a/\H' a=ζ o/\fB F' a ow o
 off:∀a∈ad,F' a=η
 res:match r with
  |.p d=>Is F' d v
  |.n ds=>∃a vs,v=.ref a/\H a=η/\H' a=ζ (.lst vs)/\F' a=η/\ax F' ds vs
  |.a j=>∃a,ad[j]?=ζ a/\v=.ref a
  |.t d ds=>oj F' H H' d ds v
inductive lZ (G:GD) (n:Nat) (vs:-V) (H:Hp) (Q:VK) (_:XK):Prop
 |mk (hl:↑vs=n) (F:Hp) (ad:-U) (ys:-DV) (bF:-OV) (K:RV->-OV->Prop) (S:SR F ad ⟨ys.map ζ,bF.map ζ⟩ (vs.map ζ) H) (g:G ys bF K) (k:∀r ows,K r ows->∀v F' H',tX F ad H r ows v F' H'->Q v H')
def jg(n:Nat)(K:RV->-OV->Prop)(x:DV)(e:aI):Prop:=∃b,e.mu.take n=b.map ζ/\↑b=n/\match x with
 |.p d=>K (.p d) b
 |.o k=>if k<n then K (.a k) b else match e.mu[k]? with
  |some (some (.lst c))=>K (.n c) b\/K (.p (.lst c)) b
  |_=>False
 |.w _=>False
 |.u _ _=>False
 |.t d k=>n<=k/\match e.mu[k]? with
  |some (some (.lst c))=>K (.t d c) b
  |_=>False
noncomputable def eu(n:Nat)(K:RV->-OV->Prop):KS where
 nx:=jg n K (.p .non)
 rt:=jg n K
section
variable{F F' H H':Hp}{ad bV:-U}{σ σ':St}
theorem ro{a:Type}{l:-a}{i:Nat}{x:a}(h:(l.map ζ)[i]?=ζ (ζ x)):l[i]?=ζ x:=by
 rw[B8] at h;let⟨y,e,q⟩:=KJ.mp h;cases q;calc e
theorem rp{a:Type}{l:-a}{i:Nat}{x:a}(h:l[i]?=ζ x):(l.map ζ)[i]?=ζ (ζ x):=by
 rw[B8,h];rfl
theorem SR.start{ys:-DV}{mu:-(Option OV)}{vs:-V}{N:-R}(S:SR F ad ⟨ys.map ζ,mu⟩ (vs.map ζ) H):SR F ad ⟨ys.map ζ++VG (↑N-↑vs) η,mu⟩ (start N vs) H:=by
 let a:↑vs=↑ys:=by
  let:=S.len;rw[nW] at this;rw[this];rw[nW]
 refine⟨S.sub,S.off,S.di,S.inj,S.mu,λi x e=>?_,?_,S.tab,S.nt⟩
 .let b:i<↑ys:=by
   by_cases c:i<↑ys
   .exact c
   .rw[My (by rw[nW];symm),ZF] at e
    split at e
    .cases e
    .cases e
  rw[KI (by rw[nW];calc b)] at e;let⟨v,d,f⟩:=S.sl i x e;exact⟨v,by unfold L2.start;rw[KI (by rw[nW,a];calc b)];calc d,f⟩
 .unfold L2.start
  rw[qG,qG,Zc,Zc,nW,nW,a]
theorem tY{g:-OV}{L:aI}{x:DV}{v:V}{K:RV->-OV->Prop}{Q:VK}{sl:-(Option DV)}{τ:St}(S0:SR F ad ⟨sl,g.map ζ⟩ τ H)(E:Ext F ad (g.map ζ) H F' bV L.mu H')(S:SR F' bV L σ' H')(V:eN F' bV x v)
  (h:jg ↑g K x L) (k:∀r s,K r s->∀v F' H',tX F ad H r s v F' H'->Q v H'):Q v H':=by
 let⟨s,tk,U,h⟩:=h;let M:↑ad=↑g:=by let:=S0.di;rwa [nW] at this
 let Z:∀(j:Nat)(a:ξ),ad[j]?=ζ a->∃X,s[j]?=ζ X/\L.mu[j]?=ζ (ζ X)/\Lv bV L.mu a:=λj a e=>by
  let I:j<↑g:=by rw[<-M];exact(pa.mp e).1
  let Y:(L.mu.take ↑g)[j]?=ζ (ζ (s[j]'(by rw[U];calc I))):=by
   rw[tk,B8,tE (by rw[U];calc I)];rfl
  rw[W5 I] at Y;exact⟨_,tE (by rw[U];calc I),Y,j,_,E.pre j a e,Y⟩
 let f:∀a∈ad,F' a=η:=λa N=>by
  let⟨j,e⟩:=VL.mp N;let⟨_,_,_,l⟩:=Z j a e;exact S.off a l
 let m:∀{F2:Hp},a_ F' F2->a_ F2 H'->(∀a o,F2 a=ζ o->F' a=ζ o\/(H a=η/\¬ a∈ad))->(∀a∈ad,F2 a=η)->NT F2->∀{r:RV},(match r with
   |.p d=>Is F2 d v
   |.n C=>∃a y,v=.ref a/\H a=η/\H' a=ζ (.lst y)/\F2 a=η/\ax F2 C y
   |.a j=>∃a,ad[j]?=ζ a/\v=.ref a
   |.t d C=>oj F2 H H' d C v)->tX F ad H r s v F2 H':=λ{F2} s1 s2 n2 o2 L5 {r} res=>by
  refine⟨s2,E.same.trans s1,λa o e=>?_,λa o e n t=>?_,S.tab,L5,by rw[U,M],λj ow e=>?_,o2,res⟩
  .rcases n2 a o e with e|⟨e,_⟩
   .rcases E.new a o e with z|z|⟨j,ov,z,_⟩
    .exact .inl z
    .exact .inr z
    .rw[f a (VL.mpr ⟨j,z⟩)] at e;cases e
   .exact .inr e
  .exact E.keep a o e (λ⟨j,ov,z,_⟩↦n (VL.mpr ⟨j,z⟩)) t
  .let I:j<↑ad:=by rw[M,<-U];exact(pa.mp e).1
   let⟨CZ,A,O,_⟩:=Z j _ (tE I);rw[e] at A;cases A;let⟨a,o,G,e4,h5⟩:=S.mu j _ O;rw[E.pre j _ (tE I)] at G;cases G
   exact⟨_,o,tE I,e4,h5.same s1⟩
 let B:∀{i:Nat}{C:-D}{a:ξ},¬ i<↑g->bV[i]?=ζ a->L.mu[i]?=ζ (ζ (.lst C))->∃y,H' a=ζ (.lst y)/\ax F' C y/\a∉ad/\F' a=η/\H a=η:=λ{i C a} c A J=>by
  let⟨a',o,O,G,y,rfl,P⟩:=S.mu i _ J;rw[A] at O;cases O
  let R:a∉ad:=λz=>by
   let⟨j,e⟩:=VL.mp z;let⟨X,_,e5,_⟩:=Z j a e;let:i=j:=S.inj i j a _ _ A (E.pre j a e) J e5;subst this;exact c (by rw[<-M];calc(pa.mp e).1)
  calc⟨y,G,P,R,S.off a ⟨i,_,A,J⟩,?_⟩;rcases E.df a ⟨i,_,A,J⟩ with⟨j,ov,z,_⟩|z
  .exact absurd (VL.mpr ⟨j,z⟩) R
  .exact z
 cases x with
 |p d=>exact k _ _ h _ _ _ (m (F2:=F') (λ_ _ e=>e) S.sub (λ_ _ e=>.inl e) f S.nt V)
 |w _=>exact h.elim
 |u _ _=>exact h.elim
 |t d i =>
  let⟨a,b,u,rfl,e0,O,A⟩:=V;let⟨c,h⟩:=h;split at h
  .rename_i C J
   let⟨y,G,P,R,T,N⟩:=B ⋯ A J;exact k _ _ h _ _ _ (m (F2:=F') (λ_ _ e=>e) S.sub (λ_ _ e=>.inl e) f S.nt ⟨a,b,u,y,rfl,e0,O,N,G,T,P⟩)
  .exact h.elim
 |o i =>
  dsimp only at h;let⟨a,A,rfl⟩:=V
  by_cases c:i<↑g
  .rw[VE c] at h
   let ei:ad[i]?=ζ a:=by
    let:=E.pre i _ (tE (by rw[M];calc c));rw[A] at this;rw[tE (by rw[M];calc c)];exact this.symm
   exact k _ _ h _ _ _ (m (F2:=F') (λ_ _ e=>e) S.sub (λ_ _ e=>.inl e) f S.nt ⟨a,ei,rfl⟩)
  .rw[VC c] at h
   split at h
   .rename_i C J
    let⟨y,G,P,R,T,N⟩:=B c A J;rcases h with h|h
    .exact k _ _ h _ _ _ (m (F2:=F') (λ_ _ e=>e) S.sub (λ_ _ e=>.inl e) f S.nt ⟨a,y,rfl,N,G,T,P⟩)
    .refine k _ _ h _ _ _ (m (F2:=upd F' a (.lst y)) (c_ T) (λb o e=>?_) (λb o e=>?_) (λb W=>?_) (S.nt.up (c_ T) λb W=>?_) ?_)
     .by_cases z:b=a
      .subst z;rw[cw] at e;cases e;exact G
      .rw[bt z] at e;exact S.sub b o e
     .by_cases z:b=a
      .subst z;exact .inr ⟨N,R⟩
      .rw[bt z] at e;exact .inl e
     .rw[bt λz=>R (by subst z;calc W)];exact f b W
     .let⟨ps,q⟩:=a8.tb S.tab W
      rw[bt λz=>by subst z;rw[G] at q;cases q];exact S.nt b W
     .show Is _ (.lst C) _
      exact⟨a,y,rfl,cw,P.same (c_ T)⟩
   .calc h.elim
end
theorem hG.L7{P:X}{w:ω}{K:KD}{t:π->Option ν}{base:Α}{x b:π}{st:χ}{f:ξ}{u:FuncData}{N d:-π}{k:Nat}{G:GD}(F:hG K x b st f u)(S:lU N d (dq st))
  (i:∀(c:ν)(A:Β)(outer:-Ζ)(s:ο)(H:Hp)(E:XK),bw k (A.deeper (envOfC b (dq st) ⇑s f c)) →
   ∃B:WS,ee (gh fZ P w K t base N b (dq st) f c A outer s H E).kQ (gZ st) (eh B)/\∀ys a l,↑ys=↑d->G ys a l->B (eu ↑a l) ⟨ys.map ζ++VG (↑N-↑d) η,a.map ζ⟩) :
  cG P w K t base fZ (k+1) f u d (lZ G ↑d) :=
 F.qJ S (λD H Q E h=>h.1) λc A e s H D Q E I h=>by
  let⟨z,J,L,n,a,l,m,g,C⟩:=h;let⟨B,M,O⟩:=i c A e s H E I
  let R:↑n=↑d:=by
   let:=m.len;rw[nW] at this;rw[<-z,this];rw[nW]
  refine⟨_,M,J,L,⟨n.map ζ++VG (↑N-↑d) η,a.map ζ⟩,eu ↑a l,by rw[<-z];calc m.start,O n a l R g,⟨λj h T o σ' U q r=>?_,λj h=>h.elim,λj h=>h.elim,λy j h v T o σ' U q r V=>?_,trivial⟩⟩
  .exact tY (σ':=σ') m q r (x:=.p .non) (v:=.non) Y h C
  .calc tY (σ':=σ') m q r V h C
noncomputable def passes(mu:-(Option OV)):-DV->Nat->Option (-DV×-(Nat×OV))
 |[],_=>ζ ([],[])
 |.p d::b,j=>match passes mu b j with
  |some r=>ζ (.p d::r.1,r.2)
  |none=>η
 |.o k::b,j=>match mu[k]? with
  |some (some c)=>match passes mu b (j+1) with
   |some r=>ζ (.o j::r.1,(k,c)::r.2)
   |none=>η
  |_=>η
 |.w a::b,j=>match passes mu b j with
  |some r=>ζ (.w a::r.1,r.2)
  |none=>η
 |.u _ _::_,_=>η
 |.t _ _::_,_=>η
noncomputable def b_(mu:-(Option OV)):-(Nat×OV)->-OV->-(Option OV)
 |(k,_)::r,b::a=>b_ (mu.set k (ζ b)) r a
 |_,_=>mu
noncomputable def d8:-(Nat×OV)->Bool
 |[]=>θ
 |(k,_)::r => !(r.any λe=>e.1==k)&&d8 r
def cH(e:aI)(b:-(Nat×OV))(K:DV->aI->Prop)(r:RV)(c:-OV):Prop:=match r with
 |.p d=>K (.p d) ⟨e.sl,b_ e.mu b c⟩
 |.n f=>K (.p (.lst f)) ⟨e.sl,b_ e.mu b c⟩
 |.t d f=>K (.p (.tup [d,.lst f])) ⟨e.sl,b_ e.mu b c⟩
 |.a j=>match b[j]? with
  |some g=>K (.o g.1) ⟨e.sl,b_ e.mu b c⟩
  |none=>False
def cV(c:aI)(a:-(Nat×OV))(K:DV->aI->Prop)(r:RV)(b:-OV):Prop:=match r with
 |.n d=>K (.o ↑(b_ c.mu a b)) ⟨c.sl,b_ c.mu a b++[ζ (.lst d)]⟩
 |_=>False
def aA(n:Nat)(G:GD)(b:WA):WE:=λc K=>b c λd a=>match passes a.mu d 0 with
 |some r=>(d8 r.2=θ/\↑r.1=n)/\G r.1 (r.2.map (·.2)) (cH a r.2 K)
 |none=>False
def fM(n:Nat)(G:GD)(b:WA):WE:=λc K=>b c λd a=>match passes a.mu d 0 with
 |some r=>(d8 r.2=θ/\↑r.1=n)/\G r.1 (r.2.map (·.2)) (cV a r.2 K)
 |none=>False
section
variable{F F' H H':Hp}{ad bV:-U}{δ:aI}{σ σ':St}
theorem pz{mu:-(Option OV)}(A:∀(k:Nat) (ov:OV),mu[k]?=ζ (ζ ov)->∃a o,ad[k]?=ζ a/\H a=ζ o/\fB F a ov o):∀{xs:-DV}{vs:-V}{j:Nat}{r:-DV×-(Nat×OV)},passes mu xs j=ζ r->dM F ad xs vs →
  ∃as:-U,↑as=↑r.2/\(∀(i:Nat)(g:Nat×OV),r.2[i]?=ζ g->mu[g.1]?=ζ (ζ g.2)/\∃a o,as[i]?=ζ a/\ad[g.1]?=ζ a/\H a=ζ o/\fB F a g.2 o) ∧
   ∀(pre:-U),pre.length=j->∃_u:Unit,↑vs=↑r.1/\∀(i:Nat)(y:DV),r.1[i]?=ζ y->∃v,vs[i]?=ζ v/\eN F (pre++as) y v
 |[],K,j,r,h,L=>by
  cases h
  let:K=[]:=L;subst this;exact⟨[],Y,λi g e=>by simp at e,λf _=>⟨(),Y,λi y e=>by simp at e⟩⟩
 |.p d::C,_,j,r,h,⟨v,t,e,q,s⟩=>by
  subst e;unfold passes at h;split at h
  .rename_i D u
   cases h
   let⟨n,l,b,c⟩:=pz A u s;refine⟨n,l,b,λf m=>⟨(),?_,λi y e=>?_⟩⟩
   .let⟨_,x,_⟩:=c f m
    rw[wo,wo,x]
   .let⟨_,_,z⟩:=c f m
    cases i with
    |zero=>cases(show ζ (DV.p d)=ζ y by simpa using e);exact⟨v,Y,q⟩
    |succ i=>simpa using z i y e⁻¹
  .cases h
 |.w d::C,_,j,r,h,⟨v,t,e,q,s⟩=>by
  subst e;unfold passes at h;split at h
  .rename_i D u
   cases h
   let⟨n,l,b,c⟩:=pz A u s;refine⟨n,l,b,λf m=>⟨(),?_,λi y e=>?_⟩⟩
   .let⟨_,x,_⟩:=c f m
    rw[wo,wo,x]
   .let⟨_,_,z⟩:=c f m
    cases i with
    |zero=>cases(show ζ (DV.w d)=ζ y by simpa using e);exact⟨v,Y,q⟩
    |succ i=>simpa using z i y e⁻¹
  .cases h
 |.o k::C,_,j,r,h,⟨v,t,e,q,s⟩=>by
  subst e;unfold passes at h;split at h
  .rename_i B E
   split at h
   .rename_i D u
    cases h
    let⟨n,l,b,c⟩:=pz A u s;let⟨a,G,rfl⟩:=q;let⟨a',o,I,M,N⟩:=A k B E;rw[G] at I;cases I;refine⟨a::n,by rw[wo,wo,l],λi g e=>?_,λf m=>⟨(),?_,λi y e=>?_⟩⟩
    .cases i with
     |zero=>cases(show ζ (k,B)=ζ g by simpa using e);exact⟨E,a,o,Y,G,M,N⟩
     |succ i=>simpa using b i g e⁻¹
    .let⟨_,x,_⟩:=c (f++[a]) (by rw[qG,m];rfl)
     rw[wo,wo,x]
    .let⟨_,_,z⟩:=c (f++[a]) (by rw[qG,m];rfl)
     cases i with
     |zero =>
      cases(show ζ (DV.o j)=ζ y by simpa using e)
      calc⟨_,Y,a,?_,Y⟩;rw[My ⋯,m,Xh];rfl
     |succ i =>
      let⟨O,P,J⟩:=z i y e⁻¹;exact⟨O,by simpa using P,by rw[X1] at J;calc J⟩
   .cases h
  .cases h
theorem wU:∀{d:-(Nat×OV)},d8 d=θ->∀(i j:Nat)(k:Nat)(a b:OV),d[i]?=ζ (k,a)->d[j]?=ζ (k,b)->i=j
 |[],_,i,j,k,a,b,e,_=>by simp at e
 |(k',ov)::r,h,i,j,k,a,b,f,g=>by
  unfold d8 at h;erw[Xo,ZV] at h
  let l:∀(m:Nat)(c:OV),r[m]?=ζ (k',c)->False:=λm c e=>by
   let:=YU.mp h.1 _ (VL.mpr ⟨m,e⟩);exact this (by simp)
  cases i with
  |zero =>
   cases(show ζ (k',ov)=ζ (k,a) by simpa using f)
   cases j with
   |zero=>rfl
   |succ j=>exact(l j b g⁻¹).elim
  |succ i =>
   cases j with
   |zero=>cases(show ζ (k',ov)=ζ (k,b) by simpa using g);exact(l i a f⁻¹).elim
   |succ j=>rw[wU h.2 i j k a b f⁻¹ g⁻¹]
theorem wV:∀(b:-(Nat×OV))(a:-OV)(mu:-(Option OV)),↑(b_ mu b a)=↑mu
 |(k,_)::r,d::a,c=>by rw[b_,wV r a,XW]
 |[],_,_=>Y
 |_::_,[],_=>Y
theorem rq:∀(b:-(Nat×OV))(a:-OV)(mu:-(Option OV))(l:Nat),(∀c∈b,c.1≠l)->(b_ mu b a)[l]?=mu[l]?
 |(k,_)::r,f::a,e,l,h=>by
  rw[b_,rq r a _ l λc d=>h c (UA _ d),Xj (h _ Uz)]
 |[],_,_,_,_=>Y
 |_::_,[],_,_,_=>Y
theorem wW:∀{c:-(Nat×OV)}{a:-OV}{mu:-(Option OV)}{i:Nat}{b:Nat×OV}{f:OV},d8 c=θ->c[i]?=ζ b->a[i]?=ζ f->b.1<↑mu->(b_ mu c a)[b.1]?=ζ (ζ f)
 |(k,j)::r,CZ::a,l,0,b,ow,h,d,e,g=>by
  cases(show ζ (k,j)=ζ b by simpa using d)
  cases(show ζ CZ=ζ ow by simpa using e)
  unfold d8 at h;erw[Xo,ZV] at h;rw[b_,rq r a _ k λb m z=>absurd z⁻¹ (YU.mp h.1 b m),Xg g]
 |(k,j)::r,n::a,l,i+1,b,f,h,d,e,g=>by
  unfold d8 at h;erw[Xo,ZV] at h;rw[b_];exact wW h.2 d⁻¹ e⁻¹ (by rw[XW];calc g)
 |[],_,_,i,_,_,_,d,_,_=>by simp at d
 |_::_,[],_,i,_,_,_,_,e,_=>by simp at e
theorem wX{xs:-DV}{vs:-V}{r:-DV×-(Nat×OV)}{G:GD}{n:Nat}{Q:VK}{E:XK}{K:RV->-OV->Prop}(S:SR F ad δ σ H)(V:dM F ad xs vs)(hn:↑vs=n)(hp:passes δ.mu xs 0=ζ r)(nd:d8 r.2=θ)(g:G r.1 (r.2.map (·.2)) K)
  (fin:∀res x v F' H',K res x->Ext F ad δ.mu H F' ad (b_ δ.mu r.2 x) H'->SR F' ad ⟨δ.sl,b_ δ.mu r.2 x⟩ σ H'->(match res with
   |.p d=>Is F' d v
   |.n ds=>∃a vs,v=.ref a/\H a=η/\H' a=ζ (.lst vs)/\F' a=η/\ax F' ds vs
   |.a j=>∃f a,r.2[j]?=ζ f/\ad[f.1]?=ζ a/\v=.ref a
   |.t d ds=>oj F' H H' d ds v)->Q v H'):lZ G n vs H Q E:=by
 let⟨R,al,b,c⟩:=pz S.mu hp V;let⟨_,c1,c2⟩:=c [] rfl
 let D:∀(i:Nat)(a:ξ),R[i]?=ζ a->Lv ad δ.mu a/\∃f,r.2[i]?=ζ f/\ad[f.1]?=ζ a/\δ.mu[f.1]?=ζ (ζ f.2):=λi a e=>by
  let B:i<↑r.2:=by rw[<-al];exact(pa.mp e).1
  let⟨m1,a',o,m,s,_,_⟩:=b i _ (tE B);rw[e] at m;cases m;exact⟨⟨_,_,s,m1⟩,_,tE B,s,m1⟩
 refine⟨hn,F,R,r.1,r.2.map (·.2),K,⟨S.sub,λa ⟨i,M,m,s⟩↦S.off a (D i a m).1,by rw[al];rw[nW,nW],λi j a M A m s _ _=>?_,λi M e=>?_,λi y e=>?_,?_,S.tab,S.nt⟩,g,λN x T v O H' P=>?_⟩
 .let⟨_,f,U,W,k3⟩:=D i a m
  let⟨_,kp,p1,p2,p3⟩:=D j a s;let:f.1=kp.1:=S.inj _ _ a _ _ W p2 k3 p3;exact wU nd i j f.1 f.2 kp.2 U (by rw[this];calc p1)
 .let e:=ro e
  rw[B8] at e;let⟨f,m,rfl⟩:=KJ.mp e;let⟨_,a,o,s,_,L,e5⟩:=b i f m;exact⟨a,o,s,L,e5⟩
 .let⟨v,m,s⟩:=c2 i y (ro e)
  exact⟨v,rp m,by simpa using s⟩
 .show ↑(vs.map ζ)=↑(r.1.map ζ)
  rw[nW,nW,c1]
 .let ol:↑x=↑r.2:=by rw[P.len,al]
  let J:∀(l:Nat)(A:OV),(b_ δ.mu r.2 x)[l]?=ζ (ζ A)->(∃(i:Nat)(f:Nat×OV),r.2[i]?=ζ f/\f.1=l/\x[i]?=ζ A)\/((∀f∈r.2,f.1≠l)/\δ.mu[l]?=ζ (ζ A)):=λl A e=>by
   by_cases z:∃f∈r.2,f.1=l
   .let⟨f,T,rfl⟩:=z
    let⟨i,B⟩:=VL.mp T;let X:i<↑x:=by rw[ol];exact(pa.mp B).1
    let:=wW (mu:=δ.mu) nd B (tE X) (pa.mp (b i f B).1).1;rw[e] at this;cases this
    exact .inl ⟨i,f,B,rfl,tE X⟩
   .let z':∀f∈r.2,f.1≠l:=λf T q=>z ⟨f,T,q⟩
    rw[rq _ _ _ _ z'] at e;exact .inr ⟨z',e⟩
  let Y:∀(l:Nat)(A:OV)(a:ξ),ad[l]?=ζ a->(b_ δ.mu r.2 x)[l]?=ζ (ζ A)->Lv ad δ.mu a:=λl A a m s=>by
   rcases J l A s with⟨i,f,B,rfl,_⟩|⟨_,q⟩
   .exact⟨_,_,m,(b i f B).1⟩
   .exact⟨_,_,m,q⟩
  let rz:∀a,a∈R->Lv ad δ.mu a:=λa ha=>by
   let⟨i,e⟩:=VL.mp ha;exact(D i a e).1
  let ex:Ext F ad δ.mu H O ad (b_ δ.mu r.2 x) H':=by
   refine⟨P.same,λa o e=>?_,λa o e n t=>P.keep a o e (λz=>n (rz a z)) t,λ_ _ e=>e,λa ⟨l,A,m,s⟩↦.inl (Y l A a m s),λa o e=>?_⟩
   .rcases P.new a o e with z|z
    .exact .inl z
    .exact .inr (.inl z)
   .by_cases z:a∈R
    .let⟨i,m⟩:=VL.mp z
     let B:i<↑x:=by rw[P.len];exact(pa.mp m).1
     let⟨a',o',s,I,_⟩:=P.own i _ (tE B);rw[m] at s;cases s;exact⟨o',I⟩
    .by_cases t:a∈a8.ad
     .let⟨ps,q⟩:=a8.tb P.tab t
      exact⟨_,q⟩
     .exact⟨o,P.keep a o e z t⟩
  let Z:∀a,Lv ad δ.mu a->O a=η:=λa l=>by
   by_cases z:a∈R
   .exact P.off a z
   .cases q:O a with
    |none=>rfl
    |some u =>
     rcases P.new a u q with y|y
     .rw[S.off a l] at y;cases y
     .let⟨k,M,m,s⟩:=l
      let⟨a',o,I,L,_⟩:=S.mu k M s;rw[m] at I;cases I;rw[y] at L;cases L
  let sr:SR O ad ⟨δ.sl,b_ δ.mu r.2 x⟩ σ H':=by
   refine⟨P.sub,λa ⟨l,A,m,s⟩↦Z a (Y l A a m s),by rw[S.di];calc(wV _ _ _).symm,λk l a M A m s I L=>?_,λl A e=>?_,λi y e=>?_,S.len,P.tab,P.nt⟩
   .let h3:∃w,δ.mu[k]?=ζ (ζ w):=by
     rcases J k M I with⟨i,f,B,rfl,_⟩|⟨_,q⟩
     .exact⟨_,(b i f B).1⟩
     .exact⟨_,q⟩
    let h4:∃w,δ.mu[l]?=ζ (ζ w):=by
     rcases J l A L with⟨i,f,B,rfl,_⟩|⟨_,q⟩
     .exact⟨_,(b i f B).1⟩
     .exact⟨_,q⟩
    let⟨_,h3⟩:=h3;let⟨_,h4⟩:=h4;exact S.inj k l a _ _ m s h3 h4
   .rcases J l A e with⟨i,f,B,rfl,ho⟩|⟨z,q⟩
    .let⟨_,a,o,m,s,_,_⟩:=b i f B
     let⟨a',o',I,L,h5⟩:=P.own i A ho;rw[m] at I;cases I;exact⟨a,o',s,L,h5⟩
    .let⟨a,o,m,s,h⟩:=S.mu l A q
     refine⟨a,o,m,P.keep a o s (λy=>?_) (λt=>?_),h.same P.same⟩
     .let⟨i,I⟩:=VL.mp y
      let⟨_,f,U,W,k3⟩:=D i a I;exact z f (VL.mpr ⟨i,U⟩) (S.inj _ _ a _ _ W m k3 q)
     .let⟨ps,q2⟩:=a8.tb S.tab t
      rw[s] at q2;cases q2
      exact h.kind ps rfl
   .let⟨v,m,h⟩:=S.sl i y e
    exact⟨v,m,h.ext ex⟩
  calc fin N x v O H' T ex sr ?_;let C:=P.res
  cases N with
  |p d=>exact C
  |n ds=>exact C
  |t d ds=>exact C
  |a j =>
   let⟨a,m,s⟩:=C;let⟨_,f,U,W,_⟩:=D j a m;calc⟨f,a,U,W,s⟩
end
section
variable{X:Cx}{fa:WA}{G:GD}{pos:I}
theorem wY{l F2 m H2:Hp}{e:-U}{d:aI}{v:St}{xs:-DV}{vs:-V}{r:-DV×-(Nat×OV)}{h:-OV}{a:U}(n:SR l e d v m)(w:dM l e xs vs)(x:passes d.mu xs 0=ζ r)(z:m a=η):¬ Lv e (b_ d.mu r.2 h) a:=λ⟨k,p,A,s⟩↦by
 let c:∃p,d.mu[k]?=ζ (ζ p):=by
  by_cases y:∃g∈r.2,g.1=k
  .let⟨g,f,rfl⟩:=y
   let⟨C,_,b,_⟩:=pz n.mu x w;let⟨i,B⟩:=VL.mp f;exact⟨_,(b i g B).1⟩
  .rw[rq _ _ _ _ λg f q=>y ⟨g,f,q⟩] at s
   exact⟨_,s⟩
 let⟨j,c⟩:=c;let⟨a',o,t,u,_⟩:=n.mu k j c;rw[A] at t;cases t;rw[z] at u;cases u
theorem dM.length{F:Hp}{b:-U}:∀{xs:-DV}{vs:-V},dM F b xs vs->↑vs=↑xs
 |[],a,h=>by let h:a=[]:=h;rw[h];rfl
 |x::d,a,⟨v,r,e,_,c⟩=>by rw[e,wo,wo,dM.length c]
theorem pA{mu:-(Option OV)}:∀{xs:-DV}{j:Nat}{r:-DV×-(Nat×OV)},passes mu xs j=ζ r->↑r.1=↑xs
 |[],j,r,h=>by cases h;rfl
 |.p d::b,j,r,h=>by
  unfold passes at h;split at h
  .rename_i c a;cases h;rw[wo,wo,pA a]
  .cases h
 |.w d::b,j,r,h=>by
  unfold passes at h;split at h
  .rename_i c a;cases h;rw[wo,wo,pA a]
  .cases h
 |.o k::b,j,r,h=>by
  unfold passes at h;split at h
  .split at h
   .rename_i c a;cases h;rw[wo,wo,pA a]
   .cases h
  .cases h
section
variable{k:Nat}{f:U}{fd:FuncData}{ps:-R}{x:R}{p:I}{e:J}{es:-J}{n:Nat}
theorem L8{E:XK}{F B H C:Hp}{O f:-ξ}{P e:aI}{R:St}{K:DV->aI->Prop}{Q:VK}{xs:-DV}{vs:-V}(kk:∀x g,K x g->∀v F' h H',Ext F O P.mu H F' h g.mu H'->SR F' h g R H'->eN F' h x v->Q v H')(i:match passes e.mu xs 0 with
 |some r=>(d8 r.2=θ/\↑r.1=n)/\G r.1 (r.2.map (·.2)) (cH e r.2 K)
 |none=>False)(s:Ext F O P.mu H B f e.mu C)(D:SR B f e R C)(w:dM B f xs vs):lZ G n (vs++[]) C Q E:=by
 split at i
 .rename_i r y
  let⟨⟨S,T⟩,i⟩:=i;rw[dV];calc wX D w (by rw[↑w,<-pA y,T]) y S i λI U v F2 H2 k z A c=>?_;unfold cH at k
  cases I with
  |p d=>exact kk _ _ k _ _ _ _ (s.trans z) A c
  |n J =>
   let⟨a,m,rfl,q,L,l,M⟩:=c;calc kk _ _ k _ _ _ _ (s.trans (z.adopt (o:=.lst m) q l)) (A.adopt l L (wY (F2:=F2) (H2:=H2) D w y q)) ?_;show Is _ (.lst J) _;exact⟨a,m,rfl,cw,M.same (c_ l)⟩
  |t d J =>
   let⟨a,b,u,m,rfl,W,X,q,L,l,M⟩:=c;calc kk _ _ k _ _ _ _ (s.trans (z.adopt (o:=.lst m) q l)) (A.adopt l L (wY (F2:=F2) (H2:=H2) D w y q)) ?_;show Is _ (.tup [d,.lst J]) _;let N:a_ F2 (upd F2 b (.lst m)):=c_ l;exact⟨a,_,rfl,N _ _ W,u,_,rfl,X.same N,.ref b,_,rfl,⟨b,m,rfl,cw,M.same N⟩,rfl⟩
  |a j =>
   let⟨ko,a,i,Y,Z⟩:=c;dsimp only at k;rw[i] at k;exact kk _ _ k _ _ _ _ (s.trans z) A ⟨a,Y,Z⟩
 .calc i.elim
theorem L9{E:XK}:∀a H Q,tD (aA n G fa) a H Q->qy (lZ G n) [] E (cX fa) a H Q:=λa H Q ⟨F,b,c,K,S,q,d⟩ ↦
 ⟨F,b,c,_,S,q,λk e f l m g o h i j=>L8 d f h i j⟩
theorem L_{E:XK}:∀f H Q,tD (fM n G fa) f H Q->qy (lZ G n) [] E (cX fa) f H Q:=λf H Q ⟨F,z,A,K,S,q,B⟩=>by
 calc⟨F,z,A,_,S,q,λP g b R T h U C u i=>?_⟩;split at b
 .rename_i r k
  let⟨⟨D,I⟩,b⟩:=b;rw[dV];refine wX u i (by rw[↑i,<-pA k,I]) k D b λl m v F2 H2 e J o c=>?_
  cases l with
  |p d=>exact e.elim
  |n s =>
   let⟨a,w,rfl,x,L,M,N⟩:=c;let O:∀{y},fB F2 y (.lst s) (.lst w):=λ{y}=>⟨w,Y,N⟩;calc B _ _ e _ _ _ _ (C.trans (J.dU (ov:=.lst s) x o.di)) (o.dU M L (wY (F2:=F2) (H2:=H2) u i k x) O) ⟨a,?_,Y⟩;let:↑h=↑(b_ g.mu r.2 m):=o.di;rw[<-this,My (B6 _),Xh];rfl
  |a j=>exact e.elim
  |t d s=>exact e.elim
 .calc b.elim
theorem Ma(c:cG X.prog X.w X.K X.mg X.base fZ k f fd ps (lZ G n))(d:bw k X.A)(g:Gl X x)(h:X.mg x=ζ (.ref f))(i:XA X.K (.ref f)=θ)(j:Binds X.K fd ps [])
  (l:JA X (e::es) (cX fa)) (a:cy x:=by decide) (he:dE X e es:=by rfl) (b:dQ X pos es:=by rfl) :
  JE X (.Call (.Name x p) (e::es) [] pos) (tD (aA n G fa)):=(qz c d g h i j .nil mr l a he b).weak L9
theorem Mb(c:cG X.prog X.w X.K X.mg X.base fZ k f fd ps (lZ G n))(d:bw k X.A)(g:Gl X x)(h:X.mg x=ζ (.ref f))(i:XA X.K (.ref f)=θ)(j:Binds X.K fd ps [])
  (l:JA X (e::es) (cX fa)) (a:cy x:=by decide) (he:dE X e es:=by rfl) (b:dQ X pos es:=by rfl) :
  JE X (.Call (.Name x p) (e::es) [] pos) (tD (fM n G fa)):=(qz c d g h i j .nil mr l a he b).weak L_
end
end
end L2
namespace PySem
open Sem (wp)
open AutoSeq1 (wpAny_loadPart')
theorem Mc(l:U)(items:Array M)(n:Nat)(b:Option U)(sl:Array (Option M)):
  Meets (Builtin.«enumerate.__new__» ⟨[.type "enumerate",.ref l],[]⟩) (λ_ R s=>s.heap.get? l=ζ {cls:=.type "tuple",dict:=b,data:=.seq items n,slots:=sl} ∧
   R (.ok (.ret (.ref (s.heap.push {cls:=.type "tuple_iterator",data:=.fields #[.ref l,.int 0 0]}).objs.size)))
    {s with heap:=(s.heap.push {cls:=.type "tuple_iterator",data:=.fields #[.ref l,.int 0 0]}).push {cls:=.type "enumerate",data:=.fields #[.none,.bool ι,.ref ⇑s,rawInt 0,.none,.none]}}) :=
 .of_wp λf w A R s h=>by
  let⟨j,g,d,k,m⟩:=s;let⟨a,h⟩:=h;let i:=sub_enumerate;let e:Heap.IsTuple (Shared.heap ⟨j,g,d,k,m⟩) l items:=⟨_,a,Y,n,Y⟩
  wp_walk using XH a
  calc wpAny_stack_any λo=>B7 ?_;split
  .rename_i c _ _ _ _ _
   cases(c==XS "enumerate")
   .wp_walk using XH a,Y_ e
    exact⟨_,Y,h⟩
   .wp_walk using XH a,Y_ e
    exact⟨_,Y,h⟩
  .wp_walk using XH a,Y_ e
   calc⟨_,Y,h⟩
section
variable{prog:X}{w:l}{A:t}{E:br}{s:L}
theorem Md{l:U}{items:Array M}{Q:br}(g:s.heap.IsTuple l items)
  (h:∀h',IsEnum h' (⇑s+1) ⇑s 0 .none->h'.IsTupleIter ⇑s l 0->h'.objs.size=⇑s+2 →
   (∀b o,s.heap.get? b=ζ o->h'.get? b=ζ o)->Q (.ref (⇑s+1)) {s with heap:=h'}) :
  G (B prog w) A (call (.type "enumerate") [.ref l]) Q E s:=by
 let⟨⟨c,a,p,i⟩,j,k,n,m⟩:=g;subst k m
 refine callType_new F.called_enumerate (by decide) (F.typeCall_enumerate_1 _) (F.newCall_enumerate_1 _) (λd=>F.args_object_init_2 d _) F.entry_enumerate_new
  (Mc l items n a i) ⟨j,?_⟩
 let e:(s.heap.push {cls:=.type "tuple_iterator",data:=.fields #[.ref l,.int 0 0]}).objs.size=⇑s+1:=XG ..;rw[e]
 let f:IsEnum ((s.heap.push {cls:=.type "tuple_iterator",data:=.fields #[.ref l,.int 0 0]}).push
   {cls:=.type "enumerate",data:=.fields #[.none,.bool ι,.ref ⇑s,rawInt 0,.none,.none]}) (⇑s+1) ⇑s 0 .none:=by
  let:=UD (s.heap.push {cls:=.type "tuple_iterator",data:=.fields #[.ref l,.int 0 0]})
   (o:={cls:=.type "enumerate",data:=.fields #[.none,.bool ι,.ref ⇑s,rawInt 0,.none,.none]}) Y
  rw[e] at this;exact this
 calc⟨⟨_,f,Y⟩,h _ f ⟨_,B5 _ (UD _ Y),Y,Y⟩ (by rw[XG,e]) λb o x=>B5 _ (B5 _ x)⟩
theorem Me{b l:U}{i:Nat}{items:Array M}{x:M}{Q:br}(a:s.heap.IsTupleIter b l i)(g:s.heap.IsTuple l items)(h:items[i]?=ζ x)
  (j:∀h',h'.IsTupleIter b l (i+1)->Zk b s.heap h'->Q x {s with heap:=h'}):G (B prog w) A (q0M (.ref b)) Q E s:=by
 let⟨o,d,k,c⟩:=id a;let⟨m,e,_,n,f⟩:=g;let p:¬ ((WQ l==WB)=θ):=Wo;calc nX (Yk (name:=Xz "__next__") a.typeIs YO (XJ YO a.typeIs q0p ?_ (q0i _)));show G _ _ (field (.ref b) 0 >>= _) _ _ s;calc nX (ZH d c (x:=.ref l) Y ?_);calc nX (ZH d c (x:=.int i 0) Y ?_);calc nX (ZQ e f ?_);erw[V8,h];calc nX (ZR d c (by simp) (B7 ⟨x,Y,B7 (j _ ⟨_,Xl _ d (Z2 (YM c _)),(q0S ..).trans k,?_⟩ (Xb ..))⟩));rw[YM c];simp[rawInt]
theorem Mf{c l:U}{i:Nat}{items:Array M}{Q:br}(hh:A.handled=η)(b:s.heap.IsTupleIter c l i)(j:s.heap.IsTuple l items)(k:items[i]?=η)
  (n:∀h' e,Heap.ExtBut c s.heap h'->(∃o,h'.get? e=ζ o/\o.cls=.type "StopIteration")->E (.ref e) {s with heap:=h'}):G (B prog w) A (q0M (.ref c)) Q E s:=by
 let⟨o,d,p,f⟩:=id b;let⟨q,g,_,r,h⟩:=j;let t:¬ ((WQ l==WB)=θ):=Wo;calc nX (Yk (name:=Xz "__next__") b.typeIs YO (XJ YO b.typeIs q0p ?_ (q0i _)));show G _ _ (field (.ref c) 0 >>= _) _ _ s;calc nX (ZH d f (x:=.ref l) Y ?_);calc nX (ZH d f (x:=.int i 0) Y ?_);calc nX (ZQ g h ?_);erw[V8,k];calc nX (q1p (nX (ZR d f (by simp) ?_)));calc nX ?_;calc nX (m:=firstArgMember _ _) (q1X (a:=WB) (by first|rfl|(erw[firstArgMember];rfl)) (XP ?_ (by size_fits)));refine nX (q4a ?_)
 first|rw[show A.in1.handled=η from hh]|rw[hh]
 calc nX (B7 (wpAny_throw (n _ _ (((Xb ..).extBut.push _).push _) ⟨_,UD _ Y,Y⟩)))
theorem C0(k:A.handled=η)(b l:U)(f:l≠b)(items:Array M):Draws prog w A b [b,l] items.size (λi v=>items[i]?=ζ v) (λi h=>h.IsTupleIter b l i/\h.IsTuple l items) where
 live:=λ_ _ a=>let⟨o,m,_⟩:=a.1;⟨o,m⟩
 frame:=λ_ _ _ a g=>⟨a.1.at λo e=>g b (by simp) o e,a.2.at λo e=>g l (by simp) o e⟩
 item:=λi s Q E j a n=>Me a.1 a.2 (x:=items[i]) (by simp[j]) λp c d=>n _ p s.toks (by simp[j]) ⟨c,a.2.extBut d.extBut f⟩ d
 done:=λs Q E a q=>Mf k a.1 a.2 (by simp) q
end
end PySem
namespace L2
open PySem PySem.Spec PyProof.Rows
noncomputable def rA(K:KD)(a:U):It :=
 ⟨λi H=>∃b x,cF K H a b/\b[i]?=ζ x,λi H x c=>∃T v,x=.ref T/\H T=η/\c=upd H T (.tup [.int (i:Nat),v])/\∀b,cF K H a b->b[i]?=ζ v,λi H=>∃b,cF K H a b/\↑b=i⟩
theorem Mg{P:ψ}{w:ω}{K:KD}{B:-υ}{x1}{tp:Ε}(a e d:ξ)(n:e≠d)(O:a≠e)(C:a≠d):
  Turn P w K (.Tuple B x1 tp) (rA K a) [e,d] e (λi h=>(∃c,IsEnum h e d (i:Nat) c)/\h.IsTupleIter d a i) where
 mem:=by simp
 obj:=λi h l b f=>by
  let⟨⟨c,g⟩,o,m,J,hd⟩:=l;rcases Uy.mp f with rfl|f
  .exact⟨_,g,λv z=>by cases z⟩
  .let z:b=d:=by simpa using f
   subst z;exact⟨o,m,λv z=>by rw[hd] at z;cases z⟩
 keep:=λi h h' l k=>by
  let⟨⟨c,g⟩,m⟩:=l;exact⟨⟨c,k e (by simp) _ g⟩,m.at λo q=>k d (by simp) o q⟩
 item:=by
  ext X R S T J i F s σ H E I L l U;subst R S T;let⟨⟨c,g⟩,m⟩:=l;let⟨xs,x,M,N⟩:=U;let⟨j,V,p,hz⟩:=I.tuple M;let⟨u,hu,ru⟩:=V.get N;let D:=C0 (prog:=X.prog) (w:=X.w) (A:=X.A.in1) (by rw[ZE];calc I.ok.hd J) d a C j.toArray;let r:i<j.toArray.size:=by rw[KG];exact(pa.mp hu).1
  refine wpAny_pyNext_enum_itemD D g ⟨m,p⟩ r n (by simp[n,Yz O]) λy h1 Y py Z Mh Mi hsz hk=>⟨_,rfl,?_⟩
  let ey:y=u:=by
   rw[YD,hu] at py;cases py;rfl
  subst ey;calc q0G Z λh2 Mj t=>?_;let hT:⇑s≠e:=Yc (Vz g);let wZ:h2.get? ⇑s=ζ {cls:=.type "tuple",data:=.seq #[.int i Y,y]}:=(t.2 _ hT).trans Mi
  let k2:∀b o,b∉[e,d]->s.heap.get? b=ζ o->h2.get? b=ζ o:=λb o f q=>by
   let G:b≠e:=λz=>f (by simp[z]);let Ml:b≠d:=λz=>f (by simp[z]);exact(t.2 _ G).trans (hk b o G Ml q)
  let hn:H ⇑s=η:=I.bf.fresh (B6 _);refine⟨.ref ⇑s,upd H ⇑s (.tup [.int i,x]),I.jb (ch:=[e,d]) (t':=Y+1) L k2 (B6 _) ?_,rfl,⟨_,x,rfl,hn,rfl,λys hy=>by rw[I.ib hy M];calc N⟩,⟨⟨y,?_⟩,?_⟩,λb f=>?_⟩
  .exact⟨by show 2<=sizeLine;decide,[.int i Y,y],.cons ⟨_,rfl⟩ (.cons ru .nil),_,wZ,rfl,_,rfl⟩
  .let e3:((i:Int)+1)=(((i+1:Nat)):Int):=by symm
   exact Mj
  .exact Mh.1.at λo q=>(t.2 _ (Yz n)).trans q
  .let:b<⇑s:=by
    let⟨o,q,_⟩:=m;rcases Uy.mp f with rfl|f
    .exact Vz g
    .let z:b=d:=by simpa using f
     subst z;exact Vz q
   rw[bt (VF this)];exact(L b f).1
 done:=by
  ext X R S T J i F s σ H E I L l U;subst R S T;let⟨⟨c,g⟩,m⟩:=l;let⟨xs,M,N⟩:=U;let⟨j,V,p,hz⟩:=I.tuple M;let D:=C0 (prog:=X.prog) (w:=X.w) (A:=X.A.in1) (by rw[ZE];calc I.ok.hd J) d a C j.toArray;let r:j.toArray.size=i:=by rw[KG,<-V.length];exact N
  calc wpAny_pyNext_enum_endD D g (by rw[r];calc⟨m,p⟩) λh1 eb=>⟨rfl,?_⟩;let⟨f0,f1,f2,f3,f4,f5⟩:=L d (by simp);exact I.turned (t':=s.toks) (λb o f q=>eb b o f q) f0 f1 f3 f4 f5
 self:=λA i s Q E l h=>by
  let⟨⟨c,g⟩,m⟩:=l;calc YG g h
section
variable{X:Cx}{elts:-J}{x1:Nat}{tp:I}{tg:J}
def Mm(K:KD)(ta:TA):TI:=λd H R=>ta d H λe b=>∃a,e=[.ref a]/\(((∃c,bS K b a c)/\R (pd K a) b)\/((∃c,cF K b a c)/\R (rA K a) b))
theorem Mn{a:υ}{ta:TA}{p pos:Ε}(C:Gl X "enumerate")(D:X.mg "enumerate" = η)(E:JA X [a] ta)(hs:starEach [a] X.env=[(ι,eval a X.env)]:=by rfl):
  JI X (.Tuple elts x1 tp) (.Call (.Name "enumerate" p) [a] [] pos) (Mm X.K ta):=by
 calc⟨?_⟩;ext c s m H R I h;calc Call_ (m8 I C D Cf (Yn (bE (E pos c s m H _ I h) λO d ⟨P,g,f,F,G⟩=>?_) hs Y));let⟨l,e,q⟩:=G;subst e;let⟨u,rfl,J⟩:=vals1 F;cases J
 let B:∀b∈[⇑d+1,⇑d],cz X c g b:=λb n=>by
  let i:⇑d<=b:=by
   rcases Uy.mp n with rfl|n
   .exact q0c _
   .let z:b=⇑d:=by simpa using n
    rw[z];exact B6 _
  exact f.i7 i (f.bf.fresh i)
 rcases q with⟨⟨L,r⟩,q⟩|⟨⟨L,r⟩,q⟩
 .let⟨t,M,p,N⟩:=f.list r
  calc q2b p.isList λv j w x y=>?_;let A:Inv X c m g {d with heap:=v}:=f.kept (t':=d.toks) y;calc YG j ?_;exact⟨_,_,_,_,g,Y,A,Cd l (⇑d+1) ⇑d (q1k _),⟨⟨_,j⟩,w⟩,B,q⟩
 .let⟨t,M,p,N⟩:=f.tuple r
  let k:l<⇑d:=by let⟨o,e,_⟩:=p;exact Vz e
  calc Md p λv j w x y=>?_;let A:Inv X c m g {d with heap:=v}:=f.kept (t':=d.toks) y;calc YG j ?_;calc⟨_,_,_,_,g,Y,A,Mg l (⇑d+1) ⇑d (q1k _) (VF (WR k)) (VF k),⟨⟨_,j⟩,w⟩,B,q⟩
def w5(K:KD)(d:TE):TI:=λe H R=>d e H λx b=>∃a,x=.ref a/\(((∃c,bS K b a c)/\R (Br K a) b)\/((∃c,cF K b a c)/\R (Bs K a) b))
theorem Mo{l:J}{k:TE}(n:JE X l k):JI X tg l (w5 X.K k):=by
 calc⟨?_⟩;ext d s r H R I h;calc bE (n d s r H _ I h) λv c ⟨x,i,f,t,u⟩=>?_;let⟨a,e,q⟩:=u;subst e;cases t
 let m:∀b∈[⇑c],cz X d i b:=λb w=>by
  let e:b=⇑c:=by simpa using w
  subst e;exact f.i7 (B6 _) (f.bf.fresh (B6 _))
 rcases q with⟨⟨y,j⟩,q⟩|⟨⟨y,j⟩,q⟩
 .let⟨g,z,p,A⟩:=f.list j
  exact Yt p.isList ⟨⇑c,[⇑c],_,_,i,Y,f.kept (t':=c.toks) λb o e=>B5 _ e,Ja a _,⟨_,UD _ Y,Y,Y⟩,m,q⟩
 .let⟨g,z,p,A⟩:=f.tuple j
  calc Y_ (show c.heap.IsTuple a g.toArray from p) ⟨⇑c,[⇑c],_,_,i,Y,f.kept (t':=c.toks) λb o e=>B5 _ e,Jb a _,⟨_,UD _ Y,Y,Y⟩,m,q⟩
end
variable[a8]
noncomputable def dm(a:Int)(n:Nat):-D:=(Wq n).map λi:Nat=>D.int (a+i)
noncomputable def iS:Nat->-D->-D
 |_,[]=>[]
 |i,d::r=>.tup [.int i,d]::iS (i+1) r
def fE(x:DV)(d:aI)(K:nq->Prop):Prop:=match x with
 |.p (.lst b)=>K ⟨b,λ_=>True⟩
 |.p (.tup b)=>K ⟨b,λ_=>True⟩
 |.o k=>match d.mu[k]? with
  |some (some (.lst b))=>K ⟨b,λc=>c.mu[k]?=ζ (ζ (.lst b))⟩
  |some (some (.al a b))=>K ⟨b,λc=>c.mu[k]?=ζ (ζ (.al a b))⟩
  |_=>False
 |_=>False
def bo(f:WE):WI:=λb K=>f b λx a=>fE x a λc=>K c a
def eA(b:WA):WI:=λc K=>b c λd a=>match d with
 |[.p (.int j)]=>(-(2 ^ 62)<=j/\j<2 ^ 62)/\K ⟨dm 0 j.toNat,λ_=>True⟩ a
 |_=>False
def gk(b:WA):WI:=λc K=>b c λd a=>match d with
 |[.p (.int i),.p (.int j)]=>(-(2 ^ 62)<=i/\i<2 ^ 62 /\ -(2 ^ 62)<=j/\j<2 ^ 62)/\K ⟨dm i (j-i).toNat,λ_=>True⟩ a
 |_=>False
def bW(c:WA):WI:=λd K=>c d λe a=>match e with
 |[x]=>fE x a λb=>K ⟨iS 0 b.items,b.gF⟩ a
 |_=>False
def fN(x:DV)(d:aI)(K:nq->Prop):Prop:=match x with
 |.p (.lst b)=>K ⟨b,λ_=>True⟩
 |.o k=>match d.mu[k]? with
  |some (some (.lst b))=>K ⟨b,λc=>c.mu[k]?=ζ (ζ (.lst b))⟩
  |some (some (.al a b))=>K ⟨b,λc=>c.mu[k]?=ζ (ζ (.al a b))⟩
  |_=>False
 |_=>False
def c5(c:WA):WI:=λd K=>c d λe a=>match e with
 |[x,y]=>fN x a λi=>fN y a λj=>K ⟨Mp i.items j.items,λb=>i.gF b/\j.gF b⟩ a
 |_=>False
theorem ly{b:Int}{n i:Nat}{d:D}(h:(dm b n)[i]?=ζ d):i<n/\d=.int (b+i):=by
 unfold dm at h;rw[B8] at h;let⟨j,e,rfl⟩:=KJ.mp h;let a:=(pa.mp e).1;rw[Xq] at a;rw[Yx a] at e;cases e
 calc⟨a,Y⟩
theorem lz(a:Int)(n:Nat):↑(dm a n)=n:=by unfold dm;rw[nW,Xq]
theorem l0:∀(ds:-D)(i:Nat),↑(iS i ds)=↑ds
 |[],_=>Y
 |d::r,i=>by rw[iS,wo,wo,l0 r]
theorem l3:∀{ds:-D}{k i:Nat}{d:D},(iS k ds)[i]?=ζ d->∃e,ds[i]?=ζ e/\d=.tup [.int ((k+i:Nat):Int),e]
 |[],k,i,d,h=>by simp[iS] at h
 |e::r,k,0,d,h=>by
  cases(show ζ (D.tup [.int (k:Nat),e])=ζ d by simpa[iS] using h)
  exact⟨e,Y,Y⟩
 |e::r,k,i+1,d,h=>by
  let⟨a,b,c⟩:=l3 (ds:=r) (k:=k+1) (i:=i) (d:=d) (by simpa[iS] using h);calc⟨a,by simpa using b,by rw[c];congr 4;symm⟩
section
variable{X:Cx}{tg l a b:J}{f:WE}{fa:WA}{F H:Hp}{ad:-U}{δ:aI}{σ:St}
theorem JI.weak{a:J}{w d:TI}(h:JI X tg a w)(k:∀b H R,d b H R->w b H R):JI X tg a d:=⟨λc s b H R I q=>h c s b H R I (k b H R q)⟩
theorem pB{ds:-D}{vs:-V}(h:ax F ds vs){i:Nat}{d:D}(e:ds[i]?=ζ d):∃v,vs[i]?=ζ v/\Is F d v:=by
 let c:=↑h;let a:i<↑vs:=by rw[c];exact(pa.mp e).1
 let⟨d',b,f⟩:=h.get (tE a);rw[e] at b;cases b;calc⟨_,tE a,f⟩
theorem C1{x:DV}{v:V}{K:nq->Prop}(S:SR F ad δ σ H)(p:eN F ad x v)(h:fN x δ K):∃a q,v=.ref a/\K q/\(∃vs,H a=ζ (.lst vs)) ∧
  ∀(F':Hp)(c:-U)(d:aI)(σ':St)(H':Hp),a_ F F'->(∀(k:Nat)(a:U),ad[k]?=ζ a->c[k]?=ζ a)->SR F' c d σ' H'->q.gF d->∃vs,H' a=ζ (.lst vs)/\ax F' q.items vs:=by
 unfold fN at h;split at h
 .rename_i r
  let D:Is F (.lst r) v:=p;erw[Is] at D;let⟨a,g,rfl,E,G⟩:=D;exact⟨a,_,Y,h,⟨g,S.sub _ _ E⟩,λB c d i C s _ j _=>⟨g,j.sub _ _ (s _ _ E),G.same s⟩⟩
 .rename_i k
  split at h
  .rename_i r e
   let⟨a,l,rfl⟩:=p;let⟨a',o,m,t,g,rfl,I⟩:=S.mu k _ e;rw[l] at m;cases m;calc⟨a,_,Y,h,⟨g,t⟩,λB c d i C _ f j u=>?_⟩;let⟨Mq,o,n,w,y,rfl,A⟩:=j.mu k _ u;rw[f k a l] at n;cases n;exact⟨y,w,A⟩
  .rename_i b r e
   let⟨a,l,rfl⟩:=p;let⟨a',o,m,t,z,g,rfl,I⟩:=S.mu k _ e;rw[l] at m;cases m;calc⟨a,_,Y,h,⟨g,t⟩,λB c d i C _ f j u=>?_⟩;let⟨Mq,o,n,w,_,y,rfl,A⟩:=j.mu k _ u;rw[f k a l] at n;cases n;exact⟨y,w,A⟩
  .exact h.elim
 .calc h.elim
theorem C2{x:DV}{v:V}{K:nq->Prop}(S:SR F ad δ σ H)(f:eN F ad x v)(h:fE x δ K):∃a d,v=.ref a/\K d ∧
  (((∃vs,H a=ζ (.lst vs))/\∀(F':Hp)(b:-U)(c:aI)(σ':St)(H':Hp),a_ F F'->(∀(k:Nat)(a:U),ad[k]?=ζ a->b[k]?=ζ a)->SR F' b c σ' H'->d.gF c->∃vs,H' a=ζ (.lst vs)/\ax F' d.items vs) ∨
  ((∃vs,H a=ζ (.tup vs))/\∀(F':Hp)(b:-U)(c:aI)(σ':St)(H':Hp),a_ F F'->(∀(k:Nat)(a:U),ad[k]?=ζ a->b[k]?=ζ a)->SR F' b c σ' H'->d.gF c->∃vs,H' a=ζ (.tup vs)/\ax F' d.items vs)):=by
 unfold fE at h;split at h
 .rename_i g
  let⟨a,d,e,k,r⟩:=C1 (x:=.p (.lst g)) S f h;exact⟨a,d,e,k,.inl r⟩
 .rename_i g
  let j:Is F (.tup g) v:=f;erw[Is] at j;let⟨a,i,rfl,l,n⟩:=j;exact⟨a,_,Y,h,.inr ⟨⟨i,S.sub _ _ l⟩,λt b c m u s _ q _=>⟨i,q.sub _ _ (s _ _ l),n.same s⟩⟩⟩
 .rename_i k
  let⟨a,d,e,k,r⟩:=C1 (x:=.o k) S f h;exact⟨a,d,e,k,.inl r⟩
 .calc h.elim
theorem l4(M:JE X l (tD f)):JI X tg l (kC (bo f)):=(Mo M).weak λV H R ⟨F,N,O,K,S,q,k⟩=>⟨F,N,O,_,S,q,λx P Q v W T Y J t U=>by
 let⟨a,Z,rfl,L,r⟩:=C2 t U Q;calc⟨a,rfl,?_⟩;rcases r with⟨⟨u,e⟩,r⟩|⟨⟨u,e⟩,r⟩
 .refine .inl ⟨⟨u,bS.of e⟩,k _ _ L _ _ _ _ J t λz b c g A s h n B=>?_⟩
  let⟨j,m,o⟩:=r z b c g A s h n B;calc⟨⟨j,bS.of m,by rw[↑o];calc B6 _⟩,λi d C=>?_⟩;let⟨w,p,D⟩:=pB o C;calc⟨⟨j,w,bS.of m,p⟩,λy E ⟨G,I⟩=>?_⟩;subst G;calc⟨λ_ _ e=>e,?_⟩;let:=I j (bS.of m);rw[p] at this;cases this;rw[Nw.refl n.sub];exact D
 .refine .inr ⟨⟨u,cF.of e⟩,k _ _ L _ _ _ _ J t λz b c g A s h n B=>?_⟩
  let⟨j,m,o⟩:=r z b c g A s h n B;calc⟨⟨j,cF.of m,by rw[↑o];calc B6 _⟩,λi d C=>?_⟩;let⟨w,p,D⟩:=pB o C;calc⟨⟨j,w,cF.of m,p⟩,λy E ⟨G,I⟩=>?_⟩;subst G;calc⟨λ_ _ e=>e,?_⟩;let:=I j (cF.of m);rw[p] at this;cases this
  rw[Nw.refl n.sub];calc D⟩
theorem C3{F H:Hp}{T:U}{d e:D}{x y:V}(s:a_ F H)(a:H T=η)(c:Is F d x)(f:Is F e y):Is (Nw F H (upd H T (.tup [x,y]))) (.tup [d,e]) (.ref T):=by
 rw[Nw.upd s a]
 let g:F T=η:=by
  cases q:F T with
  |none=>rfl
  |some u=>rw[s T u q] at a;cases a
 let b:a_ F (upd F T (.tup [x,y])):=c_ g;erw[Is];calc⟨T,_,Y,cw,.cons (c.same b) (.cons (f.same b) .nil)⟩
theorem tZ{m:-υ}{Q:Nat}{U p pos:Ε}(V:Gl X "enumerate")(W:X.mg "enumerate" = η)(Y:JA X [a] (cX fa))(hs:starEach [a] X.env=[(ι,eval a X.env)]:=by rfl):
  JI X (.Tuple m Q U) (.Call (.Name "enumerate" p) [a] [] pos) (kC (bW fa)):=(Mn V W Y hs).weak fun σ H R ⟨F,Z,δ,K,S,q,k⟩=>⟨F,Z,δ,_,S,q,λxs δ1 n A F1 pC H1 O B V1=>by
 match xs,n,V1 with
 |[x],g1,⟨v,r,e,W1,W2⟩ =>
  subst e;let W3:r=[]:=W2;subst W3;let⟨a,it,rfl,P,r⟩:=C2 B W1 g1;calc⟨a,rfl,?_⟩;rcases r with⟨⟨A,e⟩,r⟩|⟨⟨A,e⟩,r⟩
  .refine .inl ⟨⟨A,bS.of e⟩,k _ _ P _ _ _ _ O B λC b c f D s g o E=>?_⟩
   let⟨h,j,t⟩:=r C b c f D s g o E;calc⟨⟨h,bS.of j,by rw[↑t,l0];calc B6 _⟩,λi d G=>?_⟩;let⟨d',l,rfl⟩:=l3 G;let⟨w,u,I⟩:=pB t l;calc⟨⟨h,w,bS.of j,u⟩,λy J ⟨T,v,L,z,M,N⟩=>?_⟩;subst M L;let:=N h (bS.of j);rw[u] at this;cases this;calc⟨c_ z,?_⟩;rw[VJ];exact C3 o.sub z rfl I
  .refine .inr ⟨⟨A,cF.of e⟩,k _ _ P _ _ _ _ O B λC b c f D s g o E=>?_⟩
   let⟨h,j,t⟩:=r C b c f D s g o E;calc⟨⟨h,cF.of j,by rw[↑t,l0]⟩,λi d G=>?_⟩;let⟨d',l,rfl⟩:=l3 G;let⟨w,u,I⟩:=pB t l;calc⟨⟨h,w,cF.of j,u⟩,λy J ⟨T,v,L,z,M,N⟩=>?_⟩;subst M L;let:=N h (cF.of j);rw[u] at this;cases this;calc⟨c_ z,?_⟩;rw[VJ];exact C3 o.sub z rfl I
 |[],n,_=>exact n.elim
 |_::_::_,n,_=>calc n.elim⟩
theorem C4{c:Hp}{a:-U}{b:Int}{n:Nat}:oh c a ⟨dm b n,λ_=>True⟩ (qp b n):=λq f g h r s j t _=>by
 calc⟨by show n<=↑(dm b n);rw[lz];calc B6 _,λi d k=>?_⟩;let⟨l,rfl⟩:=ly k;calc⟨l,λx m ⟨o,p⟩=>?_⟩;subst o p;calc⟨λ_ _ e=>e,Y⟩
theorem t4{p pos:I}(f:Gl X "range")(g:X.mg "range" = η)(h:JA X [a] (cX fa))(hs:starEach [a] X.env=[(ι,eval a X.env)]:=by rfl):JI X tg (.Call (.Name "range" p) [a] [] pos) (kC (eA fa)) :=
 (Jf f g h hs).weak λt H R ⟨F,i,l,K,S,q,k⟩↦⟨F,i,l,_,S,q,λu m b w x n y o s c=>by
  split at b
  .rename_i j
   let⟨v,r,e,c,d⟩:=c;let d:r=[]:=d;let c:v=.int j:=c;subst d c e;exact⟨j,Y,b.1.1,b.1.2,k _ _ b.2 _ _ _ _ o s C4⟩
  .calc b.elim⟩
theorem Mr{p pos:I}(l:Gl X "range")(m:X.mg "range" = η)(n:JA X [a,b] (cX fa))(hs:starEach [a,b] X.env=[(ι,eval a X.env),(ι,eval b X.env)]:=by rfl)(f:starEach [b] X.env=[(ι,eval b X.env)]:=by rfl):
  JI X tg (.Call (.Name "range" p) [a,b] [] pos) (kC (gk fa)) :=
 (Jg l m n hs f).weak λB H R ⟨F,o,s,K,S,q,k⟩↦⟨F,o,s,_,S,q,λC t d D E u G x y c=>by
  split at d
  .rename_i i j
   let⟨v,r,e,c,w,z,A,g,h⟩:=c;let h:z=[]:=h;let c:v=.int i:=c;let g:w=.int j:=g;subst h c g A e;exact⟨i,j,Y,d.1,k _ _ d.2 _ _ _ _ x y C4⟩
  .calc d.elim⟩
end
end L2
namespace L2
open PySem PySem.Spec PyProof.Rows
mutual
noncomputable def dEq:D->D->Bool
 |.non,.non=>θ
 |.bl a,.bl b=>a==b
 |.bl a,.int b=>(if a then 1 else 0)==b
 |.int a,.bl b=>a==(if b then 1 else 0)
 |.int a,.int b=>a==b
 |.str a,.str b=>a==b
 |.tup a,.tup b=>dW a b
 |.lst a,.lst b=>dW a b
 |_,_=>ι
noncomputable def dW:-D->-D->Bool
 |[],[]=>θ
 |a::r,b::s=>dEq a b&&dW r s
 |_,_=>ι
end
mutual
theorem lA:∀d:D,dEq d d=θ
 |.non=>by simp[dEq]
 |.bl a=>by simp[dEq]
 |.int a=>by simp[dEq]
 |.str a=>by simp[dEq]
 |.tup a=>by erw[dEq];exact w6 a
 |.lst a=>by erw[dEq];calc w6 a
theorem w6:∀ds:-D,dW ds ds=θ
 |[]=>by simp[dW]
 |d::r=>by erw[dW,lA d,w6 r,WH]
end
mutual
theorem Is.inj {H:Hp}:∀{d e:D}{v:V},Is H d v->Is H e v->d=e
 |.non,e,v,h,q=>by cases e<;>erw[Is] at h q<;>first|rfl|(subst h;first|(let⟨_,_,z,_⟩:=q;cases z;done)|(cases q;done)|(cases q;rfl))
 |.bl a,e,v,h,q=>by cases e<;>erw[Is] at h q<;>(subst h;first|(let⟨_,_,z,_⟩:=q;cases z;done)|(cases q;done)|(cases q;rfl))
 |.int a,e,v,h,q=>by cases e<;>erw[Is] at h q<;>(subst h;first|(let⟨_,_,z,_⟩:=q;cases z;done)|(cases q;done)|(cases q;rfl))
 |.str a,e,v,h,q=>by cases e<;>erw[Is] at h q<;>(subst h;first|(let⟨_,_,z,_⟩:=q;cases z;done)|(cases q;done)|(cases q;rfl))
 |.tup a,e,v,h,q=>by
  erw[Is] at h;let⟨p,vs,rfl,f,i⟩:=h
  cases e with
  |tup b =>
   erw[Is] at q;let⟨p',ws,z,c,g⟩:=q;cases z
   rw[f] at c;cases c;rw[ax.inj i g]
  |lst b =>
   erw[Is] at q;let⟨p',ws,z,c,g⟩:=q;cases z
   rw[f] at c;cases c
  |non=>erw[Is] at q;cases q
  |bl _=>erw[Is] at q;cases q
  |int _=>erw[Is] at q;cases q
  |str _=>erw[Is] at q;cases q
 |.lst a,e,v,h,q=>by
  erw[Is] at h;let⟨p,vs,rfl,f,i⟩:=h
  cases e with
  |lst b =>
   erw[Is] at q;let⟨p',ws,z,c,g⟩:=q;cases z
   rw[f] at c;cases c;rw[ax.inj i g]
  |tup b =>
   erw[Is] at q;let⟨p',ws,z,c,g⟩:=q;cases z
   rw[f] at c;cases c
  |non=>erw[Is] at q;cases q
  |bl _=>erw[Is] at q;cases q
  |int _=>erw[Is] at q;cases q
  |str _=>erw[Is] at q;cases q
theorem ax.inj {H:Hp}:∀{ds es:-D}{vs:-V},ax H ds vs->ax H es vs->ds=es
 |[],es,vs,h,q=>by
  erw[ax] at h;subst h
  cases es with
  |nil=>rfl
  |cons _ _=>erw[ax] at q;let⟨_,_,z,_⟩:=q;cases z
 |d::ds,es,vs,h,q=>by
  erw[ax] at h;let⟨v,r,rfl,f,i⟩:=h
  cases es with
  |nil=>erw[ax] at q;cases q
  |cons e es =>
   erw[ax] at q;let⟨v',r',z,c,g⟩:=q;cases z
   rw[Is.inj f c,ax.inj i g]
end
theorem rB:∀{ds es:-D},↑ds≠↑es->dW ds es=ι
 |[],[],h=>absurd Y h
 |[],_::_,_=>by simp[dW]
 |_::_,[],_=>by simp[dW]
 |d::r,e::s,h=>by erw[dW];rw[rB (λz=>h (by rw[wo,wo,z])),q3S]
noncomputable def om(ds es:-D)(j:Nat):Bool:=match ds[j]?,es[j]? with
 |some a,some b=>dEq a b
 |_,_=>θ
theorem rC:∀{ds es:-D},↑ds=↑es->(Wq ↑ds).all (om ds es)=dW ds es
 |[],[],_=>by simp[dW]
 |[],_::_,h=>by simp at h
 |_::_,[],h=>by simp at h
 |d::r,e::s,h=>by
  let a:=rC (ds:=r) (es:=s) h⁻¹;rw[wo,List.range_succ_eq_map,List.all_cons,List.all_map];erw[dW];rw[<-a];rfl
section
variable{X:Cx}{pins:a5}{σ:St}{H:Hp}{s:L}
theorem pD{vs:-V}{a:-M}(r:Vals vs a){j:Nat}(h:j<a.toArray.size):∃v,vs[j]?=ζ v/\RelV v a.toArray[j]:=by
 let c:j<↑a:=by simpa using h
 let b:j<↑vs:=by rw[↑r];exact c
 let⟨u,e,d⟩:=r.get (tE b)
 let:a.toArray[j]=u:=by
  let:=(pa.mp e).2;simpa using this
 rw[this];calc⟨_,tE b,d⟩
theorem eQ(I:Inv X pins σ H s){a:U}{vs:-V}(h:H a=ζ (.lst vs)):∃b:-M,Vals vs b/\s.heap.IsList a b.toArray:=by
 let⟨b,r,p,_⟩:=I.list (bS.of h);calc⟨b,r,p.isList⟩
theorem eS(I:Inv X pins σ H s){a:U}{vs:-V}(h:H a=ζ (.tup vs)):∃b:-M,Vals vs b/\s.heap.IsTuple a b.toArray:=by
 let⟨b,r,p,_⟩:=I.tuple (cF.of h);calc⟨b,r,p⟩
theorem in1_units(A:t):A.in1.units=A.units+1:=rfl
theorem w9(I:Inv X pins σ H s):∀(n:Nat){A:Β}{d e:D}{v u:V}{x y:ν},dep d<=n->A.units+n<cLine->Is H d v->Is H e u->RelV v x->RelV u y->q1s A s x y (dEq d e)/\q3X A s x y (dEq d e):=by
 ext n
 induction n with
 |zero =>
  ext A d e v u x y P Y r f z g;let h:A.units<cLine:=by symm
  cases d with
  |tup o=>simp[dep] at P
  |lst o=>simp[dep] at P
  |non =>
   cases(show v=.non from r);cases z
   cases e with
   |non=>cases(show u=.non from f);cases g;erw[dEq];exact⟨q1F _,SeqAt.RcAt.none_none⟩
   |bl b=>cases(show u=.bl b from f);cases g;erw[dEq];exact⟨SeqAt.EqAt.none_bool _,SeqAt.RcAt.none_bool _⟩
   |int b=>cases(show u=.int b from f);let⟨t,rfl⟩:=g;erw[dEq];exact⟨SeqAt.EqAt.none_int _ _,SeqAt.RcAt.none_int _ _⟩
   |str b=>cases(show u=.str b from f);let⟨t,rfl⟩:=g;erw[dEq];exact⟨SeqAt.EqAt.none_str _ _,SeqAt.RcAt.none_str _ _⟩
   |tup k=>erw[Is] at f;let⟨a,w,rfl,m,_⟩:=f;cases g;let⟨_,_,p⟩:=eS I m;erw[dEq];exact⟨SeqAt.EqAt.none_tuple p h,SeqAt.RcAt.none_tuple p h⟩
   |lst k=>erw[Is] at f;let⟨a,w,rfl,m,_⟩:=f;cases g;let⟨_,_,p⟩:=eQ I m;erw[dEq];exact⟨SeqAt.EqAt.none_list p h,SeqAt.RcAt.none_list p h⟩
  |bl G =>
   cases(show v=.bl G from r);cases z
   cases e with
   |non=>cases(show u=.non from f);cases g;erw[dEq];exact⟨SeqAt.EqAt.bool_none _,SeqAt.RcAt.bool_none _⟩
   |bl b=>cases(show u=.bl b from f);cases g;erw[dEq];exact⟨SeqAt.EqAt.bool_bool _ _,SeqAt.RcAt.bool_bool _ _⟩
   |int b=>cases(show u=.int b from f);let⟨t,rfl⟩:=g;erw[dEq];exact⟨SeqAt.EqAt.bool_int _ _ _,SeqAt.RcAt.bool_int _ _ _⟩
   |str b=>cases(show u=.str b from f);let⟨t,rfl⟩:=g;erw[dEq];exact⟨SeqAt.EqAt.bool_str _ _ _,SeqAt.RcAt.bool_str _ _ _⟩
   |tup k=>erw[Is] at f;let⟨a,w,rfl,m,_⟩:=f;cases g;let⟨_,_,p⟩:=eS I m;erw[dEq];exact⟨SeqAt.EqAt.bool_tuple _ p h,SeqAt.RcAt.bool_tuple _ p h⟩
   |lst k=>erw[Is] at f;let⟨a,w,rfl,m,_⟩:=f;cases g;let⟨_,_,p⟩:=eQ I m;erw[dEq];exact⟨SeqAt.EqAt.bool_list _ p h,SeqAt.RcAt.bool_list _ p h⟩
  |int G =>
   cases(show v=.int G from r);let⟨Z,rfl⟩:=z
   cases e with
   |non=>cases(show u=.non from f);cases g;erw[dEq];exact⟨SeqAt.EqAt.int_none _ _,SeqAt.RcAt.int_none _ _⟩
   |bl b=>cases(show u=.bl b from f);cases g;erw[dEq];exact⟨SeqAt.EqAt.int_bool _ _ _,SeqAt.RcAt.int_bool _ _ _⟩
   |int b=>cases(show u=.int b from f);let⟨t,rfl⟩:=g;erw[dEq];exact⟨q2u _ _ _ _,SeqAt.RcAt.int_int _ _ _ _⟩
   |str b=>cases(show u=.str b from f);let⟨t,rfl⟩:=g;erw[dEq];exact⟨q2r _ _ _ _,SeqAt.RcAt.int_str _ _ _ _⟩
   |tup k=>erw[Is] at f;let⟨a,w,rfl,m,_⟩:=f;cases g;let⟨_,_,p⟩:=eS I m;erw[dEq];exact⟨SeqAt.EqAt.int_tuple _ _ p h,SeqAt.RcAt.int_tuple _ _ p h⟩
   |lst k=>erw[Is] at f;let⟨a,w,rfl,m,_⟩:=f;cases g;let⟨_,_,p⟩:=eQ I m;erw[dEq];exact⟨SeqAt.EqAt.int_list _ _ p h,SeqAt.RcAt.int_list _ _ p h⟩
  |str G =>
   cases(show v=.str G from r);let⟨Z,rfl⟩:=z
   cases e with
   |non=>cases(show u=.non from f);cases g;erw[dEq];exact⟨SeqAt.EqAt.str_none _ _,SeqAt.RcAt.str_none _ _⟩
   |bl b=>cases(show u=.bl b from f);cases g;erw[dEq];exact⟨SeqAt.EqAt.str_bool _ _ _,SeqAt.RcAt.str_bool _ _ _⟩
   |int b=>cases(show u=.int b from f);let⟨t,rfl⟩:=g;erw[dEq];exact⟨q2s _ _ _ _,SeqAt.RcAt.str_int _ _ _ _⟩
   |str b=>cases(show u=.str b from f);let⟨t,rfl⟩:=g;erw[dEq];exact⟨SeqAt.EqAt.str_str _ _ _ _,SeqAt.RcAt.str_str _ _ _ _⟩
   |tup k=>erw[Is] at f;let⟨a,w,rfl,m,_⟩:=f;cases g;let⟨_,_,p⟩:=eS I m;erw[dEq];exact⟨SeqAt.EqAt.str_tuple _ _ p h,SeqAt.RcAt.str_tuple _ _ p h⟩
   |lst k=>erw[Is] at f;let⟨a,w,rfl,m,_⟩:=f;cases g;let⟨_,_,p⟩:=eQ I m;erw[dEq];exact⟨SeqAt.EqAt.str_list _ _ p h,SeqAt.RcAt.str_list _ _ p h⟩
 |succ n Q =>
  ext A d e v u x y P Y r f z g;let h:A.units<cLine:=by symm
  let K:∀{o k:-D}{w L:-V}{q i:-ν}(J:Vals w q)(B:Vals L i),bD o<=n->ax H o w->ax H k L →
    ∀(j:Nat)(m:j<q.toArray.size)(C:j<i.toArray.size),q1s A.in1 s q.toArray[j] i.toArray[j] (om o k j):=λ{o k w L q i} J B R M F j m C=>by
   let⟨v1,e1,q1⟩:=pD J m;let⟨v2,e2,q2⟩:=pD B C;let⟨d1,W,g1⟩:=M.get e1;let⟨d2,f2,g2⟩:=F.get e2;unfold om;rw[W,f2];exact(Q (Wr (wH W) R) (by rw[in1_units];symm) g1 g2 q1 q2).1
  cases d with
  |tup o =>
   let R:bD o<=n:=by erw[dep] at P;symm
   let N:=r;erw[Is] at r;let⟨a,w,rfl,m,M⟩:=r;cases z
   let⟨q,J,l⟩:=eS I m
   cases e with
   |tup k =>
    let O:=f;erw[Is] at f;let⟨b,L,rfl,C,F⟩:=f;cases g
    let⟨i,B,E⟩:=eS I C
    let S:q3X A s (.ref a) (.ref b) (dEq (.tup o) (.tup k)):=by
     let:=SeqAt.RcAt.tuples l E h (K J B R M F);let T:q.toArray.size=↑o:=by rw[KG,<-↑J,↑M]
     let U:i.toArray.size=k.length:=by rw[KG,<-↑B,↑F]
     rw[T,U] at this
     let eb:((Wq (min ↑o k.length)).all (om o k)&&↑o==k.length)=dEq (.tup o) (.tup k):=by
      erw[dEq]
      by_cases c:↑o=k.length
      .rw[<-c,q2W,rC c];simp
      .rw[rB c];simp[c]
     rw[eb] at this;exact this
    refine⟨?_,S⟩
    by_cases c:a=b
    .subst c
     let:=Is.inj N O;rw[this,lA];exact q1F _
    .exact q2w c S
   |lst k =>
    erw[Is] at f;let⟨b,L,rfl,C,F⟩:=f;cases g
    let⟨i,B,E⟩:=eQ I C;erw[dEq];exact⟨SeqAt.EqAt.tuple_list l E h,SeqAt.RcAt.tuple_list l E h⟩
   |non=>cases(show u=.non from f);cases g;erw[dEq];exact⟨SeqAt.EqAt.tuple_none l h,SeqAt.RcAt.tuple_none l h⟩
   |bl b=>cases(show u=.bl b from f);cases g;erw[dEq];exact⟨SeqAt.EqAt.tuple_bool _ l h,SeqAt.RcAt.tuple_bool _ l h⟩
   |int b=>cases(show u=.int b from f);let⟨t,rfl⟩:=g;erw[dEq];exact⟨SeqAt.EqAt.tuple_int _ _ l h,SeqAt.RcAt.tuple_int _ _ l h⟩
   |str b=>cases(show u=.str b from f);let⟨t,rfl⟩:=g;erw[dEq];exact⟨SeqAt.EqAt.tuple_str _ _ l h,SeqAt.RcAt.tuple_str _ _ l h⟩
  |lst o =>
   let R:bD o<=n:=by erw[dep] at P;symm
   let N:=r;erw[Is] at r;let⟨a,w,rfl,m,M⟩:=r;cases z
   let⟨q,J,l⟩:=eQ I m
   cases e with
   |lst k =>
    let O:=f;erw[Is] at f;let⟨b,L,rfl,C,F⟩:=f;cases g
    let⟨i,B,E⟩:=eQ I C;let T:q.toArray.size=↑o:=by rw[KG,<-↑J,↑M]
    let U:i.toArray.size=k.length:=by rw[KG,<-↑B,↑F]
    let S:q3X A s (.ref a) (.ref b) (dEq (.lst o) (.lst k)):=by
     by_cases c:↑o=k.length
     .let:=SeqAt.RcAt.lists l E (by rw[T,U];calc c) h (K J B R M F)
      rw[T,rC c] at this;erw[dEq];exact this
     .erw[dEq];rw[rB c]
      exact SeqAt.RcAt.lists_lengths l E (by rw[T,U];simpa using c) h
    refine⟨?_,S⟩
    by_cases c:a=b
    .subst c
     let:=Is.inj N O;rw[this,lA];exact q1F _
    .exact q2w c S
   |tup k =>
    erw[Is] at f;let⟨b,L,rfl,C,F⟩:=f;cases g
    let⟨i,B,E⟩:=eS I C;erw[dEq];exact⟨SeqAt.EqAt.list_tuple l E h,SeqAt.RcAt.list_tuple l E h⟩
   |non=>cases(show u=.non from f);cases g;erw[dEq];exact⟨SeqAt.EqAt.list_none l h,SeqAt.RcAt.list_none l h⟩
   |bl b=>cases(show u=.bl b from f);cases g;erw[dEq];exact⟨SeqAt.EqAt.list_bool _ l h,SeqAt.RcAt.list_bool _ l h⟩
   |int b=>cases(show u=.int b from f);let⟨t,rfl⟩:=g;erw[dEq];exact⟨SeqAt.EqAt.list_int _ _ l h,SeqAt.RcAt.list_int _ _ l h⟩
   |str b=>cases(show u=.str b from f);let⟨t,rfl⟩:=g;erw[dEq];exact⟨SeqAt.EqAt.list_str _ _ l h,SeqAt.RcAt.list_str _ _ l h⟩
  |non=>exact Q (by simp[dep]) ⋯ r f z g
  |bl G=>exact Q (by simp[dep]) ⋯ r f z g
  |int G=>exact Q (by simp[dep]) ⋯ r f z g
  |str G=>calc Q (by simp[dep]) ⋯ r f z g
theorem Ms(I:Inv X pins σ H s){A:Β}{d e:D}{v u:V}{x y:ν}(hd:dep d<=60)(hu:A.units+61<cLine)(B:Is H d v)(f:Is H e u)(K:RelV v x)(g:RelV u y):SeqAt.RcNeAt A s x y (!dEq d e):=by
 let l:A.units<cLine:=by symm
 let E:∀{n i:-D}{q G:-V}{m h:-ν}(C:Vals q m)(r:Vals G h),bD n<=59->ax H n q->ax H i G →
   ∀(j:Nat)(k:j<m.toArray.size)(w:j<h.toArray.size),q1s A.in1 s m.toArray[j] h.toArray[j] (om n i j):=λ{n i q G m h} C r L J z j k w=>by
  let⟨v1,Q,R⟩:=pD C k;let⟨v2,S,T⟩:=pD r w;let⟨d1,P,U⟩:=J.get Q;let⟨d2,W,Y⟩:=z.get S;unfold om;rw[P,W];exact(w9 I 59 (Wr (wH P) L) (by rw[in1_units];symm) U Y R T).1
 cases d with
 |tup n =>
  let L:bD n<=59:=by erw[dep] at hd;symm
  erw[Is] at B;let⟨a,q,rfl,k,J⟩:=B;cases K
  let⟨m,C,o⟩:=eS I k
  cases e with
  |tup i =>
   erw[Is] at f;let⟨b,G,rfl,w,z⟩:=f;cases g
   let⟨h,r,F⟩:=eS I w;let:=SeqAt.RcNeAt.tuples o F l (E C r L J z);let M:m.toArray.size=↑n:=by rw[KG,<-↑C,↑J]
   let O:h.toArray.size=↑i:=by rw[KG,<-↑r,↑z]
   rw[M,O] at this
   let Z:((Wq (min ↑n ↑i)).all (om n i)&&↑n==↑i)=dEq (.tup n) (.tup i):=by
    erw[dEq]
    by_cases c:↑n=↑i
    .rw[<-c,q2W,rC c];simp
    .rw[rB c];simp[c]
   rw[Z] at this;exact this
  |lst i=>erw[Is] at f;let⟨b,G,rfl,w,z⟩:=f;cases g;let⟨h,r,F⟩:=eQ I w;erw[dEq];exact SeqAt.RcNeAt.tuple_list o F l
  |non=>cases(show u=.non from f);cases g;erw[dEq];exact SeqAt.RcNeAt.tuple_none o l
  |bl b=>cases(show u=.bl b from f);cases g;erw[dEq];exact SeqAt.RcNeAt.tuple_bool _ o l
  |int b=>cases(show u=.int b from f);let⟨t,rfl⟩:=g;erw[dEq];exact SeqAt.RcNeAt.tuple_int _ _ o l
  |str b=>cases(show u=.str b from f);let⟨t,rfl⟩:=g;erw[dEq];exact SeqAt.RcNeAt.tuple_str _ _ o l
 |lst n =>
  let L:bD n<=59:=by erw[dep] at hd;symm
  erw[Is] at B;let⟨a,q,rfl,k,J⟩:=B;cases K
  let⟨m,C,o⟩:=eQ I k
  cases e with
  |lst i =>
   erw[Is] at f;let⟨b,G,rfl,w,z⟩:=f;cases g
   let⟨h,r,F⟩:=eQ I w;let M:m.toArray.size=↑n:=by rw[KG,<-↑C,↑J]
   let O:h.toArray.size=↑i:=by rw[KG,<-↑r,↑z]
   by_cases c:↑n=↑i
   .let:=SeqAt.RcNeAt.lists o F (by rw[M,O];calc c) l (E C r L J z)
    rw[M,rC c] at this;erw[dEq];exact this
   .erw[dEq];rw[rB c]
    exact SeqAt.RcNeAt.lists_lengths o F (by rw[M,O];simpa using c) l
  |tup i=>erw[Is] at f;let⟨b,G,rfl,w,z⟩:=f;cases g;let⟨h,r,F⟩:=eS I w;erw[dEq];exact SeqAt.RcNeAt.list_tuple o F l
  |non=>cases(show u=.non from f);cases g;erw[dEq];exact SeqAt.RcNeAt.list_none o l
  |bl b=>cases(show u=.bl b from f);cases g;erw[dEq];exact SeqAt.RcNeAt.list_bool _ o l
  |int b=>cases(show u=.int b from f);let⟨t,rfl⟩:=g;erw[dEq];exact SeqAt.RcNeAt.list_int _ _ o l
  |str b=>cases(show u=.str b from f);let⟨t,rfl⟩:=g;erw[dEq];exact SeqAt.RcNeAt.list_str _ _ o l
 |non =>
  cases(show v=.non from B);cases K
  cases e with
  |non=>cases(show u=.non from f);cases g;erw[dEq];exact SeqAt.RcNeAt.none_none
  |bl b=>cases(show u=.bl b from f);cases g;erw[dEq];exact SeqAt.RcNeAt.none_bool _
  |int b=>cases(show u=.int b from f);let⟨t,rfl⟩:=g;erw[dEq];exact SeqAt.RcNeAt.none_int _ _
  |str b=>cases(show u=.str b from f);let⟨t,rfl⟩:=g;erw[dEq];exact SeqAt.RcNeAt.none_str _ _
  |tup i=>erw[Is] at f;let⟨a,q,rfl,k,_⟩:=f;cases g;let⟨_,_,p⟩:=eS I k;erw[dEq];exact SeqAt.RcNeAt.none_tuple p l
  |lst i=>erw[Is] at f;let⟨a,q,rfl,k,_⟩:=f;cases g;let⟨_,_,p⟩:=eQ I k;erw[dEq];exact SeqAt.RcNeAt.none_list p l
 |bl N =>
  cases(show v=.bl N from B);cases K
  cases e with
  |non=>cases(show u=.non from f);cases g;erw[dEq];exact SeqAt.RcNeAt.bool_none _
  |bl b=>cases(show u=.bl b from f);cases g;erw[dEq];exact SeqAt.RcNeAt.bool_bool _ _
  |int b=>cases(show u=.int b from f);let⟨t,rfl⟩:=g;erw[dEq];exact SeqAt.RcNeAt.bool_int _ _ _
  |str b=>cases(show u=.str b from f);let⟨t,rfl⟩:=g;erw[dEq];exact SeqAt.RcNeAt.bool_str _ _ _
  |tup i=>erw[Is] at f;let⟨a,q,rfl,k,_⟩:=f;cases g;let⟨_,_,p⟩:=eS I k;erw[dEq];exact SeqAt.RcNeAt.bool_tuple _ p l
  |lst i=>erw[Is] at f;let⟨a,q,rfl,k,_⟩:=f;cases g;let⟨_,_,p⟩:=eQ I k;erw[dEq];exact SeqAt.RcNeAt.bool_list _ p l
 |int N =>
  cases(show v=.int N from B);let⟨t0,rfl⟩:=K
  cases e with
  |non=>cases(show u=.non from f);cases g;erw[dEq];exact SeqAt.RcNeAt.int_none _ _
  |bl b=>cases(show u=.bl b from f);cases g;erw[dEq];exact SeqAt.RcNeAt.int_bool _ _ _
  |int b=>cases(show u=.int b from f);let⟨t,rfl⟩:=g;erw[dEq];exact SeqAt.RcNeAt.int_int _ _ _ _
  |str b=>cases(show u=.str b from f);let⟨t,rfl⟩:=g;erw[dEq];exact SeqAt.RcNeAt.int_str _ _ _ _
  |tup i=>erw[Is] at f;let⟨a,q,rfl,k,_⟩:=f;cases g;let⟨_,_,p⟩:=eS I k;erw[dEq];exact SeqAt.RcNeAt.int_tuple _ _ p l
  |lst i=>erw[Is] at f;let⟨a,q,rfl,k,_⟩:=f;cases g;let⟨_,_,p⟩:=eQ I k;erw[dEq];exact SeqAt.RcNeAt.int_list _ _ p l
 |str N =>
  cases(show v=.str N from B);let⟨t0,rfl⟩:=K
  cases e with
  |non=>cases(show u=.non from f);cases g;erw[dEq];exact SeqAt.RcNeAt.str_none _ _
  |bl b=>cases(show u=.bl b from f);cases g;erw[dEq];exact SeqAt.RcNeAt.str_bool _ _ _
  |int b=>cases(show u=.int b from f);let⟨t,rfl⟩:=g;erw[dEq];exact SeqAt.RcNeAt.str_int _ _ _ _
  |str b=>cases(show u=.str b from f);let⟨t,rfl⟩:=g;erw[dEq];exact SeqAt.RcNeAt.str_str _ _ _ _
  |tup i=>erw[Is] at f;let⟨a,q,rfl,k,_⟩:=f;cases g;let⟨_,_,p⟩:=eS I k;erw[dEq];exact SeqAt.RcNeAt.str_tuple _ _ p l
  |lst i=>erw[Is] at f;let⟨a,q,rfl,k,_⟩:=f;cases g;let⟨_,_,p⟩:=eQ I k;erw[dEq];calc SeqAt.RcNeAt.str_list _ _ p l
end
variable[a8]
noncomputable def intsOf:-D->Option (-Int)
 |[]=>ζ []
 |.int i::r=>match intsOf r with
  |some a=>ζ (i::a)
  |none=>η
 |_=>η
theorem j7:∀ns:-Int,intsOf (ns.map D.int)=ζ ns
 |[]=>Y
 |n::r=>by show(match intsOf (r.map D.int) with|some a=>ζ (n::a)|none=>η)=_;rw[j7 r]
theorem nr:∀{ds:-D}{ns:-Int},intsOf ds=ζ ns->ds=ns.map D.int
 |[],a,h=>by cases h;rfl
 |.int i::r,a,h=>by
  unfold intsOf at h;split at h
  .rename_i b e;cases h;rw[UB,nr e]
  .cases h
 |.non::r,a,h=>by cases h
 |.bl _::r,a,h=>by cases h
 |.str _::r,a,h=>by cases h
 |.tup _::r,a,h=>by cases h
 |.lst _::r,a,h=>by cases h
theorem lB{F:Hp}:∀{ns:-Int}{vs:-V},ax F (ns.map D.int) vs->vs=ns.map V.int
 |[],b,h=>by erw[V9,ax] at h;exact h
 |n::r,b,h=>by
  erw[UB,ax] at h;let⟨v,t,rfl,a,c⟩:=h;let a:v=.int n:=a;rw[lB c,a];rfl
theorem mB{F:Hp}:∀{ns:-Int},ax F (ns.map D.int) (ns.map V.int)
 |[]=>.nil
 |n::r=>.cons (show _=_ from Y) mB
theorem pE{F:Hp}:∀{as bs:-D}{us vs:-V},ax F as us->ax F bs vs->ax F (as++bs) (us++vs)
 |[],b,c,d,h,q=>by erw[ax] at h;subst h;exact q
 |a::r,b,c,d,h,q=>by
  erw[ax] at h;let⟨v,t,rfl,e,f⟩:=h;calc .cons e (pE f q)
theorem C5{F:Hp}:∀{as:-D}{us:-V}(n:Nat),ax F as us->ax F (as.take n) (us.take n)
 |e,b,0,_=>by rw[Wm,Wm];exact .nil
 |[],b,n+1,h=>by erw[ax] at h;subst h;exact .nil
 |a::r,b,n+1,h=>by
  erw[ax] at h;let⟨v,t,rfl,c,d⟩:=h;calc .cons c (C5 n d)
theorem C6{F:Hp}:∀{as:-D}{us:-V}(n:Nat),ax F as us->ax F (as.drop n) (us.drop n)
 |d,b,0,h=>h
 |[],b,n+1,h=>by erw[ax] at h;subst h;exact .nil
 |a::r,b,n+1,h=>by
  erw[ax] at h;let⟨v,t,rfl,e,c⟩:=h;calc C6 n c
theorem C7{F:Hp}:∀{as:-D}{us:-V}(n:Nat){d:D}{v:V},ax F as us->Is F d v->ax F (as.set n d) (us.set n v)
 |[],c,n,d,v,h,_=>by erw[ax] at h;subst h;exact .nil
 |a::r,c,0,d,v,h,q=>by
  erw[ax] at h;let⟨w,t,rfl,e,b⟩:=h;exact .cons q b
 |a::r,c,n+1,d,v,h,q=>by
  erw[ax] at h;let⟨w,t,rfl,e,b⟩:=h;calc .cons e (C7 n b q)
theorem C8{F:Hp}:∀{as:-D}{us:-V}(n:Nat),ax F as us->ax F (as.eraseIdx n) (us.eraseIdx n)
 |[],c,n,h=>by erw[ax] at h;subst h;exact .nil
 |a::r,c,0,h=>by
  erw[ax] at h;let⟨w,t,rfl,d,b⟩:=h;exact b
 |a::r,c,n+1,h=>by
  erw[ax] at h;let⟨w,t,rfl,d,b⟩:=h;calc .cons d (C8 n b)
theorem kD{F H:Hp}{p:U}{ds:-D}{vs:-V}(s:a_ F H)(a:H p=η)(h:ax F ds vs):Is (Nw F H (upd H p (.lst vs))) (.lst ds) (.ref p):=by
 rw[Nw.upd s a];erw[Is];calc⟨p,vs,Y,cw,h.same (c_ (s.free a))⟩
theorem w_{F H:Hp}{p:U}{ds:-D}{vs:-V}(s:a_ F H)(a:H p=η)(h:ax F ds vs):Is (Nw F H (upd H p (.tup vs))) (.tup ds) (.ref p):=by
 rw[Nw.upd s a];erw[Is];calc⟨p,vs,Y,cw,h.same (c_ (s.free a))⟩
theorem rD{F H:Hp}{d:D}{v:V}(s:a_ F H)(h:Is F d v):Is (Nw F H H) d v:=by rw[Nw.refl s];calc h
def cQ:D->D->(D->Prop)->Prop
 |.int i,.int j,K=>K (.int (i+j))
 |.lst a,.lst b,K=>↑a+↑b<=1000/\K (.lst (a++b))
 |.tup a,.tup b,K=>(a≠[]/\↑a+↑b<=1000)/\K (.tup (a++b))
 |.str a,.str b,K=>↑a+↑b<=1000/\K (.str (a++b))
 |_,_,_=>False
def oI(f:Int->Int->D):D->D->(D->Prop)->Prop
 |.int i,.int j,K=>K (f i j)
 |_,_,_=>False
def cW(C:Int->Int->Prop)(f:Int->Int->D):D->D->(D->Prop)->Prop
 |.int i,.int j,K=>C i j/\K (f i j)
 |_,_,_=>False
def bO:D->D->(D->Prop)->Prop
 |.int i,.int j,K=>kj i j/\K (.int (i*j))
 |.lst a,.int j,K=>(-(2 ^ 63)<=j/\j<2 ^ 63/\↑a*j.toNat<=1000)/\K (.lst (VG j.toNat a).flatten)
 |_,_,_=>False
section
variable{X:Cx}
theorem t5{f:M->M->Sem M}{g:Int->Int->V}{h:Int->Int->D}(op:fA X f (mi g))(b:∀F i j,Is F (h i j) (g i j)):gC X f (oI h):=by
 ext a s c H x y v u Q I k l ⟨F,d,e,K,m,n,o,q,p⟩;unfold oI at q;split at q
 .rename_i i j
  exact op a s c H x y v u Q I k l ⟨i,j,n,o,p _ _ _ q (λ_ _ e=>e) (b _ i j)⟩
 .calc q.elim
theorem xa{f:M->M->Sem M}{C:Int->Int->Prop}{g:Int->Int->V}{h:Int->Int->D}(op:fA X f (rI C g))(b:∀F i j,Is F (h i j) (g i j)):gC X f (cW C h):=by
 ext a s c H x y v u Q I k l ⟨F,d,e,K,m,n,o,q,p⟩;unfold cW at q;split at q
 .rename_i i j
  exact op a s c H x y v u Q I k l ⟨i,j,n,o,q.1,p _ _ _ q.2 (λ_ _ e=>e) (b _ i j)⟩
 .calc q.elim
theorem t6:gC X (binaryOp .Add) cQ:=by
 ext c s w H x y v u Q I A B ⟨F,d,e,K,f,n,C,q,o⟩;unfold cQ at q;split at q
 .rename_i i j
  exact Bu c s w H x y v u Q I A B ⟨i,j,n,C,o _ _ _ q (λ_ _ e=>e) Y⟩
 .rename_i r k
  let⟨a,D,rfl,E,l⟩:=n;let⟨b,G,rfl,J,m⟩:=C;refine B3 c s w H _ _ v u Q I A B ⟨a,b,D,G,Y,Y,E,J,kY (by rw[↑l,↑m];calc q.1),λp t=>o _ _ _ q.2 (c_ t) (kD f t (pE l m))⟩
 .rename_i r k
  let g:Is F (.tup r) x:=n;let h:Is F (.tup k) y:=C;erw[Is] at g h;let⟨a,D,rfl,E,l⟩:=g;let⟨b,G,rfl,J,m⟩:=h;let L:D≠[]:=λz=>q.1.1 (XR.mp (by rw[<-↑l,z];rfl));calc Kq c s w H _ _ v u Q I A B ⟨a,b,D,G,Y,Y,cF.of (f _ _ E),cF.of (f _ _ J),L,kY (by rw[↑l,↑m];calc q.1.2),λz=>?_,λz p t=>o _ _ _ q.2 (c_ t) (w_ f t (pE l m))⟩;let:k=[]:=XR.mp (by rw[<-↑m,z];rfl);subst this;calc o _ _ _ q.2 (λ_ _ e=>e) (rD f ?_);rw[dV];exact n
 .rename_i r k
  let g:x=.str r:=n;let h:y=.str k:=C;subst g h;exact Jz c s w H _ _ v u Q I A B ⟨r,k,Y,Y,kY q.1,o _ _ _ q.2 (λ_ _ e=>e) Y⟩
 .calc q.elim
theorem rE:gC X (binaryOp .Sub) (oI λi j=>.int (i-j)):=t5 Jj λ_ _ _=>Y
theorem xb:gC X (binaryOp .Mult) bO:=by
 ext b s f H x y v u Q I g h ⟨F,d,e,K,c,l,m,q,n⟩;unfold bO at q;split at q
 .rename_i i j
  exact Jk b s f H x y v u Q I g h ⟨i,j,l,m,q.1,n _ _ _ q.2 (λ_ _ e=>e) Y⟩
 .rename_i w j
  let⟨a,o,rfl,z,r⟩:=l;refine KC b s f H _ _ v u Q I g h ⟨a,j,o,Y,m,z,q.1.1,q.1.2.1,kY (by rw[↑r];calc q.1.2.2),λp t=>n _ _ _ q.2 (c_ t) (kD c t ?_)⟩
  let:∀k:Nat,ax F (VG k w).flatten (VG k o).flatten:=λk=>by
   induction k with
   |zero=>exact .nil
   |succ k A=>rw[VN,VN,Yw,Yw];exact pE r A
  exact this _
 .calc q.elim
theorem Mt:gC X (binaryOp .Mod) (cW (λ_ j=>0<j) λi j=>.int (i%j)):=xa vR λ_ _ _=>Y
theorem Mu:gC X (binaryOp .Pow) (cW ir λi j=>.int (i ^ j.toNat)):=xa Jl λ_ _ _=>Y
def oEq:D->D->(D->Prop)->Prop:=λd e K=>dep d<=60/\K (.bl (dEq d e))
def fF:D->D->(D->Prop)->Prop:=λd e K=>dep d<=60/\K (.bl (!dEq d e))
theorem lC(j:X.A.units+64<cLine):gC X (compareOp .Eq) oEq:=by
 ext b s k H x y v u Q I c f ⟨F,d,e,K,a,g,h,q,i⟩;calc(w9 I 60 q.1 ⋯ (g.is a) (h.is a) c f).2 _ _ _ _ ⟨.bl _,H,I,Y,i _ _ _ q.2 (λ_ _ e=>e) Y⟩
theorem xc(j:X.A.units+64<cLine):gC X (compareOp .NotEq) fF:=by
 ext b s k H x y v u Q I c f ⟨F,d,e,K,a,g,h,q,i⟩;calc Ms I q.1 ⋯ (g.is a) (h.is a) c f _ _ _ _ ⟨.bl _,H,I,Y,i _ _ _ q.2 (λ_ _ e=>e) Y⟩
def oLt:D->D->(D->Prop)->Prop
 |.int i,.int j,K=>K (.bl (S (i<j)))
 |.tup a,.tup b,K=>match intsOf a,intsOf b with
  |some c,some d=>K (.bl (HT.lexLt c d))
  |_,_=>False
 |_,_,_=>False
theorem xf(J:X.A.units+64<cLine):gC X (compareOp .Lt) oLt:=by
 ext c s m H x y v u Q I n o ⟨F,d,e,K,f,k,l,q,p⟩;unfold oLt at q;split at q
 .rename_i i j
  exact Jo c s m H x y v u Q I n o ⟨i,j,k,l,p _ _ _ q (λ_ _ e=>e) Y⟩
 .rename_i M L
  split at q
  .rename_i t r C B
   rw[nr C] at k;rw[nr B] at l;let g:Is F (.tup (t.map D.int)) x:=k;let h:Is F (.tup (r.map D.int)) y:=l;erw[Is] at g h;let⟨a,N,rfl,w,E⟩:=g;let⟨b,O,rfl,z,G⟩:=h;rw[lB E] at w;rw[lB G] at z;exact Ko ⋯ c s m H _ _ v u Q I n o ⟨a,b,t,r,Y,Y,cF.of (f _ _ w),cF.of (f _ _ z),p _ _ _ q (λ_ _ e=>e) Y⟩
  .exact q.elim
 .calc q.elim
theorem C9:gC X (compareOp .LtE) (oI λi j=>.bl (S (i<=j))):=t5 Jp λ_ _ _=>Y
theorem C_:gC X (compareOp .Gt) (oI λi j=>.bl (S (j<i))):=t5 Jq λ_ _ _=>Y
theorem Mv:gC X (compareOp .GtE) (oI λi j=>.bl (S (j<=i))):=t5 Jr λ_ _ _=>Y
def b3:D->D->(D->Prop)->Prop
 |.non,.non,K=>K (.bl θ)
 |.bl _,.non,K=>K (.bl ι)
 |.int _,.non,K=>K (.bl ι)
 |.str _,.non,K=>K (.bl ι)
 |.tup _,.non,K=>K (.bl ι)
 |.lst _,.non,K=>K (.bl ι)
 |_,_,_=>False
theorem De{F H:Hp}{d e:D}{x y:V}{K:D->Prop}(c:j2 F H d x)(g:j2 F H e y)(q:b3 d e K):y=.non/\K (.bl (S (x=.non))):=by
 unfold b3 at q;split at q
 .let:x=.non:=c;let f:y=.non:=g;subst this;exact⟨f,q⟩
 .rename_i b;let:x=.bl b:=c;let f:y=.non:=g;subst this;exact⟨f,q⟩
 .rename_i b;let:x=.int b:=c;let f:y=.non:=g;subst this;exact⟨f,q⟩
 .rename_i b;let:x=.str b:=c;let f:y=.non:=g;subst this;exact⟨f,q⟩
 .rename_i b;let c:Is F (.tup b) x:=c;erw[Is] at c;let⟨a,_,rfl,_⟩:=c;exact⟨g,q⟩
 .rename_i b;let⟨a,_,rfl,_⟩:=c;exact⟨g,q⟩
 .calc q.elim
def fO:D->D->(D->Prop)->Prop:=λd e K=>b3 d e λz=>match z with
 |.bl b=>K (.bl (!b))
 |_=>False
theorem Mw:gC X (compareOp .Is) b3:=by
 ext a s b H x y v u Q I c f ⟨F,d,e,K,g,h,i,q,j⟩;let⟨k,l⟩:=De h i q;calc Js a s b H x y v u Q I c f ⟨k,j _ _ _ l (λ_ _ e=>e) Y⟩
theorem Mx:gC X (compareOp .IsNot) fO:=by
 ext a s b H x y v u Q I c f ⟨F,d,e,K,g,h,i,q,j⟩;let⟨k,l⟩:=De h i q;calc Jt a s b H x y v u Q I c f ⟨k,j _ _ _ l (λ_ _ e=>e) Y⟩
def dn(b:Bool):D->D->(D->Prop)->Prop
 |d,.lst a,K=>bD a<=55/\K (.bl (if b then !(a.any λe=>dEq e d) else a.any λe=>dEq e d))
 |d,.tup a,K=>bD a<=55/\K (.bl (if b then !(a.any λe=>dEq e d) else a.any λe=>dEq e d))
 |_,_,_=>False
noncomputable def jz(H:Hp)(d:D)(u:M):Bool:=by
 classical calc if ∃e v,Is H e v/\RelV v u/\dEq e d=θ then θ else ι
theorem Df{H:Hp}{d e:D}{v:V}{u:M}(h:Is H e v)(r:RelV v u):jz H d u=dEq e d:=by
 unfold jz;split
 .rename_i z
  let⟨f,a,b,c,q⟩:=z;let:a=v:=c.inj r;subst this;rw[Is.inj h b];exact q.symm
 .rename_i z
  cases q:dEq e d with
  |false=>rfl
  |true=>calc absurd ⟨e,v,h,r,q⟩ z
theorem rF{H:Hp}{d:D}:∀{es:-D}{vs:-V}{us:-M},ax H es vs->Vals vs us->us.any (jz H d)=es.any λe=>dEq e d
 |[],a,b,h,r=>by erw[ax] at h;subst h;cases r;rfl
 |e::j,a,b,h,r=>by
  erw[ax] at h;let⟨v,t,rfl,c,f⟩:=h
  cases r with
  |cons g i=>rw[Wf,Wf,Df c g,rF f i]
theorem rG{b:a5}{j:St}{H:Hp}{s:L}(I:Inv X b j H s){A:Β}(c:A.units+60<cLine){d:D}{x:V}{w:M}(hd:Is H d x)(f:RelV x w):∀{es:-D}{vs:-V}{us:-M},bD es<=55->ax H es vs->Vals vs us->∀u∈us,q1s A s u w (jz H d u)
 |[],k,l,_,h,r=>by erw[ax] at h;subst h;cases r;ext u c;cases c
 |e::p,k,l,m,h,r=>by
  erw[ax] at h;let⟨v,t,rfl,g,n⟩:=h;erw[bD] at m
  cases r with
  |cons i o =>
   ext u a;rcases Uy.mp a with rfl|a
   .rw[Df g i];exact(w9 I 55 ⋯ ⋯ g hd i f).1
   .calc rG I c hd f ⋯ n o u a
theorem oo(C:X.A.units+64<cLine):gC X (compareOp .In) (dn ι):=by
 ext k s D H x y v u Q I l m ⟨F,d,e,K,b,n,o,q,t⟩;unfold dn at q;split at q
 .rename_i z
  let⟨a,B,rfl,h,i⟩:=o;cases m
  let⟨c,r,p⟩:=eQ I h;let f:=i.same b;calc SeqAt.in_listAt (jz H d) p (λw j=>rG I (by rw[in1_units];symm) (n.is b) l q.1 f r w j⁻¹) ⟨.bl _,H,I,Y,?_⟩;rw[show c.toArray.any (jz H d)=c.any (jz H d) by simp,rF f r];exact t _ _ _ q.2 (λ_ _ e=>e) Y
 .rename_i z
  let g:Is F (.tup z) y:=o;erw[Is] at g;let⟨a,B,rfl,h,i⟩:=g;cases m
  let⟨c,r,p⟩:=eS I (b _ _ h);let f:=i.same b;calc SeqAt.in_tupleAt (jz H d) p (λw j=>rG I (by rw[in1_units];symm) (n.is b) l q.1 f r w j⁻¹) ⟨.bl _,H,I,Y,?_⟩;rw[show c.toArray.any (jz H d)=c.any (jz H d) by simp,rF f r];exact t _ _ _ q.2 (λ_ _ e=>e) Y
 .calc q.elim
theorem xg(C:X.A.units+64<cLine):gC X (compareOp .NotIn) (dn θ):=by
 ext k s D H x y v u Q I l m ⟨F,d,e,K,b,n,o,q,t⟩;unfold dn at q;split at q
 .rename_i z
  let⟨a,B,rfl,h,i⟩:=o;cases m
  let⟨c,r,p⟩:=eQ I h;let f:=i.same b;calc SeqAt.notIn_listAt (jz H d) p (λw j=>rG I (by rw[in1_units];symm) (n.is b) l q.1 f r w j⁻¹) ⟨.bl _,H,I,Y,?_⟩;rw[show c.toArray.any (jz H d)=c.any (jz H d) by simp,rF f r];exact t _ _ _ q.2 (λ_ _ e=>e) Y
 .rename_i z
  let g:Is F (.tup z) y:=o;erw[Is] at g;let⟨a,B,rfl,h,i⟩:=g;cases m
  let⟨c,r,p⟩:=eS I (b _ _ h);let f:=i.same b;calc SeqAt.notIn_tupleAt (jz H d) p (λw j=>rG I (by rw[in1_units];symm) (n.is b) l q.1 f r w j⁻¹) ⟨.bl _,H,I,Y,?_⟩;rw[show c.toArray.any (jz H d)=c.any (jz H d) by simp,rF f r];exact t _ _ _ q.2 (λ_ _ e=>e) Y
 .calc q.elim
def ba:D->D->(D->Prop)->Prop
 |.lst a,.int i,K=>match eW a i with
  |some d=>K d
  |none=>False
 |.tup a,.int i,K=>match eW a i with
  |some d=>K d
  |none=>False
 |.str z,.int i,K=>↑z<=1000/\match eW z.cps.toList i with
  |some c=>K (.str ⟨#[c]⟩)
  |none=>False
 |_,_,_=>False
theorem Dg{F:Hp}{ds:-D}{vs:-V}{i:Int}{d:D}(h:ax F ds vs)(e:eW ds i=ζ d):∃v,eW vs i=ζ v/\Is F d v:=by
 unfold eW at e ⊢;rw[↑h]
 cases q:i_ ↑ds i with
 |none=>rw[q] at e;cases e
 |some j =>
  rw[q] at e;calc pB h (show ds[j]?=ζ d from e)
theorem dX:CN X ba:=by
 ext b f g s l H x y v u Q I m n ⟨F,d,e,K,j,o,p,q,r⟩ t;unfold ba at q;split at q
 .rename_i G i
  split at q
  .rename_i J k
   let⟨a,A,rfl,B,C⟩:=o;let⟨w,D,E⟩:=Dg C k;exact iw b f g s l H _ _ v u Q I m n ⟨a,A,i,w,Y,p,bS.of B,D,r _ _ _ q (λ_ _ e=>e) (rD j E)⟩ t
  .exact q.elim
 .rename_i G i
  split at q
  .rename_i J k
   let h:Is F (.tup G) x:=o;erw[Is] at h;let⟨a,A,rfl,B,C⟩:=h;let⟨w,D,E⟩:=Dg C k;exact lb b f g s l H _ _ v u Q I m n ⟨a,A,i,w,Y,p,cF.of (j _ _ B),D,r _ _ _ q (λ_ _ e=>e) (rD j E)⟩ t
  .exact q.elim
 .rename_i z i
  let⟨L,q⟩:=q;split at q
  .rename_i c k
   let h:x=.str z:=o;subst h;exact BR b f g s l H _ _ v u Q I m n ⟨z,i,c,Y,p,kY L,k,r _ _ _ q (λ_ _ e=>e) Y⟩ t
  .exact q.elim
 .calc q.elim
noncomputable def cutD(ds:-D)(a b:Option Int):-D:=(ds.drop (HT.bM ↑ds 0 a)).take (HT.bM ↑ds ↑ds b-HT.bM ↑ds 0 a)
theorem Dh{F:Hp}{ds:-D}{vs:-V}(h:ax F ds vs)(a b:Option Int):ax F (cutD ds a b) (eF vs a b):=by
 unfold cutD eF;rw[↑h];calc C5 _ (C6 _ h)
abbrev WO:=aI->(Option Int->aI->Prop)->Prop
def t7(f:WO):TO:=λe H Q=>∃F g c K,SR F g c e H/\f c K/\∀o a,K o a->∀h b d,Ext F g c.mu H h b a.mu d->SR h b a e d->Q o d
def b7:WO:=λa K=>K η a
def eZ(f:WE):WO:=λb K=>f b λx a=>match x with
 |.p (.int i)=>K (ζ i) a
 |_=>False
theorem xh:PO X η (t7 b7):=λa s b H Q I ⟨F,c,d,K,S,q,k⟩↦BO a s b H Q I (k _ _ q _ _ _ .refl S)
theorem xi{e:J}{f:WE}(h:JE X e (tD f)):PO X (ζ e) (t7 (eZ f)):=λa s c H Q I ⟨F,d,g,K,S,q,k⟩↦tw h a s c H Q I ⟨F,d,g,_,S,q,λx j b v p l r m n o=>by
 split at b
 .rename_i i
  exact⟨i,o,k _ _ b _ _ _ m n⟩
 .calc b.elim⟩
def gG:D->Option Int->Option Int->(D->Prop)->Prop
 |.lst a,b,c,K=>K (.lst (cutD a b c))
 |.tup a,b,c,K=>¬ (HT.bM ↑a 0 b=0/\HT.bM ↑a ↑a c=↑a)/\K (.tup (cutD a b c))
 |_,_,_,_=>False
def gN(f:WE)(l h:WO):WE:=λe K=>f e λx b=>l b λg c=>h c λi a=>dG x a λd=>gG d g i λz=>K (.p z) a
def c6:D->(D->Prop)->Prop
 |.lst a,K=>K (.lst a.reverse)
 |_,_=>False
def c7:D->(D->Prop)->Prop
 |.int i,K=>K (.int (-(i:Int)))
 |_,_=>False
def gm(f g h:WE)(o o':D->D->(D->Prop)->Prop):WE:=λj K=>f j λx i=>g i λy a=>dG x a λd=>dG y a λe=>o d e λz=>match z with
 |.bl true=>h a λw b=>dG y b λk=>dG w b λc=>o' k c λl=>K (.p l) b
 |.bl false=>K (.p (.bl ι)) a
 |_=>False
theorem Mz{a b c:υ}{f g h:WE}{op i:CmpOp}{o o':D->D->(D->Prop)->Prop}{pos:Ε}(N:gC X (compareOp op) o)(r:gC X (compareOp i) o')(O:JE X a (tD f))(P:JE X b (tD g))(R:JE X c (tD h))
  (T:lastMarks [op,i] [b,c]=ι:=by with_unfolding_all rfl):JE X (.Compare a [op,i] [b,c] pos) (tD (gm f g h o o')) :=
 (Jy N r O P R T).weak fun σ H Q ⟨F,U,V,K,S,q,k⟩=>by
  calc⟨F,U,V,_,S,q,λx s W v1 Y t H1 I Z V1=>⟨Y,t,s,_,Z,W,λy u h2 v2 F2 A H2 B l J=>?_⟩⟩;let⟨d,h3,rd⟩:=kX l (V1.ext B) h2;let⟨e,h4,re⟩:=kX l J h3;calc⟨F2,d,e,_,l.sub,rd,re,h4,λz v H' j m p=>?_⟩;let L:=l.al m;let C:=Ext.al l m;split at j
  .refine⟨θ,p,?_⟩
   rw[VE rfl];calc⟨_,A,u,_,L,j,λw δ4 h5 v4 F4 CV H4 M n V4=>?_⟩;let⟨d',h6,E⟩:=kX n ((J.ext C).ext M) h5;let⟨e',h7,G⟩:=kX n V4 h6;exact⟨F4,d',e',_,n.sub,E,G,h7,λz v H' j m p=>k _ _ j _ _ _ _ ((((I.trans B).trans C).trans M).trans (Ext.al n m)) (n.al m) p⟩
  .refine⟨ι,p,?_⟩
   rw[VC Wo];exact k _ _ j _ _ _ _ ((I.trans B).trans C) L rfl
  .calc j.elim
end
noncomputable def sortI(ns:-Int):-Int:=ns.mergeSort λa b=>S (a<=b)
theorem sortI_perm(ns:-Int):(sortI ns).Perm ns:=List.mergeSort_perm ns _
theorem Di(ns:-Int):(sortI ns).Pairwise (· <= ·):=by
 let:=List.pairwise_mergeSort (le:=λa b:Int=>S (a<=b)) (λa b c d e=>by simp at *;symm) (λa b=>by simp;symm) ns;calc this.imp λh=>by simpa using h
theorem Dj:∀{as bs:-Int},as.Perm bs->as.Pairwise (· <= ·)->bs.Pairwise (· <= ·)->as=bs
 |[],d,p,_,_=>p.nil_eq
 |a::c,[],p,_,_=>absurd p.length_eq (by simp)
 |a::c,b::d,p,s,t=>by
  let e:a=b:=by
   let i:a<=b:=by
    let f:b∈a::c:=p.mem_iff.mpr (Uz ..);rcases Uy.mp f with h|h
    .omega
    .exact (Xu.mp s).1 b h
   let j:b<=a:=by
    let g:a∈b::d:=p.mem_iff.mp (Uz ..);rcases Uy.mp g with h|h
    .omega
    .exact (Xu.mp t).1 a h
   symm
  subst e;rw[Dj (List.perm_cons a |>.mp p) (Xu.mp s).2 (Xu.mp t).2]
theorem oq{as bs:-Int}(p:as.Perm bs)(s:as.Pairwise (· <= ·)):as=sortI bs:=Dj (p.trans (sortI_perm bs).symm) s (Di bs)
theorem xj(ns:-Int):↑(sortI ns)=↑ns:=(sortI_perm ns).length_eq
def bB:-D->(D->Prop)->Prop
 |[.lst a],K=>K (.int ↑a)
 |[.tup a],K=>K (.int ↑a)
 |[.str z],K=>↑z<=1000/\K (.int ↑z)
 |_,_=>False
def e7:-D->(D->Prop)->Prop
 |[.lst a],K=>K (.lst a)
 |[.tup a],K=>K (.lst a)
 |_,_=>False
def fP:-D->(D->Prop)->Prop
 |[.lst a],K=>K (.tup a)
 |[.tup a],K=>K (.tup a)
 |_,_=>False
def kE:-D->(D->Prop)->Prop
 |[.lst b],K=>match intsOf b with
  |some a=>↑a<64/\K (.lst ((sortI a).map D.int))
  |none=>False
 |_,_=>False
noncomputable def pF:-D->Option (-Bool)
 |[]=>ζ []
 |.bl b::r=>match pF r with
  |some a=>ζ (b::a)
  |none=>η
 |_=>η
theorem Dl:∀bs:-Bool,pF (bs.map D.bl)=ζ bs
 |[]=>Y
 |n::r=>by show(match pF (r.map D.bl) with|some a=>ζ (n::a)|none=>η)=_;rw[Dl r]
theorem Dp:∀{ds:-D}{bs:-Bool},pF ds=ζ bs->ds=bs.map D.bl
 |[],a,h=>by cases h;rfl
 |.bl i::r,a,h=>by
  unfold pF at h;split at h
  .rename_i b e;cases h;rw[UB,Dp e]
  .cases h
 |.non::r,a,h=>by cases h
 |.int _::r,a,h=>by cases h
 |.str _::r,a,h=>by cases h
 |.tup _::r,a,h=>by cases h
 |.lst _::r,a,h=>by cases h
theorem Dq{F:Hp}:∀{bs:-Bool}{vs:-V},ax F (bs.map D.bl) vs->vs=bs.map V.bl
 |[],b,h=>by erw[V9,ax] at h;exact h
 |n::r,b,h=>by
  erw[UB,ax] at h;let⟨v,t,rfl,a,c⟩:=h;let a:v=.bl n:=a;rw[Dq c,a];rfl
def cI:-D->(D->Prop)->Prop
 |[.lst a],K=>match pF a with
  |some b=>K (.bl (b.all id))
  |none=>False
 |_,_=>False
def fQ:-D->(D->Prop)->Prop
 |[.int i,.int j],K=>K (.int (min i j))
 |_,_=>False
def f9:-D->(D->Prop)->Prop
 |[.int i,.int j],K=>K (.int (max i j))
 |_,_=>False
section
variable{X:Cx}
theorem iC{F H:Hp}{d:D}{xs:-V}(h:jM F H [d] xs):∃v,xs=[v]/\j2 F H d v:=by
 let⟨v,r,rfl,b,a⟩:=h;let a:r=[]:=a;subst a;calc⟨v,Y,b⟩
theorem Dr{F H:Hp}{d e:D}{xs:-V}(h:jM F H [d,e] xs):∃v w,xs=[v,w]/\j2 F H d v/\j2 F H e w:=by
 let⟨v,r,rfl,a,b⟩:=h;let⟨w,rfl,c⟩:=iC b;calc⟨v,w,Y,a,c⟩
theorem ot:eH X (.builtin "len") bB:=by
 ext b s c H n d Q I r ⟨F,o,K,f,g,q,i⟩;unfold bB at q;split at q
 .let⟨v,rfl,a,j,rfl,k,l⟩:=iC g
  exact BU b s c H _ d Q I r ⟨a,j,Y,.inl (bS.of k),by rw[↑l];calc i _ _ _ q (λ_ _ e=>e) Y⟩
 .rename_i m
  let⟨v,rfl,h⟩:=iC g;let h:Is F (.tup m) v:=h;erw[Is] at h;let⟨a,j,rfl,k,l⟩:=h;exact BU b s c H _ d Q I r ⟨a,j,Y,.inr (cF.of (f _ _ k)),by rw[↑l];calc i _ _ _ q (λ_ _ e=>e) Y⟩
 .rename_i z
  let⟨v,rfl,h⟩:=iC g;let h:v=.str z:=h;subst h;exact Kw b s c H _ d Q I r ⟨z,Y,kY q.1,i _ _ _ q.2 (λ_ _ e=>e) Y⟩
 .calc q.elim
theorem t8:eH X (.type "list") e7:=by
 ext b s i H o j Q I r ⟨F,p,K,c,k,q,m⟩;unfold e7 at q;split at q
 .let⟨v,rfl,a,e,rfl,f,g⟩:=iC k
  exact qE b s i H _ j Q I r ⟨a,e,Y,.inl (bS.of f),λl d=>m _ _ _ q (c_ d) (kD c d g)⟩
 .rename_i n
  let⟨v,rfl,h⟩:=iC k;let h:Is F (.tup n) v:=h;erw[Is] at h;let⟨a,e,rfl,f,g⟩:=h;exact qE b s i H _ j Q I r ⟨a,e,Y,.inr (cF.of (c _ _ f)),λl d=>m _ _ _ q (c_ d) (kD c d g)⟩
 .calc q.elim
theorem MA:eH X (.type "tuple") fP:=by
 ext b s g H t i Q I r ⟨F,u,K,c,j,q,k⟩;unfold fP at q;split at q
 .let⟨v,rfl,a,d,rfl,f,m⟩:=iC j
  exact BV b s g H _ i Q I r ⟨a,d,Y,.inl ⟨bS.of f,λl n=>k _ _ _ q (c_ n) (w_ c n m)⟩⟩
 .rename_i o
  let⟨v,rfl,h⟩:=iC j;let p:Is F (.tup o) v:=h;let h:Is F (.tup o) v:=h;erw[Is] at h;let⟨a,d,rfl,f,m⟩:=h;exact BV b s g H _ i Q I r ⟨a,d,Y,.inr ⟨cF.of (c _ _ f),k _ _ _ q (λ_ _ e=>e) (rD c p)⟩⟩
 .calc q.elim
theorem rH:eH X (.builtin "sorted") kE:=by
 ext b s h H t i Q I r ⟨F,u,K,c,j,q,k⟩;unfold kE at q;split at q
 .rename_i w
  split at q
  .rename_i m e
   let⟨v,rfl,a,x,rfl,d,f⟩:=iC j;rw[nr e] at f;rw[lB f] at d;calc LM b s h H _ i Q I r ⟨a,m,Y,bS.of d,q.1,λl n o p g=>?_⟩;rw[oq o p];exact k _ _ _ q.2 (c_ g) (kD c g mB)
  .exact q.elim
 .calc q.elim
theorem MB(f:X.calm=θ):eH X (.builtin "all") cI:=by
 ext b s g H m h Q I r ⟨F,n,K,i,j,q,k⟩;unfold cI at q;split at q
 .rename_i o
  split at q
  .rename_i l e
   let⟨v,rfl,a,p,rfl,c,d⟩:=iC j;rw[Dp e] at d;rw[Dq d] at c;exact LC f b s g H _ h Q I r ⟨a,l,Y,bS.of c,k _ _ _ q (λ_ _ e=>e) Y⟩
  .exact q.elim
 .calc q.elim
theorem MC(d:X.calm=θ):eH X (.builtin "min") fQ:=by
 ext a s f H m g Q I r ⟨F,n,K,h,k,q,l⟩;unfold fQ at q;split at q
 .rename_i i j
  let⟨v,w,rfl,b,c⟩:=Dr k;let b:v=.int i:=b;let c:w=.int j:=c;subst b c;calc JD d a s f H _ g Q I r ⟨i,j,Y,?_⟩;let:(if j<i then j else i)=min i j:=by split<;>symm
  rw[this];exact l _ _ _ q (λ_ _ e=>e) Y
 .calc q.elim
theorem MD(d:X.calm=θ):eH X (.builtin "max") f9:=by
 ext a s f H m g Q I r ⟨F,n,K,h,k,q,l⟩;unfold f9 at q;split at q
 .rename_i i j
  let⟨v,w,rfl,b,c⟩:=Dr k;let b:v=.int i:=b;let c:w=.int j:=c;subst b c;calc JB d a s f H _ g Q I r ⟨i,j,Y,?_⟩;let:(if j>i then j else i)=max i j:=by split<;>symm
  rw[this];exact l _ _ _ q (λ_ _ e=>e) Y
 .calc q.elim
def ft(b:WA):WE:=λc K=>b c λd a=>match d with
 |[.p (.int j)]=>(0<=j/\j<=1000)/\K (.p (.lst (dm 0 j.toNat))) a
 |_=>False
theorem ou(n:Nat):dm 0 n=(bK n).map D.int:=by
 unfold dm bK;rw[VW];calc W7 λi _=>?_;show D.int (0+(i:Int))=D.int (i:Int);rw[q2V]
theorem xk{a:υ}{x:WA}{A g B h:Ε}(C:X.calm=θ)(i:Gl X "list")(c:X.mg "list" = η)(m:bootBuiltins "list" = ζ (.type "list"))(n:Gl X "range")(E:X.mg "range" = η)(o:bootBuiltins "range" = ζ (.type "range"))(G:JA X [a] (cX x))
  (he:starEach [a] X.env=[(ι,eval a X.env)]:=by rfl) (p:starEach [.Call (.Name "range" g) [a] [] h] X.env=[(ι,eval (.Call (.Name "range" g) [a] [] h) X.env)]:=by rfl):JE X (.Call (.Name "list" A) [.Call (.Name "range" g) [a] [] h] [] B) (tD (ft x)) :=
 (ml (LL C) i c m (jK (ml LI n E o G (he:=he)) bY) (he:=p)).weak λT H Q ⟨F,I,J,K,S,q,k⟩=>⟨F,I,J,_,S,q,λU L f W M N b O y P=>by
  split at f
  .rename_i j
   let⟨v,r,e,s,t⟩:=P;let t:r=[]:=t;let s:v=.int j:=s;subst t s e;calc⟨j,Y,λd u=>⟨d,j.toNat,Y,by rw[cw,Int.toNat_of_nonneg f.1.1],⋯,λl c=>?_⟩⟩;let z:a_ b (upd b d (.rng 0 j)):=c_ u;let w:=y.al z;let R:=Ext.al y z;calc k _ _ f.2 _ _ _ _ ((O.trans R).trans (Ext.al w (c_ c))) (w.al (c_ c)) ?_;let:Is (Nw (Nw M b (upd b d (.rng 0 j))) (upd b d (.rng 0 j)) (upd (upd b d (.rng 0 j)) l (.lst ((bK j.toNat).map V.int)))) (.lst ((bK j.toNat).map D.int)) (.ref l):=kD w.sub c mB;rw[ou];exact this
  .calc f.elim⟩
def cf(T:String):D->(D->Prop)->Prop:=λd K=>K (.bl (fJ (iz d) T))
theorem t9{T:String}{t:R}{a:J}{f:WE}{p b pos:Ε}(l:∀d:D,X_ X.K (.type (iz d)) (.type T)=ζ (fJ (iz d) T))(m:Gl X "isinstance")(n:X.mg "isinstance" = η)(c:Gl X t)(e:X.mg t=η)(g:bootBuiltins t=ζ (.type T))(o:JE X a (tD f))
  (h:t≠"__name__" := by decide) (i:cy t:=by decide) (he:starEach [a,.Name t b] X.env=(ι,eval a X.env)::starEach [.Name t b] X.env:=by rfl):JE X (.Call (.Name "isinstance" p) [a,.Name t b] [] pos) (tD (d1 f (cf T))) :=
 (o9 K8 m n PyProof.Rows.boot_isinstance (km o (jJ (II c e g (v:=.ty T) Y h i) bY) he) (he:=he)).weak λE H Q ⟨F,r,s,K,S,q,k⟩↦⟨F,r,s,_,S,q,λx u w v G y I z j A=>by
  let⟨d,B,C⟩:=kX j A w
  calc⟨v,.ty T,.type T,.type (iz d),_,Y,Y,Is.ty (C.is j.sub),l d,k _ _ B _ _ _ _ z j Y⟩⟩
theorem ME{K:KD}:∀d:D,X_ K (.type (iz d)) (.type "int")=ζ (fJ (iz d) "int"):=λd=>K_ _ (tH d)
theorem MF{K:KD}:∀d:D,X_ K (.type (iz d)) (.type "bool")=ζ (fJ (iz d) "bool"):=λd=>K9 _ (tH d)
theorem MG{K:KD}:∀d:D,X_ K (.type (iz d)) (.type "tuple")=ζ (fJ (iz d) "tuple"):=λd=>kit_tuple _ (tH d)
theorem MH{K:KD}:∀d:D,X_ K (.type (iz d)) (.type "list")=ζ (fJ (iz d) "list"):=λd=>La _ (tH d)
def bR(x:DV)(c:aI)(K:Nat->(-D->OV)->-D->Prop):Prop:=match x with
 |.o k=>match c.mu[k]? with
  |some (some (.lst b))=>K k OV.lst b
  |some (some (.al a b))=>K k (OV.al a) b
  |_=>False
 |_=>False
theorem oy{F H:Hp}{f:-U}{g:aI}{q:St}{x:DV}{v:V}{K:Nat->(-D->OV)->-D->Prop}(S:SR F f g q H)(p:eN F f x v)(h:bR x g K):∃k B ds a vs,x=.o k/\K k B ds/\v=.ref a/\f[k]?=ζ a/\H a=ζ (.lst vs)/\ax F ds vs/\g.mu[k]?=ζ (ζ (B ds))/\∀{F' es us},ax F' es us->fB F' a (B es) (.lst us):=by
 unfold bR at h;split at h
 .rename_i k
  split at h
  .rename_i j e
   let⟨a,c,rfl⟩:=p;let⟨a',o,d,m,l,rfl,n⟩:=S.mu k _ e;rw[c] at d;cases d;exact⟨k,_,j,a,l,Y,h,Y,c,m,n,e,λi=>⟨_,Y,i⟩⟩
  .rename_i b j e
   let⟨a,c,rfl⟩:=p;let⟨a',o,d,m,z,l,rfl,n⟩:=S.mu k _ e;rw[c] at d;cases d;exact⟨k,_,j,a,l,Y,h,Y,c,m,n,e,λi=>⟨z,_,Y,i⟩⟩
  .exact h.elim
 .calc h.elim
def bU(f:WE)(g:WA):WE:=λh K=>f h λx b=>bR x b λ_ _ _=>g b λi c=>match i with
 |[y]=>eg y c λd a=>bR x a λk B e=>↑e<1000/\K (.p .non) ⟨a.sl,a.mu.set k (ζ (B (e++[d])))⟩
 |_=>False
theorem oz{f:WE}{n:WA}{K0:KD}:∀g H Q,tD (bU f n) g H Q->o_ K0 "list" wj (tD f) (cX n) g H Q:=λg H Q ⟨F,D,E,K,S,q,k⟩=>⟨F,D,E,_,S,q,λx h G v I i H1 J p s=>by
 let⟨k0,B0,L,a,M,rfl,N,rfl,e1,O,i1,m1,P⟩:=oy p s G;refine⟨.inl ⟨rfl,M,bS.of O⟩,I,i,h,_,p,N,λR T U us F2 V H2 t X Y=>?_⟩
 match R,U,Y with
 |[y],c,⟨u,r,e,Z,W2⟩ =>
  let W3:r=[]:=W2;subst W3 e;let⟨d,δ3,F3,h4,w,j,i3⟩:=n_ X Z c;let⟨k1,B,ds,b,ws,ek,h5,eb,z,e4,A,C,l⟩:=oy (x:=.o k0) j ((s.ext t).ext w) h4;cases ek
  let m:a=b:=by injection eb
  subst m;let oi:=l (F':=F3) (A.snoc i3);calc⟨a,ws,u,rfl,rfl,e4,kW (by rw[↑A];symm),?_⟩;exact k _ _ h5.2 _ _ _ _ (((J.trans t).trans w).trans (Ext.put j C z)) (j.put C z oi) rfl
 |[],c,_=>exact c.elim
 |_::_::_,c,_=>calc c.elim⟩
def cJ(f:WE)(e:WA):WE:=λg K=>f g λx b=>bR x b λ_ _ _=>e b λh a=>match h with
 |[.p (.lst c)]=>bR x a λk B d=>↑d+↑c<=1000/\K (.p .non) ⟨a.sl,a.mu.set k (ζ (B (d++c)))⟩
 |_=>False
theorem Ds{f:WE}{m:WA}{K0:KD}:∀d H Q,tD (cJ f m) d H Q->o_ K0 "list" BZ (tD f) (cX m) d H Q:=λd H Q ⟨F,E,G,K,S,q,k⟩=>⟨F,E,G,_,S,q,λx g I v J h H1 L n p=>by
 let⟨k0,B0,M,a,N,rfl,O,rfl,e1,P,i1,m1,R⟩:=oy n p I;calc⟨.inl ⟨rfl,N,bS.of P⟩,J,h,g,_,n,O,λys T i us s U H2 t c V=>?_⟩;split at i
 .rename_i X
  let⟨u,r,e,Y,Z⟩:=V;let W3:r=[]:=Z;let w:Is s (.lst X) u:=Y;erw[Is] at w;let⟨b,zs,rfl,z1,y⟩:=w;subst W3 e;let⟨k1,B,ds,b',ws,ek,z,eb,A,e4,C,D,j⟩:=oy (x:=.o k0) c (p.ext t) i;cases ek
  let l:a=b':=by injection eb
  subst l;let oi:=j (F':=s) (pE C y);calc⟨a,b,ws,zs,rfl,rfl,e4,c.sub _ _ z1,kY (by rw[↑C,↑y];calc z.1),?_⟩;exact k _ _ z.2 _ _ _ _ ((L.trans t).trans (Ext.put c D A)) (c.put D A oi) rfl
 .calc i.elim⟩
def f_(f:WE)(e:WA):WE:=λg K=>f g λx b=>bR x b λ_ _ _=>e b λh a=>match h with
 |[.p (.int i)]=>bR x a λk B c=>(-(2 ^ 63)<=i/\i<2 ^ 63)/\match seqIndex? i ↑c with
  |some j=>match c[j]? with
   |some d=>K (.p d) ⟨a.sl,a.mu.set k (ζ (B (c.eraseIdx j)))⟩
   |none=>False
  |none=>False
 |_=>False
theorem MI{f:WE}{t:WA}{K0:KD}:∀c H Q,tD (f_ f t) c H Q->o_ K0 "list" B2 (tD f) (cX t) c H Q:=λc H Q ⟨F,G,I,K,S,q,k⟩=>⟨F,G,I,_,S,q,λx g J v L h H1 M y z=>by
 let⟨k0,B0,N,a,O,rfl,P,rfl,e1,R,i1,m1,T⟩:=oy y z J;calc⟨.inl ⟨rfl,O,bS.of R⟩,L,h,g,_,y,P,λys U l us V X H2 A m Y=>?_⟩;split at l
 .rename_i i
  let⟨u,r,e,Z,W2⟩:=Y;let W3:r=[]:=W2;let W4:u=.int i:=Z;subst W3 W4 e;let⟨k1,B,ds,b',ws,ek,⟨C,b⟩,eb,D,e4,n,E,p⟩:=oy (x:=.o k0) m (z.ext A) l;cases ek
  let s:a=b':=by injection eb
  subst s;split at b
  .rename_i j hj
   split at b
   .rename_i d hd
    let⟨w,g1,g2⟩:=pB n hd;let oi:=p (F':=V) (C8 j n);calc⟨a,ws,i,j,w,rfl,rfl,e4,C.1,C.2,by rw[↑n];calc hj,g1,?_⟩;exact k _ _ b _ _ _ _ ((M.trans A).trans (Ext.put m E D)) (m.put E D oi) g2
   .exact b.elim
  .exact b.elim
 .calc l.elim⟩
def c8(f:WE):WE:=λc K=>f c λx a=>bR x a λk B b=>match b[↑b-1]? with
 |some d=>K (.p d) ⟨a.sl,a.mu.set k (ζ (B b.dropLast))⟩
 |none=>False
def gP(f:WE):WE:=λb K=>f b λx a=>bR x a λk B _=>K (.p .non) ⟨a.sl,a.mu.set k (ζ (B []))⟩
def e8(f fo h:WE):WS:=λK l=>f l λx b=>fo b λo c=>h c λi e=>eg x e λd a=>bR o a λk B g=>match i with
 |.p (.int j)=>match i_ ↑g j with
  |some m=>K.nx ⟨a.sl,a.mu.set k (ζ (B (g.set m d)))⟩
  |none=>False
 |_=>False
theorem Dt[j3]{f fo t:WE}:∀D c H,eh (e8 f fo t) D c H->ki (tD f) (qo (tD fo) (tD t) BS) D c H:=λD c H ⟨F,C,E,K,S,q,k⟩=>⟨F,C,E,_,S,q,λx e G v I g H1 J L M=>⟨I,g,e,_,L,G,λo h N ov O l H2 u P Q=>⟨O,l,h,_,P,N,λi R T U F3 V H3 n W p=>by
 let⟨d,X,Y,Z,w,r,i4⟩:=n_ W ((M.ext u).ext n) T;let⟨k0,B,ds,a,vs,rfl,b,rfl,y,e2,z,A,s⟩:=oy r ((Q.ext n).ext w) Z;split at b
 .rename_i j
  split at b
  .rename_i m hm
   let p:U=.int j:=p;subst p;let oi:=s (F':=Y) (C7 m z i4);calc⟨a,vs,j,m,rfl,rfl,e2,by rw[↑z];calc hm,?_⟩;exact k.nx _ b _ _ _ _ ((((J.trans u).trans n).trans w).trans (Ext.put r A y)) (r.put A y oi)
  .exact b.elim
 .calc b.elim⟩⟩⟩
end
end L2
namespace L2
open PySem PySem.Spec PyProof.Rows PySem.W
abbrev LK:=-Int
def kle(a b:LK):Prop:=HT.lexLt b a=ι
theorem t_:∀a:LK,HT.lexLt a a=ι
 |[]=>Y
 |x::r=>by rw[HT.lV,VE Y];calc t_ r
theorem ua:∀{a b:LK},HT.lexLt a b=ι->HT.lexLt b a=ι->a=b
 |[],[],_,_=>Y
 |[],_::_,h,_=>by cases h
 |_::_,[],_,h=>by cases h
 |x::r,y::s,h,q=>by
  rw[HT.lV] at h q
  by_cases c:x=y
  .subst c
   rw[VE Y] at h q;rw[ua h q]
  .rw[VC c] at h
   rw[VC (λz=>c z.symm)] at q;simp at h q;symm
theorem xl:∀{a b c:LK},HT.lexLt a b=θ->HT.lexLt b c=θ->HT.lexLt a c=θ
 |[],[],_,h,_=>by cases h
 |[],_::_,[],_,q=>by cases q
 |[],_::_,_::_,_,_=>Y
 |_::_,[],_,h,_=>by cases h
 |_::_,_::_,[],_,q=>by cases q
 |x::r,y::s,z::t,h,q=>by
  rw[HT.lV] at h q ⊢
  by_cases e:x=y
  .subst e
   rw[VE Y] at h
   by_cases d:x=z
   .subst d
    rw[VE Y] at q ⊢;exact xl h q
   .rw[VC d] at q ⊢;exact q
  .rw[VC e] at h
   by_cases d:y=z
   .subst d
    rw[VC e];exact h
   .rw[VC d] at q
    let f:x<y:=by simpa using h
    let g:y<z:=by simpa using q
    rw[VC ⋯];simp;symm
theorem kle_refl(a:LK):kle a a:=t_ a
theorem oA{a b:LK}(h:HT.lexLt a b=θ):kle a b:=by
 unfold kle
 cases q:HT.lexLt b a with
 |false=>rfl
 |true=>let:=xl h q;rw[t_] at this;cases this
theorem kle_trans{a b c:LK}(g:kle a b)(d:kle b c):kle a c:=by
 unfold kle at *
 cases q:HT.lexLt c a with
 |false=>rfl
 |true =>
  cases f:HT.lexLt a b with
  |true=>let:=xl q f;rw[d] at this;cases this
  |false =>
   let e:=ua f g;subst e;rw[d] at q;cases q
theorem Du{a b:LK}(c:kle a b)(d:kle b a):a=b:=ua d c
section
variable{n:Nat}{k:Nat->LK}{I:L->Prop}{cmp:Nat->Nat->(Bool->L->Prop)->L->Prop}
def nu(n:Nat)(k:Nat->LK)(I:L->Prop)(a:Nat->Nat->(Bool->L->Prop)->L->Prop):Prop :=
 ∀(i j:Nat)(C:Bool->L->Prop)(s:L),i<n->j<n->I s->(∀b,I b->C (HT.lexLt (k i) (k j)) b)->a i j C s
noncomputable def KA(k:Nat->LK)(p:Array Nat)(i:Nat):LK:=k (p.getD i 0)
structure e_(n:Nat)(p:Array Nat):Prop where
 perm:p.Perm (Wq n).toArray
theorem e_.size{p:Array Nat}(h:e_ n p):p.size=n:=by let:=h.perm.size_eq;simpa using this
theorem e_.lt{p:Array Nat}(h:e_ n p){i:Nat}(a:i<n):p.getD i 0<n:=by
 let b:=h.size;let e:p.getD i 0=p[i]:=by simp[q2q,b,a]
 rw[e];let:p[i]∈(Wq n).toArray:=(h.perm.mem_iff).mp (Array.getElem_mem _);simpa using this
theorem rJ{p q:Array Nat}{i j:Nat}(h:p[i]?=q[j]?):p.getD i 0=q.getD j 0:=by
 rw[Xf,Xf,h]
theorem ub{p:Array Nat}{i j:Nat}(a:j<=p.size)(t:Nat):KA k (kas_rev p i j) t=if i<=t/\t<j then KA k p (i+j-1-t) else KA k p t:=by
 let e:=getElem?_mirror_all (xs:=p) (i:=i) a t;unfold KA kas_rev
 by_cases c:i<=t/\t<j
 .rw[VE c] at e ⊢;rw[rJ e]
 .rw[VC c] at e ⊢;rw[rJ e]
theorem MJ{p:Array Nat}{src d:Nat}(hs:src<p.size)(hd:d<=src)(t:Nat):
  KA k (bubble p src d) t=if t=src-d then KA k p src else if src-d<t/\t<=src then KA k p (t-1) else KA k p t:=by
 let e:=getElem?_bubble hs d hd t;unfold KA
 by_cases c:t=src-d
 .rw[VE c] at e ⊢;rw[rJ e]
 .rw[VC c] at e ⊢
  by_cases a:src-d<t/\t<=src
  .rw[VE a] at e ⊢;rw[rJ e]
  .rw[VC a] at e ⊢;rw[rJ e]
def Up(k:Nat->LK)(p:Array Nat)(m:Nat):Prop:=∀i j,i<=j->j<m->kle (KA k p i) (KA k p j)
def Dn(k:Nat->LK)(p:Array Nat)(m:Nat):Prop:=∀i j,i<=j->j<m->kle (KA k p j) (KA k p i)
theorem Up.snoc{p:Array Nat}{m:Nat}(h:Up k p m)(d:1<=m)(q:kle (KA k p (m-1)) (KA k p m)):Up k p (m+1):=λi j a f=>by
 by_cases c:j<m
 .exact h i j a c
 .let e:j=m:=by symm
  subst e
  by_cases b:i=j
  .subst b;exact kle_refl _
  .calc kle_trans (h i (j-1) ⋯ ⋯) q
theorem Dn.snoc{p:Array Nat}{m:Nat}(h:Dn k p m)(d:1<=m)(q:kle (KA k p m) (KA k p (m-1))):Dn k p (m+1):=λi j a f=>by
 by_cases c:j<m
 .exact h i j a c
 .let e:j=m:=by symm
  subst e
  by_cases b:i=j
  .subst b;exact kle_refl _
  .calc kle_trans q (h i (j-1) ⋯ ⋯)
theorem Up.one{p:Array Nat}:Up k p 1:=λi j a b=>by
 let:i=j:=by symm
 subst this;calc kle_refl _
theorem Dn.one{p:Array Nat}:Dn k p 1:=λi j a b=>by
 let:i=j:=by symm
 subst this;calc kle_refl _
theorem e_.rev{p:Array Nat}(h:e_ n p)(i j:Nat):e_ n (kas_rev p i j):=⟨(mirror_perm _ _ _ _).trans h.perm⟩
theorem e_.MK{p:Array Nat}(h:e_ n p)(i j:Nat):e_ n (bubble p i j):=⟨(bubble_perm _ _ _).trans h.perm⟩
theorem Dv(r:nu n k I cmp){p:Array Nat}(j:e_ n p):∀(f m:Nat)(s:L)(Q:Nat->L->Prop),1<=m->m+f=n->Up k p m->I s →
  (∀g s',m<=g->g<=n->Up k p g->I s'->Q g s')->(kas_asc p f m).kasWp cmp Q s
 |0,m,s,Q,u,v,i,l,e=>e m s (B6 _) ⋯ i l
 |f+1,m,s,Q,u,v,i,l,e=>by
  refine r _ _ _ s (j.lt ⋯) (j.lt ⋯) l λt h=>?_
  cases q:HT.lexLt (k (p.getD m 0)) (k (p.getD (m-1) 0)) with
  |true=>dsimp only;rw[VE Y];exact e m t (B6 _) ⋯ i h
  |false =>
   calc Dv r j f (m+1) t Q ⋯ ⋯ (i.snoc u q) h λg o a b c d=>e g o ⋯ b c d
def xm(k:Nat->LK)(p:Array Nat)(m q:Nat):Prop:=∀t,m-(q+1)<=t->t<m->KA k p t=KA k p (m-1)
theorem Dw{p:Array Nat}{m q:Nat}(hs:m<=p.size)(a:q+1<=m)(e:xm k p m q)(t:Nat):KA k (kas_rev p (m-(q+1)) m) t=KA k p t:=by
 rw[ub hs];split
 .rename_i c
  rw[e _ ⋯ ⋯,e t c.1 c.2]
 .rfl
theorem Dn.congr{p c:Array Nat}{m:Nat}(h:Dn k p m)(e:∀t,KA k c t=KA k p t):Dn k c m:=λi j a b=>by rw[e,e];calc h i j a b
theorem uc(x:nu n k I cmp):∀(f:Nat)(p:Array Nat)(m q:Nat)(s:ο)(Q:Array Nat×Nat×Nat->ο->Prop),e_ n p->1<=m->m+f=n->q+1<=m->Dn k p m->xm k p m q->I s →
  (∀r j u s',e_ n r->m<=j->j<=n->u+1<=j->Dn k r j->xm k r j u->I s'->Q (r,j,u) s')->(kas_desc f p m q).kasWp cmp Q s
 |0,p,m,q,s,Q,l,C,L,D,w,y,F,h=>h p m q s l (B6 _) ⋯ D w y F
 |f+1,p,m,q,s,Q,l,C,L,D,w,y,F,h=>by
  calc x _ _ _ s (l.lt ⋯) (l.lt ⋯) F λE v=>?_;let N:=l.size
  cases G:HT.lexLt (k (p.getD m 0)) (k (p.getD (m-1) 0)) with
  |true =>
   let H:kle (KA k p m) (KA k p (m-1)):=oA G
   by_cases A:q>0
   .rw[VE A]
    let e:=Dw (k:=k) (p:=p) (m:=m) (q:=q) ⋯ D y;calc uc x f _ (m+1) 0 E Q (l.rev _ _) ⋯ ⋯ ⋯ ((w.snoc C H).congr e) (λt a b=>?_) v λr j u o a b c d e g i=>h r j u o a ⋯ c d e g i;let:t=m+1-1:=by symm
    rw[this]
   .rw[VC A]
    calc uc x f p (m+1) 0 E Q l ⋯ ⋯ ⋯ (w.snoc C H) (λt a b=>?_) v λr j u o a b c d e g i=>h r j u o a ⋯ c d e g i;let:t=m+1-1:=by symm
    rw[this]
  |false =>
   refine x _ _ _ E (l.lt ⋯) (l.lt ⋯) v λJ B=>?_
   cases M:HT.lexLt (k (p.getD (m-1) 0)) (k (p.getD m 0)) with
   |true=>dsimp only;rw[VE Y];exact h p m q J l (B6 _) ⋯ D w y B
   |false =>
    let K:KA k p m=KA k p (m-1):=ua G M;calc uc x f p (m+1) (q+1) J Q l ⋯ ⋯ ⋯ (w.snoc C (by rw[K];calc kle_refl _)) (λt a b=>?_) B λr j u o a b c d e g i=>h r j u o a ⋯ c d e g i;show KA k p t=KA k p m
    by_cases z:t=m
    .rw[z]
    .rw[y t ⋯ ⋯,K]
theorem Dn.rev{p:Array Nat}{m:Nat}(h:Dn k p m)(hs:m<=p.size):Up k (kas_rev p 0 m) m:=λi j a b=>by
 rw[ub hs,ub hs,VE ⟨VY _,⋯⟩,VE ⟨VY _,b⟩];calc h _ _ ⋯ ⋯
theorem Dy(i:nu n k I cmp){p:Array Nat}(f:e_ n p){m:Nat}{s:L}{Q:Nat×Array Nat->L->Prop}(j:1<=m)(r:m<=n)(l:Dn k p m)(o:I s)
  (h:∀g e s',e_ n g->1<=e->e<=n->Up k g e->I s'->Q (e,g) s'):(kas_tail3 m n p).kasWp cmp Q s:=by
 unfold kas_tail3;rw[KasT.kasWp_bind];let t:=f.size;calc Dv i (f.rev 0 m) (n-m) m s _ j ⋯ (l.rev ⋯) o λe q a b c d=>?_;calc h _ e q (f.rev 0 m) ⋯ b c d
theorem Dz(l:nu n k I cmp){p:Array Nat}(q:e_ n p){m:Nat}{s:L}{Q:Nat×Array Nat->L->Prop}(w:1<=m)(x:m+1<=n)(r:Dn k p (m+1))(u:I s)
  (h:∀j f s',e_ n j->1<=f->f<=n->Up k j f->I s'->Q (f,j) s'):(kas_descPart m n p).kasWp cmp Q s:=by
 unfold kas_descPart;rw[KasT.kasWp_bind];refine uc l (n-(m+1)) p (m+1) 0 s _ q ⋯ ⋯ ⋯ r (λt a b=>?_) u λj f v y a b c d e g i=>?_
 .let:t=m+1-1:=by symm
  rw[this]
 .let z:=a.size
  dsimp only
  by_cases o:v>0
  .rw[VE o]
   exact Dy l (a.rev _ _) ⋯ c (e.congr (Dw ⋯ d g)) i h
  .rw[VC o]
   calc Dy l a ⋯ c e i h
theorem ML(y:nu n k I cmp){p:Array Nat}(o:e_ n p){s:ο}{Q:Nat×Array Nat->ο->Prop}(O:1<=n)(v:I s)
  (g:∀C h s',e_ n C->1<=h->h<=n->Up k C h->I s'->Q (h,C) s'):(kas_count n p).kasWp cmp Q s:=by
 unfold kas_count;rw[KasT.kasWp_bind];let P:=o.size
 let D:∀(f m:Nat)(s:ο)(w:Nat->ο->Prop),1<=m->m+f=n->Up k p m->I s →
   (∀h u,m<=h->h<=n->Up k p h->(h<n->HT.lexLt (KA k p h) (KA k p (h-1))=θ)->I u->w h u)->(kas_asc p f m).kasWp cmp w s:=by
  ext f
  induction f with
  |zero=>ext m s w a b r v g;exact g m s (B6 _) ⋯ r (λz=>absurd z ⋯) v
  |succ f J =>
   ext m s w a b r v g;refine y _ _ _ s (o.lt ⋯) (o.lt ⋯) v λu l=>?_
   cases q:HT.lexLt (k (p.getD m 0)) (k (p.getD (m-1) 0)) with
   |true=>dsimp only;rw[VE Y];exact g m u (B6 _) ⋯ r (λ_=>q) l
   |false =>
    exact J (m+1) u w ⋯ ⋯ (r.snoc a q) l λh E a b c d e=>g h E ⋯ b c d e
 refine D (n-1) 1 s _ (B6 _) ⋯ Up.one v λm u a b r A l=>?_
 by_cases G:m=n
 .subst G
  rw[VE (by simp)];exact g p m u o a (B6 _) r l
 .rw[VC G⁻¹]
  let F:m<n:=by symm
  let A:=A F
  by_cases H:m>1
  .rw[VE H]
   refine y _ _ _ u (o.lt ⋯) (o.lt ⋯) l λK x=>?_
   cases q:HT.lexLt (k (p.getD 0 0)) (k (p.getD (m-1) 0)) with
   |true=>dsimp only;exact g p m K o a b r x
   |false =>
    let B:∀t,t<m->KA k p t=KA k p (m-1):=λt L=>by
     refine Du (r t (m-1) ⋯ ⋯) (kle_trans q (r 0 t (VY _) L))
    let e:∀t,KA k (kas_rev p 0 m) t=KA k p t:=λt=>by
     rw[ub ⋯];split
     .rename_i c;rw[B _ ⋯,B t c.2]
     .rfl
    calc Dz y (o.rev 0 m) ⋯ ⋯ (Dn.congr (p:=p) ?_ e) x g;calc Dn.snoc (λi j M N=>?_) ⋯ (oA A);rw[B i ⋯,B j N];exact kle_refl _
  .rw[VC H]
   let:m=1:=by symm
   subst this;calc Dz y o ⋯ ⋯ (Dn.one.snoc (B6 _) (oA A)) l g
theorem xn(v:nu n k I cmp){p:Array Nat}(h:e_ n p){t:Nat}(w:t<n)(j:Up k p t):∀(f l r:Nat)(s:L)(Q:Nat->L->Prop),l<=r->r<=t->r-l<=f →
  (∀i,i<l->kle (KA k p i) (KA k p t))->(∀i,r<=i->i<t->kle (KA k p t) (KA k p i))->I s →
  (∀l' s',l'<=t->(∀i,i<l'->kle (KA k p i) (KA k p t))->(∀i,l'<=i->i<t->kle (KA k p t) (KA k p i))->I s'->Q l' s')->(kas_place p t f l r).kasWp cmp Q s
 |0,l,r,s,Q,y,m,z,o,e,u,d=>by
  let:l=r:=by symm
  subst this;exact d l s m o e u
 |f+1,l,r,s,Q,y,m,z,o,e,u,d=>by
  unfold kas_place
  by_cases c:l ≥ r
  .rw[VE c]
   let:l=r:=by symm
   subst this;exact d l s m o e u
  .rw[VC c]
   refine v _ _ _ s (h.lt w) (h.lt ⋯) u λx g=>?_
   cases q:HT.lexLt (k (p.getD t 0)) (k (p.getD ((l+r) / 2) 0)) with
   |true =>
    calc xn v h w j f l ((l+r) / 2) x Q ⋯ ⋯ ⋯ o (λi a b=>?_) g d;exact kle_trans (oA q) (j _ _ a b)
   |false =>
    calc xn v h w j f ((l+r) / 2+1) r x Q ⋯ m ⋯ (λi a=>?_) e g d;calc kle_trans (j i ((l+r) / 2) ⋯ ⋯) q
theorem DA(v:nu n k I cmp):∀(f:Nat)(p:Array Nat)(t:Nat)(s:L)(Q:Array Nat->L->Prop),e_ n p->t+f=n->Up k p t->I s →
  (∀m s',e_ n m->Up k m n->I s'->Q m s')->(kas_bin f p t).kasWp cmp Q s
 |0,p,t,s,Q,g,C,e,o,c=>by
  let:t=n:=by symm
  subst this;exact c p s g e o
 |f+1,p,t,s,Q,g,C,e,o,c=>by
  unfold kas_bin;rw[KasT.kasWp_bind];let F:=g.size;calc xn v g ⋯ e t 0 t s _ (VY _) (B6 _) ⋯ (λi a=>absurd a ⋯) (λi a b=>absurd b ⋯) o λl B G D q r=>?_;calc DA v f _ (t+1) B Q (g.MK _ _) ⋯ (λi j u H=>?_) r c;let w:=λx=>MJ (k:=k) (p:=p) (src:=t) (d:=t-l) ⋯ ⋯ x;let E:t-(t-l)=l:=by symm
  rw[w i,w j,E]
  by_cases y:i=l
  .subst y
   rw[VE Y]
   by_cases h:j=i
   .rw[VE h];exact kle_refl _
   .rw[VC h,VE ⟨⋯,⋯⟩]
    exact q (j-1) ⋯ ⋯
  .rw[VC y]
   by_cases h:j=l
   .subst h
    rw[VE Y,VC ⋯];exact D i ⋯
   .rw[VC h]
    by_cases z:l<i/\i<=t
    .rw[VE z,VE ⟨⋯,⋯⟩]
     exact e _ _ ⋯ ⋯
    .rw[VC z]
     by_cases A:l<j/\j<=t
     .rw[VE A];exact e _ _ ⋯ ⋯
     .rw[VC A];calc e _ _ u ⋯
theorem MM(g:nu n k I cmp){s:L}{Q:Array Nat->L->Prop}(i:1<=n)(j:I s)(f:∀p s',e_ n p->Up k p n->I s'->Q p s'):(kas_sort n).kasWp cmp Q s:=by
 unfold kas_sort;rw[KasT.kasWp_bind];refine ML g ⟨q3y _⟩ i j λp m h a b c d e=>?_
 by_cases q:m<n
 .rw[VE q]
  let:max m 1=m:=by symm
  rw[this];exact DA g (n-m) p m h Q a ⋯ d e f
 .rw[VC q]
  let:m=n:=by symm
  subst this;calc f p h a d e
end
end L2
namespace L2
open PySem PySem.Spec PyProof.Rows
theorem DB{δ0:aI}{gF:aI->Prop}{g:WG}{b:WS}{K:KS}(I:Nat->aI->Prop):∀(items:-D)(i:Nat)(δ:aI),I i δ →
  (∀j d δ (L:aI->Prop),items[j]?=ζ d->I (i+j) δ->(∀δ',I (i+j+1) δ'->L δ')->gF δ/\g (.p d) δ fun δ1=>b {nx:=fun δ2=>L (δ0.trim δ2),ct:=fun δ2=>L (δ0.trim δ2),bk:=K.nx,rt:=K.rt} δ1) →
  (∀δ,I (i+↑items) δ->gF δ/\K.nx δ)->kZ δ0 gF g b K items δ
 |[],i,δ,h,_,fin=>fin δ h
 |d::r,i,δ,h,st,fin=>by
  unfold kZ;calc st 0 d δ (fun δ'=>kZ δ0 gF g b K r δ') Y h fun δ' hi=>?_;refine DB I r (i+1) _ hi (λj e δ L hj hI hL=>?_) fun δ hI=>?_
  .let e:i+1+j=i+(j+1):=by symm
   rw[e] at hI hL;exact st (j+1) _ δ L hj⁻¹ hI hL
  .exact fin δ (by rw[wo];let e:i+1+↑r=i+(↑r+1):=by symm
                   rw[e] at hI;calc hI)
theorem jA{δ0:aI}{c:aI->Prop}{g:WG}{b:WS}{K:KS}{items:-D}{a:aI}(I:Nat->aI->Prop)(m:I 0 a)
  (st:∀j d a (L:aI->Prop),items[j]?=ζ d->I j a->(∀f,I (j+1) f->L f)->c a/\g (.p d) a λi=>b {nx:=λe=>L (δ0.trim e),ct:=λe=>L (δ0.trim e),bk:=K.nx,rt:=K.rt} i)
  (k:∀a,I ↑items a->c a/\K.nx a):kZ δ0 c g b K items a :=
 DB I items 0 a m (λj d a L n h l=>by rw[VJ] at h l;calc st j d a L n h l) λa h=>by rw[VJ] at h;calc k a h
def fR(δ0:aI)(h:aI->Prop)(g:WG)(t:WT)(f:WE)(d:D)(a:-D)(l:aI)(L:-D->aI->Prop):Prop :=
 h l/\g (.p d) l λi=>t i λb c=>if b=θ then f c λx j=>eg x j λe k=>↑a<1000/\L (a++[e]) (δ0.trim k) else L a (δ0.trim c)
theorem DC{δ0:aI}{gF:aI->Prop}{g:WG}{t:WT}{f:WE}{K:-D->aI->Prop}(I:Nat->-D->aI->Prop):∀(items:-D)(i:Nat)(acc:-D)(δ:aI),I i acc δ →
  (∀j d acc δ (L:-D->aI->Prop),items[j]?=ζ d->I (i+j) acc δ->(∀kF δ',I (i+j+1) kF δ'->L kF δ')->fR δ0 gF g t f d acc δ L) →
  (∀acc δ,I (i+↑items) acc δ->gF δ/\K acc δ)->j6 δ0 gF g t f K items acc δ
 |[],i,acc,δ,h,_,fin=>fin acc δ h
 |d::r,i,acc,δ,h,st,fin=>by
  unfold j6;calc st 0 d acc δ (λkF δ'=>j6 δ0 gF g t f K r kF δ') Y h λkF δ' hi=>?_;refine DC I r (i+1) kF _ hi (λj e acc δ L hj hI hL=>?_) λacc δ hI=>?_
  .let e:i+1+j=i+(j+1):=by symm
   rw[e] at hI hL;exact st (j+1) _ acc δ L hj⁻¹ hI hL
  .exact fin acc δ (by rw[wo];let e:i+1+↑r=i+(↑r+1):=by symm
                       rw[e] at hI;calc hI)
theorem ud{δ0:aI}{e:aI->Prop}{g:WG}{t:WT}{f:WE}{K:-D->aI->Prop}{items:-D}{b:aI}(I:Nat->-D->aI->Prop)(m:I 0 [] b)
  (st:∀j d a b (L:-D->aI->Prop),items[j]?=ζ d->I j a b->(∀c h,I (j+1) c h->L c h)->fR δ0 e g t f d a b L)
  (k:∀a b,I ↑items a b->e b/\K a b):j6 δ0 e g t f K items [] b :=
 DC I items 0 [] b m (λj d a b L n i l=>by rw[VJ] at i l;calc st j d a b L n i l) λa b i=>by rw[VJ] at i;calc k a b i
theorem j8{δ0:aI}{b:aI->Prop}{g:WG}{t:WT}{f:WE}{K:-D->aI->Prop}{items:-D}(p:D->Bool)(c:D->D)(u:↑items<=1000)(n:b δ0)
  (st:∀d∈items,∀a (L:-D->aI->Prop),↑a<1000->(p d=θ->L (a++[c d]) δ0)->(p d=ι->L a δ0)->fR δ0 b g t f d a δ0 L)
  (h:K ((items.filter p).map c) δ0):j6 δ0 b g t f K items [] δ0:=by
 refine ud (λi a k=>k=δ0/\a=((items.take i).filter p).map c) ⟨Y,Y⟩ ?_ ?_
 .ext j d a k L l ⟨rfl,rfl⟩ m
  let o:=(pa.mp l).1;let r:d∈items:=WU l
  let s:↑(((items.take j).filter p).map c)<1000:=by
   rw[nW];let:=W0 p (items.take j);rw[Ww] at this;symm
  let e:items.take (j+1)=items.take j++[d]:=by rw[Y4,l];rfl
  refine st d r _ L s (λq=>m _ _ ⟨Y,?_⟩) (λq=>m _ _ ⟨Y,?_⟩)
  .rw[e,YP,VR];simp[q6k,q]
  .rw[e,YP,VR];simp[q6k,q]
 .ext a k ⟨rfl,rfl⟩
  rw[Xc (B6 _)];calc⟨n,h⟩
theorem j9{δ0:aI}{b:aI->Prop}{g:WG}{t:WT}{f:WE}{K:-D->aI->Prop}{items:-D}(c:D->D)(i:↑items<=1000)(j:b δ0)
  (st:∀d∈items,∀a (L:-D->aI->Prop),↑a<1000->L (a++[c d]) δ0->fR δ0 b g t f d a δ0 L)
  (e:K (items.map c) δ0):j6 δ0 b g t f K items [] δ0 :=
 j8 (λ_=>θ) c i j (λd k a L l h _=>st d k a L l (h Y)) (by rw[q2c.mpr λ_ _=>Y];calc e)
end L2
namespace LJ
open PySem L2
theorem xo:bootBuiltins "range" = ζ (.type "range"):=by decide +kernel
theorem MN:bootBuiltins "max" = ζ (.builtin "max"):=by decide +kernel
theorem ue:bootBuiltins "min" = ζ (.builtin "min"):=by decide +kernel
theorem lD:bootBuiltins "sorted" = ζ (.builtin "sorted"):=by decide +kernel
structure BT(mg:R->Option M):Prop where
 len:mg "len" = η
 range:mg "range" = η
 list:mg "list" = η
 tuple:mg "tuple" = η
 set:mg "set" = η
 sorted:mg "sorted" = η
 min:mg "min" = η
 max:mg "max" = η
 sum:mg "sum" = η
 all:mg "all" = η
 any:mg "any" = η
 enumerate:mg "enumerate" = η
 zip:mg "zip" = η
 isinstance:mg "isinstance" = η
 int:mg "int" = η
 bool:mg "bool" = η
 str:mg "str" = η
 repr:mg "repr" = η
end LJ
namespace L2
open PySem PySem.Spec PyProof.Rows
variable[a8]
def DD(X:Cx)(f:M)(g:-D->(-D->Prop)->Prop):Prop :=
 g6 X f λe H Q=>∃F b K,a_ F H/\jM F H b e/\g b K/\∀c d a,K c->H a=η->ax F c d->Q (.ref a) (upd H a (.lst d))
def gb(b:WA)(op:-D->(-D->Prop)->Prop):WE:=λc K=>b c λd a=>cA d a λe=>op e λf=>K (.o ↑a.mu) ⟨a.sl,a.mu++[ζ (.lst f)]⟩
def gc:-D->(-D->Prop)->Prop
 |[.lst a],K=>K a
 |[.tup a],K=>K a
 |_,_=>False
section
variable{X:Cx}{fa:WA}{pos:I}
theorem DE{F H:Hp}{a:-U}{b:aI}{c:St}{p:U}(S:SR F a b c H):eN F (a++[p]) (.o ↑b.mu) (.ref p) :=
 ⟨p,by rw[<-S.di,My (B6 _),Xh];rfl,Y⟩
theorem MO{r:-V->Hp->VK->Prop}{op:-D->(-D->Prop)->Prop}(l:∀xs H Q,(∃F ds K,a_ F H/\jM F H ds xs/\op ds K/\∀d vs a,K d->H a=η->ax F d vs->Q (.ref a) (upd H a (.lst vs)))->r xs H Q):∀e H Q,tD (gb fa op) e H Q->qA r (cX fa) e H Q:=by
 ext e H Q ⟨F,m,n,K,S,q,k⟩;calc⟨F,m,n,_,S,q,λz o p A g s B t b u=>l _ _ _ ?_⟩;let⟨j,v,f⟩:=pj b u p;calc⟨g,j,_,b.sub,f,v,λd h a w i x=>?_⟩;let y:∀{c},fB g c (.lst d) (.lst h):=λ{c}=>⟨h,Y,x⟩;calc k _ _ w _ _ _ _ (t.trans (Ext.own b i)) (b.own i y) (DE b)
theorem MP{x:R}{p:I}{e:J}{es:-J}{T:String}{o:-D->(-D->Prop)->Prop}(c:DD X (.type T) o)(d:Gl X x)(f:X.mg x=η)(g:bootBuiltins x=ζ (.type T))(i:JA X (e::es) (cX fa))(hn:x≠"__name__" := by decide)(a:cy x:=by decide)
  (he:dE X e es:=by rfl) (b:dQ X pos es:=by rfl):JE X (.Call (.Name x p) (e::es) [] pos) (tD (gb fa o)) :=
 (ml c d f g i hn a he b).weak (MO λ_ _ _ h=>h)
theorem MQ:DD X (.type "list") gc:=by
 ext b s i H o j Q I r ⟨F,p,K,c,k,q,m⟩;unfold gc at q;split at q
 .let⟨v,rfl,a,d,rfl,e,f⟩:=iC k
  exact qE b s i H _ j Q I r ⟨a,d,Y,.inl (bS.of e),λl g=>m _ _ _ q g f⟩
 .rename_i n
  let⟨v,rfl,h⟩:=iC k;let h:Is F (.tup n) v:=h;erw[Is] at h;let⟨a,d,rfl,e,f⟩:=h;exact qE b s i H _ j Q I r ⟨a,d,Y,.inr (cF.of (c _ _ e)),λl g=>m _ _ _ q g f⟩
 .calc q.elim
def gQ(b:WA):WE:=λc K=>b c λd a=>match d with
 |[.p (.int j)]=>(0<=j/\j<=1000)/\K (.o ↑a.mu) ⟨a.sl,a.mu++[ζ (.lst (dm 0 j.toNat))]⟩
 |_=>False
def gq(f g:WE):WE:=λi K=>f i λx h=>g h λy c=>dG x c λd=>dG y c λe=>match d,e with
 |.lst a,.lst b=>↑a+↑b<=1000/\K (.o ↑c.mu) ⟨c.sl,c.mu++[ζ (.lst (a++b))]⟩
 |_,_=>False
theorem MR{a b:υ}{f g:WE}(u:JE X a (tD f))(v:JE X b (tD g)):JE X (.BinOp a .Add b pos) (tD (gq f g)) :=
 (qu B3 u v).weak λY H Q ⟨F,w,z,K,S,q,k⟩↦⟨F,w,z,_,S,q,λx j A Z B l H1 C D E=>⟨B,l,j,_,D,A,λy G I v2 J L H2 m c M=>by
  let⟨d,N,O⟩:=kX c (E.ext m) I;let⟨e,i,P⟩:=kX c M N;split at i
  .rename_i T R
   let⟨a,n,rfl,U,o⟩:=O;let⟨b,r,rfl,V,s⟩:=P;let W:∀{h},fB J h (.lst (T++R)) (.lst (n++r)):=λ{h}=>⟨_,rfl,pE o s⟩;exact⟨a,b,n,r,rfl,rfl,U,V,kY (by rw[↑o,↑s];calc i.1),λp t=>k _ _ i.2 _ _ _ _ ((C.trans m).trans (Ext.own c t)) (c.own t W) (DE c)⟩
  .calc i.elim⟩⟩
theorem uf[j3]{st:y}:JS X st (eh eX):=⟨λa s D b H I q=>by let⟨F,c,d,K,S,q,k⟩:=q;calc q.elim⟩
end
end L2
namespace LJS
open PySem PySem.SetTable PyProof.Rows
section
variable{prog:X}{w:l}{A:t}{S:U}{ks:-Int}
theorem ints_of:∀{l:-(Int×M)},(∀e∈l,∃k tk,e=(hashInt k,Xm k tk))->IntsAre (l.map (·.2)) (l.map keyOf)
 |[],_=>.nil
 |e::r,h=>by
  let⟨k,a,rfl⟩:=h e Uz;calc .cons k a (ints_of λe b=>h e (UA _ b))
theorem MS{E:br}{s:ο}{Q:br}(D:A.handled=η)(F:d7 s.heap S (gI w) ks)(hn:↑ks<64)
  (h:∀(h':Α)(tk:Nat)(r:U)(out:Array ν)(a:-Int)(e:Nat),(∀b g,s.heap.get? b=ζ g->h'.get? b=ζ g)->⇑s<=r->h'.get? r=ζ (seqObj "list" out e)->IntsAre out.toList a->a.Perm ks->a.Pairwise (· <= ·)->Q (.ref r) {s with heap:=h',toks:=tk}) :
  ρ (ς prog w) A (call (.builtin "sorted") [.ref S]) Q E s:=by
 let⟨o,c,d,t,y,p,H,T⟩:=F;let q:=T.num;let N:S<⇑s:=Vz y;calc Zp q3n q2X q2Y (q2Z _) ?_;unfold Builtin.«sorted»;calc nX (m:=checkCount "sorted" 1 1 _) (B7 ?_);calc nX (Io (by simp[D]) y p H T ⋯ λi u j I=>?_);let l:∀e∈(iO w S d c).toList,∃k G,e=(hashInt k,Xm k G):=λe v=>T.sT e ((vB w S d c).mem_iff.mp v);let x:IntsAre ((iO w S d c).toList.map (·.2)) ((iO w S d c).toList.map keyOf):=ints_of l;let z:((iO w S d c).toList.map keyOf).Perm ks:=((vB w S d c).map keyOf).trans T.keys;let J:↑((iO w S d c).toList.map (·.2))=↑ks:=by rw[nW,UC,sU,q]
 generalize(iO w S d c).toList.map (·.2)=n at x J ⊢;generalize(iO w S d c).toList.map keyOf=O at x z;calc nX (Z9 ?_);let f:(i.push (seqObj "list" n.toArray 0)).get? i.objs.size=ζ (seqObj "list" n.toArray 0):=UD _ Y;calc nX (WK (XJ (s:={s with heap:=i.push (seqObj "list" n.toArray 0),toks:=u}) q13 ⟨_,f,Y⟩ q1G (list_sort_tree f x ⋯ λout a K L M=>⟨_,Y,?_⟩) (q14 _)));let⟨e,v⟩:=sortedHeap_at (out:=out) f;calc B7 ⟨_,Y,h _ _ _ out a e (λb g B=>?_) I v K (L.trans z) M⟩;let C:b<i.objs.size:=Vz (j b g B);show(sortedHeap (i.push (seqObj "list" n.toArray 0)) i.objs.size n out).get? b=ζ g
 rw[sortedHeap_old (VF C) (by rw[size_push'];calc WR C)];calc B5 _ (j b g B)
end
end LJS
namespace L2
open PySem PySem.Spec PyProof.Rows
noncomputable def mC(led:Bool)(S:U)(ks:-Int):HO:=.ext λh=>LJS.d7 h S led ks
theorem DF{P:X}{w:l}{H:Hp}{h:Q}{S:U}{led:Bool}{ks:-Int}(e:LJS.d7 h S led ks):bp P w H h S (mC led S ks) :=
 ⟨e,let⟨o,_,_,_,a,_⟩:=e;⟨o,a⟩,λd f b k=>LJS.p9 b λo c=>k o c⟩
noncomputable def fc(ns:-Int):-Int:=LJS.hX ns ↑ns
section
variable{X:Cx}
theorem MT(B:X.calm=θ):g6 X (.type "set") (λxs H Q=>∃(l:U)(ns:-Int),xs=[.ref l]/\bS X.K H l (ns.map V.int)/\↑ns<=40/\∀p,H p=η->Q (.ref p) (upd H p (mC (LJS.gI X.w) p (fc ns)))):=by
 ext g s P H O R Q I r h;let⟨l,c,rfl,C,D,q⟩:=h;let⟨u,rfl,E⟩:=vals1 r;cases E
 let⟨a,k,F,_⟩:=I.list C;let G:=k.length;rw[nW] at G;refine LJS.Ib c (I.ok.hd B) F.isList (λi v d=>?_) (by rw[KG];symm) λJ L m M=>?_
 .rw[YD] at d
  let y:=(pa.mp d).1;let⟨x,z,A⟩:=pD k (j:=i) (by rw[KG];calc y);rw[show a.toArray[i]'(by rw[KG];calc y)=v by simpa using(pa.mp d).2] at A;rw[B8] at z;let⟨n,N,rfl⟩:=KJ.mp z;let⟨t,rfl⟩:=A;rw[KH,N];exact⟨t,Y⟩
 .let f:LJS.d7 J ⇑s (LJS.gI X.w) (fc c):=by
   let e:a.toArray.size=↑c:=by rw[KG];symm
   rw[e] at m;exact m
  calc⟨.ref ⇑s,upd H ⇑s (mC (LJS.gI X.w) ⇑s (fc c)),I.laid (t':=L) (λb o e=>M b o (Vz e) e) (B6 _) (DF f),Y,q _ (I.bf.fresh (B6 _))⟩
theorem DG(g:X.calm=θ):g6 X (.builtin "sorted") (λxs H Q=>∃(p:U)(ks:-Int),xs=[.ref p]/\H p=ζ (mC (LJS.gI X.w) p ks)/\↑ks<64/\∀(r:U)(a:-Int),a.Perm ks->a.Pairwise (· <= ·)->H r=η->Q (.ref r) (upd H r (.lst (a.map V.int)))):=by
 ext c s A H y B Q I r h;let⟨p,z,rfl,i,j,q⟩:=h;let⟨u,rfl,k⟩:=vals1 r;cases k
 let⟨l,_⟩:=I.bf p _ i;calc LJS.MS (I.ok.hd g) l j λC m r b a e n d t v f x=>?_;calc⟨.ref r,_,I.laid (t':=m) (o:=.lst (a.map V.int)) n d ?_,Y,q _ a f x (I.bf.fresh d)⟩;calc⟨Xd (kW (by rw[nW,f.length_eq];symm)),b.toList,e,tM v,?_⟩;simpa[seqObj] using t
end
end L2
namespace LJS
open PySem PySem.SetTable PyProof.Rows
section
variable{t:SetTable}{f:Nat->Int}{h:Int}
end
section
variable{hk:Nat->Int}{ad:Nat->U}{t:SetTable}{es:Array (Int×M)}{js:-Nat}
end
section
variable{prog:X}{w:l}{A:t}{E:br}{s:L}{ad:Nat->U}{ks:Nat->-Int}{js:-Nat}{S:U}
end
section
variable{prog:X}{w:l}{A:t}{R:Result->L->Prop}{I S:U}{fp wr:-U}{G:Array GenState->Array GenState->Prop}{n:Nat}{P:Nat->M->Prop}{St:Nat->L->Prop}
end
section
variable{prog:X}{w:l}{A:t}{E:br}{s:L}
end
end LJS
namespace L2
open PySem PySem.Spec PyProof.Rows
variable[a8]
def gf:-D->(D->Prop)->Prop
 |[.lst b],K=>match intsOf b with
  |some a=>↑a<=40/\K (.lst ((sortI (fc a)).map D.int))
  |none=>False
 |_,_=>False
def gR:-D->(-D->Prop)->Prop
 |[.lst b],K=>match intsOf b with
  |some a=>↑a<=40/\K ((sortI (fc a)).map D.int)
  |none=>False
 |_,_=>False
def gT:-D->(D->Prop)->Prop
 |[.lst b],K=>match intsOf b with
  |some c=>↑c<=40/\K (.int ↑(fc c))
  |none=>match DH b with
   |some a=>(↑a<=30/\∀p∈a,0<=p.1/\p.1<p.2/\p.2<12)/\K (.int ↑(DI a ↑a))
   |none=>False
 |_,_=>False
theorem MU(ns:-Int):↑(fc ns)<=↑ns:=LJS.vw ns ↑ns
section
variable{X:Cx}{fa:WA}
theorem MV{a:υ}{A f B g:Ε}(t:X.calm=θ)(h:Gl X "sorted")(C:X.mg "sorted" = η)(i:bootBuiltins "sorted" = ζ (.builtin "sorted"))(j:Gl X "set")(c:X.mg "set" = η)(l:bootBuiltins "set" = ζ (.type "set"))(D:JA X [a] (cX fa))
  (he:starEach [a] X.env=[(ι,eval a X.env)]:=by rfl) (m:starEach [.Call (.Name "set" f) [a] [] g] X.env=[(ι,eval (.Call (.Name "set" f) [a] [] g) X.env)]:=by rfl):JE X (.Call (.Name "sorted" A) [.Call (.Name "set" f) [a] [] g] [] B) (tD (dN fa gf)) :=
 (o9 (DG t) h C i (jK (ml (MT t) j c l D (he:=he)) bY) (he:=m)).weak λW H Q ⟨F,E,G,K,S,q,k⟩=>⟨F,E,G,_,S,q,λY I J L Z M u N n O=>by
  let⟨ds,b,o⟩:=pj n O J;unfold gf at b;split at b
  .split at b
   .rename_i es d e
    let⟨v,rfl,a,L,rfl,x,y⟩:=iC o;rw[nr e] at y;rw[lB y] at x;calc⟨a,d,rfl,bS.of x,b.1,λp P=>⟨p,fc d,rfl,cw,by let:=MU d;symm,λr R T U c=>?_⟩⟩;let z:a_ u (upd u p (mC (LJS.gI X.w) p (fc d))):=c_ P;let s:=n.al z;let V:=Ext.al n z;calc k _ _ b.2 _ _ _ _ ((N.trans V).trans (Ext.al s (c_ c))) (s.al (c_ c)) ?_;rw[<-oq T U];exact kD s.sub c mB
   .exact b.elim
  .calc b.elim⟩
theorem DJ{F:Hp}:∀{c:-(Int×Int)}{vs:-V},ax F (c.map λp=>D.tup [.int p.1,.int p.2]) vs->∃as:-U,vs=as.map V.ref/\↑as=↑c/\∀(i:Nat)(a:U)(k:Int×Int),as[i]?=ζ a->c[i]?=ζ k->F a=ζ (.tup [.int k.1,.int k.2])
 |[],d,h=>by
  let h:d=[]:=by simpa only [V9,ax] using h
  subst h;exact⟨[],Y,Y,λi a k e=>by simp at e⟩
 |p::r,d,h=>by
  rw[UB] at h;erw[ax] at h;let⟨v,t,rfl,f,o⟩:=h;let⟨n,rfl,q,g⟩:=DJ o;erw[Is] at f;let⟨a,u,rfl,s,j⟩:=f;erw[ax,Is] at j;let⟨_,_,rfl,rfl,_,_,rfl,rfl,rfl⟩:=j;refine⟨a::n,Y,by rw[wo,wo,q],λi b k l m=>?_⟩
  cases i with
  |zero =>
   cases(show ζ a=ζ b by simpa using l)
   cases(show ζ p=ζ k by simpa using m)
   exact s
  |succ i=>calc g i b k l⁻¹ m⁻¹
end
end L2
namespace HT
open PySem PySem.Spec PyProof.Rows
section
variable{prog:X}{w:l}{A:t}{E:br}{s:L}
theorem MW{t b:U}{ws:-M}{Q:br}(o:IsTup s.heap t #[])(p:IsTup s.heap b ws.toArray)(h:Q (.ref b) s):G (B prog w) A (binaryOp .Add (.ref t) (.ref b)) Q E s:=by
 let⟨⟨q,r,i,u⟩,j,k,n,l⟩:=id o;let⟨⟨m,e,f,g⟩,a,c,v,d⟩:=id p;simp only at k l c d;subst k l c d
 exact q2N ⟨_,j,Y⟩ ⟨_,a,Y⟩ q1j q2k ZT ZG (Zt _ _)
  (tuple_addW0 t b #[] ws.toArray n v r e u g Y) ⟨j,a,h⟩
theorem MX{t sl:U}{items:Array M}{g i:M}{b c:Option Int}{Q:br}(a:IsTup s.heap t items)(hs:s.heap.IsSliceOf sl g i .none)(pl:IsPart g b)(k:IsPart i c)
  (j:bM items.size 0 b=0/\bM items.size items.size c=items.size) (h:Q (.ref t) s):G (B prog w) A (getItem (.ref t) (.ref sl)) Q E s:=by
 let⟨l,d,e,m⟩:=id hs;let f:s.TypeIs (.ref sl) "slice" := ⟨l,d,e⟩;unfold getItem
 try with_reducible refine WK ?_
 first|refine nX (B7 ?_)|skip
 refine nX (q2O a.typeIs (by decide) ?_)
 refine nX (Yk (name:=Xz "__getitem__") a.typeIs Xy
  (XJ Xy a.typeIs q2a ?_ (q2v _ _)))
 show G _ _ (q0E (.ref t) >>= _) _ _ s;calc nX (tupleItemsOf_ a ?_);calc nX (q0o f ?_);rw[VE (by decide)];calc nX (BN hs pl k ?_);show G _ _ (if(((bM items.size 0 b:Nat):Int)==0&&(1:Int)==1&&(bM items.size items.size c-bM items.size 0 b)==items.size)=θ then _ else _) _ _ s;rw[VE (by rw[j.1,j.2];simp)];unfold Builtin.Tuple.tupleIsExact;calc nX (nX (q0o a.typeIs (B7 ?_)));rw[VE (by decide)];calc nX (q1p ?_);calc B7 ⟨_,Y,B7 h⟩
end
end HT
namespace L2
open PySem PySem.Spec PyProof.Rows
variable[a8]
section
variable{X:Cx}{e:J}{te:TE}{pos p2 p3 p4:I}
def MY(K:KD):V->Option Int->Option Int->Hp->VK->Prop:=λx c d H Q=>∃a b,x=.ref a/\cF K H a b ∧
 (HT.bM ↑b 0 c=0/\HT.bM ↑b ↑b d=↑b->Q (.ref a) H)/\(¬ (HT.bM ↑b 0 c=0/\HT.bM ↑b ↑b d=↑b)->∀p,H p=η->Q (.ref p) (upd H p (.tup (eF b c d))))
theorem MZ:m_ X (MY X.K):=by
 ext c s p H x v q t g i u Q I j k l m h;let⟨a,b,rfl,n,w,y⟩:=h
 by_cases e:HT.bM ↑b 0 g=0/\HT.bM ↑b ↑b i=↑b
 .cases j
  let⟨f,r,o,z⟩:=I.tuple n;let d:f.toArray.size=↑b:=by rw[KG];exact r.length.symm
  calc⟨"tuple",_,Xy.lookup,o.typeIs,?_⟩;exact HT.MX o k l m (by rw[d];calc e) ⟨.ref a,H,I,Y,w e⟩
 .calc Kn c s p H _ v q t g i u Q I j k l m ⟨a,b,Y,n,e,y e⟩
theorem M0:fA X (binaryOp .Add) (λx y H Q=>∃a b ys,x=.ref a/\y=.ref b/\cF X.K H a []/\cF X.K H b ys/\Q (.ref b) H):=by
 ext d s o H x y v u Q I f g h;let⟨a,b,n,rfl,rfl,i,j,q⟩:=h;cases f
 cases g
 let⟨c,k,l,_⟩:=I.tuple i;let⟨e,p,m,_⟩:=I.tuple j;let:c=[]:=k.gY.mpr Y;subst this;calc HT.MW l m ⟨.ref b,H,I,Y,q⟩
theorem M3:fA X (compareOp .Is) (λx y H Q=>∃a b,x=.bl a/\y=.bl b/\Q (.bl (a==b)) H):=by
 ext c s f H x y v u Q I d e h;let⟨a,b,rfl,rfl,q⟩:=h;cases d
 cases e
 calc B7 ⟨.bl (a==b),H,I,by cases a<;>cases b<;>rfl,q⟩
theorem M4:fA X (compareOp .IsNot) (λx y H Q=>∃a b,x=.bl a/\y=.bl b/\Q (.bl (!(a==b))) H):=by
 ext c s f H x y v u Q I d e h;let⟨a,b,rfl,rfl,q⟩:=h;cases d
 cases e
 calc B7 ⟨.bl (!(a==b)),H,I,by cases a<;>cases b<;>rfl,q⟩
def bX:D->D->(D->Prop)->Prop
 |.int i,.int j,K=>K (.int (i+j))
 |.lst a,.lst b,K=>↑a+↑b<=1000/\K (.lst (a++b))
 |.tup a,.tup b,K=>↑a+↑b<=1000/\K (.tup (a++b))
 |.str a,.str b,K=>↑a+↑b<=1000/\K (.str (a++b))
 |_,_,_=>False
theorem k4:gC X (binaryOp .Add) bX:=by
 ext f s i H x y v u Q I j k ⟨F,d,e,K,g,l,m,q,n⟩;unfold bX at q;split at q
 .exact t6 f s i H x y v u Q I j k ⟨F,_,_,K,g,l,m,q,n⟩
 .exact t6 f s i H x y v u Q I j k ⟨F,_,_,K,g,l,m,q,n⟩
 .rename_i t r
  by_cases c:t=[]
  .subst c
   let o:Is F (.tup []) x:=l;let h:Is F (.tup r) y:=m;let p:=h;erw[Is] at o h;let⟨a,w,rfl,z,A⟩:=o;let⟨b,B,rfl,C,D⟩:=h;let:w=[]:=by simpa only [ax] using A
   subst this;exact M0 f s i H _ _ v u Q I j k ⟨a,b,B,Y,Y,cF.of (g _ _ z),cF.of (g _ _ C),n _ _ _ q.2 (λ_ _ e=>e) (rD g p)⟩
  .exact t6 f s i H x y v u Q I j k ⟨F,_,_,K,g,l,m,⟨⟨c,q.1⟩,q.2⟩,n⟩
 .exact t6 f s i H x y v u Q I j k ⟨F,_,_,K,g,l,m,q,n⟩
 .calc q.elim
def cR:D->Option Int->Option Int->(D->Prop)->Prop
 |.lst a,b,c,K=>K (.lst (cutD a b c))
 |.tup a,b,c,K=>K (.tup (cutD a b c))
 |_,_,_,_=>False
def b8(f:WE)(l h:WO):WE:=λe K=>f e λx b=>l b λg c=>h c λi a=>dG x a λd=>cR d g i λz=>K (.p z) a
theorem M5{ds:-D}{a b:Option Int}(h:HT.bM ↑ds 0 a=0/\HT.bM ↑ds ↑ds b=↑ds):cutD ds a b=ds:=by
 unfold cutD;rw[h.1,h.2,q1U,q4H,Xc (B6 _)]
theorem xp{e:υ}{f:WE}{n o:Option υ}{l h:WO}{pos G:Ε}(he:JE X e (tD f))(I:PO X n (t7 l))(J:PO X o (t7 h)):JE X (.Subscript e (.Slice n o η G) pos) (tD (b8 f l h)) :=
 (v7 (iy.or MZ) he I J).weak fun σ H Q ⟨F,L,M,K,S,q,k⟩=>⟨F,L,M,_,S,q,λx r N v O s H1 P R T=>⟨O,s,r,_,R,N,λn t U V u H2 A W=>⟨V,u,t,_,W,U,λo Y Z F3 CU H3 B b=>by
  let⟨d,c,C⟩:=kX b ((T.ext A).ext B) Z;let g:=(P.trans A).trans B;unfold cR at c;split at c
  .rename_i D
   let⟨a,w,rfl,y,m⟩:=C;calc .inl ⟨a,w,rfl,bS.of y,λp i=>?_⟩;exact k _ _ c _ _ _ _ (g.trans (Ext.al b (c_ i))) (b.al (c_ i)) (kD b.sub i (Dh m _ _))
  .rename_i D
   let j:Is F3 (.tup D) v:=C;let z:=j;erw[Is] at j;let⟨a,w,rfl,y,m⟩:=j;refine .inr ⟨a,w,rfl,cF.of (b.sub _ _ y),λE=>?_,λ_ p i=>?_⟩
   .rw[↑m] at E
    rw[M5 E] at c;exact k _ _ c _ _ _ _ g b z
   .exact k _ _ c _ _ _ _ (g.trans (Ext.al b (c_ i))) (b.al (c_ i)) (w_ b.sub i (Dh m _ _))
  .calc c.elim⟩⟩⟩
def gU:D->(D->Prop)->Prop
 |.lst a,K=>K (.lst a.reverse)
 |.tup a,K=>K (.tup a.reverse)
 |_,_=>False
def cu:D->D->(D->Prop)->Prop
 |.bl a,.bl b,K=>K (.bl (a==b))
 |d,e,K=>b3 d e K
def fT:D->D->(D->Prop)->Prop
 |.bl a,.bl b,K=>K (.bl (!(a==b)))
 |d,e,K=>fO d e K
theorem xq:gC X (compareOp .Is) cu:=by
 ext c s g H x y v u Q I h i ⟨F,d,e,K,f,j,k,q,l⟩;unfold cu at q;split at q
 .rename_i a b
  exact M3 c s g H x y v u Q I h i ⟨a,b,j,k,l _ _ _ q (λ_ _ e=>e) Y⟩
 .calc Mw c s g H x y v u Q I h i ⟨F,_,_,K,f,j,k,q,l⟩
theorem DK:gC X (compareOp .IsNot) fT:=by
 ext c s g H x y v u Q I h i ⟨F,d,e,K,f,j,k,q,l⟩;unfold fT at q;split at q
 .rename_i a b
  exact M4 c s g H x y v u Q I h i ⟨a,b,j,k,l _ _ _ q (λ_ _ e=>e) Y⟩
 .calc Mx c s g H x y v u Q I h i ⟨F,_,_,K,f,j,k,q,l⟩
end
end L2
namespace L2
open PySem PySem.Spec PyProof.Rows
variable[a8]{X:Cx}
def ug(_ j:Int):Prop:=j≠0/\j.natAbs<10 ^ 40
theorem M6:gC X (binaryOp .FloorDiv) (cW ug λi j=>.int (i.fdiv j)):=xa (tm λi j _ _ _ _ _ a q=>floordiv_int a.1 q (.inl (PyProof.noPylong_of_log2 ((Nat.log2_lt (Int.natAbs_ne_zero.mpr a.1)).mpr (VS a.2 (Wr (by decide:10 ^ 40<=2 ^ 200) (Nat.pow_le_pow_right (by decide) (by decide)))))))) λ_ _ _=>Y
end L2
open L2
open Lean in
local macro_rules
 |`(tactic|simp![$ls,*] $[$loc:location]?)=>do
  let t:=("VX dep:2 bD:2 VY WV WW WX Wg az aJ dN gb aq ae d1 d2 dC aa cA:2 dG:3 eg:3 cq:2 aI.fix gD:2 bg bG eI dT fq:1 bT eP bQ fD eO cZ gj cP c3 c4 dr aY gM bh bj dt:1 cj:1 dz b6 bH cx eY bI bo fE:3 eA gk bW c5 fN:2 bN aA fM passes:4 d8:2 b_:1 cH:4 cV:1 ba:3 cQ:4 bX:4 cR:2 b8 gU:2 cu:1 fT:1 eX cI:1 gT:1 gf:1 gR:1 bO:2 oI:1 cW:1 oEq fF oLt:2 b3 fO dn:2 bB:3 e7:2 gc:2 fP:2 fQ:1 f9:1 c7:1 c6:1 cf ft gQ gq gN gG:2 b7 eZ e8 bR:1 bU cJ f_ c8 gP gm eu fR aI.trim du:2 fL:3 Wh Wi UB V9 V_ Wd VN VU VO VM Wa VA VB wo VP VT Wm WL WY Wf Wu WC WH WM Wv VQ V6 Xk W8 XC XI XQ reduceCtorEq We VJ Ws WZ Wj WN nW qG".splitOn " ").map (·.splitOn ":")
  let m:List String->MacroM (Syntax.TSepArray [`Lean.Parser.Tactic.simpStar,`Lean.Parser.Tactic.simpErase,`Lean.Parser.Tactic.simpLemma] ","):=λl=>do
   let a←l.toArray.mapM λs=>`(Parser.Tactic.simpLemma|$(mkIdent s.toName):ident)
   pure ⟨(Syntax.SepArray.ofElems (sep:=",") ((a.push (←`(Parser.Tactic.simpLemma|↓reduceIte))).map (·.raw)++ls.getElems.map (·.raw))).elemsAndSeps⟩
  let a←m (t.map (·.head!))
  let d←m (t.flatMap fun|[x,n]=>(List.range n.toNat!).map λk=>s!"{x}.eq_{k+1}"|x=>x)
  if loc.isSome then `(tactic|simp only[$a,*] $[$loc]?) else `(tactic|first|((set_option backward.dsimp.useDefEqAttr false in dsimp only[$(⟨d.elemsAndSeps⟩),*]);try simp only[$a,*])|simp only[$a,*])
local macro_rules | `(tactic| simp! $[$l:location]?) => `(tactic| simp! [] $[$l]?)
set_option maxHeartbeats 8000000
namespace LJ
open PySem L2
variable[a8]
theorem DL{ns:-Int}{k:Int}(b:0<=k)(c:k<(↑ns:Int)):∃n,eW (ns.map D.int) k=ζ (.int n):=by
 let⟨i,rfl⟩:∃i:Nat,k=i:=⟨k.toNat,⋯⟩;let a:i<↑ns:=by symm
 calc⟨ns[i],iP ?_⟩;rw[B8,tE a];rfl
theorem dw{a:Type}{x:a}{r:-a}:eW (x::r) 0=ζ x:=iP (j:=0) Y
theorem eB{a:Type}{x y:a}{r:-a}:eW (x::y::r) 1=ζ y:=iP (j:=1) Y
theorem at2{a:Type}{x y z:a}{r:-a}:eW (x::y::z::r) 2=ζ z:=iP (j:=2) Y
theorem rK{a b A B:Int}(c:0<=a)(d:a<=A)(e:0<=b)(f:b<=B):0<=a*b/\a*b<=A*B :=
 ⟨Int.mul_nonneg c e,Int.mul_le_mul d f e (Int.le_trans c d)⟩
noncomputable def jh:-Int:=[2147483629,2147483587,2147483579,2147483563,2147483549,2147483543,2147483497,2147483489,2147483477,2147483423,2147483399,2147483353,2147483323]
theorem xt(n:Int):∃q:Int,eW (jh.map D.int) (n%13)=ζ (.int q)/\0<q/\q<2147483648:=by
 let c:0<=n%13:=Yb _ (by decide);let d:n%13<13:=XE _ (by decide);generalize n%13=j at c d;let⟨i,rfl⟩:∃i:Nat,j=i:=⟨j.toNat,⋯⟩;let b:i<13:=by symm
 let e:(jh.map D.int)[i]?=ζ (.int (jh[i]'(by show i<13;calc b))):=by
  rw[B8,tE (by show i<13;calc b)];rfl
 calc⟨_,iP e,?_⟩;let a:∀q∈jh,0<q/\q<2147483648:=by decide
 calc a _ (Yi _)
theorem M7:i_ 3 1=ζ 1:=rfl
theorem DM:i_ 3 2=ζ 2:=rfl
abbrev Sem(n m:Nat)(g:GD)(b:WS):Prop:=∀c a d,↑c=n->g c a d->b (eu ↑a d) ⟨c.map ζ++VG m η,a.map ζ⟩
theorem bc{A B:WS}{K:KS}{a:aI}(h:∀N:aI->Prop,N=B K->A {K with nx:=N} a):az A B K a:=h _ Y
theorem iD{t:WT}{G c:WS}{K:KS}{d:aI}(h:∀A B:aI->Prop,A=G K->B=c K->t d λb a=>if b=θ then A a else B a):bh t G c K d:=h _ _ Y Y
theorem j_{w:WI}{g:WG}{b:WS}{K:KS}{c:aI}(h:∀g' d e,g'=g->d=b->e=K->w c λf a=>kZ a f.gF g' d e f.items a):bH w g b K c:=h _ _ _ Y Y Y
theorem pG{f:WE}{g:WA}{c:aI}{K:-DV->aI->Prop}(h:∀d,d=(λx a=>g a λxs b=>K (x::xs) b)->f c d):aq f g c K:=h _ Y
inductive xu (ys:-DV) (bF:-OV) (K:RV->-OV->Prop):Prop
 |mk (cell at_:Int) (_:ys=[.p (.int cell),.p (.int at_)]) (_:bF=[]) (_:0<=at_) (_:at_<2 ^ 30) (_:∀z:Int,K (.p (.int z)) [])
def xv:WS:=(az (bh (dT (d2 (aa 0) (d2 (dC (.int 10)) (dC (.int 18)) (cW ir λi j=>.int (i ^ j.toNat))) (oI λi j=>.bl (S (j<=i))))) (aY (aa 0)) cP) (az (aJ 2 (bG (aq (dC (.int 2147483629)) (aq (dC (.int 2147483587)) (aq (dC (.int 2147483579)) (aq (dC (.int 2147483563)) (aq (dC (.int 2147483549)) (aq (dC (.int 2147483543)) (aq (dC (.int 2147483497)) (aq (dC (.int 2147483489)) ae)))))))))) (az (aJ 2 (d2 (aa 2) (bG (aq (dC (.int 2147483477)) (aq (dC (.int 2147483423)) (aq (dC (.int 2147483399)) (aq (dC (.int 2147483353)) (aq (dC (.int 2147483323)) ae)))))) bX)) (az (aJ 3 (d2 (d2 (d2 (d2 (d2 (d2 (aa 0) (dC (.int 1000000007)) (cW (λ_ j=>0<j) λi j=>.int (i%j))) (d2 (d2 (dC (.int 2)) (aa 1) bO) (dC (.int 69069)) bX) bO) (d2 (aa 1) (dC (.int 40503)) bO) bX) (dC (.int 977)) bX) (dC (.int 3)) (cW ir λi j=>.int (i ^ j.toNat))) (d2 (aa 2) (d2 (aa 1) (dC (.int 13)) (cW (λ_ j=>0<j) λi j=>.int (i%j))) ba) (cW (λ_ j=>0<j) λi j=>.int (i%j)))) (az (aJ 4 (d2 (d2 (d2 (d2 (d2 (aa 3) (d2 (aa 1) (dC (.int 3)) bX) bO) (d2 (aa 0) (dC (.int 65537)) (cW (λ_ j=>0<j) λi j=>.int (i%j))) bX) (dC (.int 5)) bX) (dC (.int 5)) (cW ir λi j=>.int (i ^ j.toNat))) (d2 (aa 2) (d2 (d2 (aa 1) (dC (.int 5)) bX) (dC (.int 13)) (cW (λ_ j=>0<j) λi j=>.int (i%j))) ba) (cW (λ_ j=>0<j) λi j=>.int (i%j)))) (az (aJ 5 (d2 (d2 (d2 (d2 (aa 4) (d2 (aa 3) (dC (.int 1009)) (cW (λ_ j=>0<j) λi j=>.int (i%j))) bX) (aa 1) bX) (dC (.int 3)) (cW ir λi j=>.int (i ^ j.toNat))) (d2 (aa 2) (d2 (d2 (aa 1) (dC (.int 7)) bX) (dC (.int 13)) (cW (λ_ j=>0<j) λi j=>.int (i%j))) ba) (cW (λ_ j=>0<j) λi j=>.int (i%j)))) (aY (d2 (d2 (d2 (d2 (aa 3) (dC (.int 2147483647)) bO) (aa 4) bX) (dC (.int 2147483647)) bO) (aa 5) bX))))))))
theorem M8:Sem 2 4 xu xv:=by
 ext A o q-⟨a,k,rfl,rfl,B,C,f⟩;unfold xv;let d:∀(z:Int)(g:-(Option DV)),jg 0 q (.p (.int z)) ⟨g,[]⟩:=λz g=>⟨[],Y,Y,f z⟩;simp! at ⊢;calc⟨⟨by decide,by decide,by decide⟩,?_⟩;split
 .exact d _ _
 let⟨b,h,i,D⟩:=xt k;let⟨e,j,l,E⟩:=xt (k+5);let⟨F,n,r,G⟩:=xt (k+7);erw[jh,UB,V9] at h j n;erw[h,j,n];let s:0<=a%1000000007:=Yb _ (by decide);let t:a%1000000007<1000000007:=XE _ (by decide);let u:=rK s (Int.le_of_lt t) (show(0:Int)<=2*k+69069 by symm) (show 2*k+69069<=2147552717 by symm);refine⟨by decide,.inl ⟨by decide,by decide⟩,.inl ⟨⋯,⋯⟩,.inr ⟨by decide,by decide⟩,⟨by decide,by decide,?cp1⟩,by decide,i,?_⟩
 case cp1 =>
  generalize a%1000000007*(2*k+69069)=m at u ⊢;symm
 generalize(a%1000000007*(2*k+69069)+k*40503+977) ^ (3:Int).toNat=c;let v:0<=c%b:=Yb _ ⋯;let H:c%b<b:=XE _ i;let I:0<=a%65537:=Yb _ (by decide);let d1:a%65537<65537:=XE _ (by decide);let w:=rK v (show c%b<=2147483648 by symm) (show(0:Int)<=k+3 by symm) (show k+3<=1073741827 by symm);refine⟨.inl ⟨⋯,⋯⟩,by decide,⟨by decide,by decide,?cp2⟩,by decide,l,?_⟩
 case cp2 =>
  generalize c%b*(k+3)=m at w ⊢;symm
 let x:0<=(c%b*(k+3)+a%65537+5) ^ (5:Int).toNat%e:=Yb _ ⋯;let y:(c%b*(k+3)+a%65537+5) ^ (5:Int).toNat%e<e:=XE _ l;let J:0<=c%b%1009:=Yb _ (by decide);let K:c%b%1009<1009:=XE _ (by decide);generalize(c%b*(k+3)+a%65537+5) ^ (5:Int).toNat%e=m at x y ⊢;calc⟨by decide,⟨by decide,by decide,⋯⟩,by decide,r,.inr ⟨by decide,by decide⟩,.inr ⟨by decide,by decide⟩,d _ _⟩
noncomputable def jO(ns:-Int)(k z:Int):OV:=.lst [.lst (ns.map D.int),.int k,.int z]
structure bu(n:Int)(o:OV):Prop where
 out:∃ns k z,o=jO ns k z/\↑ns<=63/\0<=k/\k<=n
theorem bu.mono{n m:Int}{o:OV}(h:bu n o)(l:n<=m):bu m o:=by
 let⟨a,k,z,e,b,c,d⟩:=h.out;calc⟨a,k,z,e,b,c,⋯⟩
inductive xw (ys:-DV) (bF:-OV) (K:RV->-OV->Prop):Prop
 |mk (n) (o) (_:ys=[.o 0]) (_:bF=[o]) (_:bu n o) (_:∀o',bu n o'->K (.a 0) [o'])
def xx:WS:=(az (e8 (dC (.int 0)) (aa 0) (dC (.int 2))) (aY (aa 0)))
theorem M9:Sem 1 0 xw xx:=by
 ext g c h-⟨n,o,rfl,rfl,P,a⟩;let⟨b,k,z,rfl,d,e,f⟩:=P.out;unfold xx jO;simp!;calc⟨[jO b k 0],Y,Y,a _ ⟨b,k,0,Y,d,e,f⟩⟩
inductive h8 (ys:-DV) (bF:-OV) (K:RV->-OV->Prop):Prop
 |mk (n m:Int) (o:OV) (_:ys=[.o 0,.p (.int m)]) (_:bF=[o]) (_:bu n o) (_:n<2 ^ 30) (_:0<m) (_:m<10 ^ 40) (_:∀r o',0<=r->r<m->bu (n+1) o'->K (.p (.int r)) [o'])
def xy:WS:=(az (bh (dT (d2 (d2 (aa 0) (dC (.int 2)) ba) (aa 1) oLt)) (az (aJ 2 (d2 (aa 0) (dC (.int 1)) ba)) (az (aJ 3 (dC (.int 0))) (az (bh (dT (d2 (aa 2) (dN (aq (d2 (aa 0) (dC (.int 0)) ba) ae) bB) oLt)) (aJ 3 (d2 (d2 (aa 0) (dC (.int 0)) ba) (aa 2) ba)) (bh (dT (d2 (dN (aq (d2 (aa 0) (dC (.int 0)) ba) ae) bB) (dC (.int 0)) (oI λi j=>.bl (S (j<i))))) (aJ 3 (d2 (d2 (d2 (aa 0) (dC (.int 0)) ba) (d2 (d2 (d2 (aa 2) (dC (.int 5)) bO) (dC (.int 3)) bX) (dN (aq (d2 (aa 0) (dC (.int 0)) ba) ae) bB) (cW (λ_ j=>0<j) λi j=>.int (i%j))) ba) (d2 (d2 (dC (.int 10)) (dC (.int 17)) (cW ir λi j=>.int (i ^ j.toNat))) (aa 2) bX) (cW (λ_ j=>0<j) λi j=>.int (i%j)))) cP)) (az (e8 (d2 (aa 2) (dC (.int 1)) bX) (aa 0) (dC (.int 1))) (e8 (aA 2 xu (aq (aa 3) (aq (aa 2) ae))) (aa 0) (dC (.int 2))))))) cP) (az (aJ 4 (d2 (d2 (aa 0) (dC (.int 2)) ba) (aa 1) (cW (λ_ j=>0<j) λi j=>.int (i%j)))) (az (e8 (d2 (d2 (aa 0) (dC (.int 2)) ba) (aa 1) (cW ug λi j=>.int (i.fdiv j))) (aa 0) (dC (.int 2))) (aY (aa 4)))))
theorem M_:Sem 2 3 h8 xy:=by
 ext O K E-⟨n,m,o,rfl,rfl,P,Q,l,L,u⟩;let⟨ns,k,z,rfl,M,F,R⟩:=P.out;unfold xy jO
 let q:∀(e g:Int)(G:-(Option DV)),0<=e->e<=n+1->jg 1 E (.p (.int (g%m))) ⟨G,[ζ (.lst [.lst (ns.map D.int),.int e,.int (g.fdiv m)])]⟩:=λe g G a b =>
  ⟨[jO ns e (g.fdiv m)],Y,Y,u _ _ (Yb _ ⋯) (XE _ l) ⟨ns,e,_,Y,M,a,b⟩⟩
 let v:∀z,ug z m:=λz=>⟨⋯,⋯⟩
 let h:∀(e g:Int)(H I r:Option DV),0<=e->e<=n+1->(az (aJ 4 (d2 (d2 (aa 0) (dC (.int 2)) ba) (aa 1) (cW (λ_ j=>0<j) λi j=>.int (i%j)))) (az (e8 (d2 (d2 (aa 0) (dC (.int 2)) ba) (aa 1) (cW ug λi j=>.int (i.fdiv j))) (aa 0) (dC (.int 2))) (aY (aa 4)))) (eu 1 E) ⟨[ζ (.o 0),ζ (.p (.int m)),H,I,r],[ζ (.lst [.lst (ns.map D.int),.int e,.int g])]⟩:=λe g H I r a b=>by
  simp![at2,DM];exact⟨l,v _,q _ _ _ a b⟩
 calc bc λN J=>?_;calc iD λA B s t=>?_;simp![at2] at ⊢;split
 .subst s
  calc bc λw f=>?_;simp![eB];subst f;calc bc λw f=>?_;simp!;subst f;refine bc λw f=>?_
  let x:∀(c:Int)(r:Option DV),w ⟨[ζ (.o 0),ζ (.p (.int m)),ζ (.p (.int k)),ζ (.p (.int c)),r],[ζ (.lst [.lst (ns.map D.int),.int k,.int z])]⟩:=λc r=>by
   subst f;simp![M7];calc⟨c,k,Y,Y,F,⋯,λg=>?_⟩;simp![DM];subst J;exact h _ _ _ _ _ ⋯ ⋯
  calc iD λA B s t=>?_;simp![dw] at ⊢;split
  .rename_i y
   let⟨c,C⟩:=DL F (W_ y);subst s;simp![dw];rw[C];exact x _ _
  .subst t
   calc iD λA B s t=>?_;simp![dw] at ⊢;split
   .rename_i d
    let d:=W_ d;let⟨c,C⟩:=DL (ns:=ns) (k:=(k*5+3)%(↑ns:Int)) (Yb _ ⋯) (XE _ d);subst s;simp![dw];calc⟨.inr ⟨by decide,by decide⟩,d,?_⟩;rw[C];exact⟨⟨by decide,by decide,by decide⟩,by show(0:Int)<10 ^ 17+k;symm,x _ _⟩
   .subst t
    exact x _ _
 .subst t J
  calc h _ _ _ _ _ ⋯ ⋯
noncomputable def d6(p:Int×Int):D:=.tup [.int p.1,.int p.2]
structure fg(many:Int)(ps:-(Int×Int)):Prop where
 ends:∀p∈ps,0<=p.1/\p.1<p.2/\p.2<many
 nF:ps.Nodup
 iT:↑ps<=66
theorem fg.sub{a:Int}{b c:-(Int×Int)}(h:fg a b)(s:c.Sublist b):fg a c :=
 ⟨λp d=>h.ends p (s.subset d),h.nF.sublist s,Wr s.length_le h.iT⟩
inductive xA (ys:-DV) (bF:-OV) (K:RV->-OV->Prop):Prop
 |mk (n kind many:Int) (o:OV) (_:ys=[.o 0,.p (.int kind),.p (.int many)]) (_:bF=[o]) (_:bu n o) (_:n+100<2 ^ 30) (_:1<=many) (_:many<=12) (_:∀ps o',fg many ps->bu (n+67) o'->K (.n (ps.map d6)) [o'])
def xB:WS:=(az (aJ 3 (eI ae)) (az (bH (eA (aq (aa 2) ae)) (bj 4) (dr (cJ (aa 3) (aq (cx (eA (aq (aa 4) ae)) [η,ζ 4] (bj 0) bI (bg (aq (aa 0) (aq (aa 1) ae)))) ae)))) (az (bh (dT (d2 (aa 1) (dC (.int 1)) oEq)) (aY (eY (gk (aq (dC (.int 1)) (aq (aa 2) ae))) [η,ζ 0] (bj 0) bI (bg (aq (aA 2 h8 (aq (aa 1) (aq (aa 0) ae))) (aq (aa 0) ae))))) cP) (az (bh (dT (d2 (aa 1) (dC (.int 2)) oEq)) (az (aJ 5 (cx (eA (aq (d2 (aa 2) (dC (.int 1)) (oI λi j=>.int (i-j))) ae)) [η] (bj 0) bI (bg (aq (aa 0) (aq (d2 (aa 0) (dC (.int 1)) bX) ae))))) (aY (gq (aa 5) (cx (bo (aa 3)) [η,ζ 2] (bj 0) (bT (dT (d2 (aa 0) (bg (aq (dC (.int 0)) (aq (d2 (aa 1) (dC (.int 1)) (oI λi j=>.int (i-j))) ae))) oEq)) (dT (d2 (aa 1) (dC (.int 2)) (oI λi j=>.bl (S (j<i)))))) (aa 0))))) cP) (az (bh (dT (d2 (aa 1) (dC (.int 3)) oEq)) (aY (aa 3)) cP) (az (bh (dT (d2 (aa 1) (dC (.int 4)) oEq)) (aY (eY (bo (aa 3)) [η,ζ 0] (bj 0) (dT (d2 (aA 2 h8 (aq (aa 1) (aq (dC (.int 4)) ae))) (dC (.int 0)) oEq)) (aa 0))) cP) (az (bh (dT (d2 (aa 1) (dC (.int 5)) oEq)) (az (aJ 6 (aA 2 h8 (aq (aa 0) (aq (d2 (aa 2) (dC (.int 1)) bX) ae)))) (aY (eY (bo (aa 3)) [η,ζ 6,ζ 0] (bj 0) (bT (dT (d2 (d2 (d2 (aa 0) (dC (.int 0)) ba) (aa 1) oLt) (d2 (d2 (aa 0) (dC (.int 1)) ba) (aa 1) oLt) oEq)) (dT (d2 (aA 2 h8 (aq (aa 2) (aq (dC (.int 3)) ae))) (dC (.int 0)) (oI λi j=>.bl (S (j<i)))))) (aa 0)))) cP) (aY (eY (bo (aa 3)) [η,ζ 0] (bj 0) (dT (d2 (aA 2 h8 (aq (aa 1) (aq (dC (.int 2)) ae))) (dC (.int 0)) oEq)) (aa 0))))))))))
theorem sub_snoc{c:Type}{b a:-c}{i:Nat}{x:c}(h:b.Sublist (a.take i))(e:a[i]?=ζ x):(b++[x]).Sublist (a.take (i+1))/\b.Sublist (a.take (i+1)):=by
 let:a.take (i+1)=a.take i++[x]:=by rw[Y4,e];rfl
 rw[this];calc⟨h.append (q20 _),h.trans (List.sublist_append_left _ _)⟩
theorem Na{b:Type}{l:-b}{c:b}(h:l.Nodup)(a:∀x∈l,x=c):↑l<=1:=by
 match l,h,a with
 |[],_,_=>exact VY _
 |[_],_,_=>exact B6 _
 |x::y::r,h,a =>
  let:=(Xu.mp h).1 y (Uz);calc absurd ((a x Uz).trans (a y (UA _ Uz)).symm) this
theorem xC{n:Int}{o:OV}{g:-(Int×Int)}{t:WT}{K:-D->aI->Prop}{a:-(Option DV)}{f:Option OV}{m:aI->Prop}(x:∀sl o',m ⟨sl,[ζ o',f]⟩)(F:↑g<=66)(P:bu n o)(hn:n+70<2 ^ 30)
  (C:∀(p:Int×Int)(i:Nat)(o':OV)(Q:Bool->aI->Prop),p∈g->i<=66->bu (n+i) o'->(∀b c,bu (n+i+1) c->Q b ⟨ζ (.p (d6 p))::a,[ζ c,f]⟩)->t ⟨ζ (.p (d6 p))::a,[ζ o',f]⟩ Q)
  (y:du 2 a a=a)
  (u:∀(e:-(Int×Int)) o',e.Sublist g->bu (n+↑g) o'->K (e.map d6) ⟨η::a,[ζ o',f]⟩) :
  j6 ⟨η::a,[ζ o,f]⟩ m (bj 0) t (aa 0) K (g.map d6) [] ⟨η::a,[ζ o,f]⟩:=by
 refine ud (λi k v=>∃(e:-(Int×Int))(h:OV),e.Sublist (g.take i)/\k=e.map d6/\bu (n+i) h/\v=⟨η::a,[ζ h,f]⟩) ⟨[],o,q20 _,Y,P.mono ⋯,Y⟩ ?_ ?_
 .ext j d k v L z ⟨e,h,l,rfl,r,rfl⟩ A
  rw[B8] at z;let⟨p,s,rfl⟩:=KJ.mp z;let E:j<↑g:=(pa.mp s).1;calc⟨x _ _,?_⟩;show t ⟨ζ (.p (d6 p))::a,[ζ h,f]⟩ _;refine C p j h _ (WU s) ⋯ r λb c w=>?_
  let q:↑(e.map d6)<1000:=by
   rw[nW];let:=l.length_le;rw[Ww] at this;symm
  let B:bu (n+((j+1:Nat):Int)) c:=w.mono ⋯
  cases b with
  |true =>
   rw[VE Y];calc⟨q,A _ _ ⟨e++[p],c,(sub_snoc l s).1,by rw[VR];rfl,B,?_⟩⟩;show(⟨η::du 2 a a,_⟩:aI)=_;rw[y];rfl
  |false =>
   rw[VC (by decide)];calc A _ _ ⟨e,c,(sub_snoc l s).2,Y,B,?_⟩;show(⟨η::du 2 a a,_⟩:aI)=_;rw[y];rfl
 .ext k v ⟨e,h,l,rfl,r,rfl⟩
  rw[nW] at r l;rw[Xc (B6 _)] at l;calc⟨x _ _,u e h l r⟩
theorem Nc:Sem 3 4 xA xB:=by
 ext ys bF K'-⟨n,K,C,o,rfl,rfl,P,hn,m1,iA,M⟩;let⟨g,rfl⟩:∃g:Nat,C=g:=⟨C.toNat,⋯⟩;let O:g<=12:=by symm
 unfold xB;let f:fg g (jZ g):=⟨λp l=>wK l,CF g,CG g O⟩;calc bc λN w=>?_;simp!;subst w;calc bc λN w=>?_;simp!;calc⟨⋯,?_⟩;refine jA (λi E=>E=⟨[ζ (.o 0),ζ (.p (.int K)),ζ (.p (.int g)),ζ (.o 1),η,η,η],[ζ o,ζ (.lst ((jZ i).map d6))]⟩) rfl ?_ ?_
 .ext j d E L F rfl X
  let⟨F,rfl⟩:=ly F;simp!;let e:(0+(j:Int))=j:=by symm
  rw[e];refine⟨⋯,?_⟩
  refine j9 (λd=>match d with
   |.int a=>d6 (a,j)
   |_=>.non) (by rw[lz];symm) trivial ?_ ?_
  .ext d R y L' G h
   let⟨i,z⟩:=VL.mp R;let⟨z,rfl⟩:=ly z;simp!;exact⟨G,h⟩
  .let e2:(jZ j).map d6++(dm 0 (j:Int).toNat).map (λd=>match d with
    |.int a=>d6 (a,j)
    |_=>.non)=(jZ (j+1)).map d6:=by
    show _=(jZ j++_).map d6;unfold dm;rw[VR,VW,VW];congr 1;calc W7 λa _=>?_;simp[q4m]
   simp!;let UK:=CG j ⋯;calc⟨by rw[lz];symm,?_⟩;rw[e2];exact X _ rfl
 .ext E rfl
  calc⟨trivial,?_⟩;subst w;let eL:((g:Int)).toNat=g:=by symm
  rw[lz,eL];dsimp only
  let s:∀(H:-(Int×Int))(k:OV)(sl:-(Option DV))(m:-(Option OV)),fg g H->bu (n+67) k->jg 1 K' (.o (↑m+1)) ⟨sl,ζ k::(m++[ζ (.lst (H.map d6))])⟩:=λH k sl m h1 Y=>by
   calc⟨[k],rfl,rfl,?_⟩;show if ↑m+1<1 then _ else _;rw[VC ⋯]
   let:(ζ k::(m++[ζ (OV.lst (H.map d6))]))[↑m+1]?=ζ (ζ (.lst (H.map d6))):=by
    rw[VM,My (B6 _),Xh];rfl
   dsimp only;rw[this];exact .inl (M H k h1 Y)
  calc bc λN w=>?_;simp![dEq] at ⊢;split
  .refine⟨⋯,?_⟩
   refine ud (λi y E=>∃(u:-(Int×Int))(k:OV),↑u=i/\(∀(q:Nat)(p:Int×Int),u[q]?=ζ p->p.2=q+1/\0<=p.1/\p.1<p.2)/\y=u.map d6/\bu (n+i) k/\E=⟨[η,ζ (.o 0)],[ζ k,ζ (.lst ((jZ g).map d6))]⟩) ⟨[],o,rfl,λq p e=>by simp at e,rfl,P.mono ⋯,rfl⟩ ?_ ?_
   .ext j d y E L F ⟨u,k,A,S,rfl,t,rfl⟩ X
    let⟨F,rfl⟩:=ly F;simp!;calc⟨n+j,1+j,k,rfl,rfl,t,⋯,⋯,⋯,λr B T U v=>?_⟩;simp!;refine⟨⋯,X _ _ ⟨u++[(r,1+(j:Int))],B,by rw[qG,A];rfl,λq p e=>?_,by rw[VR];rfl,v.mono ⋯,rfl⟩⟩
    by_cases c:q<↑u
    .rw[KI c] at e
     exact S q p e
    .let hl:=(pa.mp e).1
     rw[qG,WJ] at hl;let:q=↑u:=by symm
     subst this;rw[My (B6 _),Xh] at e;cases(show ζ (r,1+(j:Int))=ζ p by simpa using e)
     exact⟨by show 1+(j:Int)=_;symm,T,U⟩
   .ext y E ⟨u,k,A,S,rfl,t,rfl⟩
    rw[lz] at A t;calc⟨trivial,?_⟩;refine s u k _ [_] ⟨λp l=>?_,?_,⋯⟩ (t.mono ⋯)
    .let⟨q,V⟩:=VL.mp l
     let:=S q p V;let hl:=(pa.mp V).1;symm
    .refine Zn.mpr λi j z F Nd e=>?_
     let I:=S i _ (tE z);let W:=S j _ (tE F);rw[e] at I;symm
  subst w;calc bc λN w=>?_;simp![dEq] at ⊢;split
  .clear w
   refine⟨⋯,?_⟩
   refine j9 (λd=>match d with
    |.int a=>d6 (a,a+1)
    |_=>.non) (by rw[lz];symm) trivial ?_ ?_
   .ext d R y L' G h
    let⟨i,z⟩:=VL.mp R;let⟨z,rfl⟩:=ly z;simp!;exact⟨G,h⟩
   .simp!
    refine j8 (λd=>dEq d (d6 (0,g-1))&&μ ((2:Int)<g)) id (by rw[nW];let:=f.iT;symm) rfl ?_ ?_
    .ext d R y L' G h Z
     let⟨p,l,rfl⟩:=VI.mp R;erw[d6] at h Z;simp![d6] at ⊢;split
     .rename_i I
      split
      .rename_i W
       exact⟨G,h (by rw[I,W];rfl)⟩
      .rename_i W
       exact Z (by rw[I,q3a _ |>.mp W];rfl)
     .rename_i I
      exact Z (by rw[q3a _ |>.mp I];rfl)
    .simp!
     let er:(dm 0 ((g:Int)-1).toNat).map (λd=>match d with
       |D.int a=>d6 (a,a+1)
       |x=>D.non)=((Wq (g-1)).map λi:Nat=>((i:Int),(i:Int)+1)).map d6:=by
      unfold dm;rw[VW,VW];let:((g:Int)-1).toNat=g-1:=by symm
      rw[this];calc W7 λa _=>?_;simp[q4m]
     let ef:(((jZ g).map d6).filter λd=>dEq d (d6 (0,g-1))&&μ ((2:Int)<g))=((jZ g).filter λp=>dEq (d6 p) (d6 (0,g-1))&&μ ((2:Int)<g)).map d6:=by
      rw[Ye];rfl
     rw[er,q0X,ef,<-VR]
     let hf:∀p∈(jZ g).filter (λp=>dEq (d6 p) (d6 (0,g-1))&&μ ((2:Int)<g)),p=(0,(g:Int)-1)/\(2:Int)<g:=λp l=>by
      let:=(Wc.mp l).2;simp[d6,dEq,dW] at this;let⟨a,b⟩:=p;simp at this ⊢;symm
     let h1:↑((jZ g).filter (λp=>dEq (d6 p) (d6 (0,g-1))&&μ ((2:Int)<g)))<=1:=Na (f.nF.sublist q2d) λp l=>(hf p l).1;refine⟨by rw[lz,nW];symm,s _ o _ [_] ⟨λp l=>?_,?_,?_⟩ (P.mono ⋯)⟩
     .rcases VZ.mp l with l|l
      .let⟨i,z,rfl⟩:=VI.mp l
       let:=Wz.mp z;exact⟨⋯,⋯,by show(i:Int)+1<g;symm⟩
      .exact f.ends p (Wc.mp l).1
     .refine Xs.mpr ⟨?_,f.nF.sublist q2d,λa G b hb e=>?_⟩
      .refine XO.mpr (q0_.imp λ{a b} ne e=>ne ?_)
       let:=congrArg q5T e;exact q4i this
      .subst e
       let⟨i,z,rfl⟩:=VI.mp G;let:=hf _ hb;let Y:=congrArg q5T this.1;let h3:=congrArg Prod.snd this.1;simp at Y h3;symm
     .rw[qG,nW,Xq];symm
  subst w;calc bc λN w=>?_;simp![dEq] at ⊢;split
  .exact⟨[o],rfl,rfl,.inl (M _ _ f (P.mono ⋯))⟩
  subst w;calc bc λN w=>?_;simp![dEq] at ⊢;split
  .refine xC (λ_ _=>rfl) f.iT P ⋯ (λp i k Q l z t J=>?_) rfl λu k A t=>?_
   .simp![dEq]
    calc⟨n+i,4,k,rfl,rfl,t,⋯,⋯,⋯,λr B T U v=>?_⟩;simp!;exact J _ _ v
   .exact s u k _ [_] (f.sub A) (t.mono (by let:=f.iT;symm))
  subst w;calc bc λN w=>?_;simp![dEq] at ⊢;split
  .refine⟨n,g+1,o,rfl,rfl,P,⋯,⋯,⋯,λhalf o1 T U P1=>?_⟩
   simp!;refine xC (n:=n+1) (λ_ _=>rfl) f.iT P1 ⋯ (λp i k Q l z t J=>?_) rfl λu k A t=>?_
   .simp![dEq,d6,dw,eB] at ⊢
    split
    .refine⟨n+1+i,3,k,rfl,rfl,t,⋯,⋯,⋯,λr B T U v=>?_⟩
     simp!;exact J _ _ v
    .exact J _ _ (t.mono ⋯)
   .exact s u k _ [_] (f.sub A) (t.mono (by let:=f.iT;symm))
  subst w;simp![dEq];refine xC (λ_ _=>rfl) f.iT P ⋯ (λp i k Q l z t J=>?_) rfl λu k A t=>?_
  .simp![dEq]
   calc⟨n+i,2,k,rfl,rfl,t,⋯,⋯,⋯,λr B T U v=>?_⟩;simp!;exact J _ _ v
  .calc s u k _ [_] (f.sub A) (t.mono (by let:=f.iT;symm))
theorem xD{a:Type}:∀{l:-a}{j:Nat}(h:j<↑l),q4r (l[j]::l.eraseIdx j) l
 |x::r,0,h=>Y1 _
 |x::r,j+1,h=>by
  let b:j<↑r:=by simpa using h
  show q4r (r[j]::x::r.eraseIdx j) (x::r);calc(q0v x r[j] _).trans ((xD b).cons x)
theorem xE{a b:Type}(f:a->b):∀(l:-a)(j:Nat),(l.map f).eraseIdx j=(l.eraseIdx j).map f
 |[],_=>Y
 |_::_,0=>Y
 |x::r,j+1=>by
  show f x::(r.map f).eraseIdx j=f x::(r.eraseIdx j).map f;rw[xE f r j]
noncomputable def bJ(y:Int×Int×Int):D:=.tup [.int y.1,.int y.2.1,.int y.2.2]
noncomputable def a6(m:Int)(ys:-(Int×Int×Int)):D:=.tup [.int m,.tup (ys.map bJ)]
noncomputable def mD(y:Int×Int×Int):Int×Int:=(y.1,y.2.1)
theorem fg.perm{a:Int}{b c:-(Int×Int)}(h:fg a b)(p:c.Perm b):fg a c :=
 ⟨λx d=>h.ends x (p.mem_iff.mp d),p.nodup_iff.mpr h.nF,by rw[p.length_eq];calc h.iT⟩
inductive xF (ys:-DV) (bF:-OV) (K:RV->-OV->Prop):Prop
 |mk (n iE most:Int) (o:OV) (_:ys=[.o 0,.p (.int iE),.p (.int most)]) (_:bF=[o]) (_:bu n o) (_:n+400<2 ^ 30) (_:1<=iE) (_:iE<=12) (_:0<=most) (_:most<=30) (_:∀m ws o',aH m ws->m<=iE->(↑ws:Int)<=most->bu (n+300) o'->K (.p (a6 m ws)) [o'])
def xG:WS:=(az (aJ 3 (aA 2 h8 (aq (aa 0) (aq (dC (.int 8)) ae)))) (az (aJ 4 (aA 2 h8 (aq (aa 0) (aq (dC (.int 4)) ae)))) (az (aJ 5 (d2 (dC (.int 1)) (aA 2 h8 (aq (aa 0) (aq (aa 1) ae))) bX)) (az (aJ 6 (fM 3 xA (aq (aa 0) (aq (aa 3) (aq (aa 5) ae))))) (az (aJ 7 (eI ae)) (az (bH (eA (aq (dN (aq (aa 2) (aq (dN (aq (aa 6) ae) bB) ae)) fQ) ae)) (bj 8) (az (b6 (f_ (aa 6) (aq (aA 2 h8 (aq (aa 0) (aq (dN (aq (aa 6) ae) bB) ae))) ae)) (dz 2 (cj (bj 9) (cj (bj 10) dt)))) (az (aJ 11 (d2 (bG (aq (dC (.int 7)) (aq (aA 2 h8 (aq (aa 0) (aq (dC (.int 3)) ae))) (aq (d2 (d2 (dC (.int 10)) (dC (.int 9)) (cW ir λi j=>.int (i ^ j.toNat))) (aA 2 h8 (aq (aa 0) (aq (dC (.int 2)) ae))) (oI λi j=>.int (i-j))) (aq (aA 2 h8 (aq (aa 0) (aq (d2 (d2 (dC (.int 10)) (dC (.int 9)) (cW ir λi j=>.int (i ^ j.toNat))) (dC (.int 1)) bX) ae))) ae))))) (aa 4) ba)) (dr (bU (aa 7) (aq (bg (aq (aa 9) (aq (aa 10) (aq (aa 11) ae)))) ae)))))) (aY (bg (aq (aa 5) (aq (dN (aq (aa 7) ae) fP) ae))))))))))
theorem Nf:Sem 3 9 xF xG:=by
 ext ys bF K'-⟨n,e,f,o,rfl,rfl,P,hn,h1,UL,s0,UM,F⟩;unfold xG;calc bc λN g=>?_;simp!;calc⟨n,8,o,rfl,rfl,P,⋯,⋯,⋯,λq G _ _ H=>?_⟩;simp!;subst g;calc bc λN g=>?_;simp!;calc⟨n+1,4,G,rfl,rfl,H,⋯,⋯,⋯,λa I p0 p4 J=>?_⟩;simp!;subst g;calc bc λN g=>?_;simp!;calc⟨n+1+1,e,I,rfl,rfl,J,⋯,⋯,⋯,λB K m0 mh M=>?_⟩;simp!;subst g;calc bc λN g=>?_;simp!;calc⟨n+1+1+1,q,1+B,K,rfl,rfl,M,⋯,⋯,⋯,λv O w Q=>?_⟩;simp!
 subst g;calc bc λN g=>?_;simp!;subst g;calc bc λN g=>?_;let UN:=w.iT;simp!;calc⟨⋯,?_⟩;let ek:(min f (v.length:Int)).toNat=min f.toNat v.length:=by symm
 rw[ek];generalize hk:min f.toNat v.length=k
 refine jA (λi R=>∃(b:-(Int×Int))(s:-(Int×Int×Int))(t:OV),↑b+i=v.length/\↑s=i/\fg (1+B) (s.map mD++b)/\(∀y∈s,0<=y.2.2/\y.2.2<=1000000000)/\bu (n+70+4*i) t ∧
  R=⟨[ζ (.o 0),ζ (.p (.int e)),ζ (.p (.int f)),ζ (.p (.int q)),ζ (.p (.int a)),ζ (.p (.int (1+B))),ζ (.o 1),ζ (.o 2),η,η,η,η],[ζ t,ζ (.lst (b.map d6)),ζ (.lst (s.map bJ))]⟩)
  ⟨v,[],O,⋯,rfl,w,λy x=>absurd x Wx,Q.mono ⋯,rfl⟩ ?_ ?_
 .ext j d R L Z ⟨b,s,t,hq,S,z,x,C,rfl⟩ hL
  let⟨Z,rfl⟩:=ly Z;let q0:0<↑b:=by symm
  let T:=z.iT;rw[qG,nW] at T;calc⟨trivial,?_⟩;erw[bj,VA,VB];calc bc λN2 u=>?_;simp!;calc⟨n+70+4*j,↑b,t,rfl,rfl,C,⋯,⋯,⋯,λr G r0 r1 H=>?_⟩;let⟨l,rfl⟩:∃l:Nat,r=l:=⟨r.toNat,⋯⟩;let E:l<↑b:=by symm
  let ix:seqIndex? (l:Int) ↑b=ζ l:=CH E;let eq:(b.map d6)[l]?=ζ (.tup [.int b[l].1,.int b[l].2]):=by rw[B8,tE E];rfl
  simp![ix,eq];calc⟨⟨⋯,⋯⟩,?_⟩;subst u;calc bc λN2 u=>?_;erw[aJ,d2,bG];calc pG λU c=>?_;simp!;subst c;calc pG λU c=>?_;simp!;calc⟨n+70+4*j+1,3,G,rfl,rfl,H,⋯,⋯,⋯,λa1 I UO UP J=>?_⟩;simp!;subst c;calc pG λU c=>?_;simp!;calc⟨⟨by decide,by decide,by decide⟩,n+70+4*j+1+1,2,I,rfl,rfl,J,⋯,⋯,⋯,λa2 K UQ UR M=>?_⟩;simp!;subst c;calc pG λU c=>?_;simp!;refine⟨⟨by decide,by decide,by decide⟩,n+70+4*j+1+1+1,10 ^ q17 9+1,K,rfl,rfl,M,⋯,by decide,by decide,λa3 O US V Q=>?_⟩
  simp!;subst c;simp!;let e9:(10:Int) ^ q17 9=1000000000:=by decide
  rw[e9] at V ⊢
  let⟨A,W,X,Y⟩:∃A:Int,eW [D.int 7,D.int a1,D.int (1000000000-a2),D.int a3] a=ζ (.int A)/\0<=A/\A<=1000000000:=by
   let:a=0\/a=1\/a=2\/a=3:=by symm
   rcases this with rfl|rfl|rfl|rfl
   .exact⟨7,rfl,⋯,⋯⟩
   .exact⟨a1,rfl,⋯,⋯⟩
   .exact⟨1000000000-a2,rfl,⋯,⋯⟩
   .exact⟨a3,rfl,⋯,⋯⟩
  rw[W];show N2 _;subst u;simp!;refine⟨⋯,hL _ ⟨b.eraseIdx l,s++[(b[l].1,b[l].2,A)],O,?_,?_,?_,?_,Q.mono ⋯,?_⟩⟩
  .rw[q0u E];symm
  .rw[qG,S];rfl
  .refine z.perm ?_
   rw[VR,X1];calc Z0 _ ?_;exact xD E
  .ext y m
   rcases VZ.mp m with h|h
   .exact x y h
   .rw[Wn.mp h];exact⟨X,Y⟩
  .rw[VR,xE];rfl
 .ext R ⟨b,s,t,hq,S,z,x,C,rfl⟩
  calc⟨trivial,?_⟩;subst g;simp!;rw[lz] at S C;calc⟨[t],rfl,rfl,?_⟩;refine F (1+B) s t ⟨⋯,⋯,⋯,λy m=>?_,?_⟩ ⋯ ⋯ (C.mono ⋯)
  .let:=z.ends (mD y) (XD _ (VI.mpr ⟨y,m,rfl⟩))
   let h2:=x y m;erw[mD] at this;symm
  .calc (Xs.mp z.nF).1
end LJ
namespace L2
open PySem PySem.Spec PyProof.Rows
variable[a8]
section
variable{X:Cx}{fa:WA}
end
end L2
namespace LJ
open PySem L2
variable[a8]
noncomputable def xH:D->Bool
 |.int _=>θ
 |_=>ι
noncomputable def uh:D->Int->Int->Bool
 |.int i,a,b=>S (a<=i)&&S (i<=b)
 |_,_,_=>ι
noncomputable def oB:D->Int->Bool
 |.tup a,n=>(↑a:Int)==n
 |_,_=>ι
theorem iF{K:RV->-OV->Prop}{d:D}{sl:-(Option DV)}(h:K (.p d) []):jg 0 K (.p d) ⟨sl,[]⟩:=⟨[],Y,Y,h⟩
inductive ui (ys:-DV) (bF:-OV) (K:RV->-OV->Prop):Prop
 |mk (d) (_:ys=[.p d]) (_:bF=[]) (_:K (.p (.bl (xH d))) [])
def xI:WS:=(aY (eO (d1 (aa 0) (cf "int")) (gj (d1 (aa 0) (cf "bool")))))
theorem Ng:Sem 1 0 ui xI:=by
 ext b a c-⟨d,rfl,rfl,k⟩;unfold xI;simp!;cases d<;>erw[iz,fJ]<;>calc iF k
inductive nv (ys:-DV) (bF:-OV) (K:RV->-OV->Prop):Prop
 |mk (d) (lo) (hi) (_:ys=[.p d,.p (.int lo),.p (.int hi)]) (_:bF=[]) (_:K (.p (.bl (uh d lo hi))) [])
def xJ:WS:=(aY (eO (aA 1 ui (aq (aa 0) ae)) (gm (aa 1) (aa 0) (aa 2) (oI λi j=>.bl (S (i<=j))) (oI λi j=>.bl (S (i<=j))))))
theorem Nh:Sem 3 0 nv xJ:=by
 ext e a f-⟨d,b,g,rfl,rfl,k⟩;unfold xJ;simp!;calc⟨d,Y,Y,?_⟩;cases d<;>simp![xH,uh] at k ⊢ <;> first|exact iF k|skip
 rename_i i
 by_cases c:b<=i
 .rw[VH c] at k ⊢
  erw[q2l] at k;exact iF k
 .rw[VD c] at k ⊢
  erw[q1Z] at k;calc iF k
inductive pH (ys:-DV) (bF:-OV) (K:RV->-OV->Prop):Prop
 |mk (d) (n) (_:ys=[.p d,.p (.int n)]) (_:bF=[]) (_:K (.p (.bl (oB d n))) [])
def xK:WS:=(aY (eO (d1 (aa 0) (cf "tuple")) (d2 (dN (aq (aa 0) ae) bB) (aa 1) oEq)))
theorem Ni:Sem 2 0 pH xK:=by
 ext b a c-⟨d,n,rfl,rfl,k⟩;unfold xK;simp!;cases d<;>simp![iz,fJ,oB,dEq] at k ⊢ <;> calc iF k
end LJ
namespace L2
open PySem PySem.Spec PyProof.Rows
variable[a8]
def DN:-D->(D->Prop)->Prop:=λb K=>∃a:-(Int×Int),b=[.lst (a.map λp=>.tup [.int p.1,.int p.2])]/\↑a<=30/\(∀p∈a,0<=p.1/\p.1<p.2/\p.2<12)/\a.Nodup/\K (.int ↑a)
section
variable{X:Cx}{fa:WA}
theorem Nj{a:υ}{x d y e:Ε}(z:X.calm=θ)(B:X.A.units+64<cLine)(f:Gl X "len")(h:X.mg "len" = η)(j:bootBuiltins "len" = ζ (.builtin "len"))(l:Gl X "set")(C:X.mg "set" = η)(m:bootBuiltins "set" = ζ (.type "set"))(D:JA X [a] (cX fa))
  (he:starEach [a] X.env=[(ι,eval a X.env)]:=by rfl) (n:starEach [.Call (.Name "set" d) [a] [] e] X.env=[(ι,eval (.Call (.Name "set" d) [a] [] e) X.env)]:=by rfl):JE X (.Call (.Name "len" x) [.Call (.Name "set" d) [a] [] e] [] y) (tD (dN fa DN)) :=
 (o9 (LB) f h j (jK (ml (LA z B) l C m D (he:=he)) bY) (he:=n)).weak fun σ H Q ⟨F,E,G,K,S,q,k⟩=>⟨F,E,G,_,S,q,λxs I J L F1 M u N c O=>by
  let⟨ds,⟨o,rfl,r,P,s,R⟩,t⟩:=pj c O J;let⟨v,rfl,a,L,rfl,T,U⟩:=iC t;let⟨V,rfl,h,g⟩:=DJ U;calc⟨a,V,o,rfl,bS.of T,h,λi b W Y Z=>c.sub _ _ (g i b W Y Z),P,s,r,λp hp=>⟨p,↑o,rfl,cw,⋯,?_⟩⟩;let w:a_ u (upd u p (lj p ↑o)):=c_ hp
  calc k _ _ R _ _ _ _ (N.trans (Ext.al c w)) (c.al w) rfl⟩
end
end L2
namespace LJ
open PySem L2
variable[a8]
theorem rL{i a b:Int}(h:a<=i)(h':i<=b):uh (.int i) a b=θ:=by
 show(S (a<=i)&&S (i<=b))=θ;rw[VH h,VH h'];rfl
inductive xM (ys:-DV) (bF:-OV) (K:RV->-OV->Prop):Prop
 |mk (m i j:Int) (_:ys=[.p (.int m),.p (.int i),.p (.int j)]) (_:bF=[]) (_:0<=i) (_:i<j) (_:j<m) (_:K (.p (.bl θ)) [])
def xN:WS:=(aY (eO (aA 3 nv (aq (aa 1) (aq (dC (.int 0)) (aq (d2 (aa 0) (dC (.int 1)) (oI λi j=>.int (i-j))) ae)))) (aA 3 nv (aq (aa 2) (aq (d2 (aa 1) (dC (.int 1)) bX) (aq (d2 (aa 0) (dC (.int 1)) (oI λi j=>.int (i-j))) ae))))))
theorem Nk:Sem 3 0 xM xN:=by
 ext c a d-⟨m,i,j,rfl,rfl,b,e,f,k⟩;unfold xN;simp!;calc⟨.int i,0,m-1,Y,Y,?_⟩;rw[rL b ⋯];simp!;calc⟨.int j,i+1,m-1,Y,Y,?_⟩;rw[rL ⋯ ⋯];simp!;calc iF k
structure DO(m:Int)(y:Int×Int×Int):Prop where
 low:0<=y.1
 up:y.1<y.2.1
 most:y.2.1<m
 pr:0<=y.2.2/\y.2.2<=1000000000
inductive xO (ys:-DV) (bF:-OV) (K:RV->-OV->Prop):Prop
 |mk (m) (y) (_:DO m y) (_:ys=[.p (.int m),.p (bJ y)]) (_:bF=[]) (_:K (.p (.bl θ)) [])
def xP:WS:=(az (bh (bQ (dT (aA 2 pH (aq (aa 1) (aq (dC (.int 3)) ae))))) (aY (dC (.bl ι))) cP) (aY (eO (aA 3 xM (aq (aa 0) (aq (d2 (aa 1) (dC (.int 0)) ba) (aq (d2 (aa 1) (dC (.int 1)) ba) ae)))) (aA 3 nv (aq (d2 (aa 1) (dC (.int 2)) ba) (aq (dC (.int 0)) (aq (dC (.int 1000000000)) ae)))))))
theorem Nl:Sem 2 0 xO xP:=by
 ext c a d-⟨m,y,W,rfl,rfl,k⟩;unfold xP;calc bc λN b=>?_;simp!;calc⟨bJ y,3,Y,Y,?_⟩;rw[show oB (bJ y) 3=θ from Y];simp!;subst b;simp![bJ,dw,eB,at2];calc⟨m,_,_,Y,Y,W.low,W.up,W.most,?_⟩;simp!;calc⟨_,0,1000000000,Y,Y,?_⟩;rw[rL W.pr.1 W.pr.2];simp!;calc iF k
theorem aH.way{m:Int}{ws:-(Int×Int×Int)}(W:aH m ws){y:Int×Int×Int}(h:y∈ws):DO m y :=
 let⟨a,b,c,d,e⟩:=W.ends y h
 ⟨a,⋯,⋯,d,e⟩
inductive xQ (ys:-DV) (bF:-OV) (K:RV->-OV->Prop):Prop
 |mk (m) (ws) (_:aH m ws) (_:ys=[.p (.int m),.p (.tup (ws.map bJ))]) (_:bF=[]) (_:K (.p (.bl θ)) [])
def xR:WS:=(az (bh (eP (bQ (dT (d1 (aa 1) (cf "tuple")))) (dT (d2 (dN (aq (aa 1) ae) bB) (dC (.int 30)) (oI λi j=>.bl (S (j<i)))))) (aY (dC (.bl ι))) cP) (az (bh (bQ (dT (dN (aq (cx (bo (aa 1)) [η,ζ 0] (bj 0) bI (aA 2 xO (aq (aa 1) (aq (aa 0) ae)))) ae) cI))) (aY (dC (.bl ι))) cP) (aY (d2 (dN (aq (cx (bo (aa 1)) [η] (bj 0) bI (b8 (aa 0) b7 (eZ (dC (.int 2))))) ae) DN) (dN (aq (aa 1) ae) bB) oEq))))
theorem Nm:Sem 2 0 xQ xR:=by
 ext t n u-⟨m,c,W,rfl,rfl,k⟩;let f:=W.jE;let o:=W.iA;unfold xR;calc bc λN g=>?_;simp![iz,show fJ "tuple" "tuple" = θ from rfl];rw[VC (by rw[VD ⋯];decide)];subst g;calc bc λN g=>?_;simp!;refine j9 (λ_=>.bl θ) (by rw[nW];symm) trivial ?_ ?_
 .ext d i j L l h
  let⟨y,e,rfl⟩:=VI.mp i;simp!;calc⟨m,y,W.way e,rfl,rfl,?_⟩;simp!;exact⟨l,h⟩
 rw[show(c.map bJ).map (λ_=>D.bl θ)=(c.map λ_=>θ).map D.bl by rw[VW,VW];rfl];simp![Dl];rw[show(c.map λ_=>θ).all id=θ from Yg.mpr λb q=>by let⟨_,_,rfl⟩:=VI.mp q;rfl];simp!;subst g;simp!
 refine j9 (λd=>match d with
  |.tup [a,b,_]=>.tup [a,b]
  |_=>.non) (by rw[nW];symm) trivial ?_ ?_
 .ext d i j L l h
  let⟨y,e,rfl⟩:=VI.mp i;let r:cutD [D.int y.1,D.int y.2.1,D.int y.2.2] η (ζ 2)=[D.int y.1,D.int y.2.1]:=by unfold cutD;rfl
  simp![bJ,r] at h ⊢;exact⟨l,h⟩
 simp!;refine⟨c.map mD,by rw[VW,VW];rfl,by rw[nW];calc f,λp s=>?_,W.unlike,?_⟩
 .let⟨y,e,rfl⟩:=VI.mp s
  let Y:=W.way e;let:=Y.most;exact⟨Y.low,Y.up,by show y.2.1<12;symm⟩
 rw[nW];simp![dEq];calc iF k
inductive xS (ys:-DV) (bF:-OV) (K:RV->-OV->Prop):Prop
 |mk (m) (ws) (_:aH m ws) (_:ys=[.p (a6 m ws)]) (_:bF=[]) (_:K (.p (.bl θ)) [])
def xT:WS:=(az (bh (bQ (dT (aA 2 pH (aq (aa 0) (aq (dC (.int 2)) ae))))) (aY (dC (.bl ι))) cP) (aY (eO (aA 3 nv (aq (d2 (aa 0) (dC (.int 0)) ba) (aq (dC (.int 1)) (aq (dC (.int 12)) ae)))) (aA 2 xQ (aq (d2 (aa 0) (dC (.int 0)) ba) (aq (d2 (aa 0) (dC (.int 1)) ba) ae))))))
theorem Nn:Sem 1 0 xS xT:=by
 ext d b e-⟨m,a,W,rfl,rfl,k⟩;unfold xT;calc bc λN c=>?_;simp!;calc⟨a6 m a,2,Y,Y,?_⟩;rw[show oB (a6 m a) 2=θ from Y];simp!;subst c;simp![a6,dw,eB];calc⟨.int m,1,12,Y,Y,?_⟩;rw[rL W.m1 W.iA];simp!;calc⟨m,a,W,Y,Y,?_⟩;simp!;calc iF k
noncomputable def a9(ns:-Int):D:=.lst (ns.map D.int)
noncomputable def hJ(fs:-Int)(i j:Nat):-Int:=fs.map λx=>if x=max (fs.getD i 0) (fs.getD j 0) then min (fs.getD i 0) (fs.getD j 0) else x
theorem rM(fs:-Int)(i j:Nat):↑(hJ fs i j)=fs.length:=by unfold hJ;rw[nW]
theorem oC{ns:-Int}{i:Nat}(h:i<↑ns):eW (ns.map D.int) (i:Int)=ζ (.int (ns.getD i 0)):=by
 calc iP ?_;rw[B8,tE h,KH,tE h];rfl
theorem cK{K:RV->-OV->Prop}{d:D}{sl:-(Option DV)}{mu:-(Option OV)}(h:K (.p d) []):jg 0 K (.p d) ⟨sl,mu⟩:=⟨[],Y,Y,h⟩
inductive rN (ys:-DV) (bF:-OV) (K:RV->-OV->Prop):Prop
 |mk (fs:-Int) (i j:Nat) (_:ys=[.p (a9 fs),.p (.int i),.p (.int j)]) (_:bF=[]) (_:i<fs.length) (_:j<fs.length) (_:fs.length<=12) (_:K (.p (a9 (hJ fs i j))) [])
def xU:WS:=(az (aJ 3 (dN (aq (d2 (aa 0) (aa 1) ba) (aq (d2 (aa 0) (aa 2) ba) ae)) f9)) (az (aJ 4 (dN (aq (d2 (aa 0) (aa 1) ba) (aq (d2 (aa 0) (aa 2) ba) ae)) fQ)) (aY (cx (bo (aa 0)) [η,ζ 4,ζ 3] (bj 0) bI (fD (dT (d2 (aa 0) (aa 2) oEq)) (aa 1) (aa 0))))))
theorem Np:Sem 3 2 rN xU:=by
 ext s l t-⟨a,i,j,rfl,rfl,m,n,o,k⟩;let c:=oC m;let f:=oC n;unfold xU a9;calc bc λN b=>?_;simp![c,f];subst b;calc bc λN b=>?_;simp![c,f];subst b;simp!
 refine j9 (λd=>match d with
  |.int x=>.int (if x=max (a.getD i 0) (a.getD j 0) then min (a.getD i 0) (a.getD j 0) else x)
  |_=>.non) (by rw[nW];symm) trivial ?_ ?_
 .ext d p r L g h
  let⟨x,_,rfl⟩:=VI.mp p;simp!;cases q:dEq (.int x) (.int (max (a.getD i 0) (a.getD j 0)))
  .let:¬ x=max (a.getD i 0) (a.getD j 0):=λz=>by rw[z,lA] at q;cases q
   erw[this,W8] at h;exact⟨g,h⟩
  .let:x=max (a.getD i 0) (a.getD j 0):=by erw[dEq] at q;exact XX q
   erw[this,Xk] at h;exact⟨g,h⟩
 .refine cK ?_
  let e:(a.map D.int).map (λd=>match d with
   |.int x=>D.int (if x=max (a.getD i 0) (a.getD j 0) then min (a.getD i 0) (a.getD j 0) else x)
   |_=>.non)=(hJ a i j).map D.int:=by
   unfold hJ;rw[VW,VW];rfl
  rw[e];calc k
noncomputable def dO(ws:-(Int×Int×Int))(n:Int):Nat×Nat:=((ws.getD n.toNat (0,0,0)).1.toNat,(ws.getD n.toNat (0,0,0)).2.1.toNat)
noncomputable def gg(ws:-(Int×Int×Int))(fs:-Int)(ns:-Int):-Int:=ns.foldl (λa n=>hJ a (dO ws n).1 (dO ws n).2) fs
theorem rO(ws:-(Int×Int×Int)):∀(ns:-Int)(fs:-Int),↑(gg ws fs ns)=fs.length
 |[],a=>Y
 |n::r,a=>by
  show↑(gg ws (hJ a _ _) r)=_;rw[rO ws r,rM]
noncomputable def ic(m:Int)(ws:-(Int×Int×Int))(ns:-Int):-Int:=gg ws (bK m.toNat) ns
def Nums(ws:-(Int×Int×Int))(ns:-Int):Prop:=∀n∈ns,0<=n/\n<(↑ws:Int)
theorem mE{m:Int}{ws:-(Int×Int×Int)}(W:aH m ws){n:Int}(e:0<=n)(f:n<(↑ws:Int)):∃y,ws.getD n.toNat (0,0,0)=y/\y∈ws/\eW (ws.map bJ) n=ζ (bJ y)/\∃i j:Nat,y.1=i/\y.2.1=j/\i<m.toNat/\j<m.toNat/\i<j:=by
 let⟨k,rfl⟩:∃k:Nat,n=k:=⟨n.toNat,⋯⟩;let d:k<↑ws:=by symm
 refine⟨ws[k],?_,Yi d,iP ?_,?_⟩
 .rw[V8,KH,tE d];rfl
 .rw[B8,tE d];rfl
 .let⟨a,b,c,_,_⟩:=W.ends _ (Yi d)
  calc⟨ws[k].1.toNat,ws[k].2.1.toNat,⋯,⋯,⋯,⋯,⋯⟩
inductive uj (ys:-DV) (bF:-OV) (K:RV->-OV->Prop):Prop
 |mk (m:Int) (ws:-(Int×Int×Int)) (ns:-Int) (_:aH m ws) (_:Nums ws ns) (_:((ys=[.p (a6 m ws),.p (a9 ns)]/\bF=[]/\K (.p (a9 (ic m ws ns))) [])\/(ys=[.p (a6 m ws),.o 0]/\bF=[.lst (ns.map D.int)]/\K (.p (a9 (ic m ws ns))) [.lst (ns.map D.int)])))
def uk:WS:=(az (aJ 2 (ft (aq (d2 (aa 0) (dC (.int 0)) ba) ae))) (az (bH (bo (aa 1)) (bj 3) (az (aJ 4 (d2 (d2 (aa 0) (dC (.int 1)) ba) (aa 3) ba)) (aJ 2 (aA 3 rN (aq (aa 2) (aq (d2 (aa 4) (dC (.int 0)) ba) (aq (d2 (aa 4) (dC (.int 1)) ba) ae))))))) (aY (aa 2))))
theorem Nq:Sem 2 3 uj uk:=by
 ext ys G K'-⟨m,a,b,W,H,h⟩;let m1:=W.m1;let I:=W.iA;let J:↑(bK m.toNat)=m.toNat:=by unfold bK;simp
 let g:∀(x:DV)(c:-(Option OV))(l:aI->Prop)(K:KS),(∀M,l ⟨M,c⟩)->(∀u,u=ic m a b->K.nx ⟨[ζ (.p (a6 m a)),ζ x,ζ (.p (a9 u)),η,η],c⟩)->((∃d,x=.p d)\/∃k,x=.o k/\k<↑c) →
   kZ ⟨[ζ (.p (a6 m a)),ζ x,ζ (.p (a9 (bK m.toNat))),η,η],c⟩ l (bj 3) (az (aJ 4 (d2 (d2 (aa 0) (dC (.int 1)) ba) (aa 3) ba)) (aJ 2 (aA 3 rN (aq (aa 2) (aq (d2 (aa 4) (dC (.int 0)) ba) (aq (d2 (aa 4) (dC (.int 1)) ba) ae)))))) K (b.map D.int) ⟨[ζ (.p (a6 m a)),ζ x,ζ (.p (a9 (bK m.toNat))),η,η],c⟩:=by
  ext x c l K z s O;refine jA (λi v=>v=⟨[ζ (.p (a6 m a)),ζ x,ζ (.p (a9 (gg a (bK m.toNat) (b.take i)))),η,η],c⟩) rfl ?_ ?_
  .ext j d v L A rfl P
   rw[B8] at A;let⟨n,t,rfl⟩:=KJ.mp A;let⟨Q,R⟩:=H n (WU t);let⟨y,S,hy,T,i,k,B,C,h1,h2,_⟩:=mE W Q R;calc⟨z _,?_⟩;erw[bj,VA,VB];calc bc λN f=>?_;simp![eB,a6,T];subst f;simp![dw,eB,bJ];let E:↑(gg a (bK m.toNat) (b.take j))=m.toNat:=by rw[rO,J]
   refine⟨gg a (bK m.toNat) (b.take j),i,k,by rw[B,C],rfl,⋯,⋯,⋯,?_⟩
   let U:hJ (gg a (bK m.toNat) (b.take j)) i k=gg a (bK m.toNat) (b.take (j+1)):=by
    let:b.take (j+1)=b.take j++[n]:=by rw[Y4,t];rfl
    rw[this];unfold gg;rw[q0Y];show _=hJ _ (dO a n).1 (dO a n).2
    let:dO a n=(i,k):=by
     unfold dO;rw[S,B,C,V8,V8]
    rw[this]
   rw[U]
   let V:(aI.trim ⟨[ζ (.p (a6 m a)),ζ x,ζ (.p (a9 (bK m.toNat))),η,η],c⟩ ⟨[ζ (.p (a6 m a)),ζ x,ζ (.p (a9 (gg a (bK m.toNat) (b.take (j+1))))),ζ (.p (.int n)),ζ (.p (bJ y))],c⟩)=⟨[ζ (.p (a6 m a)),ζ x,ζ (.p (a9 (gg a (bK m.toNat) (b.take (j+1))))),η,η],c⟩:=by
    unfold aI.trim;rw[VX];rcases O with⟨d,rfl⟩|⟨q,rfl,this⟩
    .rfl
    .erw[du,fL,this,Xk]
   let:=P _ rfl;rw[<-V] at this;exact this
  .ext v rfl
   rw[nW,Xc (B6 _)];exact⟨z _,s _ rfl⟩
 let F:dm 0 m.toNat=(bK m.toNat).map D.int:=ou m.toNat;rcases h with⟨rfl,rfl,k⟩|⟨rfl,rfl,k⟩
 .unfold uk
  calc bc λN f=>?_;simp![dw,a6];calc⟨⟨⋯,⋯⟩,?_⟩;subst f;rw[F];calc bc λN f=>j_ λX Y Z w r s=>?_;simp![a9];subst w r s;calc g (.p (a9 b)) [] _ _ (λ_=>trivial) (λu e=>?_) (.inl ⟨_,rfl⟩);subst e;show N _;subst f;simp!;exact cK k
 .unfold uk
  calc bc λN f=>?_;simp![dw,a6];calc⟨⟨⋯,⋯⟩,?_⟩;subst f;rw[F];calc bc λN f=>j_ λX Y Z w r s=>?_;simp!;subst w r s;calc g (.o 0) [ζ (.lst (b.map D.int))] _ _ (λ_=>rfl) (λu e=>?_) (.inr ⟨0,rfl,q3z⟩);subst e;show N _;subst f;simp!;calc⟨[.lst (b.map D.int)],rfl,rfl,k⟩
theorem Nr(a b:Int):sortI [a,b]=[min a b,max a b]:=by
 refine(oq (as:=[min a b,max a b]) ?_ ?_).symm
 .by_cases c:a<=b
  .rw[q3A c,q3b c]
  .rw[q3c ⋯,q3B ⋯]
   exact q0v ..
 .refine List.Pairwise.cons (λx d=>?_) (List.pairwise_singleton _ _)
  rw[Wn.mp d];symm
def xV:GD:=uj
def um:WS:=(az (aJ 2 (ft (aq (d2 (aa 0) (dC (.int 0)) ba) ae))) (az (bH (bo (aa 1)) (bj 3) (az (b6 (dN (aq (cx (bo (b8 (d2 (d2 (aa 0) (dC (.int 1)) ba) (aa 3) ba) b7 (eZ (dC (.int 2))))) [η,ζ 2] (bj 0) bI (d2 (aa 1) (aa 0) ba)) ae) kE) (dz 2 (cj (bj 4) (cj (bj 5) dt)))) (aJ 2 (cx (bo (aa 2)) [η,ζ 4,ζ 5] (bj 0) bI (fD (dT (d2 (aa 0) (aa 2) oEq)) (aa 1) (aa 0)))))) (aY (aa 2))))
theorem Nu:Sem 2 4 xV um:=by
 ext ys P K'-⟨m,b,ns,W,Q,h⟩;let m1:=W.m1;let R:=W.iA;let S:↑(bK m.toNat)=m.toNat:=by unfold bK;simp
 let l:∀(x:DV)(c:-(Option OV))(r:aI->Prop)(K:KS),(∀T,r ⟨T,c⟩)->(∀a,a=ic m b ns->K.nx ⟨[ζ (.p (a6 m b)),ζ x,ζ (.p (a9 a)),η,η,η],c⟩)->((∃d,x=.p d)\/∃k,x=.o k/\k<↑c) →
   kZ ⟨[ζ (.p (a6 m b)),ζ x,ζ (.p (a9 (bK m.toNat))),η,η,η],c⟩ r (bj 3) (az (b6 (dN (aq (cx (bo (b8 (d2 (d2 (aa 0) (dC (.int 1)) ba) (aa 3) ba) b7 (eZ (dC (.int 2))))) [η,ζ 2] (bj 0) bI (d2 (aa 1) (aa 0) ba)) ae) kE) (dz 2 (cj (bj 4) (cj (bj 5) dt)))) (aJ 2 (cx (bo (aa 2)) [η,ζ 4,ζ 5] (bj 0) bI (fD (dT (d2 (aa 0) (aa 2) oEq)) (aa 1) (aa 0))))) K (ns.map D.int) ⟨[ζ (.p (a6 m b)),ζ x,ζ (.p (a9 (bK m.toNat))),η,η,η],c⟩:=by
  ext x c r K G t U;refine jA (λi C=>C=⟨[ζ (.p (a6 m b)),ζ x,ζ (.p (a9 (gg b (bK m.toNat) (ns.take i)))),η,η,η],c⟩) rfl ?_ ?_
  .ext j d C L H rfl V
   rw[B8] at H;let⟨n,u,rfl⟩:=KJ.mp H;let⟨X,Y⟩:=Q n (WU u);let⟨y,Z,hy,ea,i,k,I,J,h1,h2,_⟩:=mE W X Y;calc⟨G _,?_⟩;let v:↑(gg b (bK m.toNat) (ns.take j))=m.toNat:=by rw[rO,S]
   let M:hJ (gg b (bK m.toNat) (ns.take j)) i k=gg b (bK m.toNat) (ns.take (j+1)):=by
    let:ns.take (j+1)=ns.take j++[n]:=by rw[Y4,u];rfl
    rw[this];unfold gg;rw[q0Y];show _=hJ _ (dO b n).1 (dO b n).2
    let:dO b n=(i,k):=by
     unfold dO;rw[Z,I,J,V8,V8]
    rw[this]
   generalize UT:gg b (bK m.toNat) (ns.take j)=a at v M;let a1:=oC (ns:=a) (i:=i) ⋯;let a2:=oC (ns:=a) (i:=k) ⋯;erw[bj,VA,VB];calc bc λN f=>?_;let ec:cutD [D.int y.1,D.int y.2.1,D.int y.2.2] η (ζ 2)=[D.int i,D.int k]:=by rw[<-I,<-J];rfl
   simp![eB,a6,ea,bJ,ec]
   refine L2.j9 (λd=>match d with
    |.int z=>.int (a.getD z.toNat 0)
    |_=>.non) (by show 2<=1000;decide) trivial ?_ ?_
   .ext d B E L' A g
    erw[Uy,Wx,YC] at B;rcases B with rfl|rfl
    .simp![a9,a1]
     erw[V8] at g;exact⟨A,g⟩
    .simp![a9,a2]
     erw[V8] at g;exact⟨A,g⟩
   .let es:intsOf [D.int (a.getD i 0),D.int (a.getD k 0)]=ζ [a.getD i 0,a.getD k 0]:=rfl
    simp![V8,kE,es,Nr];subst f;simp![a9]
    refine L2.j9 (λd=>match d with
     |.int x=>.int (if x=max (a.getD i 0) (a.getD k 0) then min (a.getD i 0) (a.getD k 0) else x)
     |_=>.non) (by rw[nW];symm) trivial ?_ ?_
    .ext d B E L' A g
     let⟨z,_,rfl⟩:=VI.mp B;simp!;cases q:dEq (.int z) (.int (max (a.getD i 0) (a.getD k 0)))
     .let:¬ z=max (a.getD i 0) (a.getD k 0):=λw=>by rw[w,lA] at q;cases q
      erw[this,W8] at g;exact⟨A,g⟩
     .let:z=max (a.getD i 0) (a.getD k 0):=by erw[dEq] at q;exact XX q
      erw[this,Xk] at g;exact⟨A,g⟩
    .let e:(a.map D.int).map (λd=>match d with
      |.int x=>D.int (if x=max (a.getD i 0) (a.getD k 0) then min (a.getD i 0) (a.getD k 0) else x)
      |_=>.non)=(hJ a i k).map D.int:=by
      unfold hJ;rw[VW,VW];rfl
     rw[e,M]
     let eq:(aI.trim ⟨[ζ (.p (a6 m b)),ζ x,ζ (.p (a9 (bK m.toNat))),η,η,η],c⟩ ⟨[ζ (.p (a6 m b)),ζ x,ζ (.p (a9 (gg b (bK m.toNat) (ns.take (j+1))))),ζ (.p (.int n)),ζ (.p (.int (min (a.getD i 0) (a.getD k 0)))),ζ (.p (.int (max (a.getD i 0) (a.getD k 0))))],c⟩)=⟨[ζ (.p (a6 m b)),ζ x,ζ (.p (a9 (gg b (bK m.toNat) (ns.take (j+1))))),η,η,η],c⟩:=by
      unfold aI.trim;rw[VX];rcases U with⟨d,rfl⟩|⟨q,rfl,this⟩
      .rfl
      .erw[du,fL,this,Xk]
     let:=V _ rfl;rw[<-eq] at this;exact this
  .ext C rfl
   rw[nW,Xc (B6 _)];exact⟨G _,t _ rfl⟩
 let O:dm 0 m.toNat=(bK m.toNat).map D.int:=ou m.toNat;rcases h with⟨rfl,rfl,k⟩|⟨rfl,rfl,k⟩
 .unfold um
  calc bc λN f=>?_;simp![dw,a6];calc⟨⟨⋯,⋯⟩,?_⟩;subst f;rw[O];calc bc λN f=>j_ λg' b' K2 F s t=>?_;simp![a9];subst F s t;calc l (.p (a9 ns)) [] _ _ (λ_=>trivial) (λa e=>?_) (.inl ⟨_,rfl⟩);subst e;show N _;subst f;simp!;exact cK k
 .unfold um
  calc bc λN f=>?_;simp![dw,a6];calc⟨⟨⋯,⋯⟩,?_⟩;subst f;rw[O];calc bc λN f=>j_ λg' b' K2 F s t=>?_;simp!;subst F s t;calc l (.o 0) [ζ (.lst (ns.map D.int))] _ _ (λ_=>rfl) (λa e=>?_) (.inr ⟨0,rfl,q3z⟩);subst e;show N _;subst f;simp!;calc⟨[.lst (ns.map D.int)],rfl,rfl,k⟩
noncomputable def xW(ls:-(-Int)):D:=.lst (ls.map a9)
theorem Nv{m:Int}{ws:-(Int×Int×Int)}{ns:-Int}:↑(ic m ws ns)=m.toNat:=by
 unfold ic;rw[rO];unfold bK;simp
theorem uo{n:Nat}{z:Int}(h:z∈bK n):0<=z/\z<(n:Int):=by
 unfold bK at h;let⟨i,a,rfl⟩:=VI.mp h;let:=Wz.mp a;simp;symm
theorem l5{H:Hp}{a:U}{o:HO}(h:H a=η):a_ H (upd H a o):=λb u e=>by rw[bt (ed e h)];calc e
structure uq(H:Hp)(p c:U)(at_ z:Int):Prop where
 lst:H p=ζ (.lst [.ref c,.int at_,.int z])
 cells:∃ns:-Int,H c=ζ (.lst (ns.map V.int))/\↑ns<=63
 pos:0<=at_
theorem uq.ne{H:Hp}{p c:U}{k z:Int}(P:uq H p c k z):c≠p:=by
 let⟨a,h,_⟩:=P.cells;ext e;subst e;rw[P.lst] at h;let b:=WD h;injection b with DP
 cases a with
 |nil=>cases DP
 |cons n r=>injection DP with h1 _;cases h1
theorem Nx{ns:-Int}{k:Int}(b:0<=k)(c:k<(↑ns:Int)):∃n,eW (ns.map V.int) k=ζ (.int n):=by
 let⟨i,rfl⟩:∃i:Nat,k=i:=⟨k.toNat,⋯⟩;let a:i<↑ns:=by symm
 calc⟨ns[i],iP ?_⟩;rw[B8,tE a];rfl
def DQ(K:KD):Sp:=λe H Q _=>∃(a:U)(d:-Int),e=[.ref a]/\bS K H a (d.map V.int)/\↑d<=63/\∀(p c:U)(b:Hp),a_ H b->H p=η->uq b p c 0 0->Q (.ref p) b
def ur(K:KD):Sp:=λc H Q _=>∃(a:U)(b:-Int),c=[.ref a]/\bS K H a (b.map V.int)/\↑b<=63/\a8.ok H/\∀d,Q (.bl θ) d
theorem xX(ns:-Int)(a b:Option Int):eF (ns.map V.int) a b=((ns.drop (HT.bM ↑ns 0 a)).take (HT.bM ↑ns ↑ns b-HT.bM ↑ns 0 a)).map V.int:=by
 unfold eF;rw[nW,List.map_take,List.map_drop]
theorem Ny{H:Hp}{p c a:U}{n:Nat}(d:a8.ok H)(N:uq H p c 0 0):∃(F:Hp)(ns:-Int),↑ns<=63/\SR F [p] ⟨η::ζ (.o 0)::VG n η,[ζ (.lst [.lst (ns.map D.int),.int 0,.int 0])]⟩ (ζ (.ref a)::ζ (.ref p)::VG n η) H:=by
 let⟨g,j,v⟩:=N.cells;let w:=N.ne
 let r:∀{b:U},((∃m,H b=ζ (.tbl m))\/∃t,H b=ζ (.lst t))->a8.cs b=η:=λ{b} h=>by
  cases q:a8.cs b with
  |none=>rfl
  |some o =>
   let⟨t,rfl⟩:=a8.ct q;let:=a8.co d _ _ q;rcases h with⟨_,h⟩|⟨_,h⟩<;>rw[this] at h<;>cases h
 refine⟨upd a8.cs c (.lst (g.map V.int)),g,v,⟨λb o e=>?_,λb ⟨k,s,f,u⟩=>?_,Y,λk l a s A f u _ _=>?_,λk s e=>?_,λi x e=>?_,by simp,d,⟨λb y=>by
  let⟨m,q⟩:=a8.tb d y;rw[bt λz=>by subst z;rw[j] at q;cases q]
  calc r (q0q ⟨m,q⟩),λb o e=>by rw[bt λz=>by subst z;rw[r (q1R ⟨_,j⟩)] at e;cases e];calc e⟩⟩⟩
 .by_cases z:b=c
  .subst z;rw[cw] at e;cases e;exact j
  .rw[bt z] at e;exact a8.co d _ _ e
 .cases k with
  |zero=>cases(show ζ p=ζ b by simpa using f);rw[bt (Yz w)];exact r (q1R ⟨_,N.lst⟩)
  |succ k=>simp at f
 .cases k with
  |zero =>
   cases l with
   |zero=>rfl
   |succ l=>simp at u
  |succ k=>simp at f
 .cases k with
  |zero =>
   cases(show OV.lst [.lst (g.map D.int),.int 0,.int 0]=s by simpa using e)
   calc⟨p,_,Y,N.lst,_,Y,?_⟩;calc .cons ?_ (.cons Y (.cons Y .nil));erw[Is];exact⟨c,_,Y,cw,mB⟩
  |succ k=>simp at e
 .cases i with
  |zero=>simp at e
  |succ i =>
   cases i with
   |zero =>
    cases(show DV.o 0=x by simpa using e)
    exact⟨_,Y,p,Y,Y⟩
   |succ i =>
    exfalso;let e:(VG n (η:Option DV))[i]?=ζ (ζ x):=by simpa using e
    rw[ZF] at e;split at e<;>cases e
theorem Nz{B:WS}{F:Hp}{c:-U}{b:aI}{d:St}{H:Hp}{Q:VK}(S:SR F c b d H)(h:B ⟨λ_=>False,λx _=>x=.p (.bl θ),λ_=>False,λ_=>False⟩ b)(q:∀H',Q (.bl θ) H'):eh B {nx:=λ_ H'=>Q .non H',rt:=Q} d H :=
 ⟨F,c,b,_,S,h,⟨λa h=>h.elim,λa h=>h.elim,λa h=>h.elim,λx a h v i f g e j k V=>by
  let h:x=.p (.bl θ):=h;subst h;let V:v=.bl θ:=V;subst V
  calc q e,trivial⟩⟩
end LJ
namespace L2
open PySem PySem.Spec PyProof.Rows
def xY(Ts:-(U×Array M))(H:Hp):Prop:=∀b,(∃c,Ts.lookup b=ζ c/\H b=ζ (.tbl c))\/(Ts.lookup b=η/\(H b=η\/(∃o a,H b=ζ (.frz o (.lst a)))\/∃a,H b=ζ (.tup a)))
noncomputable def eT(cs H:Hp):Hp:=λb=>match cs b with
 |none=>H b
 |some _=>η
theorem xZ{cs H:Hp}{b:U}{u:HO}(h:eT cs H b=ζ u):cs b=η/\H b=ζ u:=by
 unfold eT at h
 cases q:cs b with
 |none=>rw[q] at h;exact⟨Y,h⟩
 |some o=>rw[q] at h;cases h
noncomputable def k6(cs H:Hp):Hp:=λb=>match cs b with
 |none=>H b
 |some o=>ζ o
theorem ny{cs H:Hp}{b:U}(h:cs b=η):k6 cs H b=H b:=by unfold k6;rw[h]
theorem uu{cs H:Hp}{b:U}{o:HO}(h:cs b=ζ o):k6 cs H b=ζ o:=by unfold k6;rw[h]
structure Cs(P:X)(w:l)(cs:Hp)(h:Q):Prop where
 ct:∀{b:U}{o:HO},cs b=ζ o->∃xs,o=.tup xs
 ok:∀{b:U}{xs:-V},cs b=ζ (.tup xs)->↑xs<=sizeLine/\∃lg:-M,Vals xs lg/\IsTup h b lg.toArray
theorem Cs.no{P:X}{w:l}{cs:Hp}{h:Q}(C:Cs P w cs h){b:U}{u:Γ}(e:h.get? b=ζ u)(n:u.cls≠.type "tuple"):cs b=η:=by
 cases q:cs b with
 |none=>rfl
 |some o =>
  let⟨f,rfl⟩:=C.ct q;let⟨_,c,_,d⟩:=C.ok q;let⟨o,a,r⟩:=d;rw[e] at a;cases a;calc absurd r.1 n
theorem NA{P:ψ}{w:ω}{K:KD}{G mb:π->Option ν}{CX:kS}{k:Nat}{fa a:ξ}{fd:FuncData}{x:π}{sp:Sp}{c:ο}{vs:-ν}{ns:-Int}(Ts:-(ξ×Array ν)){cs:Hp}(U:Cs P w cs c.heap)
  (C:∀b i,Ts.lookup b=ζ i->c.heap.get? b=ζ {cls:=.none,data:=.fields i}/\isCodeTable c.heap b/\K.lookup b=η)
  (KX:K.In c.heap) (O:c.heap.Ns mainGlobals G) (l:c.heap.Ns builtinsNs mb) (NB:∀x:π,x≠"__name__" -> mb x=bootBuiltins x) (x4:c.heap.NoLimit) (hg:c.gens = #[])
  (Q:c.heap.get? a=ζ {cls:=.type "list",data:=.seq vs.toArray}) (hi:IntsAre vs ns) (hl:↑ns<=sizeLine) (hr:bw k callerA)
  (hB:∃B ob,G "__builtins__" = ζ (.ref B)/\B≠builtinsNs/\c.heap.get? B=ζ ob/\ob.cls=.type "module" /\ ob.dict=ζ builtinsNs/\ob.data=.plain)
  (F:∀base:Α,K.In base->base.Ns mainGlobals G->(∀b i,Ts.lookup b=ζ i->base.BuiltinsAt G b)->cG P w K G base CX k fa fd [x] sp) (S:∀(s:ο)(u:ν),BindsTo s fd ⟨[u],[]⟩ [(x,u)])
  (NC:∀H:Hp,xY Ts H->a_ cs H->bS K H a (ns.map V.int)->sp [.ref a] H (λv _=>v=.bl θ) λ_ _ _=>False)
  (ND:∀H e s',CX [] H c (λ_ _ _=>False) e s'->False) :
  codeAny (ς P w) callerA (.call (.ref fa) ⟨[.ref a],[]⟩) (λr s'=>r=.ok (.ret (.bool θ))/\OldK c.heap s'.heap/\s'.os=c.os/\AllBare s'.gens) c:=by
 let rv:=B4 hi;let x5:=↑hi
 let aT:Ts.lookup a=η:=by
  cases q:Ts.lookup a with
  |none=>rfl
  |some i =>
   let:=(C a i q).1;rw[Q] at this;let z:=congrArg Obj.cls (WD this);cases(show XS "list" = WB from z)
 let aC:cs a=η:=U.no Q (show XS "list" ≠ XS "tuple" by decide)
 let tC:∀{b i},Ts.lookup b=ζ i->cs b=η:=λ{b i} t=>U.no (C b i t).1 nofun
 let J:∀H:Hp,xY Ts H->a_ cs H->bS K H a (ns.map V.int)->fz P w H c.heap->(∀b,Ts.lookup b=η->cs b=η->H b≠η->b=a)->(H a≠η->K.lookup a=η) →
   codeAny (ς P w) callerA (.call (.ref fa) ⟨[.ref a],[]⟩) (λr I=>r=.ok (.ret (.bool θ))/\OldK c.heap I.heap/\I.os=c.os/\AllBare I.gens) c:=by
  ext H hO DR hS bf NF hK
  let hA:∀b,Ts.lookup b=η->eT cs H b≠η->b=a:=λb t n=>by
   cases q:eT cs H b with
   |none=>exact absurd q n
   |some u=>exact NF b t (xZ q).1 (by rw[(xZ q).2];simp)
  let j:∀{b:ξ}{o:Γ},c.heap.get? b=ζ o->eT cs H b=η->(hY c.heap (eT cs H)).get? b=ζ o:=λe n=>ID e n
  let NG:∀{b:ξ}{o:Γ}{X:Array DictEntry}{Y:Nat},c.heap.get? b=ζ o->o.data=.dict X Y->eT cs H b=η:=λ{b o X Y} e d=>by
   cases q:eT cs H b with
   |none=>rfl
   |some u =>
    cases t:Ts.lookup b with
    |some i =>
     let:=(C b i t).1;rw[e] at this;cases this;cases d
    |none =>
     let e':b=a:=hA b t (by rw[q];simp);subst e';rw[Q] at e;cases e;let d':Data.seq vs.toArray _=Data.dict X Y:=d;cases d'
  let D:∀{b:ξ}{m:π->Option ν},c.heap.Ns b m->(hY c.heap (eT cs H)).Ns b m:=λ{b m} ⟨o,X,Y,e,d,r⟩=>⟨o,X,Y,j e (NG e d),d,r⟩
  let DT:K.In (hY c.heap (eT cs H)):=λb o e=>j (KX b o e) (by
   cases q:eT cs H b with
   |none=>rfl
   |some u =>
    cases t:Ts.lookup b with
    |some i=>rw[(C b i t).2.2] at e;cases e
    |none =>
     let e':b=a:=hA b t (by rw[q];simp);subst e'
     rw[hK (by rw[(xZ q).2];simp)] at e;cases e)
  let NH:∀b i,Ts.lookup b=ζ i->(hY c.heap (eT cs H)).BuiltinsAt G b:=λb i t=>by
   let⟨B,ob,b1,b2,L,b4,b5,Z⟩:=hB;refine⟨B,ob,b1,b2,λz=>?_,λz=>?_,j L ?_,b4,b5,Z⟩
   .let⟨o,X,Y,T,p,_⟩:=O
    rw[z,T] at L;cases L;rw[p] at Z;cases Z
   .let:=(C b i t).1
    rw[z,this] at L;cases L;cases Z
   .cases q:eT cs H B with
    |none=>rfl
    |some u =>
     cases t':Ts.lookup B with
     |some NI =>
      let:=(C B NI t').1;rw[L] at this;cases this;cases Z
     |none =>
      let e':B=a:=hA B t' (by rw[q];simp);rw[e',Q] at L;cases L;cases Z
  let hM:Mod K G (hY c.heap (eT cs H)):=⟨DT,D O,⟨mb,D l,NB⟩,let⟨mc,h1,h2⟩:=x4;⟨mc,D h1,h2⟩⟩
  let e0:jH P w K G (hY c.heap (eT cs H)) callerA [] c H:=⟨rfl,hM,λb o e=>⟨(Bh e).1,by
   let z:=(Bh e).2;unfold eT at z
   cases q:cs b with
   |none=>rw[q] at z;exact .inl z
   |some u =>
    let⟨y,rfl⟩:=U.ct q
    calc .inr ⟨y,DR b _ q⟩⟩,q2H (IC _ _),trivial,λb l=>absurd (show b∈([]:-ξ) from l) (by simp),bf,.of_eq hg⟩
  refine YF ((F _ DT (D O) NH).run callerA [] c H ⟨[.ref a],[]⟩ [.ref a] [.ref a] _ _ hr e0 (S c (.ref a)) (.cons rfl .nil) (NC H hO DR hS)) λr I h=>?_
  cases r with
  |error e=>exact(ND H e I h).elim
  |ok fl =>
   cases fl with
   |next=>exact XN h
   |brk=>exact XN h
   |cont=>exact XN h
   |ret u =>
    let⟨v,H',os,bare,un,M,r',q⟩:=h;let q':v=.bl θ:=q;subst q';obtain rfl:u=Y9 θ:=r'
    let all:∀b o,c.heap.get? b=ζ o->asItWas c.heap I.heap b o/\∃o',I.heap.get? b=ζ o':=λb o e=>by
     rcases hO b with⟨i,t,z⟩|⟨t,z|⟨ob,y,z⟩|⟨y,z⟩⟩
     .let⟨N,z2⟩:=un.iX b i z
      let p:I.heap.get? b=ζ {cls:=.none,data:=.fields (i++N)}:=M b _ z2;let T:=(C b i t).1;rw[e] at T;cases T;exact⟨.inr (.inl ⟨(C b i t).2.1,rfl,i,N,rfl,p⟩),_,p⟩
     .let p:=un.keep b o e z (by ext z;calc absurd (show b∈([]:-ξ) from z) (by simp)) (by simp)
      exact⟨.inl p,_,p⟩
     .let z2:=un.iW b ob _ z
      let⟨T,_⟩:=bf b _ z;let⟨p,_⟩:=M b _ z2;rw[e] at T;cases T;exact⟨.inl p,_,p⟩
     .let p:=un.ij b y o z e (by simp)
      exact⟨.inl p,_,p⟩
    exact⟨rfl,⟨λb o e=>(all b o e).1,λb o e=>(all b o e).2⟩,os,bare⟩
 let A:∀(H:Hp) b i,Ts.lookup b=ζ i->bp P w H c.heap b (.tbl i):=λH b i t=>(C b i t).1
 let E:∀{b:ξ}{R:Prop},(∀o,cs b=ζ o->R)->(cs b=η->R)->R:=λ{b R} f g=>by
  cases q:cs b with
  |none=>exact g q
  |some o=>exact f o q
 let DU:∀{H:Hp}{b:ξ}{o u:HO},cs b=ζ o->k6 cs H b=ζ u->bp P w (k6 cs H) c.heap b u:=λ{H b o u} q z=>by
  rw[uu q] at z;cases z;let⟨y,rfl⟩:=U.ct q;exact U.ok q
 let cO:∀{H:Hp}{b:ξ}{o:HO},cs b=ζ o->(∃i,Ts.lookup b=ζ i/\k6 cs H b=ζ (.tbl i))\/(Ts.lookup b=η/\(k6 cs H b=η\/(∃o y,k6 cs H b=ζ (.frz o (.lst y)))\/∃y,k6 cs H b=ζ (.tup y))):=λ{H b o} q=>by
  let⟨y,rfl⟩:=U.ct q;refine .inr ⟨?_,.inr (.inr ⟨y,uu q⟩)⟩
  cases t:Ts.lookup b with
  |none=>rfl
  |some i=>rw[tC t] at q;cases q
 cases hk:K.lookup a with
 |some o =>
  let e:=KX a o hk;rw[Q] at e;cases e
  refine J (k6 cs λb=>(Ts.lookup b).map HO.tbl) (λb=>E (λo q=>cO q) λq=>?_) (λb o q=>uu q) (.inr ⟨_,vs.toArray,_,hk,rfl,rfl,rfl,by rw[KG,x5];calc hl,by simpa using rv⟩) (λb u z=>E (λo q=>DU q z) λq=>?_) (λb t q z=>?_) λz=>?_
  .rw[ny q]
   cases t:Ts.lookup b with
   |some i=>exact .inl ⟨i,rfl,rfl⟩
   |none=>exact .inr ⟨rfl,.inl rfl⟩
  .rw[ny q] at z
   let⟨i,t,rfl⟩:=KJ.mp (show(Ts.lookup b).map HO.tbl=ζ u from z);exact A _ b i t
  .rw[ny q] at z
   exact absurd (show(Ts.lookup b).map HO.tbl=η by rw[t];rfl) z
  .rw[ny aC] at z
   exact absurd (show(Ts.lookup a).map HO.tbl=η by rw[aT];rfl) z
 |none =>
  refine J (k6 cs λb=>if b=a then ζ (.frz {cls:=.type "list",data:=.seq vs.toArray} (.lst (ns.map V.int))) else(Ts.lookup b).map HO.tbl) (λb=>E (λo q=>cO q) λq=>?_) (λb o q=>uu q) (.inl (.inr ⟨{cls:=.type "list",data:=.seq vs.toArray},(ny aC).trans (VE rfl)⟩)) (λb u z=>E (λo q=>DU q z) λq=>?_) (λb t q z=>?_) λ_=>hk
  .rw[ny q]
   by_cases l:b=a
   .subst l
    exact .inr ⟨aT,.inr (.inl ⟨_,_,VE rfl⟩)⟩
   .cases t:Ts.lookup b with
    |some i=>exact .inl ⟨i,rfl,VC l⟩
    |none=>exact .inr ⟨rfl,.inl (VC l)⟩
  .rw[ny q] at z
   by_cases l:b=a
   .let z':=(VE l).symm.trans z
    cases z'
    subst l;exact⟨Q,by rw[nW];calc hl,vs,_,rv,Q⟩
   .let z':=(VC l).symm.trans z
    let⟨i,t,rfl⟩:=KJ.mp z';exact A _ b i t
  .rw[ny q] at z
   by_cases l:b=a
   .exact l
   .calc absurd ((VC l).trans (by rw[t];rfl)) z
theorem NJ{l:q3C}{n k:Nat}{q:ψ}{i:-π}{N:(π->Option ν)->Α->Prop}{t:ω->Α->Prop}{d:DefRec}{K:ω->KD}{CX:ω->kS}{sp:ω->Sp}{x:π}{Ts:ω->-(ξ×Array ν)}{cs:ω->Hp}
  (hn:l.most=ζ n) (A:n<=sizeLine) (B:d.params.defaults=[]) (O:bw k callerA)
  (P:∀(w:ω)(h:Α),t w h->(K w).In h)
  (Q:∀(w:ω)(h:Α),t w h->∀b y,(Ts w).lookup b=ζ y->h.get? b=ζ {cls:=.none,data:=.fields y}/\isCodeTable h b/\(K w).lookup b=η)
  (R:∀(w:ω)(h:Α),t w h->Cs l.prog w (cs w) h)
  (F:∀(w:ω)(j:π->Option ν)(z:ξ)(h:Α),(K w).In h->h.Ns mainGlobals j->j d.name=ζ (.ref z) →
   ∃C:FuncData,(∀(s:ο)(u:ν),BindsTo s C ⟨[u],[]⟩ [(x,u)]) ∧
    ∀base:Α,(K w).In base->base.Ns mainGlobals j->(∀b y,(Ts w).lookup b=ζ y->base.BuiltinsAt j b)->cG l.prog w (K w) j base (CX w) k z C [x] (sp w))
  (D:∀(w:ω)(H:Hp)(a:ξ)(ns:-Int),↑ns<=n->xY (Ts w) H->a_ (cs w) H->bS (K w) H a (ns.map V.int)->sp w [.ref a] H (λv _=>v=.bl θ) λ_ _ _=>False)
  (E:∀(w:ω)(H:Hp)(s:ο)(e:ν)(s':ο),CX w [] H s (λ_ _ _=>False) e s'->False) :
  PySem.W.WalkO q i N t l.row.toRowW d [] (λf vs=>q3V f vs):=by
 calc Att.ja hn B λw L p j mb z o pm cd X a vs S G Y ho hd Z I r m c hg=>?_;let M:=P w _ Y;let⟨C,hb,hF⟩:=F w j z _ M G.T.g I;calc NA (Ts w) (R w _ Y) (Q w _ Y) M G.T.g G.T.b G.T.builtins G.T.nolimit hg r m (Wr c A) O G.T.bmain hF hb (λH hO J hS=>D w H a S c hO J hS) λH e U=>E w H p e U
section
variable{X:Cx}{pins:a5}{σ:St}{H:Hp}{s:L}{h':Q}
theorem Inv.grow{T c f:U}{ps more:Array ν}{oc of:HO}{t':Nat}(I:Inv X pins σ H s)(g:H T=ζ (.tbl ps))(k:∀b u,b≠T->s.heap.get? b=ζ u->h'.get? b=ζ u)(i:h'.get? T=ζ {cls:=.none,data:=.fields (ps++more)})
  (j:⇑s<=c) (l:⇑s<=f) (F:c≠f) (m:∀H2,bp X.prog X.w H2 h' c oc) (p:∀H2,bp X.prog X.w H2 h' f of) :
  Inv X pins σ (upd (upd (upd H T (.tbl (ps++more))) c oc) f of) {s with heap:=h',toks:=t'}:=by
 let x:T<⇑s:=(I.bf T _ g).lt;let G:c≠T:=Yc (VS x j);let J:f≠T:=Yc (VS x l);let K:H c=η:=I.bf.fresh j;let L:H f=η:=I.bf.fresh l
 let h:∀b,b<⇑s->b≠T->upd (upd (upd H T (.tbl (ps++more))) c oc) f of b=H b:=λb A M=>by
  rw[bt (VF (VS A l)),bt (VF (VS A j)),bt M]
 let r:upd (upd (upd H T (.tbl (ps++more))) c oc) f of T=ζ (.tbl (ps++more)):=by
  rw[bt (Yz J),bt (Yz G),cw]
 let B:∀b u,H b=ζ u->b<⇑s:=λb u e=>(I.bf b u e).lt
 let a:∀b u,H b=ζ u->(∀N,u≠.tbl N)->upd (upd (upd H T (.tbl (ps++more))) c oc) f of b=ζ u:=λb u e n=>by
  rw[h b (B b u e) (λz=>by subst z;rw[g] at e;cases e;calc n _ Y)];exact e
 refine I.un (t':=t') ⟨λb o e n _ _=>k b o (λz=>by subst z;rw[g] at n;cases n) e,λb o e n _ _=>⟨o.slots,k b o (λz=>by subst z;rw[g] at n;cases n) e⟩,λb o e n _=>?_,λb o e _=>?_,λb C e=>a b _ e (λ_ z=>by cases z),λb o u e=>a b _ e (λ_ z=>by cases z),λb qs e=>?_,λb C o q e _=>k b o (λz=>by subst z;rw[g] at q;cases q) e⟩ λb u e=>?_
 .rw[h b (Vz e) (λz=>by subst z;rw[g] at n;cases n)];exact n
 .by_cases z:b=T
  .subst z;exact⟨_,i⟩
  .exact⟨o,k b o z e⟩
 .by_cases z:b=T
  .subst z;rw[g] at e;cases e;exact⟨more,r⟩
  .exact⟨#[],by rw[h b (B b _ e) z,e];simp⟩
 .by_cases D:b=f
  .subst D;rw[cw] at e;cases e;exact p _
  .rw[bt D] at e
   by_cases E:b=c
   .subst E;rw[cw] at e;cases e;exact m _
   .rw[bt E] at e
    by_cases t:b=T
    .subst t;rw[cw] at e;cases e;exact i
    .rw[bt t] at e
     refine bp.iV (I.bf b u e) (λd v O q=>?_) (λd q=>a d _ q (λ_ z=>by cases z)) (λd C q=>a d _ q (λ_ z=>by cases z))
     .refine k d v (λy=>?_) q
      subst y;rcases O with y|y
      .exact t y.symm
      .rw[g] at y;cases y
noncomputable def l6(c:U)(q:R):HO:=.ext λh=>∃o a b,h.get? c=ζ o/\o.data=.fields a/\a[1]?=ζ (.str q b)
theorem NK{P:ψ}{w:ω}{H:Hp}{h:Q}{c:U}{q:R}(e:h.CodeRec (.ref c) q):bp P w H h c (l6 c q):=by
 let⟨c',o,a,b,z,d,f,g⟩:=e;cases z
 calc⟨⟨o,a,b,d,f,g⟩,⟨o,d⟩,λm n ⟨o,a,b,i,j,l⟩ k↦⟨o,a,b,k o i,j,l⟩⟩
theorem NL{P:ψ}{w:l}{H:Hp}{h:Q}{c:U}{q:R}(x:bp P w H h c (l6 c q)):h.CodeRec (.ref c) q:=by
 let⟨⟨o,a,b,d,e,f⟩,_⟩:=x;calc⟨c,o,a,b,Y,d,e,f⟩
end
end L2
namespace L2
open PySem PySem.Spec PyProof.Rows PySem.W
section
variable{X:Cx}{pins:a5}{σ:St}{H:Hp}{s:L}{params:Arguments}{body:J}{scope:o}{pos:I}{kG:-(R×U)}{cc T:U}{ps:Array M}{E:br}{Q:br}
noncomputable def jP(f:U)(name b:R)(a:Arguments)(c:J)(scope:o)(d:-(R×U))(g i:M):HO:=.ext λh=>∃e,h.get? f=ζ {cls:=.type "function",data:=.func (kla_fn name b a c scope d g i e)}
def fU(H:Hp)(T:U)(pos:I)(a:R):Prop:=∃b,H T=ζ (.tbl b)/\TriplesOk b.toList/\(codeAmong pos b.toList=η\/∃c,codeAmong pos b.toList=ζ (.ref c)/\H c=ζ (l6 c a))
theorem NM(I:Inv X pins σ H s)(hT:fU H T pos (X.env.qual++"<lambda>"))(r:defaultsOf params X.env=([],[]))(t:closureFor scope X.env=pure kG)(j:X.env.code=.ref cc)(C:CodeHd s.heap cc T)(M:mainGlobals≠T)(V:s.heap.Ns mainGlobals X.mg)(W:s.heap.BuiltinsAt X.mg T)
  (h:∀f H' s' c,Inv X pins σ H' s'->fU H' T pos (X.env.qual++"<lambda>")->(∀b o,H b=ζ o->b≠T->H' b=ζ o)->H f=η->H' f=ζ (jP f "<lambda>" (X.env.qual++"<lambda>") params body scope kG ((X.mg "__name__").getD .none) (.ref c))->H' c=ζ (l6 c (X.env.qual++"<lambda>"))->Q (.ref f) s') :
  ρ (ς X.prog X.w) X.A (eval (.Lambda params body scope pos) X.env) Q E s:=by
 let⟨n,K,x,L⟩:=hT;let p:s.heap.get? T=ζ {cls:=.none,data:=.fields n}:=I.bf T _ K;calc kla_eval r ?_;rcases L with y|⟨c,L,l⟩
 .refine kla_makeFunction t I.ok.glob V j C p x y M W λd q i N hx m z B O=>?_
  let g:⇑s<=i.objs.size:=Xd (Zz m z);let Y:T<⇑s:=Vz p;let P:T≠i.objs.size:=VF (VS Y g);let R:T≠d:=VF (VS Y m);let D:d≠i.objs.size:=VF z;let F:(n ++ #[rawInt pos.line,rawInt pos.col,WQ d]).toList=n.toList++[rawInt pos.line,rawInt pos.col,WQ d]:=by simp
  let S:upd (upd (upd H T (.tbl (n ++ #[rawInt pos.line,rawInt pos.col,.ref d]))) d (l6 d (X.env.qual++"<lambda>"))) i.objs.size (jP i.objs.size "<lambda>" (X.env.qual++"<lambda>") params body scope kG ((X.mg "__name__").getD .none) (.ref d)) T=ζ (.tbl (n ++ #[rawInt pos.line,rawInt pos.col,.ref d])):=by
   rw[bt P,bt R,cw]
  let G:upd (upd (upd H T (.tbl (n ++ #[rawInt pos.line,rawInt pos.col,.ref d]))) d (l6 d (X.env.qual++"<lambda>"))) i.objs.size (jP i.objs.size "<lambda>" (X.env.qual++"<lambda>") params body scope kG ((X.mg "__name__").getD .none) (.ref d)) d=ζ (l6 d (X.env.qual++"<lambda>")):=by
   rw[bt D,cw]
  refine h i.objs.size _ _ d (I.grow (t':=N) (oc:=l6 d (X.env.qual++"<lambda>")) (of:=jP i.objs.size "<lambda>" (X.env.qual++"<lambda>") params body scope kG ((X.mg "__name__").getD .none) (.ref d)) K (λb u U e=>B5 _ (hx b u U e)) (B5 _ O) m g D (λ_=>NK (B.push _)) λ_=>?_) ⟨_,S,?_,.inr ⟨d,?_,G⟩⟩ (λb o e U=>?_) (I.bf.fresh g) cw G
  .exact⟨⟨q,UD _ rfl⟩,⟨_,UD _ rfl⟩,λh1 h2 ⟨v,e⟩ k↦⟨v,k _ e⟩⟩
  .rw[F];exact TriplesOk_snoc _ _ _ _ x
  .rw[F];exact codeAmong_snoc _ x y
  .let Z:b<⇑s:=(I.bf b o e).lt
   rw[bt (VF (VS Z g)),bt (VF (VS Z m)),bt U];exact e
 .refine kla_makeFunctionHit t I.ok.glob V j C p x L W λq i N hk g=>?_
  let J:H i.objs.size=η:=I.bf.fresh g;refine h i.objs.size _ _ c (I.laid (a:=i.objs.size) (o:=jP i.objs.size "<lambda>" (X.env.qual++"<lambda>") params body scope kG ((X.mg "__name__").getD .none) (.ref c)) (t':=N) (λb u e=>B5 _ (hk b u e)) g ?_) ⟨n,?_,x,.inr ⟨c,L,?_⟩⟩ (λb o e _=>?_) J cw ?_
  .exact⟨⟨q,UD _ rfl⟩,⟨_,UD _ rfl⟩,λh1 h2 ⟨v,e⟩ k↦⟨v,k _ e⟩⟩
  .rw[bt (ed K J)];exact K
  .rw[bt (ed l J)];exact l
  .rw[bt (ed e J)];exact e
  .rw[bt (ed l J)];calc l
end
structure LD where
 A:t
 cl:-(R×U)
 f:U
 cd:M
 s:L
 H:Hp
@[reducible] noncomputable def mF (X:Cx) (a:R) (scope:o) (Nb:-R) (d:LD):Cx where
 prog:=X.prog
 w:=X.w
 K:=X.K
 mg:=X.mg
 base:=X.base
 A:=d.A.deeper (envX a scope ⇑d.s d.f d.cd d.cl)
 N:=Nb
 s₀:=d.s
 H₀:=d.H
 env:=envX a scope ⇑d.s d.f d.cd d.cl
 outer:=X.stack
 stack:=envX a scope ⇑d.s d.f d.cd d.cl::X.stack
 ex:=[]
 fn:=λ_=>ι
 calm:=true
 pn:=[]
 xe:=λ_ _=>False
noncomputable def uv(N:-R)(a scope:o)(x:R)(Nb:-R)(cp:-(Option Nat)):Bool :=
 lh N a scope (x::Nb) (η::cp)&&(scope.names.all λy=>S (y.2≠.cell))&&S (scope.names.lookup x=ζ .local)&&cp.all (·.isSome)
section
variable{X:Cx}{pins:a5}{σ:St}{H:Hp}{s:L}{params:Arguments}{body:J}{scope:o}{cl:-(R×U)}{E:br}{Q:VK}{name qual x:R}{f c:U}{pm:M}{A:Β}{v:V}{u:M}{Nb:-R}{cp:-(Option Nat)}{t:TE}
theorem NN(I:Inv X pins σ H s)(hf:H f=ζ (jP f name qual params body scope cl pm (.ref c)))(hc:H c=ζ (l6 c qual))(hA:A.frames=ζ X.stack)(hh:A.handled=η)(hd:A.depth<recursionLimit)
  (V:scope.kind=.function) (L:uv X.N X.env.scope scope x Nb cp=θ) (W:scope.isCoroutine=ι) (M:scope.isGenerator=ι)
  (l:∀y c,cl.lookup y=ζ c->X.env.cells.lookup y=ζ c) (O:∀y∈scope.names,y.2=.free->∃c,cl.lookup y.1=ζ c)
  (hb:∀(ct:ν),bindArgs (kla_fn name qual params body scope cl pm (.ref c) ct) ⟨[u],[]⟩=pure [(x,u)]) (r:RelV v u)
  (J:JE (mF X qual scope (x::Nb) ⟨A,cl,f,.ref c,s,H⟩) body t) (h:t (ζ v::jx cp σ) H Q):ρ (ς X.prog X.w) A (call (.ref f) [u]) (EP X pins σ Q) E s:=by
 unfold uv at L;erw[Xo,Yg,V0] at L;let⟨⟨⟨L,P⟩,hx⟩,cps⟩:=L;let S:=x5Y V L;let⟨⟨ct,Y⟩,_⟩:=I.bf f _ hf;let Z:=NL (I.bf c _ hc);calc q0w (kla_callFunE hd Y rfl W M rfl Z ?_);rw[hb ct];calc B7 (wpAny_newFunctionEnv (λy g=>P y g) (λy g=>by rw[Wn.mp g];calc hx) (λC NO NP=>?_) V);let a:∀b o,s.heap.get? b=ζ o->C.get? b=ζ o:=λb o e=>NP.extBut b o (VF (Vz e)) (B5 _ e);calc⟨I.nolimit.keeps a,?_⟩;let D:=I.nQ;show codeAny _ _ (.expr body (envX qual scope ⇑s f (.ref c) cl)) _ _;let G:∀b:ξ,b∉(mF X qual scope (x::Nb) ⟨A,cl,f,.ref c,s,H⟩).ex:=λb z=>absurd (show b∈([]:-ξ) from z) (by simp)
 let B:∀{y:π}{k:NameKind},scope.names.lookup y=ζ k->(y,k)∈scope.names:=λe=>XM e
 let I1:Inv (mF X qual scope (x::Nb) ⟨A,cl,f,.ref c,s,H⟩) [] (ζ v::jx cp σ) H {s with heap:=C,toks:=s.toks+↑[(x,u)]}:=by
  refine⟨⟨D.mod,V,rfl,rfl,B6 _,λy z d K F=>I.ok.inj y z d (l y d K) (l z d F),λy g=>?_,λy d z _=>(by cases z),λ_=>hh,q10 hA,.inr ⟨rfl,rfl⟩,λb z=>absurd z (G b),D.bs,D.k_,λb _ _=>G b,λb z=>absurd z (G b),D.fj,D.lT⟩,
   rfl,D.bare,Un.kept a,⟨_,NO,λi y w K F h3=>?_⟩,λy d g=>?_,D.bf.fresh (B6 _),λy d g=>I.dB y d (l y d g),λp hp=>absurd (show p∈([]:a5) from hp) (by simp),D.bf.kept a,?_⟩
  .let g:scope.names.lookup y=ζ .cell\/scope.names.lookup y=ζ .free:=g
   rcases g with g|g
   .exact absurd rfl (P _ (B g))
   .exact O _ (B g) rfl
  .cases i with
   |zero =>
    cases(show ζ x=ζ y by simpa using K)
    cases(show v=w by simpa using F)
    exact⟨u,r,.inl ⟨hx,by simp⟩⟩
   |succ j =>
    let K:Nb[j]?=ζ y:=by simpa using K
    let F:(jx cp σ)[j]?=ζ (ζ w):=by simpa using F
    unfold jx at F;rw[B8] at F;let⟨o,q1,n⟩:=KJ.mp F
    match o,n with
    |none,n=>cases n
    |some R,n =>
     let n:(σ[R]?).join=ζ w:=n;let⟨n1,n2⟩:=S.qK (j+1) R y q1⁻¹ K⁻¹
     let T:σ[R]?=ζ (ζ w):=by
      cases q:σ[R]? with
      |none=>rw[q] at n;cases n
      |some z=>rw[q] at n;cases(show z=ζ w from n);rfl
     let kd:=S.free _ (B n2) rfl;let⟨m,hn,hl⟩:=I.loc;let⟨u',rv,lk⟩:=hl R y w n1 T (by rcases kd with z|z;calc .inr (.inl z);calc .inr (.inr z));calc⟨u',rv,?_⟩;rcases lk with⟨z,_⟩|⟨_,d,e1,o,e2,e3⟩
     .rcases kd with k|k<;>(rw[show X.env.kindOf y=ζ .local from z] at k;cases k)
     .let⟨d',e4⟩:=O _ (B n2) rfl
      let:=l _ _ e4;rw[e1] at this;cases this;exact .inr ⟨.inr n2,d,e4,o,a _ _ e2,e3⟩
  .let⟨z,o,e2,e3⟩:=I.cell y d (l y d g)
   exact⟨z,o,a _ _ e2,e3⟩
  .let:=S.len
   show↑(ζ v::jx cp σ)=↑(x::Nb);unfold jx;rw[wo,nW];simpa using this
 calc kla_codeExpr (X0 (J [] _ _ H Q I1 h) (λu' s' T=>?_) λe s' T=>T.elim);let⟨w,H',U,rv,q⟩:=T;calc I.after ⟨w,H',U.os,U.bare,U.base,U.bf,rv,q⟩
end
def kH(h:Q)(k:LK)(v:M):Prop:=∃a o b n,v=.ref a/\h.get? a=ζ o/\o.cls=.type "tuple" /\ o.data=.seq b n/\IntsAre b.toList k
section
variable{prog:X}{w:l}{A:t}{E:br}{s:L}{Q:Bool->L->Prop}
theorem DW{a:Bool}:∀{us ws:-M}{ks ls:LK}(i:Nat),IntsAre us ks->IntsAre ws ls->a=S (↑us<↑ws)->Q (HT.lexLt ks ls) s->KatLex prog w A θ a Q (us.zip ws) i s
 |_,_,_,_,i,.nil,.nil,b,h=>by
  rw[Ze];subst b;exact h
 |_,_,_,_,i,.nil,.cons m u r,b,h=>by
  rw[Ze];let:a=θ:=by rw[b];simp
  subst this;exact h
 |_,_,_,_,i,.cons n t r,.nil,b,h=>by
  rw[q0C];let:a=ι:=by rw[b];simp
  subst this;exact h
 |_,_,_,_,i,.cons n t r,.cons m u c,b,h=>by
  rw[YE];refine kat_cons (q1h (kat_go (λe=>?_) λe=>?_))
  .let e:n=m:=XX e
   subst e;rw[HT.lV,VE Y] at h;exact kat_yes (DW (i+1) r c (by rw[b];simp) h)
  .let e:¬ n=m:=λz=>by subst z;simp at e
   rw[HT.lV,VC e] at h;refine kat_no ?_
   cases q:(θ&&i==0) with
   |true=>exact oneLt_int h
   |false=>calc kat_one _ _ (q0m h)
theorem NQ{k l:LK}{x y:M}(c:kH s.heap k x)(d:kH s.heap l y)(h:Q (HT.lexLt k l) s):G (B prog w) A (keyLt' (tuples' θ) x y) Q E s:=by
 let⟨a,o,p,n,rfl,e,_,f,g⟩:=c;let⟨b,q,r,t,rfl,i,_,j,m⟩:=d;calc kat_lt e f i j (DW 0 g m (by rw[UC,UC]) h)
theorem DX{h:Α}:∀{keys:-M}{ks:-LK},(∀k∈ks,k≠[])->↑keys=↑ks->(∀(i:Nat)(k:LK)(v:M),ks[i]?=ζ k->keys[i]?=ζ v->kH h k v)->∃fs,KatTups h keys fs/\fs.length=↑keys/\∀v∈fs,∃n t,v=Xm n t
 |[],[],_,_,_=>⟨[],.nil,Y,λv b=>nomatch b⟩
 |[],_::_,_,c,_=>by simp at c
 |_::_,[],_,c,_=>by simp at c
 |v::keys,k::ks,d,c,g=>by
  let⟨p,t,u,w⟩:=DX (h:=h) (keys:=keys) (ks:=ks) (λk e=>d k (UA _ e)) c⁻¹ λi k v q s=>g (i+1) k v q⁻¹ s⁻¹;let⟨a,o,j,n,rfl,x,y,z,l⟩:=g 0 k v Y Y;let e:=d k Uz;generalize A:j.toList=C at l
  cases l with
  |nil=>exact absurd Y e
  |cons m f r =>
   let B:j[0]?=ζ (.int m f):=by rw[<-Wt,A];rfl
   calc⟨.int m f::p,.cons x y z B t,by rw[wo,wo,u],λv b=>?_⟩;rcases Uy.mp b with rfl|b
   .exact⟨m,f,Y⟩
   .calc w v b
theorem NR{M:Model}{keys:-ν}{ks:-LK}{Q:SortKind->L->Prop}(f:0<↑keys)(a:∀k∈ks,k≠[])(b:↑keys=↑ks)(c:∀(i:Nat) (k:LK) (v:ν),ks[i]?=ζ k->keys[i]?=ζ v->kH s.heap k v)(h:Q (tuples' θ) s):
  G M A (keyKind' keys.toArray) Q E s:=by
 let⟨g,t,j,d⟩:=DX a b c;refine kat_kind (T:=.type "int") t ⋯ (λv e=>?_) (by decide) ?_
 .let⟨n,l,rfl⟩:=d v e
  exact .now
 .calc h
theorem getD_some{a:Type}{l:-a}{i:Nat}{d:a}(h:i<↑l):l[i]?=ζ (l.getD i d):=by
 rw[tE h,KH,tE h];rfl
end
section
variable{X:Cx}{pins:a5}{σ:St}{H:Hp}{s:L}{A:t}{E:br}{a:U}{vs:-M}{f:M}
theorem Inv.ie{h':Q}{t':Nat}{b:U}(I:Inv X pins σ H s)(a:cz X pins H b)(k:∀c o,c≠b->s.heap.get? c=ζ o->h'.get? c=ζ o):Inv X pins σ H {s with heap:=h',toks:=t'} :=
 I.turned k a.1 a.2.1 a.2.2.2.1 a.2.2.2.2.1 a.2.2.2.2.2
theorem Inv.kI{b:U}{o:Γ}(I:Inv X pins σ H s)(a:cz X pins H b)(e:s.heap.get? b=ζ o)(d:∀v,o.data≠.cell v):Inv X ((b,o)::pins) σ H s :=
 I.gX λp c=>by
  rcases Uy.mp c with rfl|c
  .exact⟨e,a.1,a.2.1,a.2.2.1,d⟩
  .calc I.pin p (V7 _ c)
theorem Inv.gr{p:U×Γ}(I:Inv X (p::pins) σ H s):Inv X pins σ H s:=I.gX λq a=>I.pin q (V7 _ (UA _ a))
theorem cz.cons{b:U}{p:U×Γ}(f:cz X pins H b)(n:p.1≠b):cz X (p::pins) H b :=
 ⟨f.1,f.2.1,f.2.2.1,f.2.2.2.1,f.2.2.2.2.1,λq a=>by
  rcases VZ.mp a with z|z
  .exact f.2.2.2.2.2 q (XD _ z)
  .rcases Uy.mp z with rfl|z
   .exact n
   .calc f.2.2.2.2.2 q (V7 _ z)⟩
theorem x6{c:String}{xs:Array M}{n:Nat}:∀v,(seqObj c xs n).data≠.cell v:=λv z=>by cases z
end
section
variable{prog:X}{w:l}{A:t}{E:br}{s:L}
end
section
variable{X:Cx}{pins:a5}{σ:St}{H:Hp}{s:L}{E:br}
theorem Inv.rP{a:U}{o:HO}(I:Inv X pins σ H s)(j:cz X pins H a)(k:⇑X.s₀<=a)(g:bp X.prog X.w (upd H a o) s.heap a o):Inv X pins σ (upd H a o) s:=by
 let⟨l,m,E,_,r,t⟩:=j;let d:∀{b u},H b=ζ u->b≠a:=λe z=>by rw[z,l] at e;cases e
 refine⟨I.ok,I.os,I.bare,⟨I.base.keep,I.base.slot,λb u e n y=>?_,I.base.there,λb h e=>?_,λb u v e=>?_,λb A e=>?_,I.base.ij⟩,I.loc,I.cell,?_,λx c e=>?_,λp i=>?_,λb u e=>?_,I.len⟩
 .rw[bt (VF (VS (Vz e) k))];exact I.base.free b u e n y
 .let:=I.base.ig b h e
  rw[bt (d this)];exact this
 .let:=I.base.iW b u v e
  rw[bt (d this)];exact this
 .let⟨f,this⟩:=I.base.iX b A e
  exact⟨f,by rw[bt (d this)];calc this⟩
 .rw[bt (Yz m)];exact I.free
 .rw[bt (r x c e)];exact I.dB x c e
 .let⟨B,C,D⟩:=I.pin p i
  exact⟨B,by rw[bt (t p i)];calc C,D⟩
 .by_cases z:b=a
  .subst z;rw[cw] at e;cases e;exact g
  .rw[bt z] at e
   refine(I.bf b u e).iV (λc v _ q=>q) (λc q=>?_) λc h q=>?_
   .rw[bt (d q)];exact q
   .rw[bt (d q)];calc q
theorem NS{xs:-V}{vs:-M}(r:Vals xs vs){p:-Nat}(a:∀i∈p,i<↑vs):Vals (p.map λi=>xs.getD i .non) (p.map λi=>vs.getD i WB):=by
 induction p with
 |nil=>exact .nil
 |cons i q e =>
  calc .cons ?_ (e λj f=>a j (UA _ f));let b:=a i Uz;let⟨u,c,g⟩:=r.get (getD_some (l:=xs) (d:=V.non) (by rw[↑r];calc b));let:=getD_some (l:=vs) (d:=WB) b;rw[this] at c;cases c;calc g
theorem e_.mem{n:Nat}{p:Array Nat}(h:e_ n p){i:Nat}(a:i∈p.toList):i<n:=by
 let:=(q0H.mp h.perm).mem_iff.mp a;simpa using this
end
theorem ax.at{H:Hp}{ds:-D}{vs:-V}{i:Nat}{d:D}{v:V}(h:ax H ds vs)(b:ds[i]?=ζ d)(c:vs[i]?=ζ v):Is H d v:=by
 let⟨d',a,e⟩:=h.get c;rw[b] at a;cases a;calc e
theorem ax.rQ{H:Hp}:∀{ds:-D}{vs:-V},↑vs=↑ds->(∀(i:Nat)(d:D),ds[i]?=ζ d->∃v,vs[i]?=ζ v/\Is H d v)->ax H ds vs
 |[],[],_,_=>.nil
 |[],_::_,h,_=>by simp at h
 |_::_,[],h,_=>by simp at h
 |d::b,v::c,h,g=>by
  let⟨v',e,a⟩:=g 0 d Y;cases(show ζ v=ζ v' from e)
  calc .cons a (ax.rQ h⁻¹ λi d e=>by simpa using g (i+1) d e⁻¹)
structure lE where
 T:U
 pos:I
 qual:R
theorem fU.same{H H':Hp}{T:U}{pos:I}{q:R}(h:fU H T pos q)(s:a_ H H'):fU H' T pos q:=by
 let⟨a,e,t,c⟩:=h;calc⟨a,s _ _ e,t,c.imp id λ⟨c,b,d⟩↦⟨c,b,s _ _ d⟩⟩
theorem fU.keep{H H':Hp}{T a:U}{pos:I}{q:R}(h:fU H T pos q)(i:T≠a)(f:∃d,H a=ζ (.tbl d))(s:∀b o,H b=ζ o->b≠a->H' b=ζ o):fU H' T pos q:=by
 let⟨d,e,t,c⟩:=h;calc⟨d,s _ _ e i,t,c.imp id λ⟨c,j,g⟩=>⟨c,j,s _ _ g λz=>?_⟩⟩;let⟨k,f⟩:=f;rw[z,f] at g;cases g
theorem fU.put{H:Hp}{T a:U}{pos:I}{q:R}{o o':HO}(h:fU H T pos q)(j:H a=ζ o)(l:(∃vs,o=.lst vs)\/(∃ws,o=.dK ws)\/(∃ws,o=.dT ws)\/∃C f ws,o=.ins C f ws):fU (upd H a o') T pos q:=by
 let⟨m,e,t,c⟩:=h
 let g:∀{b u},H b=ζ u->(∀k,u≠.lst k)->(∀d,u≠.dK d)->(∀d,u≠.dT d)->(∀C f d,u≠.ins C f d)->b≠a:=λ{b u} e n p r s z=>by
  subst z;rw[j] at e;cases e;rcases l with⟨_,z⟩|⟨_,z⟩|⟨_,z⟩|⟨_,_,_,z⟩
  .exact n _ z
  .exact p _ z
  .exact r _ z
  .exact s _ _ _ z
 calc⟨m,by rw[bt (g e (λ_ z=>by cases z) (λ_ z=>by cases z) (λ_ z=>by cases z) λ_ _ _ z=>by cases z)];calc e,t,c.imp id λ⟨c,v,i⟩=>⟨c,v,?_⟩⟩;rw[bt (g i (λ_ z=>by cases z) (λ_ z=>by cases z) (λ_ z=>by cases z) λ_ _ _ z=>by cases z)];calc i
structure CC where
 cs:Hp
 ct:∀{a:U}{o:HO},cs a=ζ o->∃vs,o=.tup vs
@[reducible] noncomputable def g8 (ls:-lE) (C:CC):a8 where
 ad:=ls.map (·.T)
 ok:=λH=>(∀l∈ls,fU H l.T l.pos l.qual)/\a_ C.cs H
 same:=λh s=>⟨λl a=>(h.1 l a).same s,h.2.trans s⟩
 put:=λh c d=>⟨λl a=>(h.1 l a).put c d,λb o e=>by
  let:=h.2 b o e
  rw[bt λz=>by
   subst z;let⟨g,rfl⟩:=C.ct e;rw[c] at this;cases this
   rcases d with⟨_,z⟩|⟨_,z⟩|⟨_,z⟩|⟨_,_,_,z⟩<;>cases z]
  calc this⟩
 tb:=λh c=>by
  let⟨l,a,rfl⟩:=VI.mp c;let⟨f,e,_⟩:=h.1 l a;exact⟨f,e⟩
 cs:=C.cs
 ct:=C.ct
 co:=λh=>h.2
variable[a8]
structure x8(T:U)(pos:I)(q:R):Prop where
 mem:T∈a8.ad
 get:∀H:Hp,a8.ok H->fU H T pos q
 put:∀H H':Hp,a8.ok H->fU H' T pos q->(∀b o,H b=ζ o->b≠T->H' b=ζ o)->a8.ok H'
omit [a8] in
theorem NU {ls:-lE} {l:lE} (hl:l∈ls) (nd:∀a∈ls,∀b∈ls,a.T=b.T->a=b) {C:CC}:@x8 (g8 ls C) l.T l.pos l.qual:=by
 letI:a8:=g8 ls C;refine⟨Zq hl,λH h=>h.1 l hl,λH H' h t k=>⟨λl' uw=>?_,λb o e=>?_⟩⟩
 .by_cases z:l'.T=l.T
  .rw[nd _ uw _ hl z];exact t
  .let⟨ps,e,_⟩:=h.1 l hl
   exact(h.1 l' uw).keep z ⟨ps,e⟩ k
 .refine k b o (h.2 b o e) λz=>?_
  let⟨ps,e2,_⟩:=h.1 l hl;let⟨vs,rfl⟩:=C.ct e;rw[<-z,h.2 b _ e] at e2;cases e2
structure NV(X:Cx)(T:U):Prop where
 code:∃cc,X.env.code=.ref cc/\CodeHd X.base cc T
 ng:mainGlobals≠T
 blt:X.base.BuiltinsAt X.mg T
section
variable{F H H':Hp}{ad:-U}{δ:aI}{σ:St}
theorem SR.x9(S:SR F ad δ σ H)(k:∀b o,H b=ζ o->b∉a8.ad->H' b=ζ o)(tk:a8.ok H'):SR (Nw F H H') ad δ σ H':=by
 let j:=Nw.same (H':=H') S.sub;let p:∀{a o},F a=ζ o->a∉a8.ad:=λ{a o} e t=>by rw[S.nt a t] at e;cases e
 let s:∀{i a d},ad[i]?=ζ a->δ.mu[i]?=ζ (ζ d)->a∉a8.ad:=λ{i a d} c f t=>by
  let⟨a',o,g,m,h⟩:=S.mu i d f;rw[c] at g;cases g;let⟨r,q⟩:=a8.tb S.tab t;rw[m] at q;cases q;exact h.kind _ Y
 refine⟨λa o e=>?_,λa l=>?_,S.di,S.inj,λi d e=>?_,λi x e=>?_,S.len,tk,S.nt.up j λa n=>?_⟩
 .unfold Nw at e
  cases q:H a with
  |none=>rw[q] at e;exact e
  |some u=>rw[q] at e;exact k a o (S.sub a o e) (p e)
 .let⟨i,d,c,f⟩:=l
  let⟨a',o,g,m,_⟩:=S.mu i d f;rw[c] at g;cases g;unfold Nw;rw[m];exact S.off a ⟨i,d,c,f⟩
 .let⟨a,o,c,f,h⟩:=S.mu i d e
  exact⟨a,o,c,k a o f (s c e),h.same j⟩
 .let⟨v,c,h⟩:=S.sl i x e
  exact⟨v,c,h.same j⟩
 .let⟨r,q⟩:=a8.tb S.tab n
  unfold Nw;rw[q];calc S.nt a n
theorem Ext.x9(S:SR F ad δ σ H)(k:∀b o,H b=ζ o->b∉a8.ad->H' b=ζ o)(tk:a8.ok H'):Ext F ad δ.mu H (Nw F H H') ad δ.mu H' where
 same:=Nw.same S.sub
 new:=λa o e=>by
  unfold Nw at e
  cases q:H a with
  |none=>exact .inr (.inl Y)
  |some u=>rw[q] at e;exact .inl e
 keep:=λa o e _ t=>k a o e t
 pre:=λ_ _ e=>e
 df:=λ_ l=>.inl l
 iB:=λa o e=>by
  by_cases t:a∈a8.ad
  .let⟨c,q⟩:=a8.tb tk t
   exact⟨_,q⟩
  .calc⟨o,k a o e t⟩
theorem SR.rR{sl:-(Option DV)}{mu:-(Option OV)}{a:St}{d:D}{v:V}(S:SR F ad ⟨sl,mu⟩ a H)(h:Is F d v):SR F ad ⟨ζ (.p d)::sl,mu⟩ (ζ v::a) H:=by
 refine⟨S.sub,S.off,S.di,S.inj,S.mu,λi x e=>?_,by let:=S.len;erw[wo];calc congrArg (· + 1) this,S.tab,S.nt⟩
 cases i with
 |zero=>cases(show ζ (ζ (DV.p d))=ζ (ζ x) from e);exact⟨v,Y,h⟩
 |succ i=>calc S.sl i x e
theorem Ext.nz{F' H':Hp}{b:-U}{c:-(Option OV)}{a:U}{o:HO}(S:SR F ad δ σ H)(e:Ext F ad δ.mu H F' b c H')(h:H a=ζ o)(j:∀vs,o≠.lst vs)(k:∀ws,o≠.dK ws)(l:∀d,o≠.tbl d)(m:∀ws,o≠.dT ws)(p:∀C n ws,o≠.ins C n ws:=by ext _ _ _ z;cases z):H' a=ζ o:=by
 refine e.keep a o h (λ⟨i,r,s,v⟩=>?_) λt=>?_
 .let⟨a',u,f,g,q⟩:=S.mu i r v
  rw[s] at f;cases f;rw[h] at g;cases g;rcases q.kd with⟨_,z⟩|⟨_,z⟩|⟨_,z⟩|⟨_,_,_,z⟩
  .exact j _ z
  .exact k _ z
  .exact m _ z
  .exact p _ _ _ z
 .let⟨d,q⟩:=a8.tb S.tab t
  rw[h] at q;calc l _ (WD q)
end
def NW(cp:-(Option Nat))(e:WE)(b:aI)(ds:-D)(a:D->LK):Prop :=
 ∀d∈ds,a d≠[]/\e ⟨ζ (.p d)::bN cp b.sl,b.mu⟩ λy c=>y=.p (.tup ((a d).map D.int))/\c.mu=b.mu
section
variable{X:Cx}{params:Arguments}{body:J}{scope:o}{h9:I}{x:R}{Nb:-R}{cp:-(Option Nat)}{fb:WE}{T:U}
structure lF(X:Cx)(params:Arguments)(body:J)(scope:o)(h9:I)(T:U)(x:R)(Nb:-R)(cp:-(Option Nat))(fb:WE):Prop where
 env:NV X T
 tbl:x8 T h9 (X.env.qual++"<lambda>")
 NX:defaultsOf params X.env=([],[])
 kind:scope.kind=.function
 names:uv X.N X.env.scope scope x Nb cp=θ
 co:scope.isCoroutine=ι
 gen:scope.isGenerator=ι
 bind:∀(cl:-(R×U))(pm cd ct u:M),bindArgs (kla_fn "<lambda>" (X.env.qual++"<lambda>") params body scope cl pm cd ct) ⟨[u],[]⟩=pure [(x,u)]
 room:∃k,bw (k+3) X.A/\∀d:LD,bw k (d.A.deeper (envX (X.env.qual++"<lambda>") scope ⇑d.s d.f d.cd d.cl))->JE (mF X (X.env.qual++"<lambda>") scope (x::Nb) d) body (tD fb)
end
structure iG(mg:R->Option M)(base:Q)(fd:FuncData)(T:U)(pos:I)(q:R):Prop where
 code:∃cc,fd.code=.ref cc/\CodeHd base cc T
 ng:mainGlobals≠T
 blt:base.BuiltinsAt mg T
 tbl:x8 T pos q
theorem hG.x_{P:ψ}{w:ω}{K:KD}{z:π->Option ν}{base:Α}{x b:π}{st:χ}{f:ξ}{o:FuncData}{N d:-π}{k:Nat}{G:GD}(F:hG K x b st f o)(S:lU N d (dq st))
  (i:∀(c:ν)(A:Β)(outer:-Ζ)(s:ο)(H:Hp)(E:XK),o.code=c->bw k (A.deeper (envOfC b (dq st) ⇑s f c)) →
   ∃B:WS,ee (gh fZ P w K z base N b (dq st) f c A outer s H E).kQ (gZ st) (eh B)/\∀ys a l,↑ys=↑d->G ys a l->B (eu ↑a l) ⟨ys.map ζ++VG (↑N-↑d) η,a.map ζ⟩) :
  cG P w K z base fZ (k+1) f o d (lZ G ↑d):=by
 let⟨oc,od,kV,I,pm,an,c,ct,J,rfl,L,q⟩:=F.ex;calc BG L q S (λM H Q E h=>h.1) λA e s H M Q E O h=>?_;let⟨C,R,T,m,a,l,n,g,D⟩:=h;let⟨B,U,X⟩:=i c A e s H E rfl O
 let Y:↑m=↑d:=by
  let:=n.len;rw[nW] at this;rw[<-C,this];show _=↑(m.map ζ);rw[nW]
 refine⟨_,U.kQ,R,T,⟨m.map ζ++VG (↑N-↑d) η,a.map ζ⟩,eu ↑a l,by rw[<-C];calc n.start,X m a l Y g,⟨λj h Z r σ' H' t u=>?_,λj h=>h.elim,λj h=>h.elim,λy j h v Z r σ' H' t u V=>?_,trivial⟩⟩
 .exact tY (σ':=σ') n t u (x:=.p .non) (v:=.non) rfl h D
 .calc tY (σ':=σ') n t u V h D
section
variable{X:Cx}{params:Arguments}{body a e:J}{scope:o}{h9 p1 p2 q1 q2 nR:I}{x:R}{Nb:-R}{cp:-(Option Nat)}{fb f:WE}{fa:WA}{T:U}
end
end L2
namespace L2
open PySem PySem.Spec PyProof.Rows PySem.W
theorem ya:∀{k l:LK}(n m:Int),k.length=↑l->HT.lexLt (k++[n]) (l++[m])=if k=l then S (n<m) else HT.lexLt k l
 |[],[],n,m,_=>by
  show(if n=m then HT.lexLt [] [] else S (n<m))=_;rw[VE Y]
  by_cases h:n=m
  .rw[VE h];subst h;simp[HT.lexLt]
  .rw[VC h]
 |[],_::_,_,_,h=>by simp at h
 |_::_,[],_,_,h=>by simp at h
 |a::k,b::l,n,m,h=>by
  rw[V_,V_,HT.lV,HT.lV,ya n m h⁻¹]
  by_cases e:a=b
  .subst e
   rw[VE Y,VE Y]
   by_cases c:k=l
   .subst c;rw[VE Y,VE Y]
   .rw[VC c,VC λz=>c (q06 z).2]
  .rw[VC e,VC e,VC λz=>e (q06 z).1]
def lG(h:Q)(L:Nat)(k:LK)(v:M):Prop:=∃a o d n b c m t,v=.ref a/\h.get? a=ζ o/\o.cls=.type "tuple" /\ o.data=.seq d n/\d.toList=[.ref b,.int m t]/\kH h c (.ref b)/\↑c=L/\k=c++[m]
section
variable{prog:X}{w:l}{A:t}{E:br}{s:L}{Q:Bool->L->Prop}
theorem yb:∀{us:-M}{ns:-Int},IntsAre us ns->ItemsAre (intKind prog w) ns us
 |_,_,.nil=>.nil
 |_,_,.cons n t r=>.cons (ZA ..) (yb r)
theorem NY{L:Nat}{k l:LK}{x y:ν}(v:A.units<cLine)(R:lG s.heap L k x)(S:lG s.heap L l y)(h:Q (HT.lexLt k l) s):ρ (ς prog w) A (keyLt' (tuples' ι) x y) Q E s:=by
 let⟨a,o,T,n,b,g,m,t,rfl,U,_,V,z,⟨b',B,W,C,X,D,F,G,H⟩,Y,rfl⟩:=R;let⟨a',o',i,n',c,j,I,t',rfl,p,_,q,d,⟨c',J,Z,K,ec,M,N,O,P⟩,r,rfl⟩:=S;cases X
 cases ec
 let hz:T.size=2:=by rw[<-UC,z];rfl
 let u:i.size=2:=by rw[<-UC,d];rfl
 rw[ya m I (by rw[Y,r])] at h;let k1:IsTupleKey (intKind prog w) s.heap g b:=⟨B,W,C,D,F,G,yb H⟩;let k2:IsTupleKey (intKind prog w) s.heap j c:=⟨J,Z,K,M,N,O,yb P⟩;calc kat_lt U V p q ?_;rw[z,d,hz,u,YE,YE,Ze];refine kat_cons (wpAny_eqBool_tuple v k1 k2 (kat_go (λe=>?_) λe=>?_))
 .let e:g=j:=by simpa using e
  rw[VE e] at h;refine kat_yes (kat_cons (q1h (kat_go (λf=>?_) λf=>?_)))
  .let f:m=I:=XX f
   subst f;calc kat_yes (kat_nil ?_);simpa using h
  .exact kat_no (kat_one _ _ (q0m h))
 .let e:¬ g=j:=by simpa using e
  rw[VC e] at h;calc kat_no (kat_one _ _ (HT.v3 ⟨B,D,F,C,G⟩ ⟨J,M,N,K,O⟩ H P v h))
theorem NZ{M:Model}{L:Nat}{vs:-ν}{ks:-LK}{Q:SortKind->ο->Prop}(q:0<↑vs)(g:↑vs=↑ks)(e:∀(i:Nat) (k:LK) (v:ν),ks[i]?=ζ k->vs[i]?=ζ v->lG s.heap L k v)(h:Q (tuples' ι) s):
  ρ M A (keyKind' vs.toArray) Q E s:=by
 let l:∀(c:-ν)(d:-LK),↑c=↑d->(∀(i:Nat)(k:LK)(v:ν),d[i]?=ζ k->c[i]?=ζ v->lG s.heap L k v)->∃f,KatTups s.heap c f/\↑f=↑c/\∀v∈f,Looks M s.heap (typeOf v) (.type "tuple"):=by
  ext c
  induction c with
  |nil=>exactλd _ _=>⟨[],.nil,Y,λv j=>nomatch j⟩
  |cons v c u =>
   ext d g e
   match d,g,e with
   |k::d,g,e =>
    let⟨f,t,r,p⟩:=u d g⁻¹ λi k v w x=>e (i+1) k v w⁻¹ x⁻¹;let⟨a,o,y,n,b,I,m,J,rfl,z,B,C,D,⟨b',K,N,O,F,G,H,P,R⟩,_⟩:=e 0 k v Y Y;cases F
    let q:y[0]?=ζ (.ref b):=by rw[<-Wt,D];rfl
    calc⟨.ref b::f,.cons z B C q t,by rw[wo,wo,r],λv j=>?_⟩;rcases Uy.mp j with rfl|j
    .rw[<-H];exact(Looks.ld G).andThen .now
    .exact p v j
 let⟨f,t,r,p⟩:=l vs ks g e;calc kat_kind (T:=.type "tuple") t ⋯ p (by decide) h
end
section
variable{X:Cx}{pins:a5}{σ:St}{H:Hp}{s:L}{A:t}{E:br}{a:U}{vs:-M}{ks:-LK}{κ:SortKind}
theorem N0{n0:Nat}{R:PySem.Fin->ο->Prop}(I:Inv X pins σ H s)(W:cz X pins H a)(M:s.heap.get? a=ζ (seqObj "list" vs.toArray n0))(N:↑vs<64)
  (kind:∀s':ο,Inv X pins σ H s'->2<=↑vs->∀Q:SortKind->ο->Prop,Q κ s'->ρ (ς X.prog X.w) A (keyKind' vs.toArray) Q E s')
  (O:∀s':ο,Inv X pins σ H s'->∀(i j:Nat)(C:Bool->ο->Prop),i<↑vs->j<↑vs->C (HT.lexLt (ks.getD i []) (ks.getD j [])) s'->ρ (ς X.prog X.w) A (keyLt' κ (vs.getD i WB) (vs.getD j WB)) C (λ_ _=>False) s')
  (P:∀(p:Array Nat)(s':ο)(c:Nat),e_ ↑vs p->Up (λi=>ks.getD i []) p ↑vs->Inv X pins σ H s'->s'.heap.get? a=ζ (seqObj "list" (YV (p.toList.map λi=>vs.getD i WB)) c)->R (.done (.ret .none)) s') :
  ρ (ς X.prog X.w) A (Builtin.«list.sort» ⟨[.ref a],[]⟩) R E s:=by
 let S:=Xb s.heap a (Xv λ_=>(#[]:Array ν));let⟨F,q⟩:∃F,(s.heap.update a (Xv λ_=>(#[]:Array ν))).get? a=ζ (seqObj "list" #[] F):=⟨_,q1H M λ_ => #[]⟩;let Y:Inv X pins σ H {s with heap:=s.heap.update a (Xv λ_=>(#[]:Array ν))}:=I.ie (t':=s.toks) W λc o n e=>(S.2 c n).trans e;rw[list_sort_plain];calc nX (listItems_at M rfl ?_);calc nX (listUpdate_at M rfl ?_ (by rw[KG,Yh];symm) (VY _));calc nX (seqEpoch_at q rfl ?_);calc nX (wpAny_newTuple ?_ (by show ↑vs<=_;rw[Yh];symm));calc nX (Z9 ?_ (VY _));calc WK ?_;generalize UU:s.heap.update a (Xv λ_=>(#[]:Array ν))=r at q Y S
 show ρ (ς X.prog X.w) A _ R E {s with heap:=(r.push (seqObj "tuple" vs.toArray 0)).push (seqObj "list" #[] 0)};let K:Inv X pins σ H {s with heap:=(r.push (seqObj "tuple" vs.toArray 0)).push (seqObj "list" #[] 0)}:=Y.kept (h':=(r.push (seqObj "tuple" vs.toArray 0)).push (seqObj "list" #[] 0)) (t':=s.toks) λb u e=>B5 _ (B5 _ e);let h:((r.push (seqObj "tuple" vs.toArray 0)).push (seqObj "list" #[] 0)).get? a=ζ (seqObj "list" #[] F):=B5 _ (B5 _ q);let kp:∀b o,b≠a->s.heap.get? b=ζ o->((r.push (seqObj "tuple" vs.toArray 0)).push (seqObj "list" #[] 0)).get? b=ζ o:=λb o n e=>B5 _ (B5 _ ((S.2 b n).trans e))
 generalize(r.push (seqObj "tuple" vs.toArray 0)).push (seqObj "list" #[] 0)=l at K h kp;dsimp only
 let m:∀(v:SortSt)(p:Array Nat),(arrOf v).map (·.2)=YV (p.toList.map λi=>vs.getD i WB)->failedOf v=η->e_ ↑vs p->Up (λi=>ks.getD i []) p ↑vs->ρ (ς X.prog X.w) A (do
   let d:=(<- seqEpoch a) != F
   Builtin.List.listUpdate (.ref a) λ_=>(arrOf v).map (·.2)
   if let ζ e:=failedOf v then rule "list.sort.comparison-raised";throw e
   if d then rule "list.sort.modified";raiseError "ValueError" "list modified during sort"
   ret .none) R E {s with heap:=l}:=by
  ext v p y hf Z up;let hz:↑(p.toList.map λi=>vs.getD i WB)=↑vs:=by rw[nW,UC,Z.size]
  rw[y];let s2:=Xb l a (Xv λ_=>YV (p.toList.map λi=>vs.getD i WB));let⟨T,U⟩:∃T,(l.update a (Xv λ_=>YV (p.toList.map λi=>vs.getD i WB))).get? a=ζ (seqObj "list" (YV (p.toList.map λi=>vs.getD i WB)) T):=⟨_,q1H h λ_=>YV (p.toList.map λi=>vs.getD i WB)⟩;let J:Inv X pins σ H {s with heap:=l.update a (Xv λ_=>YV (p.toList.map λi=>vs.getD i WB))}:=K.ie (h':=l.update a (Xv λ_=>YV (p.toList.map λi=>vs.getD i WB))) (t':=s.toks) W λc o n e=>(s2.2 c n).trans e;calc nX (seqEpoch_at h rfl ?_);refine nX (listUpdate_at h rfl ?_ (VY _) (Wr (q2H (by rw[KG,hz])) (by rw[Yh];symm)))
  rw[hf];erw[q0R,VQ,W8];exact B7 (P p _ T Z up J U)
 by_cases t:vs.toArray.size<2
 .rw[VE t,VE t]
  calc nX (B7 ?_);rw[StateT.run_pure];calc nX (B7 ?_);rw[KG] at t;refine m (SortSt.mk' general' (vs.toArray.zip vs.toArray) #[] 7 η) (Wq ↑vs).toArray ?_ rfl ⟨q3y _⟩ λi j Nd hj=>?_
  .let V:arrOf (SortSt.mk' general' (vs.toArray.zip vs.toArray) #[] 7 η)=(YV (Wq ↑vs)).map (kas_item (vs.toArray.zip vs.toArray)):=by
    let e:=kas_range (vs.toArray.zip vs.toArray);rw[show(vs.toArray.zip vs.toArray).size=↑vs by simp] at e;rw[e]
   exact kat_snds rfl V
  .let:i=j:=by symm
   subst this;exact kle_refl _
 .rw[VC t,VC t]
  rw[KG] at t;refine nX (kind _ K ⋯ _ ?_)
  refine nX (X0 (kat_run (κ:=κ) (E:=E) (Q:=λf g=>g={s with heap:=l}/\∃p:Array Nat,arrOf f=p.map (kas_item (vs.toArray.zip vs.toArray))/\failedOf f=η/\e_ ↑vs p/\Up (λi=>ks.getD i []) p ↑vs)
   (G:=λp g=>g={s with heap:=l}/\e_ ↑vs p/\Up (λi=>ks.getD i []) p ↑vs) rfl ⋯ N (λp f g L z B D=>⟨D.1,p,z,B,D.2.1,D.2.2⟩) ?_) ?_ λ_ _ x=>x)
  .refine MM (k:=λi=>ks.getD i []) (I:=λg=>g={s with heap:=l}) (λi j C g hi hj e hC=>?_) ⋯ rfl λp g L z B=>⟨B,L,z⟩
   subst e;exact O _ K i j C hi hj (hC _ rfl)
  .ext ⟨⟨⟩,f⟩ g ⟨rfl,p,L,z,B,D⟩
   calc m f p (kat_snds rfl L) z B D
theorem DY{l:U}{xs:-V}{Q:br}(I:Inv X pins σ H s)
  (t:∀h:-ν->ο->Prop,(∀h' tk vs,(∀b o,s.heap.get? b=ζ o->h'.get? b=ζ o)->Vals xs vs->h vs {s with heap:=h',toks:=tk})->ρ (ς X.prog X.w) X.A.in1 (collect (.ref l)) h E s) (G:↑xs<64)
  (kind:∀(s':ο)(vs:-ν),Vals xs vs->Inv X pins σ H s'->2<=↑vs->∀Q:SortKind->ο->Prop,Q κ s'->ρ (ς X.prog X.w) X.A.in1.in1 (keyKind' vs.toArray) Q E s')
  (v:∀(s':ο)(vs:-ν),Vals xs vs->Inv X pins σ H s'->∀(i j:Nat)(C:Bool->ο->Prop),i<↑vs->j<↑vs->C (HT.lexLt (ks.getD i []) (ks.getD j [])) s'->ρ (ς X.prog X.w) X.A.in1.in1 (keyLt' κ (vs.getD i WB) (vs.getD j WB)) C (λ_ _=>False) s')
  (x:∀(p:Array Nat)(s':ο)(a:U),e_ ↑xs p->Up (λi=>ks.getD i []) p ↑xs->H a=η->Inv X pins σ (upd H a (.lst (p.toList.map λi=>xs.getD i .non))) s'->Q (.ref a) s') :
  ρ (ς X.prog X.w) X.A (call (.builtin "sorted") [.ref l]) Q E s:=by
 calc Zp q3n q2X q2Y (q2Z _) ?_;unfold Builtin.«sorted»;calc nX (m:=checkCount "sorted" 1 1 _) (B7 ?_);calc nX (t _ λh' r d K k=>?_);let D:↑d=↑xs:=k.length.symm;calc nX (Z9 ?_ (by rw[Yh];symm));let n:Inv X pins σ H {s with heap:=h',toks:=r}:=I.kept K;let y:cz X pins H h'.objs.size:=n.i7 (B6 _) (n.bf.fresh (B6 _));let z:⇑X.s₀<=h'.objs.size:=n.sz;let L:Inv X pins σ H {s with heap:=h'.push (seqObj "list" d.toArray 0),toks:=r}:=n.kept (h':=h'.push (seqObj "list" d.toArray 0)) (t':=r) λb u e=>B5 _ e;let g:(h'.push (seqObj "list" d.toArray 0)).get? h'.objs.size=ζ (seqObj "list" d.toArray 0):=UD _ Y
 refine nX (WK (XJ q13 ⟨_,g,Y⟩ q1G ?body (q14 _)))
 case body =>
  calc N0 (κ:=κ) (ks:=ks) L y g ⋯ (λf J M h N=>kind f d k J M h N) (λf J i j C B O P=>v f d k J i j C B O P) λp f c q F J e=>⟨_,Y,?_⟩;rw[D] at q F;calc B7 ⟨_,Y,x p f h'.objs.size q F y.1 (J.rP y z ?_)⟩;let R:↑(p.toList.map λi=>xs.getD i V.non)=↑xs:=by rw[nW,UC,q.size]
  calc⟨by rw[R,Yh];symm,_,c,NS k λi B=>by rw[D];calc q.mem B,e⟩
end
def yc(ds:-D)(a:D->LK):Prop :=
 (∀d∈ds,a d≠[]/\d=.tup ((a d).map D.int))\/∃L:Nat,∀d∈ds,∃(k:LK)(n:Int),k.length=L/\d=.tup [.tup (k.map D.int),.int n]/\a d=k++[n]
def ux:-D->(D->Prop)->Prop
 |[.lst c],K=>↑c<64/\∃b:D->LK,yc c b/\∀a:-D,a.Perm c->(a.map b).Pairwise kle->K (.lst a)
 |[.tup c],K=>↑c<64/\∃b:D->LK,yc c b/\∀a:-D,a.Perm c->(a.map b).Pairwise kle->K (.lst a)
 |_,_=>False
theorem N3{ds:-D}{a:D->LK}{p:Array Nat}{n:Nat}(hn:↑ds=n)(c:e_ n p)(l:Up (λi=>(ds.map a).getD i []) p n):(p.toList.map λi=>ds.getD i .non).Perm ds/\((p.toList.map λi=>ds.getD i .non).map a).Pairwise kle:=by
 subst hn
 constructor
 .let f:=(q0H.mp c.perm).map λi=>ds.getD i D.non
  let m:(Wq ↑ds).map (λi=>ds.getD i D.non)=ds:=by
   calc Zd λi=>?_;rw[B8]
   by_cases b:i<↑ds
   .rw[Yx b,q1B,tE b,KH,tE b];rfl
   .rw[YB (by rw[Xq];symm),YB ⋯];rfl
  rw[show(Wq ↑ds).toArray.toList=Wq ↑ds from Y,m] at f;exact f
 .rw[VW,Zn]
  ext i j b d e;rw[nW,UC,c.size] at b d;let:=l i j (Xd e) d;unfold KA at this;rw[Yl,Yl]
  let g:∀{i:Nat}(h:i<↑p.toList),p.getD i 0=p.toList[i]:=λ{i} h=>by
   let o:i<p.size:=by rw[<-UC];exact h
   simp[q2q,o]
  let k:∀{i:Nat},i<↑ds->(ds.map a).getD i []=a (ds.getD i .non):=λ{i} h=>by
   rw[KH,B8,tE h,KH,tE h];rfl
  let q:=c.lt b;let r:=c.lt d;dsimp only at this;rw[k q,k r,g (by rw[UC,c.size];calc b),g (by rw[UC,c.size];calc d)] at this;calc this
theorem N4{F:Hp}{ds:-D}{xs:-V}{p:-Nat}(h:ax F ds xs)(c:∀i∈p,i<↑ds):ax F (p.map λi=>ds.getD i .non) (p.map λi=>xs.getD i .non):=by
 calc ax.rQ (by rw[nW,nW]) λi d e=>?_;rw[B8] at e ⊢;let⟨z,a,rfl⟩:=KJ.mp e;rw[a];let b:=c z (WU a);calc⟨_,Y,ax.at h (getD_some b) (getD_some (by rw[↑h];calc b))⟩
section
variable[a8]{X:Cx}
theorem uy{b:a5}{d:St}{H F:Hp}{s:L}{k:LK}{v:V}{u:M}(I:Inv X b d H s)(c:a_ F H)(h:Is F (.tup (k.map D.int)) v)(r:RelV v u):kH s.heap k u:=by
 erw[Is] at h;let⟨a,p,rfl,e,i⟩:=h;cases r
 rw[lB i] at e;let⟨f,g,⟨o,j,l,n,m⟩,_⟩:=I.tuple (cF.of (c _ _ e));calc⟨a,o,_,n,Y,j,l,m,by simpa using intsAre_of g⟩
theorem yd{c:a5}{l:St}{H F:Hp}{s:L}{k:LK}{m:Int}{v:V}{u:M}(I:Inv X c l H s)(d:a_ F H)(h:Is F (.tup [.tup (k.map D.int),.int m]) v)(r:RelV v u):lG s.heap k.length (k++[m]) u:=by
 erw[Is,ax] at h;let⟨a,E,rfl,e,p,G,rfl,q,w,J,rfl,g,rfl⟩:=h;cases r
 let⟨x,f,⟨o,y,z,n,A⟩,_⟩:=I.tuple (cF.of (d _ _ e));let g:w=.int m:=g;subst g;let i:Is F (.tup (k.map D.int)) p:=by erw[Is];exact q
 cases f with
 |cons B f =>
  cases f with
  |cons C f =>
   cases f
   let j:=uy I d i B;let⟨b,_,_,_,rfl,_⟩:=id j;let⟨t,rfl⟩:=C;calc⟨a,o,_,n,b,k,m,t,Y,y,z,A,Y,j,Y,Y⟩
theorem DZ{r:a5}{σ:St}{H F:Hp}{s:ο}{E:br}{l:ξ}{ds:-D}{us:-V}{c:D->LK}{Q:br}(hu:X.A.units+64<cLine)(I:Inv X r σ H s)(q:a_ F H)(R:H l=ζ (.lst us)\/H l=ζ (.tup us))(hi:ax F ds us)(UW:↑ds<64)(z:yc ds c)
  (fin:∀(out:-D)(ws:-V)(a:ξ)(s':ο),out.Perm ds->(out.map c).Pairwise kle->ax F out ws->H a=η->Inv X r σ (upd H a (.lst ws)) s'->Q (.ref a) s'):ρ (ς X.prog X.w) X.A (call (.builtin "sorted") [.ref l]) Q E s:=by
 let W:∀S:-ν->ο->Prop,(∀N tk m,(∀b o,s.heap.get? b=ζ o->N.get? b=ζ o)->Vals us m->S m {s with heap:=N,toks:=tk})->ρ (ς X.prog X.w) X.A.in1 (collect (.ref l)) S E s:=λS hQ=>by
  rcases R with R|R
  .let⟨lg,f,pl,hz⟩:=I.list (bS.of R)
   let⟨o,T,U,n,o3⟩:=pl.isList;exact q21 l (.inl rfl) T U o3 (λN kp=>hQ N s.toks _ kp f⁻¹) (by rw[KG,<-↑f];calc hz)
  .let⟨lg,f,⟨o,T,U,n,o3⟩,hz⟩:=I.tuple (cF.of R)
   exact q21 l (.inr rfl) T U o3 (λN kp=>hQ N s.toks _ kp f⁻¹) (by rw[KG,<-↑f];calc hz)
 let lu:=↑hi;let N5:X.A.in1.in1.units<cLine:=by show X.A.units+1+1<cLine;symm
 let Y:∀{i:Nat},i<↑ds->(ds.map c).getD i []=c (ds.getD i .non):=λ{i} h=>by
  rw[KH,B8,tE h,KH,tE h];rfl
 let g:∀{i:Nat},i<↑ds->∀{m:-ν},Vals us m->∃v,Is F (ds.getD i .non) v/\RelV v (m.getD i WB):=λ{i} h {m} f=>by
  let⟨u,O,Z⟩:=f.get (getD_some (l:=us) (d:=V.non) (i:=i) ⋯);let:=getD_some (l:=m) (d:=WB) (i:=i) (by rw[<-↑f];symm);rw[this] at O;cases O;exact⟨_,ax.at hi (getD_some h) (getD_some ⋯),Z⟩
 let t:∀{i:Nat},i<↑ds->ds.getD i .non∈ds:=λ{i} h=>WU (getD_some h)
 let ke:∀{i:Nat}{k:LK},(ds.map c)[i]?=ζ k->i<↑ds/\k=c (ds.getD i .non):=λ{i k} e=>by
  let h:i<↑ds:=by let:=(pa.mp e).1;rwa [nW] at this
  calc⟨h,?_⟩;let:=getD_some (l:=ds.map c) (d:=[]) (i:=i) (by rw[nW];calc h);rw[e,Y h] at this;exact WD this
 let ve:∀{i:Nat}{v:ν}{m:-ν},m[i]?=ζ v->v=m.getD i WB:=λ{i v m} e=>by
  rw[KH,e];rfl
 let K:∀(p:Array Nat)(G:ο)(a:ξ),e_ ↑us p->Up (λi=>(ds.map c).getD i []) p ↑us->H a=η->Inv X r σ (upd H a (.lst (p.toList.map λi=>us.getD i .non))) G->Q (.ref a) G:=λp G a hp up ha J=>by
  let⟨T,U⟩:=N3 lu.symm hp up;exact fin _ _ a G T U (N4 hi λi x=>by rw[<-lu];calc hp.mem x) ha J
 rcases z with z|⟨L,z⟩
 .refine DY (κ:=tuples' θ) (ks:=ds.map c) I W ⋯ (λG m f J h2 S hq=>?_) (λG m f J i j C x M P=>?_) K
  .refine NR (ks:=ds.map c) ⋯ (λk hk=>?_) (by rw[nW,<-↑f];symm) (λi k v O Z=>?_) hq
   .let⟨d,hd,rfl⟩:=VI.mp hk
    exact(z d hd).1
   .let⟨h,rfl⟩:=ke O
    let⟨w,y,B⟩:=g h f;rw[(z _ (t h)).2] at y;rw[<-ve Z] at B;exact uy J q y B
  .rw[<-↑f] at x M
   rw[Y ⋯,Y ⋯] at P;let⟨w,y,B⟩:=g (i:=i) ⋯ f;let⟨w',i2,r2⟩:=g (i:=j) ⋯ f;rw[(z _ (t ⋯)).2] at y i2;exact NQ (uy J q y B) (uy J q i2 r2) P
 .refine DY (κ:=tuples' ι) (ks:=ds.map c) I W ⋯ (λG m f J h2 S hq=>?_) (λG m f J i j C x M P=>?_) K
  .refine NZ (L:=L) (ks:=ds.map c) ⋯ (by rw[nW,<-↑f];symm) (λi k v O Z=>?_) hq
   let⟨h,rfl⟩:=ke O;let⟨w,y,B⟩:=g h f;let⟨k,n,hk,e3,e4⟩:=z _ (t h);rw[e3] at y;rw[<-ve Z] at B;rw[e4,<-hk];exact yd J q y B
  .rw[<-↑f] at x M
   rw[Y ⋯,Y ⋯] at P;let⟨w,y,B⟩:=g (i:=i) ⋯ f;let⟨w',i2,r2⟩:=g (i:=j) ⋯ f;let⟨k,n,hk,e3,e4⟩:=z _ (t (i:=i) ⋯);let⟨k',n',D0,N6,N7⟩:=z _ (t (i:=j) ⋯);rw[e3] at y;rw[N6] at i2;rw[e4,N7] at P;let t1:=yd J q y B;let t2:=yd J q i2 r2;rw[hk] at t1;rw[D0] at t2;calc NY N5 t1 t2 P
theorem N8(t:X.A.units+64<cLine):eH X (.builtin "sorted") ux:=by
 ext w s E H G L Q I r ⟨F,M,K,c,x,q,y⟩;unfold ux at q;split at q
 .rename_i z
  let⟨d,g,i,j⟩:=q;let⟨v,rfl,a,B,rfl,k,l⟩:=iC x;let⟨u,rfl,m⟩:=vals1 r;cases m
  exact DZ t I c (.inl k) l d i λe C b D n o p f J=>⟨.ref b,_,J,Y,y _ _ _ (j e n o) (c_ f) (kD c f p)⟩
 .rename_i z
  let⟨d,g,i,j⟩:=q;let⟨v,rfl,h⟩:=iC x;let h:Is F (.tup z) v:=h;erw[Is] at h;let⟨a,B,rfl,k,l⟩:=h;let⟨u,rfl,m⟩:=vals1 r;cases m
  exact DZ t I c (.inr (c _ _ k)) l d i λe C b D n o p f J=>⟨.ref b,_,J,Y,y _ _ _ (j e n o) (c_ f) (kD c f p)⟩
 .calc q.elim
end
end L2
namespace LJ
open PySem L2 PySem.W
theorem N9{ls:-lE}{b:U}{a:Array M}:(ls.map λl=>(l.T,(#[]:Array M))).lookup b=ζ a->(∃l∈ls,l.T=b)/\a = #[]:=by
 induction ls with
 |nil=>ext h;cases h
 |cons l i c =>
  ext h;rw[UB,Wl] at h
  cases q:b==l.T with
  |true =>
   rw[q] at h;exact⟨⟨l,Uz,(XX q).symm⟩,(WD h).symm⟩
  |false =>
   rw[q] at h;let⟨⟨d,e,f⟩,g⟩:=c h;calc⟨⟨d,UA _ e,f⟩,g⟩
theorem ye{ls:-lE}{l:lE}(h:l∈ls):(ls.map λl=>(l.T,(#[]:Array M))).lookup l.T=ζ #[]:=by
 induction ls with
 |nil=>cases h
 |cons a c b =>
  rw[UB,Wl]
  cases q:l.T==a.T with
  |true=>rfl
  |false =>
   rcases Uy.mp h with rfl|h
   .simp at q
   .calc b h
theorem N_{l:OpenLaw}{q:ψ}{c:-π}{N:(π->Option ν)->Α->Prop}{d:DefRec}{K:Params->Frag}{as:-ξ}{e:∀P,as=(K P).map (·.1)}{ts:-ξ}{kk:Nat}(ls:-lE)(C:CC)(v:ls.map (·.T)=ts)(hn:l.most=ζ 63)(y:d.params.defaults=[])(O:bw kk callerA)
  (A:∀(w:ω)(h:Α),(K w.params).In h->Cs l.prog w C.cs h) (D:∀(w:ω)(h:Α),(K w.params).In h->∀t∈ls,∃B,CodeHd h B t.T) (E:∀P,noTabs (K P)=θ)
  (F:∀(w:ω)(g:π->Option ν)(p:ξ)(h:Α),(K w.params).In h->h.Ns mainGlobals g->g d.name=ζ (.ref p) →
   ∃r:FuncData,(∀(s:ο)(u:ν),BindsTo s r ⟨[u],[]⟩ [("script",u)])/\∀base:Α,(K w.params).In base->base.Ns mainGlobals g->(∀t∈ls,base.BuiltinsAt g t.T)->cG l.prog w (K w.params) g base fZ kk p r ["script"] (@ur (g8 ls C) (K w.params))) :
  WalkO q c N (kmHook K as e ts).says l.row.toRowW d [] (λf vs=>q3V f vs) :=
 L2.NJ (n:=63) (k:=kk) (x:="script") (K:=λw=>K w.params) (CX:=λ_=>fZ) (sp:=λw=>@ur (g8 ls C) (K w.params)) (cs:=λ_=>C.cs) (Ts:=λ_=>ls.map λl=>(l.T,#[])) hn (by decide) y O (λw h Y=>km_in_of Y)
  (λw h Y b R I=>by
   let⟨⟨t,i,rfl⟩,rfl⟩:=N9 I;let L:h.get? t.T=ζ (tabObj #[]):=km_tabs_of Y t.T (by rw[<-v];calc Zq i);refine⟨L,?_,?_⟩
   .let⟨B,o,Q,_,_,_,_,_,_,_,S,U,V,W,_⟩:=D w h (km_in_of Y) t i
    exact⟨B,o,Q,S,U,V,W⟩
   .cases z:(K w.params).lookup t.T with
    |none=>rfl
    |some o =>
     let M:=km_in_of Y t.T o z;rw[L] at M;cases M;let X:=Yg.mp (E w.params) (t.T,tabObj #[]) (mem_of_lookupK z)
     calc absurd (show ι=θ from X) Wo)
  (λw h Y=>A w h (km_in_of Y))
  (λw g p h Z G J=>by
   let⟨r,hb,hF⟩:=F w g p h Z G J
   calc⟨r,hb,λj k1 k2 k3=>hF j k1 k2 λt i=>k3 t.T #[] (ye i)⟩)
  (λw H a ns I hO hQ hS=>by
   letI:a8:=g8 ls C;calc⟨a,ns,rfl,hS,I,⟨λt i=>?_,hQ⟩,λ_=>rfl⟩;rcases hO t.T with⟨R,m,z2⟩|⟨m,_⟩
   .rw[ye i] at m;cases m
    exact⟨#[],z2,trivial,.inl rfl⟩
   .rw[ye i] at m;cases m)
  λ_ _ _ _ _ z=>z
end LJ
namespace LJ
open PySem L2
variable[a8]
inductive uz (ys:-DV) (bF:-OV) (K:RV->-OV->Prop):Prop
 |mk (m:Int) (ws:-(Int×Int×Int)) (_:aH m ws) (_:ys=[.p (a6 m ws)]) (_:bF=[]) (_:K (.p .non) [])
def yf:WS:=(bh (bQ (dT (aA 1 xS (aq (aa 0) ae)))) eX cP)
theorem Oa:Sem 1 0 uz yf:=by
 ext c a d-⟨m,b,W,rfl,rfl,k⟩;unfold yf;simp!;calc⟨m,b,W,Y,Y,?_⟩;simp!;calc cK k
inductive yg (ys:-DV) (bF:-OV) (K:RV->-OV->Prop):Prop
 |mk (y:Int×Int×Int) (_:ys=[.p (bJ y)]) (_:bF=[]) (_:K (.p (.tup [.int y.2.2,.int y.1,.int y.2.1])) [])
def yh:WS:=(aY (bg (aq (d2 (aa 0) (dC (.int 2)) ba) (aq (d2 (aa 0) (dC (.int 0)) ba) (aq (d2 (aa 0) (dC (.int 1)) ba) ae)))))
theorem Ob:Sem 1 0 yg yh:=by
 ext b a c-⟨y,rfl,rfl,k⟩;unfold yh;simp![bJ,dw,eB,at2];calc cK k
noncomputable def fu(ws:-(Int×Int×Int))(n:Int):LK:=[(ws.getD n.toNat (0,0,0)).2.2,(ws.getD n.toNat (0,0,0)).1,(ws.getD n.toNat (0,0,0)).2.1]
theorem Oc{m:Int}{ws:-(Int×Int×Int)}(W:aH m ws){a b:Int}(f:0<=a/\a<(↑ws:Int))(g:0<=b/\b<(↑ws:Int))(e:fu ws a=fu ws b):a=b:=by
 let⟨i,rfl⟩:∃i:Nat,a=i:=⟨a.toNat,⋯⟩;let⟨j,rfl⟩:∃j:Nat,b=j:=⟨b.toNat,⋯⟩;let c:i<↑ws:=by symm
 let d:j<↑ws:=by symm
 unfold fu at e;rw[V8,V8,KH,tE c,KH,tE d] at e;erw[Option.getD_some,List.cons.injEq,XI] at e
 let q:(ws.map λy=>(y.1,y.2.1))[i]'(by rw[nW];calc c)=(ws.map λy=>(y.1,y.2.1))[j]'(by rw[nW];calc d):=by
  rw[Yl,Yl,e.2.1,e.2.2]
 let:=(Y3 W.unlike).mp q;rw[this]
inductive yi (ys:-DV) (bF:-OV) (K:RV->-OV->Prop):Prop
 |mk (m:Int) (ws:-(Int×Int×Int)) (n:Int) (_:aH m ws) (_:(0<=n/\n<(↑ws:Int))) (_:ys=[.p (a6 m ws),.p (.int n)]) (_:bF=[]) (_:K (.p (.tup ((fu ws n).map D.int))) [])
def yj:WS:=(az (b6 (d2 (d2 (aa 0) (dC (.int 1)) ba) (aa 1) ba) (dz 3 (cj (bj 2) (cj (bj 3) (cj (bj 4) dt))))) (aY (bg (aq (aa 4) (aq (aa 2) (aq (aa 3) ae))))))
theorem Od:Sem 2 3 yi yj:=by
 ext f a g-⟨m,h,n,W,⟨b,c⟩,rfl,rfl,k⟩;let⟨y,d,i,e,_⟩:=mE W b c;unfold yj;simp![eB,a6,e,bJ];unfold fu at k;rw[d] at k;calc cK k
noncomputable def kJ(ws:-(Int×Int×Int))(n:Int):D:=.tup [.tup ((fu ws n).map D.int),.int n]
theorem Oe{a b:LK}{n m:Int}(c:↑a=↑b)(h:kle (a++[n]) (b++[m])):kle a b:=by
 unfold kle at h ⊢;rw[ya _ _ c.symm] at h
 by_cases e:b=a
 .rw[e];exact t_ a
 .rw[VC e] at h;calc h
end LJ
namespace L2
open PySem PySem.Spec PyProof.Rows
variable[a8]
noncomputable def cL{a:Type}(kvs:-(Key×a))(k:Key):Option a:=(kvs.find? λb=>S (b.1=k)).map (·.2)
noncomputable def putD{b:Type}(kvs:-(Key×b))(k:Key)(d:b):-(Key×b) :=
 if(kvs.any λa=>S (a.1=k))=θ then kvs.map (λa=>if a.1=k then(a.1,d) else a) else kvs++[(k,d)]
section
omit [a8]
variable{α:Type}{R:α->V->Prop}
theorem d4.val(k:Key):∀{a:-(Key×α)}{ws:-(Key×V)},d4 R a ws->(cL a k=η/\dh ws k=η)\/∃d v,cL a k=ζ d/\dh ws k=ζ v/\R d v
 |[],_,h=>by let h:_=[]:=h;subst h;exact .inl ⟨Y,Y⟩
 |b::r,_,⟨v,t,e,f,g⟩=>by
  subst e
  by_cases c:b.1=k
  .refine .inr ⟨b.2,v,?_,qP c,f⟩
   unfold cL;rw[ZW c⁻¹];rfl
  .rw[qQ c]
   let e:cL (b::r) k=cL r k:=by unfold cL;rw[ZX c⁻¹]
   rw[e];calc d4.val k g
theorem d4.length{κ:Type}:∀{a:-(κ×α)}{ws:-(κ×V)},d4 R a ws->↑ws=↑a
 |[],_,h=>by let h:_=[]:=h;subst h;rfl
 |c::r,_,⟨v,t,e,d,b⟩=>by subst e;rw[wo,wo,↑b]
theorem d4.any(k:Key):∀{a:-(Key×α)}{ws:-(Key×V)},d4 R a ws->(ws.any λb=>S (b.1=k))=a.any λb=>S (b.1=k)
 |[],_,h=>by let h:_=[]:=h;subst h;rfl
 |d::r,_,⟨v,t,e,f,c⟩=>by subst e;rw[Wf,Wf,c.any k]
theorem d4.jL(k:Key){d:α}{v:V}(hd:R d v):∀{b:-(Key×α)}{ws:-(Key×V)},d4 R b ws->d4 R (b.map λa=>if a.1=k then(a.1,d) else a) (ws.map λa=>if a.1=k then(a.1,v) else a)
 |[],_,h=>by let h:_=[]:=h;subst h;rfl
 |g::r,_,⟨u,t,e,i,f⟩=>by
  subst e
  by_cases c:g.1=k
  .rw[UB,UB,VE c,VE c]
   exact⟨v,_,Y,hd,f.jL k hd⟩
  .rw[UB,UB,VC c,VC c]
   calc⟨u,_,Y,i,f.jL k hd⟩
theorem d4.snoc{k:Key}{d:α}{v:V}(hd:R d v):∀{a:-(Key×α)}{ws:-(Key×V)},d4 R a ws->d4 R (a++[(k,d)]) (ws++[(k,v)])
 |[],_,h=>by let h:_=[]:=h;subst h;exact⟨v,[],Y,hd,Y⟩
 |f::r,_,⟨u,t,e,b,c⟩=>by subst e;calc⟨u,_,Y,b,c.snoc hd⟩
theorem d4.put{a:-(Key×α)}{ws:-(Key×V)}{k:Key}{d:α}{v:V}(h:d4 R a ws)(hd:R d v):d4 R (putD a k d) (putK ws k v):=by
 unfold putD putK;rw[h.any k];split
 .exact h.jL k hd
 .calc h.snoc hd
end
def ak(x:DV)(c:aI)(K:Nat->(-(Key×D)->OV)->-(Key×D)->Prop):Prop:=match x with
 |.o k=>match c.mu[k]? with
  |some (some (.dct b))=>K k OV.dct b
  |some (some (.ac a b))=>K k (OV.ac a) b
  |_=>False
 |_=>False
theorem rS{F H:Hp}{g:-U}{j:aI}{q:St}{x:DV}{v:V}{K:Nat->(-(Key×D)->OV)->-(Key×D)->Prop}(S:SR F g j q H)(p:eN F g x v)(h:ak x j K):∃k B kvs a ws,x=.o k/\K k B kvs/\v=.ref a/\g[k]?=ζ a/\H a=ζ (.dK ws)/\tN F kvs ws/\j.mu[k]?=ζ (ζ (B kvs))/\∀{F' es us},tN F' es us->fB F' a (B es) (.dK us):=by
 unfold ak at h;split at h
 .rename_i k
  split at h
  .rename_i c e
   let⟨a,d,rfl⟩:=p;let⟨a',o,f,m,l,rfl,n⟩:=S.mu k _ e;rw[d] at f;cases f;exact⟨k,_,c,a,l,Y,h,Y,d,m,n,e,λi=>⟨_,Y,i⟩⟩
  .rename_i b c e
   let⟨a,d,rfl⟩:=p;let⟨a',o,f,m,z,l,rfl,n⟩:=S.mu k _ e;rw[d] at f;cases f;exact⟨k,_,c,a,l,Y,h,Y,d,m,n,e,λi=>⟨z,_,Y,i⟩⟩
  .exact h.elim
 .calc h.elim
def ar(x:DV)(P:Int->Prop):Prop:=match x with
 |.p (.int i)=>P i
 |_=>False
theorem yk{F:Hp}{a:-U}{x:DV}{v:V}{P:Int->Prop}(b:eN F a x v)(h:ar x P):∃i,v=kV (.inl i)/\P i:=by
 unfold ar at h;split at h
 .rename_i i;exact⟨i,b,h⟩
 .calc h.elim
def aL:WE:=λa K=>K (.o ↑a.mu) ⟨a.sl,a.mu++[ζ (.dct [])]⟩
def au(b:Bool)(e fo:WE):WE:=λf K=>e f λx c=>fo c λy a=>ar x λi=>ak y a λ_ _ d=>K (.p (.bl (b != (cL d (.inl i)).isSome))) a
def aM(g fo h:WE):WS:=λK j=>g j λz c=>fo c λx e=>h e λy f=>eg z f λd a=>ar y λi=>ak x a λk B b=>↑b<1000/\K.nx ⟨a.sl,a.mu.set k (ζ (B (putD b (.inl i) d)))⟩
section
variable{X:Cx}{o i e v:J}{fo fi fv fk fe:WE}{pos:I}
theorem D1:JE X (.Dict [] [] pos) (tD aL):=jc.weak λd H Q ⟨F,e,f,K,S,q,k⟩ p b=>by
 let c:∀{a},fB F a (.dct []) (.dK []):=λ{a}=>⟨[],Y,Y⟩;calc k _ _ q _ _ _ _ (Ext.own S b) (S.own b c) ⟨p,?_,Y⟩;rw[<-S.di,My (B6 _),Xh];rfl
theorem D2{c:Bool}(l:TE)(hn:∀b H (Q:VK),(tD fi b H λy m=>tD fo b m λx H2=>∃a o,x=.ref a/\gL H2 a y o/\Q (.bl (c != o.isSome)) H2)->l b H Q):∀b H Q,tD (au c fi fo) b H Q->l b H Q:=λb H Q ⟨F,r,s,K,S,q,k⟩=>hn b H Q ⟨F,r,s,_,S,q,λx e t v w f m z A C=>⟨w,f,e,_,A,t,λy D E u U G T n p I=>by
  let⟨i,rfl,J⟩:=yk (C.ext n) E;let⟨V,B,g,a,L,rfl,M,rfl,W,N,O,X,P⟩:=rS p I J;refine⟨a,_,Y,gL.k N,?_⟩
  let R:(dh L (YA i:Key)).isSome=(cL g (.inl i)).isSome:=by
   rcases O.val (.inl i) with⟨h,j⟩|⟨d,v,h,j,_⟩
   .rw[h,j];rfl
   .rw[h,j];rfl
  rw[R]
  calc k _ _ M _ _ _ _ (z.trans n) p Y⟩⟩
theorem D3{t:TE}{f:WE}(h:∀a H Q,tD f a H Q->t a H Q):∀a H Q,d5 (dT f) a H Q->tB t a H Q:=λa H Q ⟨F,c,d,K,S,q,k⟩↦h a H _ ⟨F,c,d,_,S,q,λx e g v o i p j l m=>by
  let⟨b,rfl,n⟩:=q_ m g
  calc⟨b,Y,k _ _ n _ _ _ j l⟩⟩
theorem Of(d:X.A.units+64<cLine)(a:JE X i (tD fi))(b:JE X o (tD fo))(c:behindInMarks .In o=ι:=by rfl):JT X (.Compare i [.In] [o] pos) (d5 (dT (au ι fi fo))) :=
 (Bn (Ln ⋯ a b) c).weak (D3 (D2 (qU (tD fi) (tD fo)) λe H Q h=>by erw[q32] at h;calc h))
theorem Og(d:X.A.units+64<cLine)(a:JE X i (tD fi))(b:JE X o (tD fo))(c:behindInMarks .NotIn o=ι:=by rfl):JT X (.Compare i [.NotIn] [o] pos) (d5 (dT (au θ fi fo))) :=
 (Bn (Lo ⋯ a b) c).weak (D3 (D2 (Co (tD fi) (tD fo)) λe H Q h=>by erw[Bool.true_bne] at h;calc h))
theorem D4[j3]{b:Ε}(hu:X.A.units+64<cLine)(E:JE X o (tD fo))(G:JE X i (tD fi))(I:JE X v (tD fv))(hs:swapsWith v (ζ (.Subscript o i b)) pos.line X.env=pure ι:=by rfl):JS X (.Assign [.Subscript o i b] v pos) (eh (aM fv fo fi)) :=
 (Cp ⋯ E G I hs).weak λD σ H ⟨F,J,L,K,S,q,k⟩=>⟨F,J,L,_,S,q,λz c M w N e H1 O P Q=>⟨N,e,c,_,P,M,λx f R u T g H2 m U V=>⟨T,g,f,_,U,R,λy W Y t F3 Z H3 h S3 V3=>by
  let⟨d,δ4,F4,h4,n,j,i4⟩:=n_ S3 ((Q.ext m).ext h) Y;let⟨i,rfl,h5⟩:=yk V3 h4;let⟨k0,B,kvs,a,ws,rfl,p,rfl,r,e2,s,C,l⟩:=rS j ((V.ext h).ext n) h5;let oi:=l (F':=F4) (us:=putK ws (.inl i) w) (s.put i4);refine⟨a,_,rfl,ky.k e2 (kW (by rw[↑s];calc Xd p.1)),?_⟩
  calc k.nx _ p.2 _ _ _ _ ((((O.trans m).trans h).trans n).trans (Ext.put j C r)) (j.put C r oi)⟩⟩⟩
end
def mG(δ0:aI)(t:WT)(b:WS)(K:KS):Nat->aI->Prop
 |0,_=>False
 |n+1,d=>t d λe c=>if e=θ then b {nx:=λa=>mG δ0 t b K n (δ0.trim a),ct:=λa=>mG δ0 t b K n (δ0.trim a),bk:=K.nx,rt:=K.rt} c else K.nx c
def D5(t:WT)(b:WS):WS:=λK a=>∃n,mG a t b K n a
theorem Oh[j3]{X:Cx}{c:υ}{i:-χ}{t:WT}{b:WS}{pos:Ε}(I:PassesOwn (ς X.prog X.w) X.A X.env X.xe)(J:JT X c (d5 t))(L:ee X i (eh b)):JS X (.While c i [] pos) (eh (D5 t b)) :=
 (I_ I J L).weak λD V H ⟨F,v,p,K,S,⟨n,q⟩,k⟩=>by
 calc⟨λm r x=>∃u f e,Ext F v p.mu H u f e.mu x/\SR u f e r x/\mG p t b K m e,⟨n,F,v,p,.refl,S,q⟩,?_⟩;ext m r x ⟨u,f,e,M,N,h⟩
 cases m with
 |zero=>exact h.elim
 |succ m =>
  calc⟨u,f,e,_,N,h,λO y l P z W Q G=>?_⟩;let o:=M.trans Q
  cases O with
  |false =>
   dsimp only at l ⊢;rw[VC Wo] at l ⊢;exact k.nx _ l _ _ _ _ o G
  |true =>
   dsimp only at l ⊢;rw[VE Y] at l ⊢;calc⟨λg s=>∃j d a,Ext F v p.mu H j d a.mu s/\SR j d a g s/\mG p t b K m a,λg s ⟨j,d,a,R,T,U⟩↦⟨m,⋯,j,d,a,R,T,U⟩,?_⟩;calc⟨P,z,y,_,G,l,⟨λa B j d g s C E=>⟨j,_,_,(o.trans C).trim S.di,E.trim,B⟩,k.nx.ext o,λa B j d g s C E=>⟨j,_,_,(o.trans C).trim S.di,E.trim,B⟩,(k.ext o).rt,(k.ext o).kp⟩⟩
end L2
namespace LJ
open PySem L2
variable[a8]
theorem Oi{kvs:-(Key×D)}{k l:Key}{d:D}(h:cL kvs k=η):cL (putD kvs k d) l=if l=k then ζ d else cL kvs l:=by
 let b:(kvs.any λa=>S (a.1=k))=ι:=by
  cases q:kvs.any λa=>S (a.1=k) with
  |false=>rfl
  |true =>
   let⟨a,f,g⟩:=q1l.mp q;unfold cL at h;rw[Option.map_eq_none_iff] at h;exact absurd g (q0s.mp h a f)
 unfold putD;rw[b,VC Wo];unfold cL;rw[List.find?_append]
 cases q:kvs.find? λa=>S (a.1=l) with
 |some a =>
  let e:=q0d q;let e:a.1=l:=by simpa using e
  rw[VC]
  .rfl
  .ext z
   subst z;let i:=q0N q;let:=YU.mp b a i;exact this e⁻¹
 |none =>
  by_cases c:l=k
  .subst c
   rw[VE Y];simp
  .rw[VC c]
   simp[show ¬ k=l fromλz=>c z.symm]
theorem Oj{kvs:-(Key×D)}{k:Key}{d:D}:↑(putD kvs k d)<=↑kvs+1:=by
 unfold putD;split
 .rw[nW];symm
 .rw[qG];simp
inductive ym (ys:-DV) (bF:-OV) (K:RV->-OV->Prop):Prop
 |mk (m:Int) (ws:-(Int×Int×Int)) (ns:-Int) (_:aH m ws) (_:Nums ws ns) (_:ns.Nodup) (_:↑ns<=900) (_:ys=[.p (a6 m ws),.p (a9 ns)]) (_:bF=[]) (_:K (.p .non) [])
def yn:WS:=(az (dr (aA 1 uz (aq (aa 0) ae))) (az (bh (bQ (dT (d1 (aa 1) (cf "list")))) eX cP) (az (aJ 2 (d2 (dN (aq (d2 (aa 0) (dC (.int 1)) ba) ae) bB) (dC (.int 1)) (oI λi j=>.int (i-j)))) (az (aJ 3 aL) (bH (bW (aq (aa 1) ae)) (dz 2 (cj (bj 4) (cj (bj 5) dt))) (az (bh (eP (bQ (dT (aA 3 nv (aq (aa 5) (aq (dC (.int 0)) (aq (aa 2) ae)))))) (dT (au ι (aa 5) (aa 3)))) eX cP) (aM (dC (.bl θ)) (aa 3) (aa 5))))))))
theorem Ol:Sem 2 4 ym yn:=by
 ext P v Q-⟨m,g,a,W,w,x,R,rfl,rfl,k⟩;unfold yn;calc bc λN b=>?_;simp!;calc⟨m,g,W,Y,Y,?_⟩;show N _;subst b;calc bc λN b=>?_;simp!;rw[show a9 a=.lst (a.map D.int) from Y];simp![iz,fJ,q4P];subst b;calc bc λN b=>?_;simp![eB,a6];subst b;calc bc λN b=>?_;simp![aL];subst b
 let C:∀(j:Nat)(d:D),(iS 0 (a.map D.int))[j]?=ζ d->∃n:Int,a[j]?=ζ n/\d=D.tup [.int (j:Int),.int n]:=λj d y=>by
  let⟨e,s,A⟩:=l3 y;rw[B8] at s;let⟨n,B,rfl⟩:=KJ.mp s;exact⟨n,B,by rw[A,VJ]⟩
 let S:↑(iS 0 (a.map D.int))=↑a:=by rw[l0,nW]
 erw[bH,bW,aq,aa,ae,VO,VM,fE];refine jA (λi h=>∃kvs:-(Key×D),↑kvs<=i/\(∀n:Int,(cL kvs (.inl n)).isSome=μ (n∈a.take i))/\h=⟨[ζ (.p (.tup [.int m,.tup (g.map bJ)])),ζ (.p (.lst (a.map D.int))),ζ (.p (.int (↑g-1))),ζ (.o 0),η,η],[ζ (.dct kvs)]⟩) ?_ ?_ ?_
 .refine⟨[],B6 _,λn=>by simp[cL],?_⟩
  erw[nW]
 .ext j d h L E ⟨kvs,T,t,rfl⟩ F
  let⟨n,f,rfl⟩:=C j d E;let⟨G,U⟩:=w n (WU f);let H:j<↑a:=(pa.mp f).1
  let r:(cL kvs (.inl n)).isSome=ι:=by
   rw[t n];calc VD λI=>?_;let⟨i,J,u⟩:=Xr.mp I;rw[Ww] at J;rw[List.getElem_take] at u;let K:a[j]=n:=(pa.mp f).2;let:=(Y3 (h₀:=by symm) (h₁:=H) x).mp (u.trans K.symm);symm
  let M:cL kvs (.inl n)=η:=by
   cases q:cL kvs (.inl n) with
   |none=>rfl
   |some d=>rw[q] at r;cases r
  let O:uh (.int n) 0 (↑g-1)=θ:=by
   show(μ (0<=n)&&μ (n<=(↑g:Int)-1))=θ;rw[VH G,VH ⋯];rfl
  calc⟨trivial,?_⟩;erw[dz,cj,dt,bj,dG,VA,VB,wo,VP];calc⟨trivial,?_⟩;calc bc λN b=>?_;simp!;calc⟨.int n,0,↑g-1,Y,Y,?_⟩;simp![O,au,ar,ak,r,q32];subst b;simp![aM,ar,ak];refine⟨⋯,F _ ⟨putD kvs (.inl n) (.bl θ),?_,λl=>?_,?_⟩⟩
  .let:=Oj (kvs:=kvs) (k:=.inl n) (d:=.bl θ);symm
  .rw[Oi M,Y4,f]
   by_cases c:l=n
   .subst c
    rw[VE Y];exact(VH (by simp)).symm
   .rw[VC (λz=>c (Zg z)),t l]
    simp[c]
  .simp!
 .ext h ⟨kvs,_,_,rfl⟩
  calc⟨trivial,cK k⟩
end LJ
namespace L2
open PySem PySem.Spec PyProof.Rows PySem.W
section
open PySem.SeqAt
open PySem.AutoSeq1 (wpAny_loadPart')
open PySem.MeetsSeq PySem.MeetsSeq2 PySem.MeetsSeq3
end
section
variable{prog:X}{w:l}{A:t}{E:br}{s:L}{Q:Bool->L->Prop}
end
section
variable[a8]{X:Cx}
end
end L2
namespace LJ
open PySem L2
abbrev Lt:=Int×(U×-Int)
noncomputable def fV(es:-Lt):-(Key×V):=es.map λe=>(YA e.1,V.ref e.2.1)
structure eJ(H:Hp)(es:-Lt):Prop where
 at_:∀e∈es,H e.2.1=ζ (.lst (e.2.2.map V.int))
 mH:(es.map (·.2.1)).Nodup
 mI:(es.map (·.1)).Nodup
noncomputable def strip(es:-Lt):-(Int×-Int):=es.map λe=>(e.1,e.2.2)
noncomputable def l7(g:-(Int×-Int))(x h:Int):-(Int×-Int):=if x∈g.map (·.1) then g.map (λe=>if e.1=x then(e.1,e.2++[h]) else e) else g++[(x,[h])]
noncomputable def eU(fs:-Int):Nat->-(Int×-Int)
 |0=>[]
 |i+1=>l7 (eU fs i) (fs.getD i 0) i
theorem D6(x:Int):∀es:-Lt,dh (fV es) (YA x:Key)=(es.find? λe=>S (e.1=x)).map λe=>V.ref e.2.1
 |[]=>Y
 |e::a=>by
  by_cases c:e.1=x
  .rw[ZW c⁻¹]
   exact qP (congrArg YA c)
  .rw[ZX c⁻¹]
   let:=D6 x a;rw[<-this];calc qQ (λz=>c (Zg z))
theorem Om(es:-Lt):(strip es).map (·.1)=es.map (·.1):=by unfold strip;rw[VW];rfl
noncomputable def grow(es:-Lt)(x h:Int):-Lt:=es.map λe=>if e.1=x then(e.1,e.2.1,e.2.2++[h]) else e
theorem Oo(es:-Lt)(x h:Int):fV (grow es x h)=fV es:=by
 unfold fV grow;rw[VW];calc W7 λe _=>?_;show((YA (if e.1=x then(e.1,e.2.1,e.2.2++[h]) else e).1:Key),V.ref (if e.1=x then(e.1,e.2.1,e.2.2++[h]) else e).2.1)=_;split<;>rfl
theorem Oq(es:-Lt)(x h:Int):(grow es x h).map (·.2.1)=es.map (·.2.1):=by
 unfold grow;rw[VW];calc W7 λe _=>?_;show(if e.1=x then(e.1,e.2.1,e.2.2++[h]) else e).2.1=_;split<;>rfl
theorem Ot(es:-Lt)(x h:Int):(grow es x h).map (·.1)=es.map (·.1):=by
 unfold grow;rw[VW];calc W7 λe _=>?_;show(if e.1=x then(e.1,e.2.1,e.2.2++[h]) else e).1=_;split<;>rfl
theorem Ou{es:-Lt}{x h:Int}(a:x∈es.map (·.1)):strip (grow es x h)=l7 (strip es) x h:=by
 unfold l7;rw[VE (by rw[Om];calc a)];unfold strip grow;rw[VW,VW];calc W7 λe _=>?_;show((if e.1=x then(e.1,e.2.1,e.2.2++[h]) else e).1,(if e.1=x then(e.1,e.2.1,e.2.2++[h]) else e).2.2)=if e.1=x then(e.1,e.2.2++[h]) else(e.1,e.2.2);split<;>rfl
theorem Ov{es:-Lt}(n:(es.map (·.1)).Nodup){e a:Lt}(h:e∈es)(h':a∈es)(q:e.1=a.1):e=a:=by
 let⟨i,b,rfl⟩:=Xr.mp h;let⟨j,c,rfl⟩:=Xr.mp h';let:=(Y3 (h₀:=by rw[nW];calc b) (h₁:=by rw[nW];calc c) n).mp (by rw[Yl,Yl];calc q);subst this;rfl
theorem Ox{es:-Lt}(n:(es.map (·.2.1)).Nodup){e a:Lt}(h:e∈es)(h':a∈es)(q:e.2.1=a.2.1):e=a:=by
 let⟨i,b,rfl⟩:=Xr.mp h;let⟨j,c,rfl⟩:=Xr.mp h';let:=(Y3 (h₀:=by rw[nW];calc b) (h₁:=by rw[nW];calc c) n).mp (by rw[Yl,Yl];calc q);subst this;rfl
theorem eJ.grow{H:Hp}{es:-Lt}{e:Lt}{h:Int}(L:eJ H es)(he:e∈es):eJ (upd H e.2.1 (.lst (e.2.2.map V.int++[V.int h]))) (grow es e.1 h):=by
 calc⟨λf a=>?_,by rw[Oq];calc L.mH,by rw[Ot];calc L.mI⟩;unfold LJ.grow at a;let⟨d,b,rfl⟩:=VI.mp a
 by_cases c:d.1=e.1
 .obtain rfl:=Ov L.mI b he c
  rw[VE Y];show upd H d.2.1 _ d.2.1=ζ (.lst ((d.2.2++[h]).map V.int));rw[cw,VR];rfl
 .rw[VC c]
  rw[bt λz=>c (by rw[Ox L.mH b he z])];calc L.at_ d b
theorem eJ.snoc{H H':Hp}{es:-Lt}{x h:Int}{n:U}(L:eJ H es)(hn:H n=η)(g:x∉es.map (·.1))(i:∀e∈es,H' e.2.1=H e.2.1)(h':H' n=ζ (.lst [V.int h])):eJ H' (es++[(x,n,[h])]):=by
 refine⟨λe c=>?_,?_,?_⟩
 .rcases VZ.mp c with q|q
  .rw[i e q];exact L.at_ e q
  .rw[Wn.mp q];exact h'
 .rw[VR]
  calc Xs.mpr ⟨L.mH,by simp,λa d b f z=>?_⟩;subst z;let⟨e,c,rfl⟩:=VI.mp d;let:e.2.1=n:=by simpa using f
  rw[<-this,L.at_ e c] at hn;cases hn
 .rw[VR]
  calc Xs.mpr ⟨L.mI,by simp,λa d b f z=>?_⟩;subst z;let:a=x:=by simpa using f
  calc g (by rw[<-this];calc d)
variable[a8]
inductive D7 (ys:-DV) (bF:-OV) (K:RV->-OV->Prop):Prop
 |mk (m:Int) (ws:-(Int×Int×Int)) (ns:-Int) (_:aH m ws) (_:Nums ws ns) (_:ns.Nodup) (_:↑ns<=900) (_:ys=[.p (a6 m ws),.p (a9 ns)]) (_:bF=[]) (_:K (.p (xW ((eU (ic m ws ns) m.toNat).map (·.2)))) [])
end LJ
namespace L2
open PySem
variable[a8]
section
variable{F F' H H':Hp}{ad bV:-U}{δ δ':aI}{σ σ':St}
def D8(H:Hp)(v:V)(H':Hp):Prop:=∃a b r,v=.ref a/\H a=η/\H' a=ζ (.lst (.ref b::r))/\H b=η
end
section
variable{X:Cx}{UX UY yo UZ:y}{i n:Nat}{G:GD}{fa:WA}{t:WT}{B:TS}{E:XK}
end
end L2
namespace LJ
open PySem L2
variable[a8]
def Oy:V->-V->Hp->VK->Prop:=λx c H Q=>∃(d:U)(a:-(Key×V))(k:Key)(b:V),x=.ref d/\c=[kV k,b]/\H d=ζ (.dK a)/\↑a<sizeLine/\(∀v,dh a k=ζ v->Q v H)/\(dh a k=η->Q b (upd H d (.dK (putK a k b))))
def Oz:V->-V->Hp->VK->Prop:=λx b H Q=>∃(d:U)(a:-(Key×V)),x=.ref d/\b=[]/\H d=ζ (.dK a)/\∀r,H r=η->Q (.ref r) (upd H r (jd r d))
def OA:-V->Hp->VK->Prop:=λb H Q=>∃(r d:U)(a:-(Key×V)),b=[.ref r]/\H r=ζ (jd r d)/\H d=ζ (.dK a)/\∀l,H l=η->Q (.ref l) (upd H l (.lst (a.map (·.2))))
def OB:TS:=eh (dr (aA 2 ym (aq (aa 0) (aq (aa 1) ae))))
def OC(Kf:KD):TS:=me (ki Cr (nN 2)) (me (qq (Ce Kf (jG (qy (lZ uj 2) [] E0 (jG (iZ 0) (jG (iZ 1) iv))) iv)) (qm Kf 2 (vL (nN 3) (vL (nN 4) qj)))
 (Bp (o_ Kf "list" wj (o_ Kf "dict" Oy (iZ 2) (jG (iZ 4) (jG (qx iv) iv))) (jG (iZ 3) iv))))
 (qg (qA OA (jG (qF Kf "dict" Oz (iZ 2)) iv))))
theorem OD{fs:-Int}:∀{i:Nat},0<i->eU fs i≠[]
 |i+1,_,z=>by
  unfold eU l7 at z;split at z
  .rename_i c
   rw[q2e] at z;rw[z] at c;exact nomatch c
  .simp at z
theorem OE{Kf:KD}{H F0:Hp}{ad:-ξ}{vs:-V}{m:Int}{ws:-(Int×Int×Int)}{ns:-Int}{K':RV->-OV->Prop}{Q:VK}{Dd:Ends}(hl:↑vs=2)(W:aH m ws)(hn:Nums ws ns)(hd:ns.Nodup)(yp:↑ns<=900)
  (hK:K' (.p (xW ((eU (ic m ws ns) m.toNat).map (·.2)))) []) (S0:SR F0 ad ⟨[DV.p (a6 m ws),DV.p (a9 ns)].map ζ,([]:-OV).map ζ⟩ (vs.map ζ) H) (kk:∀r O,K' r O->∀v F' H',tX F0 ad H r O v F' H'->D8 H v H'->Q v H') (hD:∀v H',Q v H'->Dd.rt v H') :
  me OB (OC Kf) Dd (start ["web", "ways", "lots", "house", "first"] vs) H:=by
 let ea:ad=[]:=by let:=S0.di;simpa using this
 subst ea;let P:=S0.start (N:=["web", "ways", "lots", "house", "first"]);rw[hl] at P;refine⟨F0,[],_,{nx:=fun δ'=>δ'=⟨[ζ (.p (a6 m ws)),ζ (.p (a9 ns)),η,η,η],[]⟩,rt:=λ_ _=>False},P,?_,⟨?_,λ_ h=>h.elim,λ_ h=>h.elim,λ_ _ h=>h.elim,trivial⟩⟩
 .simp!
  exact⟨m,ws,ns,W,hn,hd,yp,rfl,rfl,rfl⟩
 ext δ' rfl F1 pC σ1 H1 E1 P;let ea:pC=[]:=by let:=P.di;simpa using this
 subst ea;let⟨v0,e0,i0⟩:=P.sl 0 _ rfl;let⟨v1,e1,i1⟩:=P.sl 1 _ rfl;let s:=P.len
 let⟨w2,w3,w4,rfl⟩:∃w2 w3 w4,σ1=[ζ v0,ζ v1,w2,w3,w4]:=by
  let⟨a,r,rfl⟩:=XZ s;let⟨b,r,rfl⟩:=XZ (YI s);let s:=YI (YI s);let⟨c,r,rfl⟩:=XZ s;let⟨d,r,rfl⟩:=XZ (YI s);let⟨e,rfl⟩:=q1z.mp (YI (YI s));cases(show ζ a=ζ (ζ v0) from e0)
  cases(show ζ b=ζ (ζ v1) from e1)
  exact⟨c,d,e,rfl⟩
 ext f R
 let rT:H f=η:=by
  cases q:H f with
  |none=>rfl
  |some u=>let⟨u',h'⟩:=E1.iB f u q;rw[R] at h';cases h'
 let fl:F1 f=η:=by
  cases q:F1 f with
  |none=>rfl
  |some u=>rw[P.sub f u q] at R;cases R
 let nl:¬ Lv [] ([]:-(Option OV)) f:=λ⟨k,ov,z,_⟩↦by simp at z
 let S2:=P.other (o:=.dK []) fl nl (a8.same P.tab (c_ R));let E2:=E1.other (o:=.dK []) rT;calc⟨_,rfl,_,rfl,?_⟩;calc wX (E:=E0) (xs:=[.p (a6 m ws),.p (a9 ns)]) (K:=λr O=>r=.p (a9 (ic m ws ns))/\O=[]) S2 ⟨v0,_,rfl,i0,v1,_,rfl,i1,rfl⟩ rfl rfl rfl ⟨m,ws,ns,W,hn,.inl ⟨rfl,rfl,rfl,rfl⟩⟩ λres O v L A ⟨er,eo⟩ X3 S3 B=>?_;subst er eo;let rU:↑(ic m ws ns)=m.toNat:=Nv;let iA:=W.iA;generalize ic m ws ns=M at hK B rU;let B:Is L (.lst (M.map D.int)) v:=B;erw[Is] at B;let⟨g,us,rfl,hg,iu⟩:=B;let OF:=lB iu;subst OF;let yq:Ext F1 [] [] (upd H1 f (.dK [])) L [] [] A:=X3;let E3:Ext F0 [] [] H L [] [] A:=E2.trans yq
 let U:∀a,¬ Lv [] ([]:-(Option OV)) a:=λa ⟨k,ov,z,_⟩↦by simp at z
 let OG:f∉a8.ad:=λz=>by let⟨ps,q⟩:=a8.tb P.tab z;rw[R] at q;cases q
 let X:A f=ζ (.dK []):=yq.keep f _ cw (U _) OG;let Y:A g=ζ (.lst (M.map V.int)):=S3.sub _ _ hg
 let OH:L f=η:=by
  cases q:L f with
  |none=>rfl
  |some u =>
   rcases yq.new f u q with z|z|z
   .rw[fl] at z;cases z
   .rw[cw] at z;cases z
   .exact absurd z (U _)
 let gd:g≠f:=λz=>by rw[z,X] at Y;cases Y
 calc⟨g,rfl,⟨_,bS.of Y⟩,?_⟩;refine Ci (K:=Kf) (a:=g) (xs:=M.map V.int) (λi σ C=>∃(n:-Lt)(w3 w4:Option V),σ=[ζ v0,ζ v1,ζ (.ref f),w3,w4]/\(∀a o,A a=ζ o->a≠f->C a=ζ o)/\a8.ok C/\C f=ζ (.dK (fV n))/\eJ C n/\(∀e∈n,A e.2.1=η)/\strip n=eU M i/\↑n<=i/\∀e∈n,↑e.2.2<=i) ?_ (λi σ C _ ⟨_,_,_,_,Z,_⟩↦bS.of (Z g _ Y gd)) ?_ ?_
 .exact⟨[],w3,w4,rfl,λa o e _=>e,S3.tab,X,⟨(λe l=>nomatch l),YL,YL⟩,(λe l=>nomatch l),rfl,B6 _,λe l=>nomatch l⟩
 .ext i x T' σ C hx ⟨n,w3,w4,rfl,Z,tk,F,L4,fr,st,le,ll⟩ OI
  rw[B8] at hx;let⟨y,ey,rfl⟩:=KJ.mp hx;let hi:=(pa.mp ey).1;let eD:M.getD i 0=y:=by rw[KH,ey];rfl
  let s5:a_ C (upd C T' (.tup [.int (i:Int),.int y])):=l5 OI;calc⟨T',_,rfl,cF.of cw,rfl,_,_,rfl,_,_,rfl,rfl,?_⟩;let OJ:=s5 _ _ F;calc⟨_,rfl,.inr (.inr (.inl ⟨rfl,.inl ⟨_,OJ⟩⟩)),_,rfl,VY _,λG D9=>?_⟩;let I:=s5.trans (l5 (o:=.lst []) D9);let uA:=I _ _ F;let rV:upd (upd C T' (.tup [.int (i:Int),.int y])) G (.lst []) G=ζ (.lst []):=cw;let w:C G=η:=s5.free D9;let J:=a8.same tk I;generalize upd (upd C T' (.tup [.int (i:Int),.int y])) G (.lst [])=H6 at I uA rV J;let L6:eJ H6 n:=⟨λe l=>I _ _ (L4.at_ e l),L4.mH,L4.mI⟩;let yr:G≠f:=λz=>by rw[z,F] at w;cases w
  let rW:A G=η:=by
   cases q:A G with
   |none=>rfl
   |some u=>rw[Z G u q yr] at w;cases w
  let fv:=D6 y n;refine⟨f,fV n,YA y,.ref G,rfl,rfl,uA,kW (by unfold fV;rw[nW];symm),λv hv=>?_,λhv=>?_⟩
  .rw[hv] at fv
   cases ff:n.find? λe=>μ (e.1=y) with
   |none=>rw[ff] at fv;cases fv
   |some e =>
    rw[ff] at fv;obtain rfl:v=V.ref e.2.1:=by simpa using fv
    let l:e∈n:=q0N ff;let ek:e.1=y:=by simpa using q0d ff
    let uB:y∈n.map (·.1):=VI.mpr ⟨e,l,ek⟩;let yt:=L6.at_ e l;let yu:e.2.1≠f:=λz=>by let:=fr e l;rw[z,X] at this;cases this
    refine⟨.inl ⟨rfl,_,bS.of yt⟩,_,rfl,e.2.1,_,_,rfl,rfl,yt,?_,?_⟩
    .refine kW ?_
     rw[nW];let:=ll e l;symm
    .refine⟨LJ.grow n y i,_,_,rfl,λb' o eb nb=>?_,a8.put J yt (.inl ⟨_,rfl⟩),?_,?_,?_,?_,?_,?_⟩
     .rw[bt (ed eb (fr e l))];exact I _ _ (Z _ _ eb nb)
     .rw[bt (Yz yu),Oo];exact uA
     .rw[<-ek];exact L6.grow l
     .ext e' S
      unfold LJ.grow at S;let⟨d,hd,rfl⟩:=VI.mp S;let:=fr d hd;split<;>exact this
     .rw[Ou uB,st];show l7 (eU M i) y i=l7 (eU M i) (M.getD i 0) i;rw[eD]
     .unfold LJ.grow;rw[nW];symm
     .ext e' S
      unfold LJ.grow at S;let⟨d,hd,rfl⟩:=VI.mp S;let:=ll d hd;split
      .show ↑(d.2.2++[(i:Int)])<=i+1
       rw[qG,WJ];symm
      .omega
  .rw[hv] at fv
   let uB:y∉n.map (·.1):=λz=>by
    let⟨e,l,ek⟩:=VI.mp z
    cases ff:n.find? λe=>μ (e.1=y) with
    |none=>exact absurd (q0s.mp ff e l) ek⁻¹
    |some e'=>rw[ff] at fv;cases fv
   let T:upd H6 f (.dK (putK (fV n) (YA y) (.ref G))) G=ζ (.lst []):=by rw[bt yr];exact rV
   calc⟨.inl ⟨rfl,_,bS.of T⟩,_,rfl,G,_,_,rfl,rfl,T,kW (VY _),?_⟩;refine⟨n++[(y,G,[(i:Int)])],_,_,rfl,λb' o eb nb=>?_,a8.put (a8.put J uA (.inr (.inl ⟨_,rfl⟩))) T (.inl ⟨_,rfl⟩),?_,?_,?_,?_,?_,?_⟩
   .rw[bt (ed eb rW),bt nb];exact I _ _ (Z _ _ eb nb)
   .rw[bt (Yz yr),cw,Lb _ hv];unfold fV;rw[VR];rfl
   .refine L4.snoc w uB (λe l=>?_) (by rw[cw];rfl)
    let ne1:e.2.1≠G:=ed (L4.at_ e l) w;let yu:e.2.1≠f:=λz=>by let:=fr e l;rw[z,X] at this;cases this
    rw[bt ne1,bt yu,L4.at_ e l];exact I _ _ (L4.at_ e l)
   .ext e l
    rcases VZ.mp l with q|q
    .exact fr e q
    .rw[Wn.mp q];exact rW
   .unfold strip at st ⊢
    rw[VR,st];show eU M i++[(y,[(i:Int)])]=l7 (eU M i) (M.getD i 0) i;unfold l7;rw[eD,VC (by rw[<-st,VW];calc uB)]
   .rw[qG,WJ];symm
   .ext e l
    rcases VZ.mp l with q|q
    .let:=ll e q;symm
    .rw[Wn.mp q];show 1<=i+1;symm
 .ext σ C ⟨n,w3,w4,rfl,Z,tk,F,L4,fr,st,le,ll⟩
  rw[nW,rU] at st;calc⟨_,rfl,.inr (.inr (.inl ⟨rfl,.inl ⟨_,F⟩⟩)),f,_,rfl,rfl,F,λv hv=>?_⟩;let s5:a_ C (upd C v (jd v f)):=l5 hv;calc⟨v,f,_,rfl,cw,s5 _ _ F,λr D_=>?_⟩;let I:=s5.trans (l5 (o:=.lst ((fV n).map (·.2))) D_);let uC:C r=η:=s5.free D_;let yw:upd (upd C v (jd v f)) r (.lst ((fV n).map (·.2))) r=ζ (.lst ((fV n).map (·.2))):=cw;let J:=a8.same tk I;generalize upd (upd C v (jd v f)) r (.lst ((fV n).map (·.2)))=H5 at I yw J;let OK:r≠f:=λz=>by rw[z,F] at uC;cases uC
  let Ea:A r=η:=by
   cases q:A r with
   |none=>rfl
   |some u=>rw[Z r u q OK] at uC;cases uC
  let non:∀{x:ξ},A x=η->H x=η:=λ{x} e=>by
   cases q:H x with
   |none=>rfl
   |some u=>let⟨u',z⟩:=E3.iB x u q;rw[e] at z;cases z
  let OL:D8 H (.ref r) H5:=by
   cases n with
   |nil=>exact absurd st.symm (OD (by let:=W.m1;symm))
   |cons e n=>exact⟨r,e.2.1,_,rfl,non Ea,yw,non (fr e Uz)⟩
  calc hD _ _ (kk _ _ hK _ (Nw L A H5) _ ?_ OL);let sm:a_ L (Nw L A H5):=Nw.same S3.sub;refine⟨λa o e=>?_,E3.same.trans sm,λa o e=>?_,λa o e _ t=>?_,J,S3.nt.up sm λa ha=>?_,rfl,λj ow e=>by simp at e,λa ha=>by simp at ha,?_⟩
  .unfold Nw at e
   cases q:A a with
   |none=>rw[q] at e;exact e
   |some u =>
    rw[q] at e;let e:L a=ζ o:=e;exact I _ _ (Z _ _ (S3.sub _ _ e) λz=>by rw[z,OH] at e;cases e)
  .unfold Nw at e
   cases q:A a with
   |none =>
    refine .inr ?_
    cases q0:H a with
    |none=>rfl
    |some u=>let⟨u',h'⟩:=E3.iB a u q0;rw[q] at h';cases h'
   |some u =>
    rw[q] at e;let e:L a=ζ o:=e;rcases E3.new a o e with z|z|z
    .exact .inl z
    .exact .inr z
    .exact absurd z (U _)
  .exact I _ _ (Z _ _ (E3.keep a o e (U _) t) λz=>by rw[z,rT] at e;cases e)
  .let⟨ps,q⟩:=a8.tb S3.tab ha
   unfold Nw;rw[q];exact S3.nt a ha
  .show Is (Nw L A H5) (.lst (((eU M m.toNat).map (·.2)).map a9)) _
   erw[Is];calc⟨r,_,rfl,by unfold Nw;rw[Ea];calc yw,?_⟩;rw[<-st]
   let key:∀xs:-Lt,(∀e∈xs,e∈n)->ax (Nw L A H5) (((strip xs).map (·.2)).map a9) ((fV xs).map (·.2)):=by
    ext xs
    induction xs with
    |nil=>ext _;exact .nil
    |cons e xs ih =>
     ext h;show ax _ (a9 e.2.2::_) (V.ref e.2.1::_);erw[ax];calc⟨_,_,rfl,?_,ih λx hx=>h x (UA _ hx)⟩;let l:=h e Uz;show Is _ (.lst (e.2.2.map D.int)) _;erw[Is];refine⟨e.2.1,e.2.2.map V.int,rfl,by unfold Nw;rw[fr e l];calc I _ _ (L4.at_ e l),mB⟩
   calc key n λ_ h=>h
noncomputable def yx(p q:Int)(fs:-Int):-Int:=fs.map λx=>if x=p then q else x
theorem OM{p q x y:Int}:(if x=p then q else x)=(if y=p then q else y)↔x=y\/((x=p\/x=q)/\(y=p\/y=q)):=by
 by_cases a:x=p<;>by_cases b:y=p
 .rw[VE a,VE b];constructor<;>ext h<;>symm
 .rw[VE a,VC b];constructor<;>ext h<;>symm
 .rw[VC a,VE b];constructor<;>ext h<;>symm
 .rw[VC a,VC b];constructor<;>ext h<;>symm
theorem Eb{f:Int->Int}{fs:-Int}{i:Nat}(h:i<fs.length):(fs.map f).getD i 0=f (fs.getD i 0):=by
 rw[KH,B8,tE h,KH,tE h];rfl
theorem rX{a b:Int}:dEq (.int a) (.int b)=S (a=b):=by
 cases q:dEq (.int a) (.int b)
 .exact (VD λz=>by rw[z,lA] at q;cases q).symm
 .erw[dEq] at q
  calc(VH (XX q)).symm
end LJ
namespace LJ
open PySem L2
abbrev Wy:=Int×Int×Int
def uD(S:Wy->Prop)(a b:Int):Prop:=∃w,S w/\((w.1=a/\w.2.1=b)\/(w.1=b/\w.2.1=a))
inductive bz (S:Wy->Prop) (a:Int):Int->Prop
 |rf:bz S a a
 |st {b c:Int}:bz S a b->uD S b c->bz S a c
section
variable{S S':Wy->Prop}{a b c:Int}
theorem uD.symm(h:uD S a b):uD S b a:=let⟨w,c,d⟩:=h;⟨w,c,d.symm⟩
theorem bz.trans(h:bz S a b)(h':bz S b c):bz S a c:=by
 induction h' with
 |rf=>exact h
 |st _ e d=>calc .st d e
theorem bz.symm(h:bz S a b):bz S b a:=by
 induction h with
 |rf=>exact .rf
 |st _ e c=>calc(bz.st .rf e.symm).trans c
theorem bz.bind(h:bz S a b)(k:∀w,S w->bz S' w.1 w.2.1):bz S' a b:=by
 induction h with
 |rf=>exact .rf
 |st _ e c =>
  let⟨w,d,f⟩:=e;rcases f with⟨rfl,rfl⟩|⟨rfl,rfl⟩
  .exact c.trans (k w d)
  .calc c.trans (k w d).symm
theorem bz.one{w:Wy}(h:S w):bz S w.1 w.2.1:=.st .rf ⟨w,h,.inl ⟨Y,Y⟩⟩
theorem bz.mono(h:bz S a b)(k:∀w,S w->S' w):bz S' a b:=h.bind λw c=>.one (k w c)
theorem bz.none(h:bz S a b)(k:∀w,¬ S w):a=b:=by
 cases h with
 |rf=>rfl
 |st _ e=>let⟨w,c,_⟩:=e;calc absurd c (k w)
theorem bz.add{w:Wy}(k:∀v,S' v↔S v\/v=w):bz S' a b↔bz S a b\/(bz S a w.1/\bz S w.2.1 b)\/(bz S a w.2.1/\bz S w.1 b):=by
 constructor
 .ext h
  induction h with
  |rf=>exact .inl .rf
  |st _ e f =>
   rename_i b c _;let⟨v,g,n⟩:=e;rcases(k v).mp g with g|rfl
   .let l:bz S b c:=.st .rf ⟨v,g,n⟩
    rcases f with i|⟨i,j⟩|⟨i,j⟩
    .exact .inl (i.trans l)
    .exact .inr (.inl ⟨i,j.trans l⟩)
    .exact .inr (.inr ⟨i,j.trans l⟩)
   .rcases n with⟨rfl,rfl⟩|⟨rfl,rfl⟩
    .rcases f with i|⟨i,j⟩|⟨i,j⟩
     .exact .inr (.inl ⟨i,.rf⟩)
     .exact .inr (.inl ⟨i,.rf⟩)
     .exact .inl i
    .rcases f with i|⟨i,j⟩|⟨i,j⟩
     .exact .inr (.inr ⟨i,.rf⟩)
     .exact .inl i
     .exact .inr (.inr ⟨i,.rf⟩)
 .let d:∀{x y},bz S x y->bz S' x y:=λh=>h.mono λv p=>(k v).mpr (.inl p)
  let o:bz S' w.1 w.2.1:=.one ((k w).mpr (.inr Y));ext(h|⟨h,m⟩|⟨h,m⟩)
  .exact d h
  .exact ((d h).trans o).trans (d m)
  .calc ((d h).trans o.symm).trans (d m)
end
variable[a8]
def cC(n:Nat)(fs:-Int)(S:Wy->Prop):Prop:=fs.length=n/\∀i j:Nat,i<n->j<n->(fs.getD i 0=fs.getD j 0↔bz S i j)
theorem Ec{n i:Nat}(h:i<n):(bK n).getD i 0=i:=by
 unfold bK;rw[KH,B8,Yx h];rfl
theorem cC.start(n:Nat):cC n (bK n) (λ_=>False):=by
 calc⟨by unfold bK;simp,λi j a b=>?_⟩;rw[Ec a,Ec b];calc⟨λe=>by rw[e];calc .rf,λh=>h.none λ_ z=>z⟩
theorem cC.join{n i j:Nat}{fs:-Int}{S S':Wy->Prop}{w:Wy}{p q:Int}(h:cC n fs S)(e:i<n)(f:j<n)(g:w.1=i)(l:w.2.1=j)(k:∀v,S' v↔S v\/v=w)(m:(p=fs.getD i 0/\q=fs.getD j 0)\/(p=fs.getD j 0/\q=fs.getD i 0)):cC n (yx p q fs) S':=by
 calc⟨by unfold yx;rw[nW,h.1],λx y c d=>?_⟩;unfold yx;rw[Eb (by rw[h.1];calc c),Eb (by rw[h.1];calc d),OM,bz.add k,g,l,<-h.2 x y c d,<-h.2 x i c e,<-h.2 x j c f,<-h.2 j y f d,<-h.2 i y e d];rcases m with⟨rfl,rfl⟩|⟨rfl,rfl⟩
 .constructor
  .ext (h|⟨a|a,b|b⟩)
   .exact .inl h
   .exact .inl (a.trans b.symm)
   .exact .inr (.inl ⟨a,b.symm⟩)
   .exact .inr (.inr ⟨a,b.symm⟩)
   .exact .inl (a.trans b.symm)
  .ext (h|⟨a,b⟩|⟨a,b⟩)
   .exact .inl h
   .exact .inr ⟨.inl a,.inr b.symm⟩
   .exact .inr ⟨.inr a,.inl b.symm⟩
 .constructor
  .ext (h|⟨a|a,b|b⟩)
   .exact .inl h
   .exact .inl (a.trans b.symm)
   .exact .inr (.inr ⟨a,b.symm⟩)
   .exact .inr (.inl ⟨a,b.symm⟩)
   .exact .inl (a.trans b.symm)
  .ext (h|⟨a,b⟩|⟨a,b⟩)
   .exact .inl h
   .exact .inr ⟨.inr a,.inl b.symm⟩
   .calc .inr ⟨.inl a,.inr b.symm⟩
noncomputable def aN(ws:-Wy)(n:Int):Wy:=ws.getD n.toNat (0,0,0)
theorem k7(n:Nat):↑(bK n)=n:=by unfold bK;simp
structure Good(fs:-Int):Prop where
 le:∀h:Nat,h<fs.length->0<=fs.getD h 0/\fs.getD h 0<=h
 own:∀h:Nat,h<fs.length->fs.getD (fs.getD h 0).toNat 0=fs.getD h 0
theorem getD_at{fs:-Int}{h:Nat}(a:h<fs.length):fs.getD h 0=fs[h]:=by rw[KH,tE a];rfl
theorem OO{fs:-Int}{i j h:Nat}(a:h<fs.length):(hJ fs i j).getD h 0=if fs.getD h 0=max (fs.getD i 0) (fs.getD j 0) then min (fs.getD i 0) (fs.getD j 0) else fs.getD h 0:=by
 rw[getD_at (by rw[rM];calc a),getD_at a];unfold hJ;rw[Yl]
theorem OP(n:Nat):Good (bK n):=by
 let e:∀h:Nat,h<↑(bK n)->(bK n).getD h 0=h:=λh a=>by
  rw[k7] at a;rw[bK,KH,B8,Yx a];rfl
 calc⟨λh a=>by rw[e h a];symm,λh a=>?_⟩;rw[e h a,V8,e h a]
theorem Good.join{fs:-Int}(G:Good fs){i j:Nat}(f:i<fs.length)(l:j<fs.length):Good (hJ fs i j):=by
 let p:=G.le i f;let q:=G.le j l;let r:=G.own i f;let s:=G.own j l;generalize m:max (fs.getD i 0) (fs.getD j 0)=g;generalize n:min (fs.getD i 0) (fs.getD j 0)=k
 let o:0<=k/\k<=g/\k.toNat<fs.length/\fs.getD k.toNat 0=k:=by
  rw[<-m,<-n];rcases Int.le_total (fs.getD i 0) (fs.getD j 0) with c|c
  .rw[q3A c,q3b c];exact⟨p.1,c,⋯,r⟩
  .rw[q3c c,q3B c];exact⟨q.1,c,⋯,s⟩
 let e:∀h,h<fs.length->(hJ fs i j).getD h 0=if fs.getD h 0=g then k else fs.getD h 0:=λh a=>by rw[OO a,m,n]
 refine⟨λh a=>?_,λh a=>?_⟩
 .rw[rM] at a
  let:=G.le h a;rw[e h a];split<;>symm
 .rw[rM] at a
  let b:=G.le h a;let c:=G.own h a;rw[e h a]
  by_cases d:fs.getD h 0=g
  .rw[VE d,e _ o.2.2.1,o.2.2.2]
   split<;>rfl
  .rw[VC d,e _ ⋯,c,VC d]
theorem uE{m:Int}{ws:-Wy}(W:aH m ws){n:Int}(e:0<=n)(a:n<(↑ws:Int)):∃i k:Nat,dO ws n=(i,k)/\(aN ws n).1=i/\(aN ws n).2.1=k/\i<m.toNat/\k<m.toNat:=by
 let⟨y,b,g,_,i,k,c,d,a,f,_⟩:=mE W e a;calc⟨i,k,?_,by unfold aN;rw[b];calc c,by unfold aN;rw[b];calc d,a,f⟩;unfold dO;rw[b,c,d,V8,V8]
theorem Ed{m:Int}{ws:-Wy}(W:aH m ws):∀(ns fs:-Int),Nums ws ns->fs.length=m.toNat->Good fs->Good (gg ws fs ns)
 |[],_,_,_,G=>G
 |n::c,d,a,f,G=>by
  let b:=a n (Uz ..);let⟨i,k,e,_,_,h,j⟩:=uE W b.1 b.2;calc Ed W c _ (λx g=>a x (UA _ g)) (by rw[rM];calc f) ?_;show Good (hJ d (dO ws n).1 (dO ws n).2);rw[e];calc G.join ⋯ ⋯
theorem Ee{m:Int}{ws:-Wy}(W:aH m ws):∀(ns fs:-Int)(S:Wy->Prop),Nums ws ns->cC m.toNat fs S->cC m.toNat (gg ws fs ns) (λv=>S v\/∃k∈ns,v=aN ws k)
 |[],a,S,_,h=>by
  let:(λv=>S v\/∃k∈([]:-Int),v=aN ws k)=S:=funext λv=>propext (by simp);rw[this];exact h
 |n::f,a,S,g,h=>by
  let b:=g n (Uz ..);let⟨i,k,e,j,l,o,r⟩:=uE W b.1 b.2
  let c:cC m.toNat (hJ a i k) (λv=>S v\/v=aN ws n):=by
   calc cC.join (w:=aN ws n) (p:=max (a.getD i 0) (a.getD k 0)) (q:=min (a.getD i 0) (a.getD k 0)) h o r j l (λv=>Iff.rfl) ?_;symm
  let:=Ee W f _ _ (λx s=>g x (UA _ s)) c
  let t:(λv=>(S v\/v=aN ws n)\/∃k∈f,v=aN ws k)=(λv=>S v\/∃k∈n::f,v=aN ws k):=funext λv=>propext (by
   constructor
   .ext ((h|h)|⟨k,d,h⟩)
    .exact .inl h
    .exact .inr ⟨n,Uz,h⟩
    .exact .inr ⟨k,UA _ d,h⟩
   .ext (h|⟨k,d,h⟩)
    .exact .inl (.inl h)
    .rcases Uy.mp d with rfl|d
     .exact .inl (.inr h)
     .calc .inr ⟨k,d,h⟩)
  rw[t] at this;show cC _ (gg ws (hJ a (dO ws n).1 (dO ws n).2) f) _;rw[e];calc this
def eV(ws:-Wy)(ns:-Int):Wy->Prop:=λv=>∃k∈ns,v=aN ws k
theorem yy{m:Int}{ws:-Wy}(W:aH m ws){ns:-Int}(hn:Nums ws ns):cC m.toNat (ic m ws ns) (eV ws ns):=by
 let:=Ee W ns _ _ hn (cC.start m.toNat);let a:(λv=>False\/∃k∈ns,v=aN ws k)=eV ws ns:=funext λv=>propext (by unfold eV;simp);rw[a] at this;calc this
theorem OQ{m:Int}{ws:-Wy}(W:aH m ws){ns:-Int}(hn:Nums ws ns):Good (ic m ws ns):=Ed W ns _ hn (k7 _) (OP _)
noncomputable def dj(fs:-Int)(i:Nat)(x:Int):-Int:=((Wq i).filter λh=>S (fs.getD h 0=x)).map λh:Nat=>(h:Int)
noncomputable def roots(fs:-Int)(i:Nat):-Nat:=(Wq i).filter λh=>S (fs.getD h 0=(h:Int))
theorem Ef{fs:-Int}(G:Good fs):∀i,i<=fs.length->eU fs i=(roots fs i).map λr:Nat=>((r:Int),dj fs i (r:Int))
 |0,_=>Y
 |i+1,s=>by
  let m:=Ef G i ⋯;let n:=G.le i ⋯;let f:=G.own i ⋯;show l7 (eU fs i) (fs.getD i 0) i=_;rw[m];let g:((roots fs i).map λr:Nat=>((r:Int),dj fs i (r:Int))).map (·.1)=(roots fs i).map λr:Nat=>(r:Int):=by rw[VW];rfl
  let a:∀x,dj fs (i+1) x=if fs.getD i 0=x then dj fs i x++[(i:Int)] else dj fs i x:=λx=>by
   unfold dj;rw[Zv,YP]
   by_cases c:fs.getD i 0=x
   .rw[VE c,VR,Y5 c⁻¹];rfl
   .rw[VC c,Y6 c⁻¹,q3D,dV]
  let b:∀r,r∈roots fs i↔r<i/\fs.getD r 0=(r:Int):=λr=>by
   unfold roots;rw[Wc,Wz,V0]
  unfold l7;rw[g]
  by_cases c:fs.getD i 0=(i:Int)
  .let o:fs.getD i 0∉(roots fs i).map λr:Nat=>(r:Int):=λz=>by
    let⟨r,j,e⟩:=VI.mp z;let:=((b r).mp j).1;symm
   rw[VC o]
   let k:roots fs (i+1)=roots fs i++[i]:=by
    unfold roots;rw[Zv,YP,Y5 c⁻¹];rfl
   rw[k,VR];congr 1
   .refine W7 λr j=>?_
    let:=((b r).mp j).1;rw[a,VC ⋯]
   .show [(fs.getD i 0,[(i:Int)])]=[((i:Int),dj fs (i+1) i)]
    rw[a,VE c,c]
    let:dj fs i (i:Int)=[]:=by
     unfold dj;rw[q1A.mpr λh p=>?_]
     .rfl
     .let t:=Wz.mp p
      let:=G.le h ⋯;rw[V0];symm
    rw[this];rfl
  .let⟨x,l⟩:∃x:Nat,fs.getD i 0=x:=⟨(fs.getD i 0).toNat,⋯⟩
   rw[l] at f n c ⊢;rw[V8] at f;let q:x∈roots fs i:=(b x).mpr ⟨⋯,f⟩;rw[VE (VI.mpr ⟨x,q,Y⟩)]
   let k:roots fs (i+1)=roots fs i:=by
    unfold roots;rw[Zv,YP,Y6 (by rw[l];simpa using c),q3D,dV]
   rw[k,VW];calc W7 λr j=>?_;show(if(r:Int)=(x:Int) then((r:Int),dj fs i r++[(i:Int)]) else((r:Int),dj fs i r))=((r:Int),dj fs (i+1) r);rw[a,l]
   by_cases d:(r:Int)=(x:Int)
   .rw[VE d,VE d.symm]
   .rw[VC d,VC (Yz d)]
theorem ka:∀{a b:-Int},a.Pairwise (· < ·)->b.Pairwise (· < ·)->(∀x,x∈a↔x∈b)->a=b
 |[],[],_,_,_=>Y
 |[],y::_,_,_,h=>absurd ((h y).mpr (Uz ..)) (by simp)
 |x::_,[],_,_,h=>absurd ((h x).mp (Uz ..)) (by simp)
 |x::a,y::b,j,k,h=>by
  let⟨g,l⟩:=Xu.mp j;let⟨i,m⟩:=Xu.mp k
  let d:x=y:=by
   rcases Uy.mp ((h x).mp (Uz ..)) with e|e
   .exact e
   .rcases Uy.mp ((h y).mpr (Uz ..)) with f|f
    .exact f.symm
    .let:=i x e
     let:=g y f;symm
  subst d;rw[ka l m λz=>?_]
  constructor
  .ext c
   rcases Uy.mp ((h z).mp (UA _ c)) with e|e
   .let:=g z c;symm
   .exact e
  .ext c
   rcases Uy.mp ((h z).mpr (UA _ c)) with e|e
   .let:=i z c;symm
   .exact e
open Classical in
noncomputable def cls (n:Nat) (S:Wy->Prop) (h:Int):List Int:=(bK n).filter λx=>decide (bz S h x)
theorem bL{n:Nat}{x:Int}:x∈bK n↔0<=x/\x<n:=by
 unfold bK
 constructor
 .ext h
  let⟨k,a,rfl⟩:=VI.mp h;let:=Wz.mp a;symm
 .ext h
  calc VI.mpr ⟨x.toNat,Wz.mpr ⋯,⋯⟩
theorem rY(n:Nat):(bK n).Pairwise (· < ·):=by
 unfold bK;exact XO.mpr ((Ys (n:=n)).imp λh=>by symm)
open Classical in
theorem cb {n:Nat} {S:Wy->Prop} {h x:Int}:x∈cls n S h↔(0<=x/\x<n)/\bz S h x:=by
 unfold cls;rw[Wc,bL,V0]
open Classical in
theorem rZ (n:Nat) (S:Wy->Prop) (h:Int):(cls n S h).Pairwise (· < ·):=(rY n).filter _
structure r3(n:Nat)(S:Wy->Prop)(L:-(-Int)):Prop where
 nd:L.Nodup
 mem:∀l,l∈L↔∃h:Int,(0<=h/\h<n)/\l=cls n S h
theorem Eg{n:Nat}{S:Wy->Prop}{a b:Int}(h:bz S a b):cls n S a=cls n S b :=
 ka (rZ _ _ _) (rZ _ _ _) λx=>by
  rw[cb,cb];calc⟨λ⟨c,d⟩↦⟨c,h.symm.trans d⟩,λ⟨c,d⟩↦⟨c,h.trans d⟩⟩
theorem Eh{n:Nat}{S:Wy->Prop}{a:Int}(h:0<=a/\a<n):a∈cls n S a:=cb.mpr ⟨h,.rf⟩
theorem OR{x y:Int}{xs ys:-Int}(h:x<y):kle (x::xs) (y::ys):=by
 unfold kle;rw[HT.lV,VC ⋯];calc VD ⋯
theorem Ei{n:Nat}{fs:-Int}{S:Wy->Prop}(M:cC n fs S){r:Nat}(b:r<n)(e:fs.getD r 0=r):dj fs n r=cls n S r:=by
 refine ka ?_ (rZ _ _ _) λx=>?_
 .unfold dj
  exact XO.mpr (((Ys (n:=n)).filter _).imp λh=>by symm)
 .rw[cb]
  unfold dj
  constructor
  .ext h
   let⟨k,a,rfl⟩:=VI.mp h;rw[Wc,Wz,V0] at a;exact⟨⋯,(M.2 r k b a.1).mp (by rw[e,a.2])⟩
  .ext ⟨⟨d,f⟩,c⟩
   let⟨k,rfl⟩:∃k:Nat,x=k:=⟨x.toNat,⋯⟩;calc VI.mpr ⟨k,?_,Y⟩;rw[Wc,Wz,V0];let:=(M.2 r k b ⋯).mpr c;calc⟨⋯,by rw[<-this,e]⟩
noncomputable def oE(fs:-Int)(n:Nat):-(-Int):=(roots fs n).map λr:Nat=>dj fs n (r:Int)
theorem OS{fs:-Int}(G:Good fs):(eU fs fs.length).map (·.2)=oE fs fs.length:=by
 rw[Ef G fs.length (B6 _),VW];rfl
theorem uF{n:Nat}{fs:-Int}(G:Good fs)(g:fs.length=n){r:Nat}(f:r<n)(e:fs.getD r 0=r):∃t,dj fs n r=(r:Int)::t:=by
 let a:(r:Int)∈dj fs n r:=by
  unfold dj;calc VI.mpr ⟨r,?_,Y⟩;rw[Wc,Wz,V0];exact⟨f,e⟩
 let b:(dj fs n r).Pairwise (· < ·):=by
  unfold dj;exact XO.mpr (((Ys (n:=n)).filter _).imp λh=>by symm)
 cases q:dj fs n r with
 |nil=>rw[q] at a;simp at a
 |cons x t =>
  calc⟨t,?_⟩;let c:x∈dj fs n r:=by rw[q];exact Uz
  unfold dj at c;let⟨k,d,rfl⟩:=VI.mp c;rw[Wc,Wz,V0] at d;let l:=G.le k ⋯;rw[d.2] at l;rw[q] at a b;rcases Uy.mp a with z|z
  .rw[z]
  .let:=(Xu.mp b).1 _ z
   symm
theorem OT{fs:-Int}(G:Good fs):(oE fs fs.length).Pairwise kle:=by
 unfold oE;refine XO.mpr ?_
 let:(roots fs fs.length).Pairwise λa b=>a<b/\(a<fs.length/\fs.getD a 0=a)/\b<fs.length/\fs.getD b 0=b:=by
  let f:(roots fs fs.length).Pairwise (· < ·):=(Ys (n:=fs.length)).filter _
  let d:∀a∈roots fs fs.length,a<fs.length/\fs.getD a 0=a:=λa c=>by
   unfold roots at c;rw[Wc,Wz,V0] at c;exact c
  exact f.imp_of_mem λc g h=>⟨h,d _ c,d _ g⟩
 calc this.imp λ{a b} h=>?_;let⟨t,e⟩:=uF G Y h.2.1.1 h.2.1.2;let⟨u,i⟩:=uF G Y h.2.2.1 h.2.2.2;rw[e,i];calc OR ⋯
theorem OU{n:Nat}{fs:-Int}{S:Wy->Prop}(G:Good fs)(M:cC n fs S):r3 n S (oE fs n):=by
 let i:=M.1
 let f:∀a∈roots fs n,a<n/\fs.getD a 0=a:=λa d=>by
  unfold roots at d;rw[Wc,Wz,V0] at d;exact d
 refine⟨?_,λl=>?_⟩
 .unfold oE
  calc XO.mpr ?_;let g:(roots fs n).Pairwise (· < ·):=(Ys (n:=n)).filter _;calc g.imp_of_mem λ{a b} d j h z=>?_;let⟨t,e⟩:=uF G i (f a d).1 (f a d).2;let⟨u,o⟩:=uF G i (f b j).1 (f b j).2;rw[e,o] at z;let:=(q06 z).1;symm
 .unfold oE
  constructor
  .ext h
   let⟨r,p,rfl⟩:=VI.mp h;let⟨g,q⟩:=f r p;exact⟨r,⋯,Ei M g q⟩
  .ext ⟨h,v,rfl⟩
   let⟨k,rfl⟩:∃k:Nat,h=k:=⟨h.toNat,⋯⟩;let s:=G.le k ⋯;let c:=G.own k ⋯;let⟨r,m⟩:∃r:Nat,fs.getD k 0=r:=⟨(fs.getD k 0).toNat,⋯⟩;rw[m] at s c;rw[V8] at c;refine VI.mpr ⟨r,?_,?_⟩
   .unfold roots
    rw[Wc,Wz,V0];exact⟨⋯,c⟩
   .rw[Ei M ⋯ c]
    calc Eg ((M.2 r k ⋯ ⋯).mp (by rw[c,m]))
noncomputable def ji(m:Int)(ws:-Wy)(ns:-Int):-(-Int):=(eU (ic m ws ns) m.toNat).map (·.2)
theorem r9{m:Int}{ws:-Wy}(W:aH m ws){ns:-Int}(hn:Nums ws ns):r3 m.toNat (eV ws ns) (ji m ws ns)/\(ji m ws ns).Pairwise kle:=by
 let M:=yy W hn;let G:=OQ W hn
 let e:ji m ws ns=oE (ic m ws ns) m.toNat:=by
  unfold ji;let:=OS G;rw[M.1] at this;exact this
 rw[e];calc⟨OU G M,?_⟩;let:=OT G;rw[M.1] at this;calc this
theorem OW{n:Nat}{S:Wy->Prop}{L:-(-Int)}(h:r3 n S L){l l':-Int}{x:Int}(e:l∈L)(c:l'∈L)(f:x∈l)(d:x∈l'):l=l':=by
 let⟨a,_,rfl⟩:=(h.mem l).mp e;let⟨b,_,rfl⟩:=(h.mem l').mp c;calc Eg ((cb.mp f).2.trans (cb.mp d).2.symm)
theorem Ej{n:Nat}{S:Wy->Prop}:∀{L c:-(-Int)},r3 n S c->(∀l∈L,l∈c)->L.Nodup->L.flatten.Nodup
 |[],_,_,_,_=>YL
 |l::L,c,h,b,d=>by
  rw[Yw,Xs];rw[Yy] at d;refine⟨?_,Ej h (λx f=>b x (UA _ f)) d.2,λx f y i e=>?_⟩
  .let⟨a,_,rfl⟩:=(h.mem l).mp (b l Uz)
   exact(rZ _ _ _).imp λh=>by symm
  .subst e
   let⟨j,g,k⟩:=q3d.mp i;calc d.1 (by rw[OW h (b l Uz) (b j (UA _ g)) f k];calc g)
theorem OX{l:-Int}(h:l.Pairwise (· < ·)):l.Nodup:=h.imp λh=>by symm
theorem OY{xs ys:-Int}(b:xs.Nodup)(a:ys.Pairwise (· < ·))(h:∀x,x∈xs↔x∈ys):sortI xs=ys :=
 (oq ((List.perm_ext_iff_of_nodup (OX a) b).mpr λx=>(h x).symm) (a.imp λh=>by symm)).symm
theorem OZ{n:Nat}{S:Wy->Prop}{L:-(-Int)}(h:r3 n S L):sortI L.flatten=bK n:=by
 calc OY (Ej h (λ_ b=>b) h.nd) (rY n) λx=>?_;rw[q3d,bL]
 constructor
 .ext ⟨l,c,b⟩
  let⟨a,_,rfl⟩:=(h.mem l).mp c;exact(cb.mp b).1
 .ext b
  calc⟨_,(h.mem _).mpr ⟨x,b,Y⟩,Eh b⟩
theorem hU:∀us:-Int,bD (us.map D.int)=0
 |[]=>by simp[bD]
 |u::r=>by rw[UB];erw[bD,dep];rw[hU r];rfl
theorem jj(l:-Int)(x:Int):((l.map D.int).any λe=>dEq e (.int x))=S (x∈l):=by
 rw[q43]
 cases q:S (x∈l) with
 |true=>exact q1l.mpr ⟨x,W_ q,lA _⟩
 |false =>
  calc YU.mpr λy a=>?_;show ¬ dEq (.int y) (.int x)=θ;rw[rX];ext z;let:=W_ z;subst this;calc q0t q a
theorem O0{m:Int}{ws:-Wy}(W:aH m ws){ns:-Int}(hn:Nums ws ns):↑(ji m ws ns)<=12/\(ji m ws ns).flatten.length<=12:=by
 let c:=W.iA;let⟨h,_⟩:=r9 W hn;let e:=OZ h
 let k:(ji m ws ns).flatten.length=m.toNat:=by
  let:=xj (ji m ws ns).flatten;rw[e,k7] at this;exact this.symm
 refine⟨?_,⋯⟩
 let b:∀L:-(-Int),(∀l∈L,l≠[])->↑L<=↑L.flatten:=by
  ext L
  induction L with
  |nil=>ext _;simp
  |cons l r d =>
   ext h;let n:=d λx f=>h x (UA _ f);let g:l≠[]:=h l Uz;let o:0<↑l:=q0n.mpr g;rw[Yw,qG,wo];symm
 let:=b (ji m ws ns) λl i=>by
  let⟨a,j,rfl⟩:=(h.mem l).mp i;exact q2x (Eh j)
 symm
end LJ
namespace HT
open PySem PySem.Spec PyProof.Rows
theorem O3(A:Β)(s:L)(a:Int)(t:Tok)(c:Int)(u:Tok)(prog:X)(w:l)(E:br)(Q:br)(h:Q (.bool (S (c<a))) s):
  G (B prog w) A (richCompare .Gt (.int a t) (.int c u)) Q E s :=
 (PyProof.Rows.gt_int h:G (B prog w) A (compareOp .Gt (.int a t) (.int c u)) Q E s)
section
open PySem.SeqAt
open PySem.AutoSeq1 (wpAny_loadPart')
open PySem.MeetsSeq PySem.MeetsSeq2 PySem.MeetsSeq3
theorem O4(l b:ξ)(items f:Array ν)(n S:Nat)(T K:Option ξ)(sl L:Array (Option ν))(ns ms:-Int)(O:IntsAre items.toList ns)(P:IntsAre f.toList ms):
  Meets (Builtin.«tuple.__gt__» ⟨[.ref l,.ref b],[]⟩)
   (λ_ R s=>s.heap.get? l=ζ {cls:=.type "tuple",dict:=T,data:=.seq items n,slots:=sl}/\s.heap.get? b=ζ {cls:=.type "tuple",dict:=K,data:=.seq f S,slots:=L} ∧
    R (.ok (.ret (.bool (lexLt ms ns)))) s) :=
 .of_wp λp w A R s h=>by
  let⟨F,g,d,G,H⟩:=s;let⟨hl,hb,h⟩:=h;let W:=q04;let X:items.size=↑ns:=by rw[<-↑O];simp
  let Y:f.size=↑ms:=by rw[<-↑P];simp
  wp_walk using XH hl,XH hb,q1c _ (λr b M=>b.1=η/\M=⟨F,g,d,G,H⟩/\∃(I J:-ν)(j k:-Int),r=I.zip J ∧
   IntsAre I j/\IntsAre J k/\↑j+f.size=k.length+items.size/\R (.ok (.ret (.bool (lexLt k j)))) ⟨F,g,d,G,H⟩) _
  case turn =>
   ext⟨y,x⟩ r b M ⟨B,rfl,I,J,j,k,m,C,o,i,v⟩
   cases C with
   |nil=>rw[Ze] at m;cases m
   |cons a t D =>
    cases o with
    |nil=>rw[q0C] at m;cases m
    |cons c u E =>
     rw[YE] at m;injection m with vZ la;injection vZ with hy hx;subst hy hx;rw[lV] at v;erw[wo] at i;let⟨e,U,z⟩:=BK A.in1 ⟨F,g,d,G,H⟩ a t c u;refine nX (U p w _ _ ?_)
     cases e with
     |true =>
      rw[VE (z.mp rfl).symm] at v
      wp_walk
      exact⟨rfl,rfl,_,_,_,_,la,D,E,⋯,v⟩
     |false =>
      rw[VC (λq=>absurd (z.mpr q.symm) Wo)] at v;let N:=O3 A.in1 ⟨F,g,d,G,H⟩ a t c u p w
      wp_walk using N
      exact⟨_,rfl,by simpa using v⟩
  case fin =>
   ext⟨Z,b2⟩ M ⟨B,rfl,I,J,j,k,m,C,o,i,v⟩;simp only at B;subst B
   let Q:lexLt k j=μ (f.size<items.size):=by
    cases C with
    |nil =>
     cases o with
     |nil =>
      erw[VP] at i;rw[BH];exact(VD ⋯).symm
     |cons c u V =>
      erw[VP,wo] at i;rw[BJ];exact(VD ⋯).symm
    |cons a t Q =>
     cases o with
     |nil =>
      erw[VP,wo] at i;rw[BI];exact(VH ⋯).symm
     |cons c u V =>
      rw[YE] at m;cases m
   rw[Q] at v
   wp_walk
   exact⟨_,rfl,by simpa[ZZ] using v⟩
  case h =>
   calc⟨rfl,rfl,items.toList,f.toList,ns,ms,rfl,O,P,⋯,h⟩
end
section
variable{prog:X}{w:l}{A:t}{E:br}{s:L}
theorem O5{l b:U}{items a:Array M}{ns ms:-Int}{Q:br}(q:IsTup s.heap l items)(r:IsTup s.heap b a)(t:IntsAre items.toList ns)(u:IntsAre a.toList ms)
  (v:A.units<cLine) (h:Q (.bool (lexLt ms ns)) s):G (ς prog w) A (compareOp .Gt (.ref l) (.ref b)) Q E s:=by
 let⟨⟨y,z,j,B⟩,k,m,n,o⟩:=id q;let⟨⟨p,f,g,i⟩,c,d,C,e⟩:=id r;simp only at m o d e;subst m o d e
 exact q1v (op:=.Gt) ⟨_,k,Y⟩ ⟨_,c,Y⟩ PySem.F.slot_tuple_gt PySem.F.entry_tuple_gt (PySem.F.args_tuple_gt_2 _ _) (O4 l b items a n C z f B i ns ms t u)
  ⟨k,c,show Y9 (lexLt ms ns)≠q11/\Q (.bool (lexLt ms ns)) s from⟨(λx=>nomatch x),h⟩⟩ v
end
end HT
namespace L2
open PySem PySem.Spec PyProof.Rows PySem.W
noncomputable def kc:Bool->String
 |false=>"min"
 |true=>"max"
noncomputable def pJ:Bool->String
 |false=>"min.loop"
 |true=>"max.loop"
noncomputable def Ek:Bool->CmpOp
 |false=>.Lt
 |true=>.Gt
noncomputable def O6:String->CmpOp->Builtin:=(λ(f:String->CmpOp->Builtin) (_:f "min" .Lt=Builtin.«min.loop»)=>f) _ Y
noncomputable def O7:String->Builtin:=(λ(f:String->Builtin) (_:f "min" = Builtin.«min»)=>f) _ Y
theorem El(mx:Bool):entryFor table (pJ mx)=ζ (O6 (kc mx) (Ek mx)):=by cases mx;calc PySem.F.entry_min_loop;calc PySem.F.entry_max_loop
theorem O8(mx:Bool):entryFor table (kc mx)=ζ (O7 (kc mx)):=by cases mx;calc PySem.F.entry_min;calc PySem.F.entry_max
theorem O9(mx:Bool):builtinKind (kc mx)=η:=by cases mx;calc PySem.F.kind_min;calc PySem.F.kind_max
theorem O_(mx:Bool):plainId (kc mx)=θ:=by cases mx;calc PySem.F.plain_min;calc PySem.F.plain_max
theorem pK(mx:Bool):plainId (pJ mx)=θ:=by cases mx;calc PySem.F.plain_min_loop;calc PySem.F.plain_max_loop
def mJ:Bool->LK->LK->Prop
 |false,a,b=>kle a b
 |true,a,b=>kle b a
noncomputable def yz:Bool->LK->LK->Bool
 |false,a,b=>HT.lexLt a b
 |true,a,b=>HT.lexLt b a
theorem Em(mx:Bool)(a:LK):mJ mx a a:=by cases mx<;>calc kle_refl _
theorem Pa{mx:Bool}{a b c:LK}(h:yz mx a b=θ)(k:mJ mx b c):mJ mx a c:=by
 cases mx
 .exact kle_trans (oA h) k
 .calc kle_trans k (oA h)
theorem Pb{mx:Bool}{a b:LK}(h:¬ yz mx a b=θ):mJ mx b a:=by cases mx<;>calc Bool.eq_false_iff.mpr h
theorem Pc{prog:X}{w:ω}{A:t}{E:br}{s:L}{mx:Bool}{l b:U}{items a:Array M}{ns ms:-Int}{Q:br}(c:IsTup s.heap l items)(d:IsTup s.heap b a)(e:IntsAre items.toList ns)(f:IntsAre a.toList ms)
  (g:A.units<cLine) (h:Q (.bool (yz mx ns ms)) s):G (B prog w) A (richCompare (Ek mx) (.ref l) (.ref b)) Q E s:=by
 cases mx
 .exact HT.v3 c d e f g h
 .calc HT.O5 c d e f g h
theorem Pd(mx:Bool)(a v d:M):argsOk (kc mx) ⟨[a],[(Xz "key",v),(Xz "default",d)]⟩:=by cases mx<;>(unfold argsOk;kernel_rfl)
section
variable{X:Cx}{pins:a5}{σ:St}{H:Hp}{s:L}{E:br}{l q I S:U}{P:-V->Hp->Prop}{xs:-V}{d:M}{R:Result->L->Prop}
def Pe(mx:Bool)(c:Nat->LK)(xs kvs:-V)(a:Array M):Prop :=
 (kvs=[]/\a = #[])\/∃(b:Nat)(x:V)(d:M)(t:U),b<↑kvs/\xs[b]?=ζ x/\RelV x d/\kvs[b]?=ζ (.ref t)/\a = #[d,.ref t]/\∀j,j<↑kvs->mJ mx (c b) (c j)
theorem Pf(mx:Bool)(L:Nat->LK)(hh:X.A.handled=η)(hu:X.A.units+1<cLine)(En:l≠I)(D:S≠I)(fI:∀H',H' I=η->cz X pins H' I)(fS:∀H',H' S=η->cz X pins H' S)
  (hl:∀kvs H',P kvs H'->H' l=ζ (.lst xs)) (hP:∀kvs H',P kvs H'->∀i,i<↑kvs->∃t,kvs[i]?=ζ (.ref t)/\H' t=ζ (.tup ((L i).map V.int)))
  (yA:∀(E:a5)(x:V)(u:ν)(kvs:-V)(H':Hp)(s':ο),xs[↑kvs]?=ζ x->RelV x u->Inv X E σ H' s'->P kvs H'->ρ (ς X.prog X.w) X.A.in1 (call (.ref q) [u]) (EP X E σ λk tO=>P (kvs++[k]) tO) (λ_ _=>False) s')
  (fin:∀kvs H' s',↑kvs=↑xs->P kvs H'->Inv X pins σ H' s'->(xs=[]->R (.ok (.ret d)) s')/\∀(b:Nat)(x:V)(u:ν),xs[b]?=ζ x->RelV x u->(∀j,j<↑xs->mJ mx (L b) (L j))->R (.ok (.ret u)) s') :
  ∀(r:Nat)(kvs:-V)(H':Hp)(s':ο)(h:Array ν)(c:Nat)(G:Γ),↑kvs+r=↑xs->Inv X ((S,seqObj "list" h c)::(I,G)::pins) σ H' s'->P kvs H'->G.cls=.type "list_iterator" -> G.data=.fields #[.ref l,.int ↑kvs 0]->Pe mx L xs kvs h →
   codeAny (ς X.prog X.w) X.A (.builtin (pJ mx) ⟨[.ref I,.ref q,.ref S],[(Xz "default",d)]⟩) R s':=by
 let m:(toString (kc mx)++toString ".loop" : String)=pJ mx:=by cases mx<;>decide
 ext r
 induction r with
 |zero =>
  ext a B s' h c G hr J pk U Y M;let Z:=J.pin (S,seqObj "list" h c) (V7 _ (.head _));let pI:=J.pin (I,G) (V7 _ (.tail _ (.head _)));let Jn:=J.gr.gr;let⟨g,rv,pl,_⟩:=Jn.list (bS.of (hl a B pk));let lv:↑g=↑xs:=rv.length.symm;let Pg:↑a=↑g:=by symm
  calc Xe (El mx) ?_;rw[Xi (pK mx) _];show ρ _ X.A.in1 (seqItems? (.ref S) >>= _) _ _ _;calc nX (ZQ Z.1 rfl ?_);show ρ _ X.A.in1 (tryCatch (pyNext (.ref I)) _ >>= _) _ _ _;let W:=ZC (prog:=X.prog) (w:=X.w) (A:=X.A.in1) hh I l En g.toArray;calc nX (q0I (W.done _ _ _ ⟨⟨G,pI.1,U,by rw[Y,KG,<-Pg]⟩,q2m pl⟩ λh' jD F=>?_));let J1:Inv X pins σ B {s' with heap:=h',toks:=jD}:=Jn.ie (fI B pI.2.1) λc o n e=>F c o n⁻¹ e;let yB:=F S _ D⁻¹ Z.1;rcases M with⟨yC,rfl⟩|⟨b,x,vb,t,M,hx,rx,ht,rfl,f⟩
  .refine nX (q1p (B7 ?_))
   refine(fin a B _ ⋯ pk J1).1 ?_
   cases xs with
   |nil=>rfl
   |cons _ _=>rw[yC] at hr;simp at hr
  .let s1:=Xb h' S (Xv λ_=>(#[]:Array ν))
   show ρ _ X.A.in1 (updateSeq S (λ_ => #[]) >>= _) _ _ _;calc nX (Zw yB rfl (nX (q15 (B7 ?_))));exact(fin a B _ ⋯ pk (J1.ie (fS B Z.2.1) λc o n e=>(s1.2 c n).trans e)).2 b x vb hx rx λj H=>f j ⋯
 |succ r ih =>
  ext a B s' h c G hr J pk U Y M;let Z:=J.pin (S,seqObj "list" h c) (V7 _ (.head _));let pI:=J.pin (I,G) (V7 _ (.tail _ (.head _)));let Jn:=J.gr.gr;let⟨g,rv,pl,_⟩:=Jn.list (bS.of (hl a B pk));let lv:↑g=↑xs:=rv.length.symm;let tV:↑a<↑g:=by symm
  calc Xe (El mx) ?_;rw[Xi (pK mx) _];show ρ _ X.A.in1 (seqItems? (.ref S) >>= _) _ _ _;calc nX (ZQ Z.1 rfl ?_);show ρ _ X.A.in1 (tryCatch (pyNext (.ref I)) _ >>= _) _ _ _;let W:=ZC (prog:=X.prog) (w:=X.w) (A:=X.A.in1) hh I l En g.toArray;calc nX (q0I (W.item ↑a _ _ _ (by rw[KG];calc tV) ⟨⟨G,pI.1,U,Y⟩,q2m pl⟩ λv h' jD hv yD F=>?_));let hv:g[↑a]?=ζ v:=by simpa using hv
  let⟨s,yE,N,O⟩:=id yD.1;let hi:↑a<↑xs:=by symm
  let⟨u,e1,rx⟩:=rv.get (tE hi);rw[hv] at e1;cases e1
  let hx:=tE hi;generalize xs[↑a]=x at hx rx;let yB:=F S _ D⁻¹ Z.1;let nI:∀z,s.data≠.cell z:=λz e=>by rw[O] at e;cases e
  let J1:Inv X pins σ B {s' with heap:=h',toks:=jD}:=Jn.ie (fI B pI.2.1) λc o n e=>F c o n⁻¹ e;let J2:=(J1.kI (fI B pI.2.1) yE nI).kI ((fS B Z.2.1).cons (p:=(I,s)) D.symm) yB x6;show ρ _ X.A.in1 (tryCatch (holding [v] (call (.ref q) [v])) _ >>= _) _ _ _;calc nX (q0I (WK (X0 (yA _ x v a B _ hx rx J2 pk) (λkv s2 he=>?_) λ_ _ hF=>hF.elim)));let⟨kx,Q,J3,rk,K⟩:=he;let⟨C,et,wZ⟩:=hP _ Q K ↑a (by rw[qG];calc Xa _)
  let ek:kx=.ref C:=by
   rw[My (B6 _),Xh] at et;simpa using et
  subst ek;cases rk
  let qS:=J3.pin (S,seqObj "list" h c) (V7 _ (.head _));let qI:=J3.pin (I,s) (V7 _ (.tail _ (.head _)));let Jm:=J3.gr.gr;let Eo:↑(a++[V.ref C])+r=↑xs:=by rw[qG,WJ];symm
  let T:s.data=.fields #[.ref l,.int (↑(a++[V.ref C]):Nat) 0]:=by rw[O,qG];rfl
  let put:∀(b:Nat),b<↑a+1->b=↑a->(∀j,j<↑a+1->mJ mx (L b) (L j))->codeAny (ς X.prog X.w) X.A (.builtin (pJ mx) ⟨[.ref I,.ref q,.ref S],[(Xz "default",d)]⟩) R {s2 with heap:=s2.heap.update S (Xv λ_ => #[v,.ref C])}:=λb M eb f=>by
   subst eb;let s1:=Xb s2.heap S (Xv λ_ => #[v,WQ C]);let⟨c2,Ph⟩:∃c2,(s2.heap.update S (Xv λ_ => #[v,WQ C])).get? S=ζ (seqObj "list" #[v,.ref C] c2):=⟨_,q1H qS.1 λ_ => #[v,WQ C]⟩;let J4:Inv X pins σ Q {s2 with heap:=s2.heap.update S (Xv λ_ => #[v,WQ C])}:=Jm.ie (t':=s2.toks) (fS Q qS.2.1) λc o n e=>(s1.2 c n).trans e;let J5:=(J4.kI (fI Q qI.2.1) ((s1.2 I D.symm).trans qI.1) nI).kI ((fS Q qS.2.1).cons (p:=(I,s)) D.symm) Ph x6;refine ih _ Q _ _ c2 s Eo J5 K N T (.inr ⟨↑a,x,v,C,by rw[qG];calc Xa _,hx,rx,et,rfl,λj H=>f j (by rw[qG] at H;calc H)⟩)
  rcases M with⟨yC,rfl⟩|⟨b,y,vb,t,M,hy,ry,ht,rfl,f⟩
  .show ρ _ X.A.in1 (updateSeq S (λ_ => #[v,.ref C]) >>= _) _ _ _
   calc nX (Zw qS.1 rfl ?_);rw[m];calc B7 ⟨Yo (pK mx) _,put ↑a (Xa _) rfl λj H=>?_⟩;rw[yC] at H ⊢;let:j=0:=by simp at H;symm
   subst this;exact Em _ _
  .let⟨t',Ep,Pj⟩:=hP _ Q K b (by rw[qG];symm)
   rw[KI M,ht] at Ep;cases Ep
   let⟨i1,r1,Pk,_⟩:=Jm.tuple (cF.of wZ);let⟨i2,r2,Pl,_⟩:=Jm.tuple (cF.of Pj);show ρ _ X.A.in1 (tryCatch (holding [v,.ref C] (richCompare _ (.ref C) (.ref t) >>= _)) _ >>= _) _ _ _;calc nX (q0I (WK (nX ?_)));calc Pc (A:=X.A.in1) (mx:=mx) (ns:=L ↑a) (ms:=L b) Pk Pl (intsAre_of r1)⁻¹ (intsAre_of r2)⁻¹ hu ?_;calc nX (WK (Yu ?_));calc nX (q15 (B7 ?_));split
   .rename_i hq
    calc nX (Zw qS.1 rfl (nX (q15 ?_)));rw[m];refine B7 ⟨Yo (pK mx) _,put ↑a (Xa _) rfl λj H=>?_⟩
    by_cases e:j=↑a
    .subst e;exact Em _ _
    .exact Pa hq (f j ⋯)
   .rename_i hq
    calc nX (q15 ?_);rw[m];refine B7 ⟨Yo (pK mx) _,ih _ Q _ _ c s Eo J3 K N T (.inr ⟨b,y,vb,t,by rw[qG];symm,hy,ry,by rw[KI M];calc ht,rfl,λj H=>?_⟩)⟩
    by_cases e:j=↑a
    .subst e;exact Pb hq
    .calc f j (by rw[qG,WJ] at H;symm)
theorem Pm(mx:Bool){Q:br}(o:Nat->LK)(J:Inv X pins σ H s)(O:X.A.handled=η)(R:X.A.units+1<cLine)(K:P [] H)
  (L:∀kvs H',P kvs H'->H' l=ζ (.lst xs)) (S:∀kvs H',P kvs H'->∀i,i<↑kvs->∃t,kvs[i]?=ζ (.ref t)/\H' t=ζ (.tup ((o i).map V.int)))
  (g:∀(a:a5)(x:V)(u:ν)(kvs:-V)(H':Hp)(s':ο),xs[↑kvs]?=ζ x->RelV x u->Inv X a σ H' s'->P kvs H'->ρ (ς X.prog X.w) X.A.in1 (call (.ref q) [u]) (EP X a σ λk B=>P (kvs++[k]) B) (λ_ _=>False) s')
  (C:∀kvs H' s',↑kvs=↑xs->P kvs H'->Inv X pins σ H' s'->(xs=[]->Q d s')/\∀(b:Nat)(x:V)(u:ν),xs[b]?=ζ x->RelV x u->(∀j,j<↑xs->mJ mx (o b) (o j))->Q u s') :
  ρ (ς X.prog X.w) X.A (call (.builtin (kc mx)) [.ref l] [(Xz "key",.ref q),(Xz "default",d)]) Q E s:=by
 let f:(toString (kc mx)++toString ".loop" : String)=pJ mx:=by cases mx<;>decide
 let⟨T,Y,M,_⟩:=J.list (bS.of (L _ _ K));let D:=PlainL.lt M;calc kmk_tree (O9 mx) (O_ mx) (O8 mx) (Pd _ _ _ _) ?_;calc nX (q1X (show Builtin.Builtins.bindParams (kc mx) ["key", "default"] 0 ⟨[],[(Xz "key",.ref q),(Xz "default",d)]⟩=pure [ζ (.ref q),ζ d] from rfl) ?_);calc nX (B7 ?_);calc nX (Yt (q2m M) ?_);calc nX (Z9 ?_ (VY _));rw[f];calc B7 ⟨Yo (pK mx) _,?_⟩;let r:Inv X pins σ H {s with heap:=s.heap.push {cls:=.type "list_iterator",data:=.fields #[.ref l,.int 0 0]}}:=J.kept (h':=s.heap.push {cls:=.type "list_iterator",data:=.fields #[.ref l,.int 0 0]}) (t':=s.toks) λb u e=>B5 _ e
 let v:(s.heap.push {cls:=.type "list_iterator",data:=.fields #[.ref l,.int 0 0]}).get? ⇑s=ζ {cls:=.type "list_iterator",data:=.fields #[.ref l,.int 0 0]}:=UD _ rfl;let y:(s.heap.push {cls:=.type "list_iterator",data:=.fields #[.ref l,.int 0 0]}).objs.size≠⇑s:=λz=>X9 _ (Nat.lt_of_lt_of_eq (Vz v) z);let F:∀c,c ⇑s=η->cz X pins c ⇑s:=λc e=>J.i7 (B6 _) e;let h:H ⇑s=η:=J.bf.fresh (B6 _);let m:l≠⇑s:=VF D;generalize ⇑s=I at v y F h m;generalize s.heap.push {cls:=.type "list_iterator",data:=.fields #[.ref l,.int 0 0]}=n at r v y
 let N:∀c,c n.objs.size=η->cz X pins c n.objs.size:=λc e=>r.i7 (B6 _) e;let G:H n.objs.size=η:=r.bf.fresh (B6 _);let U:Inv X pins σ H {s with heap:=n.push (seqObj "list" #[] 0)}:=r.kept (h':=n.push (seqObj "list" #[] 0)) (t':=s.toks) λb u e=>B5 _ e;let W:=(U.kI (F H h) (B5 _ v) (λz e=>by cases e)).kI ((N H G).cons (p:=(I,_)) y.symm) (UD _ rfl) x6;calc Pf mx o O R m y F N L S g C ↑xs [] H _ #[] 0 _ (by simp) W K rfl rfl (.inl ⟨rfl,rfl⟩)
end
variable[a8]
def mK(mx:Bool)(cp:-(Option Nat))(b:WE)(c:aI)(ds:-D)(K:D->Prop):Prop :=
 ∃a:D->LK,NW cp b c ds a/\(ds=[]->K .non)/\∀d∈ds,(∀e∈ds,mJ mx (a d) (a e))->K d
def mL(mx:Bool)(cp:-(Option Nat))(b:WE)(x:DV)(c:aI)(K:D->Prop):Prop:=∃a,x=.p (.lst a)/\mK mx cp b c a K
theorem Pn{mx:Bool}{cp:-(Option Nat)}{a:WE}{x:DV}{b:aI}{K:D->Prop}(h:mL mx cp a x b K):∃ds,x=.p (.lst ds)/\mK mx cp a b ds K:=h
def yF(mx:Bool)(f:WE)(cp:-(Option Nat))(b:WE):WE:=λc K=>f c λx a=>mL mx cp b x a λd=>K (.p d) a
noncomputable def uG(mx:Bool):R:=Xz (kc mx)
section
variable{X:Cx}{params:Arguments}{body:J}{scope:o}{h9:I}{x:R}{Nb:-R}{cp:-(Option Nat)}{fb:WE}{T:U}
theorem Po{mx:Bool}{M:a5}{σ:St}{H:Hp}{s:ο}{E:br}{l:ξ}{F:Hp}{m:-ξ}{p:aI}{ds:-D}{xs:-V}{N O pos j p2}{Q:VK}(L:lF X params body scope h9 T x Nb cp fb)(hu:X.A.units+64<cLine)
  (I:Inv X M σ H s) (S:SR F m p σ H) (hl:F l=ζ (.lst xs)) (hx:ax F ds xs)
  (hs:mK mx cp fb p ds λd=>∀v F' H',Ext F m p.mu H F' m p.mu H'->SR F' m p σ H'->Is F' d v->Q v H') :
  ρ (ς X.prog X.w) X.A (evalAll ((backToKw pos (keywordEach [⟨ζ "key",.Lambda params body scope h9,N⟩,⟨ζ "default",.Constant .none j p2,O⟩] X.env)).map (·.2))) (λkvs s₂=>ρ (ς X.prog X.w) X.A (call (.builtin (kc mx)) [.ref l] (((backToKw pos (keywordEach [⟨ζ "key",.Lambda params body scope h9,N⟩,⟨ζ "default",.Constant .none j p2,O⟩] X.env)).filterMap (·.1)).zip kvs)) (EP X M σ Q) E s₂) E s:=by
 let⟨key,hk,K0,K⟩:=hs;let⟨k,U,J⟩:=L.room;let⟨cc,W,hC⟩:=L.env.code;show ρ _ _ (evalAll [do let v <- eval (.Lambda params body scope h9) X.env;standAt pos;pure v,do let v <- eval (.Constant .none j p2) X.env;standAt pos;pure v]) _ _ _;calc evalAll_cons (nX ?_);let Y:=L.names;unfold uv at Y;erw[Xo,Yg,V0] at Y;let SC:=x5Y L.kind Y.1.1.1;let⟨cl,yG,Pp,Pq⟩:=B9 (scope:=scope) (env:=X.env) λy hy e=>I.ok.has y.1 (SC.free y hy e);refine NM I (L.tbl.get H S.tab) L.NX yG W (hC.keeps I.bk) L.env.ng (I.mod.glob.keeps I.bk) (L.env.blt.keeps I.bk) λf H1 s1 c I1 t1 k1 U0 hf hc=>?_
 calc nX (Zs (B7 ?_));calc evalAll_cons (nX (B7 ?_));calc nX (Zs (B7 ?_));calc evalAll_nil ?_;show ρ _ _ (call (.builtin (kc mx)) [.ref l] [(Xz "key",.ref f),(Xz "default",.none)]) _ _ _;let kT:∀b o,H b=ζ o->b∉a8.ad->H1 b=ζ o:=λb o e t=>k1 b o e λz=>t (by rw[z];calc L.tbl.mem);let Er:=L.tbl.put H H1 S.tab t1 k1;let S1:=S.x9 kT Er;let E1:=Ext.x9 S kT Er;let lx:=↑hx;let r1:bw (k+2) X.A.in1:=bw.in1 (k:=k+2) U;let gd:∀{i:Nat}{d:D},ds[i]?=ζ d->ds.getD i .non=d:=λ{i d} e=>by rw[KH,e];rfl
 refine Pm mx (l:=l) (xs:=xs) (d:=.none) (λi=>key (ds.getD i .non)) (P:=λa g=>∃n,Ext F m p.mu H n m p.mu g/\SR n m p σ g/\g f=ζ (jP f "<lambda>" (X.env.qual++"<lambda>") params body scope cl ((X.mg "__name__").getD .none) (.ref c))/\g c=ζ (l6 c (X.env.qual++"<lambda>"))/\↑a<=↑ds/\∀(i:Nat)(d:D)(kv:V),ds[i]?=ζ d->a[i]?=ζ kv->Is n (.tup ((key d).map D.int)) kv)
  I1 r1.hd ⋯ ⟨_,E1,S1,hf,hc,VY _,λi d kv _ e=>by simp at e⟩ (λa g ⟨n,q,h,_⟩↦h.sub _ _ (q.same _ _ hl)) (λa g ⟨n,q,h,B,C,hle,G⟩ i r=>?_) (λnA v u a g s' hv rv I' ⟨n,q,h,B,C,hle,G⟩=>?_) λa g s' uw ⟨n,q,h,B,C,hle,G⟩ I'=>⟨λh0=>?_,λb y u hy ry best=>?_⟩
 .let R:=tE (show i<↑ds by symm)
  let is:=G i _ _ R (tE r);erw[Is] at is;let⟨t,us,e1,Z,e3⟩:=is;calc⟨t,by rw[tE r,e1],?_⟩;rw[gd R,<-lB e3];exact h.sub _ _ Z
 .let r:↑a<↑ds:=by rw[<-lx];exact(pa.mp hv).1
  let R:=tE r;let Pr:Is n ds[↑a] v:=ax.at (hx.same q.same) R hv;let⟨U1,Pt⟩:=hk _ (Yi r);calc NN I' B C (by rw[show X.A.in1.frames=X.A.frames from rfl];calc I'.ok.frames) r1.hd (bw.depth (r1.mono (by symm:k+1<=k+2))) L.kind L.names L.co L.gen Pp Pq (λct=>L.bind cl _ _ ct u) rv (J ⟨X.A.in1,cl,f,.ref c,s',g⟩ ((r1.mono (by symm:k+1<=k+2)).deeper _)) ?_;calc⟨n,m,_,_,(h.rm (cp:=cp)).rR Pr,Pt,λy δ' ⟨ey,em⟩ w F2 Es H2 E2 S2 V2=>?_⟩;subst ey
  let ea:Es=m:=by
   let l2:↑Es=↑m:=by rw[S2.di,em,h.di]
   refine Zd λi=>?_
   by_cases r:i<↑m
   .rw[tE r];exact E2.pre i _ (tE r)
   .rw[YB ⋯,YB ⋯]
  subst ea;let⟨U2,gi⟩:=δ';let em:gi=p.mu:=em;subst em;refine⟨F2,q.trans E2,SR.back h E2 S2,E2.nz h B (λ_ z=>by cases z) (λ_ z=>by cases z) (λ_ z=>by cases z) (λ_ z=>by cases z),E2.nz h C (λ_ z=>by cases z) (λ_ z=>by cases z) (λ_ z=>by cases z) (λ_ z=>by cases z),by rw[qG,WJ];calc r,λi d kv e1 Z=>?_⟩
  by_cases Pu:i<↑a
  .rw[KI Pu] at Z
   exact Is.same E2.same (G i d kv e1 Z)
  .let:i=↑a:=by
    let:=(pa.mp Z).1;rw[qG,WJ] at this;symm
   subst this;rw[My (B6 _),Xh] at Z;cases(show ζ w=ζ kv from Z)
   rw[R] at e1;cases e1;exact V2
 .let Pw:ds=[]:=XR.mp (by rw[<-lx,h0];rfl)
  exact⟨.non,g,I',rfl,K0 Pw _ n g q h (by erw[Is])⟩
 .let hb:b<↑ds:=by rw[<-lx];exact(pa.mp hy).1
  let R:=tE hb;calc⟨y,g,I',ry,K ds[b] (Yi hb) (λe he=>?_) _ n g q h (ax.at (hx.same q.same) R hy)⟩;let⟨j,hj,rfl⟩:=Xr.mp he;let:=best j ⋯;rw[gd R,gd (tE hj)] at this;calc this
variable{e:J}{f:WE}{p1 q1 nR r_:I}
theorem Px{j Z}(mx:Bool)(L:lF X params body scope h9 T x Nb cp fb)(hu:X.A.units+64<cLine)(y:Gl X (uG mx))(hs:X.mg (uG mx)=η)(z:bootBuiltins (uG mx)=ζ (.builtin (kc mx)))(ha:JA X [e] (cX (aq f ae)))
  (he:starEach [e] X.env=[(ι,eval e X.env)]:=by rfl):JE X (.Call (.Name (uG mx) p1) [e] [⟨ζ "key",.Lambda params body scope h9,nR⟩,⟨ζ "default",.Constant .none j Z,r_⟩] q1) (tD (yF mx f cp fb)) :=
 ⟨λi s U H Q I ⟨F,W,Y,K,S,q,k⟩=>by
  calc YN (m8 I y hs z ?_ (hn:=by cases mx<;>decide) (hd:=by cases mx<;>decide));calc callWith_kw ?_ (he:=by rw[he];rfl) (hplain:=by rw[he];rfl);refine bE (ha q1 i s U H (λB o=>∃(l:ξ)(g:Hp)(c:-ξ)(b:aI)(h:-D)(m:-V),B=[.ref l]/\g l=ζ (.lst m)/\ax g h m/\Ext F W Y.mu H g c b.mu o/\SR g c b U o/\mK mx cp fb b h λd=>K (.p d) b) I ?_) λm s1 C=>?_
  .refine⟨F,W,Y,λn b=>match n with
    |[x]=>mL mx cp fb x b λd=>K (.p d) b
    |_=>False,S,q,λn b E B g c o t G V1=>?_⟩
   cases n with
   |nil=>exact E.elim
   |cons x n =>
    cases n with
    |cons _ _=>exact E.elim
    |nil =>
     let⟨v,r,rfl,w,J⟩:=V1;let J:r=[]:=J;subst J;let⟨h,rfl,h2⟩:=Pn E;let w:Is g (.lst h) v:=w;erw[Is] at w;let⟨a,m,rfl,g1,g2⟩:=w;exact⟨a,g,c,b,h,m,rfl,g1,g2,t,G,h2⟩
  .let⟨B,o,I1,r1,l,g,c,b,h,ws,ev,hl,hi,t,G,M⟩:=C
   subst ev;let⟨u,rfl,rx⟩:=vals1 r1;cases rx
   calc Po L hu I1 G hl hi ?_;let⟨N,hk,K0,hK⟩:=M
   calc⟨N,hk,λh0 v F' H' O P R=>k _ _ (K0 h0) _ _ _ _ (t.trans O) P R,λd hd hb v F' H' O P R=>k _ _ (hK d hd hb) _ _ _ _ (t.trans O) P R⟩⟩
end
end L2
namespace LJ
open PySem L2
variable[a8]
noncomputable def oF:D->D
 |.tup [.int i,_]=>.int i
 |_=>.non
noncomputable def oG(p:Int->Bool):D->Bool
 |.tup [.int i,_]=>p i
 |_=>ι
theorem uH(p:Int->Bool):∀(ds:-D)(i:Nat),((iS i ds).filter (oG p)).map oF=((q0Z i ↑ds).filter λk:Nat=>p k).map λk:Nat=>D.int k
 |[],_=>Y
 |d::r,i=>by
  let a:=uH p r (i+1);show(((D.tup [.int i,d])::iS (i+1) r).filter _).map _=_;rw[wo,q3e,XB,XB];show(if p i=θ then _ else _:-D).map _=_
  cases q:p i with
  |true=>erw[Xk,UB,a];rfl
  |false=>erw[VQ,W8,a]
noncomputable def gs(l:-Int)(y:Wy):Bool:=S (y.1∈l) != S (y.2.1∈l)
noncomputable def dI(ws:-Wy)(l:-Int):-Int:=(bK ↑ws).filter λn=>gs l (aN ws n)
inductive yH (ys:-DV) (bF:-OV) (K:RV->-OV->Prop):Prop
 |mk (y:Wy) (l:-Int) (_:ys=[.p (bJ y),.p (a9 l)]) (_:bF=[]) (_:K (.p (.bl (gs l y))) [])
def yI:WS:=(aY (d2 (d2 (d2 (aa 0) (dC (.int 0)) ba) (aa 1) (dn ι)) (d2 (d2 (aa 0) (dC (.int 1)) ba) (aa 1) (dn ι)) fF))
theorem Py:Sem 2 0 yH yI:=by
 ext b a c-⟨y,l,rfl,rfl,k⟩;unfold yI;simp![bJ,a9,dw,eB];let d:=hU l;calc⟨⋯,⋯,?_⟩;rw[jj,jj];unfold gs at k;generalize S (y.1∈l)=p at k;generalize S (y.2.1∈l)=q at k;cases p<;>cases q<;>calc cK k
inductive uI (ys:-DV) (bF:-OV) (K:RV->-OV->Prop):Prop
 |mk (m:Int) (ws:-Wy) (l:-Int) (_:aH m ws) (_:ys=[.p (a6 m ws),.p (a9 l)]) (_:bF=[]) (_:K (.p (a9 (dI ws l))) [])
def yJ:WS:=(aY (cx (bW (aq (d2 (aa 0) (dC (.int 1)) ba) ae)) [η,η,ζ 1] (dz 2 (cj (bj 0) (cj (bj 1) dt))) (dT (aA 2 yH (aq (aa 1) (aq (aa 2) ae)))) (aa 0)))
theorem Pz:Sem 2 0 uI yJ:=by
 ext v h w-⟨m,a,l,W,rfl,rfl,k⟩;let j:=W.jE;unfold yJ;simp![a6,eB];refine j8 (oG λi=>gs l (aN a i)) oF (by rw[l0,nW];symm) trivial ?_ ?_
 .ext d n o x p b c
  let⟨z,r⟩:=VL.mp n;let⟨e,f,g⟩:=l3 r;rw[B8] at f;let⟨y,s,rfl⟩:=KJ.mp f;rw[VJ] at g;subst g;let t:aN a (z:Int)=y:=by unfold aN;rw[V8,KH,s];rfl
  erw[oG,oF] at b c;rw[t] at b c;simp!;calc⟨y,l,Y,Y,?_⟩;simp!
  cases q:gs l y with
  |true=>simp!;exact⟨p,b q⟩
  |false=>simp!;exact c q
 .let e:=uH (λi=>gs l (aN a i)) (a.map bJ) 0
  let u:(dI a l).map D.int=((q0Z 0 ↑(a.map bJ)).filter λk:Nat=>gs l (aN a k)).map λk:Nat=>D.int k:=by
   unfold dI bK;rw[Ye,VW,nW,<-Zi];rfl
  rw[<-u] at e;rw[e];calc cK k
inductive uJ (ys:-DV) (bF:-OV) (K:RV->-OV->Prop):Prop
 |mk (m:Int) (ws:-Wy) (ns:-Int) (_:aH m ws) (_:Nums ws ns) (_:ys=[.p (a6 m ws),.p (a9 ns)]) (_:bF=[]) (_:(ns=[]->K (.p .non) [])) (_:∀n∈ns,(∀e∈ns,kle (fu ws n) (fu ws e))->K (.p (.int n)) [])
def yK:WS:=(aY (yF ι (aa 1) [ζ 0] (aA 1 yg (aq (d2 (d2 (aa 1) (dC (.int 1)) ba) (aa 0) ba) ae))))
theorem PA:Sem 2 0 uJ yK:=by
 ext t c u-⟨m,f,g,W,i,rfl,rfl,j,k⟩;unfold yK;simp![yF,mL,a6,a9]
 refine⟨g.map D.int,Y,λd=>match d with
  |.int n=>fu f n
  |_=>[],λd b=>?_,λl=>?_,λd b a=>?_⟩
 .let⟨n,h,rfl⟩:=VI.mp b
  let⟨o,p⟩:=i n h;let⟨y,q,v,r,_⟩:=mE W o p;calc⟨(by ext z;cases z),?_⟩;simp![eB,r];calc⟨y,Y,Y,?_⟩;simp!;unfold fu;rw[q];rfl
 .exact cK (j (q2e.mp l))
 .let⟨n,h,rfl⟩:=VI.mp b
  exact cK (k n h λe s=>a _ (VI.mpr ⟨e,s,Y⟩))
open Classical in
noncomputable def k8 (ws:List Wy) (ns:List Int):Int:=if h:∃n,n∈ns/\∀e∈ns,kle (fu ws n) (fu ws e) then q7O h else 0
theorem yL{m:Int}{ws:-Wy}(W:aH m ws){ns:-Int}(hn:Nums ws ns){n:Int}(h:n∈ns)(b:∀e∈ns,kle (fu ws n) (fu ws e)):k8 ws ns=n:=by
 unfold k8;let a:∃n,n∈ns/\∀e∈ns,kle (fu ws n) (fu ws e):=⟨n,h,b⟩;rw[dif_pos a];let⟨c,d⟩:=q1Q a;calc Oc W (hn _ c) (hn _ h) (Du (d n h) (b _ c))
theorem pL{ws:-Wy}{l:-Int}:Nums ws (dI ws l):=λn h=>uo (Wc.mp h).1
theorem PB{ws:-Wy}{l:-Int}:↑(dI ws l)<=↑ws:=by
 unfold dI;let:=W0 (λn=>gs l (aN ws n)) (bK ↑ws);rw[k7] at this;calc this
noncomputable def oH(ws:-Wy)(ls:-(-Int)):-Int:=((ls.map (dI ws)).filter λo=>S (o≠[])).map (k8 ws)
theorem PC{ws:-Wy}{ls:-(-Int)}:↑(oH ws ls)<=↑ls:=by
 unfold oH;rw[nW];let:=W0 (λo:-Int=>S (o≠[])) (ls.map (dI ws));rw[nW] at this;calc this
noncomputable def g9(m:Int)(ws:-Wy)(us:-Int):-Int:=sortI (fc (oH ws (ji m ws us)))
noncomputable def pM(f:-Int->D):D->D
 |.lst a=>match intsOf a with
  |some l=>f l
  |none=>.non
 |_=>.non
noncomputable def sb(f:-Int->Bool):D->Bool
 |.lst a=>match intsOf a with
  |some l=>f l
  |none=>ι
 |_=>ι
theorem uK(f:-Int->D)(l:-Int):pM f (a9 l)=f l:=by
 unfold a9;erw[pM,j7]
theorem yM(f:-Int->Bool)(l:-Int):sb f (a9 l)=f l:=by
 unfold a9;erw[sb,j7]
inductive sd (ys:-DV) (bF:-OV) (K:RV->-OV->Prop):Prop
 |mk (m:Int) (ws:-Wy) (us:-Int) (_:aH m ws) (_:Nums ws us) (_:us.Nodup) (_:↑us<=900) (_:ys=[.p (a6 m ws),.p (a9 us)]) (_:bF=[]) (_:K (.p (a9 (g9 m ws us))) [])
def yN:WS:=(az (aJ 2 (cx (bo (aA 2 D7 (aq (aa 0) (aq (aa 1) ae)))) [η,ζ 0] (bj 0) bI (aA 2 uI (aq (aa 1) (aq (aa 0) ae))))) (aY (dN (aq (cx (bo (aa 2)) [η,ζ 0] (bj 0) (dT (d2 (dN (aq (aa 0) ae) bB) (dC (.int 0)) (oI λi j=>.bl (S (j<i))))) (aA 2 uJ (aq (aa 1) (aq (aa 0) ae)))) ae) gf)))
theorem PD:Sem 2 1 sd yN:=by
 ext G s H-⟨m,ws,a,W,r,t,u,rfl,rfl,k⟩;let v:=W.jE;let⟨w,x⟩:=O0 W r;unfold yN;calc bc λN y=>?_;simp!;calc⟨m,ws,a,W,r,t,u,Y,Y,?_⟩;rw[show((eU (ic m ws a) m.toNat).map (·.2))=ji m ws a from Y,show xW (ji m ws a)=.lst ((ji m ws a).map a9) from Y];unfold g9 at k;generalize ji m ws a=ls at k w x;simp!;refine j9 (pM λl=>a9 (dI ws l)) (by rw[nW];symm) trivial ?_ ?_
 .ext d g i A j h
  let⟨l,_,rfl⟩:=VI.mp g;rw[uK] at h;simp!;calc⟨m,ws,l,W,Y,Y,?_⟩;simp!;exact⟨j,h⟩
 let e:(ls.map a9).map (pM λl=>a9 (dI ws l))=(ls.map (dI ws)).map a9:=by
  rw[VW,VW];exact W7 λl _=>uK _ l
 rw[e];subst y;simp!;refine L2.j8 (sb λo=>S (o≠[])) (pM λo=>.int (k8 ws o)) (by rw[nW,nW];symm) trivial ?_ ?_
 .ext d g i A j f p
  let⟨o,B,rfl⟩:=VI.mp g;let⟨l,_,rfl⟩:=VI.mp B;rw[uK,yM] at f;rw[yM] at p;let q:=pL (ws:=ws) (l:=l);generalize dI ws l=o at f p q;rw[show a9 o=.lst (o.map D.int) from Y];simp!
  by_cases c:o=[]
  .subst c
   rw[show S ((0:Int)<(↑([]:-Int):Nat))=ι from Y];simp!;exact p Y
  .let C:S ((0:Int)<(↑o:Nat))=θ:=VH (by let:=q0n.mpr c;symm)
   rw[C];simp!;calc⟨m,ws,o,W,q,Y,Y,(λz=>absurd z c),λn E b=>?_⟩;rw[yL W q E b] at f;simp!;exact⟨j,f (VH c)⟩
 .let F:(((ls.map (dI ws)).map a9).filter (sb λo=>S (o≠[]))).map (pM λo=>.int (k8 ws o))=(oH ws ls).map D.int:=by
   unfold oH;rw[Ye,VW,VW];rw[show(sb λo=>S (o≠[]))∘a9=λo=>S (o≠[]) from funext λo=>yM _ o];exact W7 λo _=>uK _ o
  let I:=PC (ws:=ws) (ls:=ls);rw[F];simp![j7];calc⟨⋯,cK k⟩
theorem uL(ns:-Int):∀i,i<=↑ns->(LJS.hX ns i).Nodup/\∀x,x∈LJS.hX ns i↔x∈ns.take i
 |0,_=>⟨YL,λx=>by simp[LJS.hX]⟩
 |i+1,h=>by
  let⟨n,m⟩:=uL ns i ⋯
  let e:ns.take (i+1)=ns.take i++[ns.getD i 0]:=by
   rw[Y4,KH,tE (show i<↑ns by symm)];rfl
  rw[e];unfold LJS.hX LJS.once;split
  .rename_i c
   calc⟨n,λx=>?_⟩;rw[m x,VZ,Wn];calc⟨.inl,λz=>z.elim id λz=>?_⟩;subst z;exact(m _).mp c
  .rename_i c
   refine⟨Xs.mpr ⟨n,by simp,λa d b f z=>?_⟩,λx=>?_⟩
   .subst z;rw[Wn.mp f] at d;exact c d
   .rw[VZ,VZ,m x]
theorem Et{ws:-Wy}:∀{ns:-Int},ns≠[]->∃n,n∈ns/\∀e∈ns,kle (fu ws n) (fu ws e)
 |[],h=>absurd Y h
 |[a],_=>⟨a,Uz,λe c=>by rw[Wn.mp c];calc kle_refl _⟩
 |a::b::r,_=>by
  let⟨n,f,d⟩:=Et (ws:=ws) (ns:=b::r) (by simp)
  cases q:HT.lexLt (fu ws n) (fu ws a) with
  |true=>exact⟨n,UA _ f,λe c=>(Uy.mp c).elim (λz=>by rw[z];calc oA q) (d e)⟩
  |false=>calc⟨a,Uz,λe c=>(Uy.mp c).elim (λz=>by rw[z];calc kle_refl _) λz=>kle_trans q (d e z)⟩
theorem Eu{ws:-Wy}{ns:-Int}(h:ns≠[]):k8 ws ns∈ns/\∀e∈ns,kle (fu ws (k8 ws ns)) (fu ws e):=by
 let a:=Et (ws:=ws) h;unfold k8;rw[dif_pos a];calc q1Q a
theorem PE{ws:-Wy}{ls:-(-Int)}{n:Int}:n∈oH ws ls↔∃l∈ls,dI ws l≠[]/\n=k8 ws (dI ws l):=by
 unfold oH;rw[VI]
 constructor
 .ext ⟨o,c,rfl⟩
  let⟨a,d⟩:=Wc.mp c;let⟨l,b,rfl⟩:=VI.mp a;exact⟨l,b,W_ d,Y⟩
 .ext ⟨l,b,a,rfl⟩
  calc⟨_,Wc.mpr ⟨VI.mpr ⟨l,b,Y⟩,VH a⟩,Y⟩
theorem Ew(ns:-Int)(x:Int):x∈fc ns↔x∈ns:=by
 let:=(uL ns _ (B6 _)).2 x;rw[VX] at this;calc this
theorem gu{m:Int}{ws:-Wy}{us:-Int}{n:Int}:n∈g9 m ws us↔∃l∈ji m ws us,dI ws l≠[]/\n=k8 ws (dI ws l):=by
 unfold g9;rw[(sortI_perm _).mem_iff,Ew,PE]
theorem PF{m:Int}{ws:-Wy}{us:-Int}:(g9 m ws us).Nodup:=(sortI_perm _).nodup_iff.mpr (uL _ _ (B6 _)).1
theorem Ex{m:Int}{ws:-Wy}{us:-Int}{n:Int}(h:n∈g9 m ws us):∃l∈ji m ws us,n∈dI ws l/\∀e∈dI ws l,kle (fu ws n) (fu ws e):=by
 let⟨l,a,b,rfl⟩:=gu.mp h;calc⟨l,a,Eu b⟩
theorem PG{m:Int}{ws:-Wy}{us:-Int}:Nums ws (g9 m ws us):=λn h=>by
 let⟨l,_,a,_⟩:=Ex h;calc pL n a
theorem PH{m:Int}{ws:-Wy}(W:aH m ws){us:-Int}(b:Nums ws us){l:-Int}(d:l∈ji m ws us){n:Int}(h:n∈dI ws l):¬ bz (eV ws us) (aN ws n).1 (aN ws n).2.1:=λc=>by
 let⟨g,_,rfl⟩:=((r9 W b).1.mem l).mp d;let⟨e,a⟩:=Wc.mp h;let⟨f,j⟩:=uo e;let⟨i,k,_,o,r,s,t⟩:=uE W f j;unfold gs at a
 by_cases p:(aN ws n).1∈cls m.toNat (eV ws us) g
 .let q:(aN ws n).2.1∈cls m.toNat (eV ws us) g:=cb.mpr ⟨⋯,(cb.mp p).2.trans c⟩
  rw[VH p,VH q] at a;cases a
 .let q:¬ (aN ws n).2.1∈cls m.toNat (eV ws us) g:=λz=>p (cb.mpr ⟨⋯,(cb.mp z).2.trans c.symm⟩)
  rw[VD p,VD q] at a;cases a
theorem PJ{m:Int}{ws:-Wy}(W:aH m ws){us:-Int}(a:Nums ws us){n:Int}(h:n∈g9 m ws us):n∉us:=λz=>by
 let⟨l,b,c,_⟩:=Ex h;calc PH W a b c (.one ⟨n,z,Y⟩)
theorem yO{m:Int}{ws:-Wy}(W:aH m ws){us:-Int}(c:Nums ws us)(d:us.Nodup):Nums ws (us++g9 m ws us)/\(us++g9 m ws us).Nodup :=
 ⟨λn h=>(VZ.mp h).elim (c n) (PG n),Xs.mpr ⟨d,PF,λa e b f z=>PJ W c (by rw[z];calc f) e⟩⟩
theorem uM{ws:-Wy}{us:-Int}(a:Nums ws us)(b:us.Nodup):↑us<=↑ws:=by
 let h:us.Subset (bK ↑ws):=λn h=>by
  let:=a n h;exact bL.mpr this
 let:=List.Nodup.length_le_of_subset b h;rw[k7] at this;calc this
theorem PK{δ0:aI}{t:WT}{b:WS}{K:KS}{n:Nat}{d:aI}(h:∀A B:aI->Prop,A=b {nx:=λa=>mG δ0 t b K n (δ0.trim a),ct:=λa=>mG δ0 t b K n (δ0.trim a),bk:=K.nx,rt:=K.rt}->B=K.nx->t d λe c=>if e=θ then A c else B c):mG δ0 t b K (n+1) d:=h _ _ Y Y
noncomputable def nB(m:Int)(ws:-Wy):Nat->-Int->-(-Int)
 |0,_=>[]
 |n+1,b=>match g9 m ws b with
  |[]=>[]
  |a::r=>(a::r)::nB m ws n (b++a::r)
noncomputable def pN(m:Int)(ws:-Wy):-(-Int):=nB m ws (↑ws+1) []
inductive yP (ys:-DV) (bF:-OV) (K:RV->-OV->Prop):Prop
 |mk (m:Int) (ws:-Wy) (_:aH m ws) (_:ys=[.p (a6 m ws)]) (_:bF=[]) (_:K (.n ((pN m ws).map a9)) [])
def yQ:WS:=(az (aJ 1 (eI ae)) (az (aJ 2 (bG ae)) (az (aJ 3 (aA 2 sd (aq (aa 0) (aq (aa 2) ae)))) (az (D5 (dT (d2 (dN (aq (aa 3) ae) bB) (dC (.int 0)) (oI λi j=>.bl (S (j<i))))) (az (dr (bU (aa 1) (aq (aa 3) ae))) (az (aJ 2 (d2 (aa 2) (aa 3) bX)) (aJ 3 (aA 2 sd (aq (aa 0) (aq (aa 2) ae))))))) (aY (aa 1))))))
theorem PL:Sem 1 3 yP yQ:=by
 ext O F u-⟨m,b,W,rfl,rfl,k⟩;let G:=W.jE;unfold yQ;calc bc λN f=>?_;simp!;subst f;calc bc λN f=>?_;simp!;subst f;calc bc λN f=>?_;simp!;calc⟨m,b,[],W,(λn h=>nomatch h),YL,VY _,Y,Y,?_⟩;simp!;subst f;refine bc λN f=>?_
 let v:∀x y,N ⟨[ζ (.p (a6 m b)),ζ (.o 0),ζ (.p x),ζ (.p y)],[ζ (.lst ((pN m b).map a9))]⟩:=λx y=>by
  subst f;simp!;exact⟨[],Y,Y,.inl k⟩
 refine⟨↑b+1,?_⟩
 let H:∀(n:Nat)(c:-Int)(d:-(-Int)),Nums b c->c.Nodup->↑b<↑c+n->↑d+n<=↑b+1->d++nB m b n c=pN m b →
   mG ⟨[ζ (.p (a6 m b)),ζ (.o 0),ζ (.p (.lst [])),ζ (.p (a9 (g9 m b [])))],[ζ (.lst [])]⟩ (dT (d2 (dN (aq (aa 3) ae) bB) (dC (D.int 0)) (oI λi j=>D.bl (S (j<i)))))
    (az (dr (bU (aa 1) (aq (aa 3) ae))) (az (aJ 2 (d2 (aa 2) (aa 3) bX)) (aJ 3 (aA 2 sd (aq (aa 0) (aq (aa 2) ae))))))
    {nx:=N,rt:=(eu ↑([]:-OV) u).rt,bk:=(eu ↑([]:-OV) u).bk,ct:=(eu ↑([]:-OV) u).ct} n
    ⟨[ζ (.p (a6 m b)),ζ (.o 0),ζ (.p (.lst (c.map D.int))),ζ (.p (a9 (g9 m b c)))],[ζ (.lst (d.map a9))]⟩:=by
  ext n
  induction n with
  |zero =>
   ext c d w z h _ _;let:=uM w z;symm
  |succ n I =>
   ext c d w z h P e;let⟨l,s⟩:=yO W w z;let C:=uM l s;calc PK λA B J K=>?_;unfold nB at e;rw[show a9 (g9 m b c)=.lst ((g9 m b c).map D.int) from Y];simp!
   cases q:g9 m b c with
   |nil =>
    rw[q] at e;rw[show S ((0:Int)<(↑([]:-Int):Nat))=ι from Y];simp!;rw[show d++[]=d from dV d] at e;rw[e,K];exact v _ _
   |cons a r =>
    rw[q] at e l s C;let E:S ((0:Int)<(↑(a::r):Nat))=θ:=VH (by rw[wo];symm);let L:0<↑(a::r):=by rw[wo];symm
    dsimp only at e;generalize a::r=t at e l s C E L;rw[qG] at C;rw[E];simp!;subst J;calc bc λM g=>?_;simp!;calc⟨⋯,?_⟩;subst g;calc bc λM g=>?_;simp!;calc⟨⋯,?_⟩;subst g;rw[<-VR];simp!;calc⟨m,b,c++t,W,l,s,by rw[qG];symm,Y,Y,?_⟩;simp!;let:=I (c++t) (d++[t]) l s (by rw[qG];symm) (by rw[qG,WJ];symm) (by rw[X1];calc e);rw[show(d++[t]).map a9=d.map a9++[a9 t] from VR] at this;exact this
 let:=H (↑b+1) [] [] (λn h=>nomatch h) YL (by simp) (by simp) Y;calc this
end LJ
namespace L2
open PySem PySem.Spec PyProof.Rows PySem.W
theorem Ey(a:Nat->Int):∀k,argBest (λi j=>S (a i<a j)) k<=k/\∀j,j<=k->a (argBest (λi j=>S (a i<a j)) k)<=a j
 |0=>⟨B6 _,λj b=>by
  let e:j=0:=by symm
  subst e
  calc q16 _⟩
 |k+1=>by
  let⟨f,d⟩:=Ey a k;show(if S (a (k+1)<a (argBest _ k))=θ then k+1 else argBest _ k)<=k+1/\∀j,j<=k+1->a (if S (a (k+1)<a (argBest _ k))=θ then k+1 else argBest _ k)<=a j
  by_cases c:a (k+1)<a (argBest (λi j=>S (a i<a j)) k)
  .rw[VE (VH c)]
   refine⟨B6 _,λj b=>?_⟩
   by_cases e:j=k+1
   .subst e;exact q16 _
   .let:=d j ⋯;symm
  .rw[VC (by rw[VD c];decide)]
   refine⟨⋯,λj b=>?_⟩
   by_cases e:j=k+1
   .subst e;symm
   .calc d j ⋯
section
variable{X:Cx}
theorem PM(D:X.calm=θ):g6 X (.builtin "min") (λxs H Q=>∃(l:ξ)(ns:-Int),xs=[.ref l]/\bS X.K H l (ns.map V.int)/\ns≠[]/\∀x∈ns,(∀y∈ns,x<=y)->Q (.int x) H):=by
 ext m s Y H W Z Q I r h;let⟨l,a,rfl,E,F,q⟩:=h;let⟨u,rfl,G⟩:=vals1 r;cases G
 let⟨d,n,J,_⟩:=I.list E;let g:=↑n;rw[nW] at g;let k:=J.isList;let p:l<⇑s:=by let⟨o,e,_⟩:=k;exact Vz e
 let L:l≠⇑s:=VF p;let M:0<↑a:=q0n.mpr F;let w:d.toArray.size=↑a:=by rw[KG];exact g.symm
 let f:∀(i:Nat)(v:ν),d.toArray[i]?=ζ v->∃t,v=Xm (a.getD i 0) t:=λi v c=>by
  rw[YD] at c;let A:i<↑a:=by rw[g];exact(pa.mp c).1
  let⟨u,B,t,N⟩:=n.get (x:=V.int (a.getD i 0)) (i:=i) (by rw[B8,tE A,KH,tE A];rfl);rw[c] at B;cases B
  exact⟨t,N⟩
 calc call_min_walk (Yt k ?_);refine⟨⇑s,_,_,_,_,_,λi j=>μ (a.getD i 0<a.getD j 0),rfl,ZC (by rw[ZE];calc I.ok.hd D) ⇑s l L _,⟨⟨_,UD _ rfl,rfl,rfl⟩,k.push _⟩,λb C=>?_,by rw[w];calc M,CmpOf.ints_lt (λi=>a.getD i 0) f,λv h' O c P=>?_⟩
 .erw[Uy,Wx,YC] at C
  rw[XG];rcases C with e|e
  .rw[e];exact Xa _
  .rw[e];exact WR p
 .let⟨t,rfl⟩:=f _ v c
  rw[w] at c ⊢;let⟨b1,R⟩:=Ey (λi=>a.getD i 0) (↑a-1);let S:∀{i:Nat},i<↑a->a.getD i 0∈a:=λ{i} h=>by rw[KH,tE h];exact Yi h
  refine⟨.int _,H,I.kept (t':=O) λb o e=>P b o (λz=>?_) (B5 _ e),⟨t,rfl⟩,q _ (S ⋯) λy T=>?_⟩
  .let:=Vz e
   rw[Wn.mp z] at this;exact X9 _ this
  .let⟨j,U,rfl⟩:=Xr.mp T
   let:=R j ⋯;rw[show a.getD j 0=a[j] by rw[KH,tE U];rfl] at this;calc this
end
def pO:-D->(D->Prop)->Prop
 |[.lst b],K=>match intsOf b with
  |some a=>a≠[]/\∀x∈a,(∀y∈a,x<=y)->K (.int x)
  |none=>False
 |_,_=>False
variable[a8]{X:Cx}
theorem Ez(f:X.calm=θ):eH X (.builtin "min") pO:=by
 ext b s g H o h Q I r ⟨F,p,K,i,j,q,k⟩;unfold pO at q;split at q
 .rename_i t
  split at q
  .rename_i l e
   let⟨v,rfl,a,u,rfl,c,d⟩:=iC j;rw[nr e] at d;rw[lB d] at c;exact PM f b s g H _ h Q I r ⟨a,l,Y,bS.of c,q.1,λx m n=>k _ _ _ (q.2 x m n) (λ_ _ e=>e) Y⟩
  .exact q.elim
 .calc q.elim
end L2
namespace LJ
open PySem L2
variable[a8]
end LJ
namespace L2
open PySem PySem.Spec PyProof.Rows PySem.W
section
variable{X:Cx}{pins:a5}{σ:St}{H:Hp}{s:L}{E:br}{l I S:U}{ts:-U}{d:M}{R:Result->L->Prop}
end
variable[a8]
section
variable{X:Cx}{e:J}{f:WE}{p1 q1 r_:I}
end
end L2
namespace LJ
open PySem L2
variable[a8]
end LJ
namespace LJ
open PySem L2
noncomputable def lH(ws:-Wy)(us:-Int):-Int:=us.map (λn=>(aN ws n).1)++us.map λn=>(aN ws n).2.1
section
variable{ws:-Wy}{us ns vs:-Int}{a b c x n:Int}
end
end LJ
namespace L2
open PySem PySem.Spec PyProof.Rows
variable[a8]
section
variable{X:Cx}{fa:WA}
end
end L2
namespace LJ
open PySem L2
variable[a8]
inductive uN (ys:-DV) (bF:-OV) (K:RV->-OV->Prop):Prop
 |mk (m:Int) (ws:-Wy) (us:-Int) (_:aH m ws) (_:Nums ws us) (_:↑us<=400) (_:ys=[.p (a6 m ws),.p (a9 us)]) (_:bF=[]) (_:K (.p (a9 (lH ws us))) [])
def yR:WS:=(aY (d2 (cx (bo (aa 1)) [η,ζ 0] (bj 0) bI (d2 (d2 (d2 (aa 1) (dC (.int 1)) ba) (aa 0) ba) (dC (.int 0)) ba)) (cx (bo (aa 1)) [η,ζ 0] (bj 0) bI (d2 (d2 (d2 (aa 1) (dC (.int 1)) ba) (aa 0) ba) (dC (.int 1)) ba)) bX))
theorem EA{ws:-Wy}{n:Int}(h:0<=n/\n<(↑ws:Int)):eW (ws.map bJ) n=ζ (bJ (aN ws n)):=by
 let⟨i,rfl⟩:∃i:Nat,n=i:=⟨n.toNat,⋯⟩;let a:i<↑ws:=by symm
 calc iP ?_;rw[B8,tE a];unfold aN;rw[V8,KH,tE a];rfl
theorem PN:Sem 2 0 uN yR:=by
 ext o l p-⟨m,a,b,W,j,q,rfl,rfl,k⟩;unfold yR;rw[show a9 b=.lst (b.map D.int) from Y];simp!
 refine L2.j9 (λd=>match d with
  |.int n=>.int (aN a n).1
  |_=>.non) (by rw[nW];symm) trivial ?_ ?_
 .ext d c f L g h
  let⟨n,i,rfl⟩:=VI.mp c;simp![a6,eB,EA (j n i),bJ,dw];exact⟨g,h⟩
 refine L2.j9 (λd=>match d with
  |.int n=>.int (aN a n).2.1
  |_=>.non) (by rw[nW];symm) trivial ?_ ?_
 .ext d c f L g h
  let⟨n,i,rfl⟩:=VI.mp c;simp![a6,eB,EA (j n i),bJ];exact⟨g,h⟩
 simp!;refine⟨⋯,?_⟩
 let e:(b.map D.int).map (λd=>match d with
  |.int n=>D.int (aN a n).1
  |_=>.non)++(b.map D.int).map (λd=>match d with
  |.int n=>D.int (aN a n).2.1
  |_=>.non)=(lH a b).map D.int:=by
  unfold lH;rw[VW,VW,VR,VW,VW];rfl
 rw[e];calc cK k
section
variable{m:Int}{ws:-Wy}{us:-Int}
end
end LJ
namespace LJS
open PySem PySem.SetTable PyProof.Rows
theorem EB(ns:-Int){i:Nat}:∀{n:Nat},i<=n->↑(hX ns i)<=↑(hX ns n)
 |0,h=>by
  obtain rfl:i=0:=by symm
  exact B6 _
 |n+1,h=>by
  by_cases c:i=n+1
  .subst c;exact B6 _
  .let:=EB ns (i:=i) (n:=n) ⋯
   show _<=↑(once (hX ns n) (ns.getD n 0));unfold once;split
   .exact this
   .rw[qG];symm
section
variable{prog:X}{w:l}{A:t}{R:Result->L->Prop}{I S:U}{fp wr:-U}{G:Array GenState->Array GenState->Prop}{n:Nat}{P:Nat->M->Prop}{St:Nat->L->Prop}
theorem EC(W:WalksS prog w A.in1 I fp wr G n P St)(out:S∉fp){led:Bool}(ns:-Int)(f:∀i v,P i v->∃t,v=.int (ns.getD i 0) t)(E:↑(hX ns n)<60):
  ∀(a i:Nat)(s:ο),i+a=n->St i s->d7 s.heap S led (hX ns i)->(∀s',Moved (S::wr) G s s'->d7 s'.heap S led (hX ns n)->R (.ok (.ret .none)) s') →
   codeAny (ς prog w) A (.builtin "set.update.loop" ⟨[.ref S,.ref I],[]⟩) R s:=by
 let c:S∉wr:=λz=>out (W.sub _ z);let d:∀b,b∈wr->b∈S::wr:=λb g=>UA _ g;ext a
 induction a with
 |zero =>
  ext i s H m p h;obtain rfl:i=n:=by symm
  calc Xe Yj ?_;rw[Xi Xn _];show ρ _ A.in1 (pyNext (.ref I) >>= _) _ _ s;calc nX (W.done s _ _ m λB j=>?_);show ρ _ A.in1 (ret WB) _ _ B;exact B7 (h B (j.mono d) (p9 p λo e=>j.heap S o c e))
 |succ a J =>
  ext i s H m p h;let q:i<n:=by symm
  calc Xe Yj ?_;rw[Xi Xn _];show ρ _ A.in1 (pyNext (.ref I) >>= _) _ _ s;calc nX (W.item i s _ _ q m λv l K r j=>?_);let⟨t,rfl⟩:=f i v K;show ρ _ A.in1 (holding [Xm (ns.getD i 0) t] (setAdd S (.int (ns.getD i 0) t)) >>= _) _ _ l;calc nX (WK ?_);unfold setAdd;calc WK (nX ((intKind prog w).pyHash (k:=ns.getD i 0) (ZA _ _ _ _) ?_));let C:=EB ns (i:=i) (n:=n) ⋯;calc add_int (s:={l with toks:=l.toks+1}) (p9 p λo e=>j.heap S o c e) ⋯ λb N D u=>?_;let L:∀b,b∈fp->b≠S:=λb g z=>out (by rw[<-z];calc g);refine B7 ⟨Yo Xn _,J (i+1) _ ⋯ (W.frame _ l _ _ r (Y2 _ _) λb g o e=>by rw[D.2 b (L b g)];calc e) u λM x y=>?_⟩
  calc h M (q3j W.gtrans ((j.mono d).then_heap (Y2 _ _) λb o g e=>?_) x) y;rw[D.2 b (λz=>g (by rw[z];calc Uz))];calc e
end
section
variable{prog:X}{w:l}{A:t}{E:br}{s:L}
set_option maxHeartbeats 3200000 in
theorem PQ {l:U} {items:Array M} {Q:br} (ns:-Int) (hh:A.handled=η) (isL:s.heap.IsList l items\/s.heap.IsTuple l items) (isInt:∀(i:Nat)(v:M),items[i]?=ζ v->∃t,v=.int (ns.getD i 0) t) (sR:↑(hX ns items.size)<60)
  (fin:∀(h':Α)(tk:Nat),d7 h' ⇑s (gI w) (hX ns items.size)->(∀b o,b<⇑s->s.heap.get? b=ζ o->h'.get? b=ζ o)->Q (.ref ⇑s) {s with heap:=h',toks:=tk}) :
  G (B prog w) A (call (.type "set") [.ref l]) Q E s:=by
 let⟨c,tl,p_⟩:=W6.mro;let m1:=W6.made;let m2:=W6.sub;let m3:=W6.notType;let m4:=W6.canCreate;let m5:=q1d (.ref l);calc q0w (q0f ?_);show G _ _ (callAny (.type "set") _) _ _ _;calc B7 ⟨q0x _ (by decide +kernel),Xe q0Q ?_⟩;rw[q0y (Z1 "set" [.ref l] []) Y]
 repeat(any_goals (first|assumption|wp_step))
 refine YF (Bb (.ref l) (E:=E) (Q₁:=λr s1=>r=.ref ⇑s/\s1={s with heap:=s.heap.push (cn (gI w))}) ⟨Y,Y⟩) λr s1 hr=>?_
 cases r with
 |error e=>exact hr
 |ok fl =>
  cases fl with
  |ret obj =>
   let⟨rfl,rfl⟩:=hr;generalize vA:gI w=led at fin ⊢;let gS:(s.heap.push (cn led)).get? ⇑s=ζ (cn led):=UD _ Y;let tS:q2i {s with heap:=s.heap.push (cn led)} (.ref ⇑s) "set" := ⟨_,gS,Y⟩;let m6:=W6.init.lookup;let m7:=W6.init.bind (.ref ⇑s)
   repeat(any_goals (first|assumption|wp_step))
   refine YF (q0a (R:=wants (λr s2=>r=.none/\∃h' tk,s2={s with heap:=h',toks:=tk}/\d7 h' ⇑s led (hX ns items.size) ∧
     ∀b o,b<⇑s->s.heap.get? b=ζ o->h'.get? b=ζ o) E) W6.init.plain q1e (q1f tS ?_)) λr2 s2 iU=>?_
   .let h3:A.in1.in1.in1.handled=η:=by simp[hh]
    let ez:(s.heap.push (cn led)).objs.size=⇑s+1:=XG ..;let ll:l<⇑s:=by rcases isL with⟨ol,gl,_⟩|⟨ol,gl,_⟩<;>exact Vz gl
    let nI:l≠(s.heap.push (cn led)).objs.size:=by rw[ez];exact VF (WR ll)
    let out:⇑s∉[(s.heap.push (cn led)).objs.size,l]:=by
     erw[Uy,Wx,YC,q1q,ez];exact⟨VF (Xa _),Yc ll⟩
    unfold Builtin.«set.__init__» noKeywords Za;generalize oZ:pyIter=PI;rcases isL with isL|isL
    .let⟨ol,gl,cl,nl,dl⟩:=isL
     let⟨c0,d0,vy,nG⟩:=ol;simp only at cl dl;subst cl;subst dl;let nH:(s.heap.push (cn led)).get? l=ζ {cls:=.type "list",dict:=d0,data:=.seq items nl,slots:=nG}:=B5 _ gl;let x1:=q1W;let x2:=q0b;let x3:(XS "list" == XS "dict")=ι:=by decide
     let g5:(s.heap.push (cn led)).IsList l items:=⟨_,nH,Y,nl,Y⟩
     wp_walk
     subst oZ;refine Yt g5 (nX (Zf ?_))
     refine EC ((ZC h3 _ l nI items).toS) (S:=s.heap.objs.size) out (led:=led) ns (λi v hv=>isInt i v hv) sR items.size 0 _ (VJ _)
      ⟨⟨_,UD _ Y,Y,Y⟩,g5.push _⟩ (vz (led:=led) (B5 _ gS)) ?fin
     ext s' mv se;let⟨h',g',d',jD,nJ⟩:=s';obtain rfl:g'=s.gens:=mv.gens;obtain rfl:d'=s.drawn:=mv.drawn;obtain rfl:nJ=s.os:=mv.os;show G _ _ _ _ _ _;calc B7 ?_;show G _ _ (ret WB) _ _ _;calc B7 ⟨Y,h',jD,Y,se,λb o hb e=>?_⟩;calc mv.heap b o ?_ (B5 _ (B5 _ e));erw[Uy,Wx,YC,q1q,ez];exact⟨VF hb,VF (WR hb)⟩
    .let⟨ol,gl,cl,nl,dl⟩:=isL
     let⟨c0,d0,vy,nG⟩:=ol;simp only at cl dl;subst cl;subst dl;let nH:(s.heap.push (cn led)).get? l=ζ {cls:=.type "tuple",dict:=d0,data:=.seq items nl,slots:=nG}:=B5 _ gl;let x1:=F.sub_tuple_set;let x2:=F.sub_tuple_frozenset;let x3:(XS "tuple" == XS "dict")=ι:=by decide
     let g5:(s.heap.push (cn led)).IsTuple l items:=⟨_,nH,Y,nl,Y⟩
     wp_walk
     subst oZ;refine Y_ g5 (nX (Zf ?_))
     refine EC ((Walks.tuple h3 _ l nI items).toS) (S:=s.heap.objs.size) out (led:=led) ns (λi v hv=>isInt i v hv) sR items.size 0 _ (VJ _)
      ⟨⟨_,UD _ Y,Y,Y⟩,g5.push _⟩ (vz (led:=led) (B5 _ gS)) ?fin2
     ext s' mv se;let⟨h',g',d',jD,nJ⟩:=s';obtain rfl:g'=s.gens:=mv.gens;obtain rfl:d'=s.drawn:=mv.drawn;obtain rfl:nJ=s.os:=mv.os;show G _ _ _ _ _ _;calc B7 ?_;show G _ _ (ret WB) _ _ _;calc B7 ⟨Y,h',jD,Y,se,λb o hb e=>?_⟩;calc mv.heap b o ?_ (B5 _ (B5 _ e));erw[Uy,Wx,YC,q1q,ez];exact⟨VF hb,VF (WR hb)⟩
   .cases r2 with
    |error e=>exact iU
    |ok qa =>
     cases qa with
     |ret r =>
      let⟨rfl,h',jD,rfl,se,kp⟩:=iU
      repeat(any_goals (first|assumption|wp_step))
      exact fin _ _ se kp
     |next=>exact iU
     |brk=>exact iU
     |cont=>exact iU
  |next=>exact hr
  |brk=>exact hr
  |cont=>calc hr
end
end LJS
namespace L2
open PySem PySem.Spec PyProof.Rows
variable[a8]{X:Cx}{fa:WA}
def aK:-D->(D->Prop)->Prop
 |[.lst b],K=>match intsOf b with
  |some a=>↑(fc a)<60/\K (.lst ((sortI (fc a)).map D.int))
  |none=>False
 |[.tup b],K=>match intsOf b with
  |some a=>↑(fc a)<60/\K (.lst ((sortI (fc a)).map D.int))
  |none=>False
 |_,_=>False
theorem PR(E:X.calm=θ):g6 X (.type "set") (λxs H Q=>∃(l:U)(ns:-Int),xs=[.ref l]/\(bS X.K H l (ns.map V.int)\/cF X.K H l (ns.map V.int))/\↑(fc ns)<60/\∀p,H p=η->Q (.ref p) (upd H p (mC (LJS.gI X.w) p (fc ns)))):=by
 ext z s P H O R Q I r h;let⟨l,d,rfl,f,k,q⟩:=h;let⟨u,rfl,F⟩:=vals1 r;cases F
 let⟨a,c,g⟩:∃a:-ν,Vals (d.map V.int) a/\(s.heap.IsList l a.toArray\/s.heap.IsTuple l a.toArray):=by
  rcases f with f|f
  .let⟨a,c,g,_⟩:=I.list f
   exact⟨a,c,.inl g.isList⟩
  .let⟨a,c,g,_⟩:=I.tuple f
   exact⟨a,c,.inr g⟩
 let G:=↑c;rw[nW] at G;let e:a.toArray.size=↑d:=by rw[KG];symm
 refine LJS.PQ d (I.ok.hd E) g (λi v m=>?_) (by rw[e];calc k) λJ L A M=>?_
 .rw[YD] at m
  let B:=(pa.mp m).1;let⟨x,C,D⟩:=pD c (j:=i) (by rw[KG];calc B);rw[show a.toArray[i]'(by rw[KG];calc B)=v by simpa using(pa.mp m).2] at D;rw[B8] at C;let⟨n,N,rfl⟩:=KJ.mp C;let⟨t,rfl⟩:=D;rw[KH,N];exact⟨t,Y⟩
 .let y:LJS.d7 J ⇑s (LJS.gI X.w) (fc d):=by rw[e] at A;exact A
  calc⟨.ref ⇑s,upd H ⇑s (mC (LJS.gI X.w) ⇑s (fc d)),I.laid (t':=L) (λb o e=>M b o (Vz e) e) (B6 _) (DF y),Y,q _ (I.bf.fresh (B6 _))⟩
theorem yS{a:υ}{J n L o:Ε}(E:X.calm=θ)(s:Gl X "sorted")(M:X.mg "sorted" = η)(t:bootBuiltins "sorted" = ζ (.builtin "sorted"))(u:Gl X "set")(c:X.mg "set" = η)(x:bootBuiltins "set" = ζ (.type "set"))(N:JA X [a] (cX fa))
  (he:starEach [a] X.env=[(ι,eval a X.env)]:=by rfl) (y:starEach [.Call (.Name "set" n) [a] [] o] X.env=[(ι,eval (.Call (.Name "set" n) [a] [] o) X.env)]:=by rfl):JE X (.Call (.Name "sorted" J) [.Call (.Name "set" n) [a] [] o] [] L) (tD (dN fa aK)) :=
 (o9 (DG E) s M t (jK (ml (PR E) u c x N (he:=he)) bY) (he:=y)).weak λY H Q ⟨F,O,P,K,S,q,k⟩=>⟨F,O,P,_,S,q,λZ R T G F1 U m I g V=>by
  let⟨ds,b,h⟩:=pj g V T;unfold aK at b;split at b
  .split at b
   .rename_i W d e
    let⟨v,rfl,a,G,rfl,i,j⟩:=iC h;rw[nr e] at j;rw[lB j] at i;calc⟨a,d,rfl,.inl (bS.of i),b.1,λp z=>⟨p,fc d,rfl,cw,⋯,λr A B C c=>?_⟩⟩;let l:a_ m (upd m p (mC (LJS.gI X.w) p (fc d))):=c_ z;let f:=g.al l;let D:=Ext.al g l;calc k _ _ b.2 _ _ _ _ ((I.trans D).trans (Ext.al f (c_ c))) (f.al (c_ c)) ?_;rw[<-oq B C];exact kD f.sub c mB
   .exact b.elim
  .split at b
   .rename_i W d e
    let⟨v,rfl,a,G,rfl,i,j⟩:=iC h;rw[nr e] at j;rw[lB j] at i;calc⟨a,d,rfl,.inr (cF.of (g.sub _ _ i)),b.1,λp z=>⟨p,fc d,rfl,cw,⋯,λr A B C c=>?_⟩⟩;let l:a_ m (upd m p (mC (LJS.gI X.w) p (fc d))):=c_ z;let f:=g.al l;let D:=Ext.al g l;calc k _ _ b.2 _ _ _ _ ((I.trans D).trans (Ext.al f (c_ c))) (f.al (c_ c)) ?_;rw[<-oq B C];exact kD f.sub c mB
   .exact b.elim
  .calc b.elim⟩
end L2
namespace LJ
open PySem L2
variable[a8]
abbrev Up(us:-Int):Prop:=us.Pairwise (· < ·)
noncomputable def tupI(ns:-Int):D:=.tup (ns.map D.int)
noncomputable def oD:Option Int->D
 |none=>.non
 |some n=>.int n
noncomputable def gv(ns:-Int):-Int:=sortI (fc ns)
theorem PS(ns:-Int):(fc ns).Nodup:=(uL ns ↑ns (B6 _)).1
theorem bA{ns:-Int}{x:Int}:x∈gv ns↔x∈ns:=(sortI_perm _).mem_iff.trans (Ew ns x)
theorem sf{ns:-Int}(c:ns.Nodup):Up (sortI ns):=((Di _).and ((sortI_perm ns).nodup_iff.mpr c)).imp λz=>by let a:=z.1;let b:=z.2;symm
theorem nC(ns:-Int):Up (gv ns):=sf (PS ns)
theorem ED{ns:-Int}(a:ns.Nodup):sortI ns=gv ns:=ka (sf a) (nC ns) λx=>(sortI_perm _).mem_iff.trans bA.symm
theorem Up.nd{us:-Int}(h:Up us):us.Nodup:=h.imp λz=>by symm
theorem sg{us:-Int}{n:Nat}(h:Up us)(r:∀x∈us,0<=x/\x<n):↑us<=n:=by
 let e:us=(bK n).filter λx=>S (x∈us):=ka h ((rY n).filter _) λx=>by
  rw[Wc,bL,V0];exact⟨λa=>⟨r x a,a⟩,λa=>a.2⟩
 rw[e];calc Wr (W0 _ _) ?_;rw[k7];calc B6 _
theorem EE{ns:-Int}{n:Nat}(r:∀x∈ns,0<=x/\x<n):↑(gv ns)<=n:=sg (nC ns) λx a=>r x (bA.mp a)
theorem uO{ns:-Int}{n:Nat}(r:∀x∈ns,0<=x/\x<n)(h:n<=30):↑(fc ns)<60:=by
 let:=EE r;unfold gv at this;rw[xj] at this;symm
abbrev gH:=Option (Option Int×Int)
structure Nt where
 p:-Int
 k:-Int
 s:-Int
 q:-gH
noncomputable def gw(p k s:-Int):D:=.tup [tupI p,tupI k,tupI s]
noncomputable def aZ(m:Int)(ws:-Wy)(p:-Int)(h:Int):-Int:=cls m.toNat (eV ws p) h
noncomputable def fW(ws:-Wy)(l:-Int):Option Int:=if dI ws l=[] then η else ζ (k8 ws (dI ws l))
noncomputable def fw(ws:-Wy)(p k:-Int):-Int:=(bK ↑ws).filter λn=>S (n∉p++k)
noncomputable def lI(ws:-Wy)(us l:-Int):-Int:=(lH ws us).filter λh=>S (h∈l)
noncomputable def mM(ws:-Wy)(l:-Int):-Int:=(bK ↑ws).filter λn=>S ((aN ws n).1∈l)&&S ((aN ws n).2.1∈l)
noncomputable def jQ(ws:-Wy)(l p:-Int):-Int:=(mM ws l).filter λn=>S (n∉p)
noncomputable def oJ(m:Int)(ws:-Wy)(p k:-Int)(h:Int):-Int:=gv (k++jQ ws (aZ m ws p h) p)
noncomputable def sh(m:Int)(ws:-Wy)(p k:-Int)(h:Int):Int:=2*((↑(aZ m ws p h):Int)-1)+2*(↑(lI ws (fw ws p k) (aZ m ws p h)):Int)
noncomputable def yT(m:Int)(ws:-Wy)(p:-Int)(w:Int):Int:=min (↑(aZ m ws p (aN ws w).1):Int) (↑(aZ m ws p (aN ws w).2.1):Int)
noncomputable def lJ(m:Int)(ws:-Wy)(N:Nt)(fo:Option Int)(h:Int):Option Int×Int:=match fo with
 |none=>if h∈N.s then(η,0) else(η,(↑(aZ m ws N.p h):Int)-1)
 |some w=>if w∈N.p then(η,0) else(ζ w,1+yT m ws N.p w)
noncomputable def dA(m:Int)(ws:-Wy)(N:Nt)(fo:Option Int)(h:Int):Nt:=match fo with
 |none=>if h∈N.s then N else⟨N.p,N.k,gv (N.s++aZ m ws N.p h),N.q⟩
 |some w=>if w∈N.p then N else⟨gv (N.p++[w]),N.k,N.s,N.q⟩
inductive cM where
 |wake (h:Int)|fin (i:Nat)
noncomputable def hV:cM->D
 |.wake h=>.tup [.str "wake",.int h]
 |.fin i=>.tup [.str "end",.int i]
noncomputable def jR(t:Option Int×Int):D:=.tup [oD t.1,.int t.2]
noncomputable def Nt.step(m:Int)(ws:-Wy)(N:Nt):cM->Nt
 |.wake h=>if h∈N.s then⟨N.p,N.k,N.s,N.q++[η]⟩ else⟨N.p,oJ m ws N.p N.k h,N.s,N.q++[ζ (fW ws (aZ m ws N.p h),h)]⟩
 |.fin i=>match N.q[i]? with
  |some (some (a,h))=>dA m ws ⟨N.p,N.k,N.s,N.q.set i η⟩ a h
  |_=>N
noncomputable def Nt.tell(m:Int)(ws:-Wy)(N:Nt):cM->Option Int×Int
 |.wake h=>if h∈N.s then(η,0) else(η,sh m ws N.p N.k h)
 |.fin i=>match N.q[i]? with
  |some (some (a,h))=>lJ m ws N a h
  |_=>(η,0)
def gW(m:Int)(N:Nt):cM->Prop
 |.wake h=>0<=h/\h<m
 |.fin i=>∃a h,N.q[i]?=ζ (ζ (a,h))
noncomputable def runN(m:Int)(ws:-Wy):Nt->-cM->Nt
 |N,[]=>N
 |N,e::r=>runN m ws (N.step m ws e) r
noncomputable def kK(m:Int)(ws:-Wy):Nt->-cM->-(Option Int×Int)
 |_,[]=>[]
 |N,e::r=>N.tell m ws e::kK m ws (N.step m ws e) r
noncomputable def iH(m:Int)(ws:-Wy):Nt->-cM->Prop
 |_,[]=>True
 |N,e::r=>gW m N e/\iH m ws (N.step m ws e) r
theorem oK{m:Int}{ws:-Wy}:∀{N:Nt}{a:-cM}{e:cM},runN m ws N (a++[e])=(runN m ws N a).step m ws e
 |N,[],e=>Y
 |N,x::a,e=>oK (N:=N.step m ws x) (a:=a)
theorem yU{m:Int}{ws:-Wy}:∀{N:Nt}{a:-cM}{e:cM},kK m ws N (a++[e])=kK m ws N a++[(runN m ws N a).tell m ws e]
 |N,[],e=>Y
 |N,x::a,e=>by
  show _::kK m ws (N.step m ws x) (a++[e])=_;rw[yU (N:=N.step m ws x) (a:=a)];rfl
theorem EF{m:Int}{ws:-Wy}:∀{N:Nt}{a:-cM}{e:cM},iH m ws N a->gW m (runN m ws N a) e->iH m ws N (a++[e])
 |N,[],e,_,h=>⟨h,trivial⟩
 |N,x::a,e,⟨b,c⟩,h=>⟨b,EF (N:=N.step m ws x) (a:=a) c h⟩
theorem yV{m:Int}{ws:-Wy}:∀{N:Nt}{a:-cM},↑(kK m ws N a)=↑a
 |N,[]=>Y
 |N,x::a=>by show↑(kK m ws _ a)+1=_;rw[yV];rfl
structure dc(m:Int)(ws:-Wy)(N:Nt):Prop where
 pu:Up N.p
 pn:Nums ws N.p
 ku:Up N.k
 kn:Nums ws N.k
 su:Up N.s
 sn:∀x∈N.s,0<=x/\x<m
 ju:∀n∈N.k,bz (eV ws N.p) (aN ws n).1 (aN ws n).2.1
 sc:∀n,0<=n/\n<(↑ws:Int)->((aN ws n).1∈N.s↔(aN ws n).2.1∈N.s)
 q:∀(i:Nat)(fo:Option Int)(h:Int),N.q[i]?=ζ (ζ (fo,h))->(0<=h/\h<m)/\(∀w,fo=ζ w->0<=w/\w<(↑ws:Int))/\(fo=η->dI ws (aZ m ws N.p h)=[])
noncomputable def cg:Nt:=⟨[],[],[],[]⟩
theorem lK(m:Int)(ws:-Wy):dc m ws cg:=⟨.nil,(λ_ h=>nomatch h),.nil,(λ_ h=>nomatch h),.nil,(λ_ h=>nomatch h),(λ_ h=>nomatch h),λ_ _=>⟨(λh=>nomatch h),(λh=>nomatch h)⟩,λi a h e=>by simp[cg] at e⟩
section
variable{m:Int}{ws:-Wy}{N:Nt}
theorem PT{p:-Int}{n:Int}(h:n∈p):bz (eV ws p) (aN ws n).1 (aN ws n).2.1:=.one ⟨n,h,Y⟩
theorem jB(W:aH m ws){p:-Int}{h x:Int}:x∈aZ m ws p h↔(0<=x/\x<m)/\bz (eV ws p) h x:=by
 let:=W.m1;unfold aZ;rw[cb];calc and_congr_left' ⟨λz=>by symm,λz=>by symm⟩
theorem yW(W:aH m ws){n:Int}(hn:0<=n/\n<(↑ws:Int)):(0<=(aN ws n).1/\(aN ws n).1<m)/\(0<=(aN ws n).2.1/\(aN ws n).2.1<m):=by
 let⟨i,k,_,a,b,c,d⟩:=uE W hn.1 hn.2;symm
theorem EG(W:aH m ws){p:-Int}{h n:Int}(hn:0<=n/\n<(↑ws:Int))(c:bz (eV ws p) (aN ws n).1 (aN ws n).2.1):(aN ws n).1∈aZ m ws p h↔(aN ws n).2.1∈aZ m ws p h:=by
 let⟨a,b⟩:=yW W hn;rw[jB W,jB W];calc⟨λz=>⟨b,z.2.trans c⟩,λz=>⟨a,z.2.trans c.symm⟩⟩
theorem EH{l:-Int}{y:Wy}(h:y.1∈l↔y.2.1∈l):gs l y=ι:=by
 unfold gs
 by_cases c:y.1∈l
 .rw[VH c,VH (h.mp c)];rfl
 .rw[VD c,VD λz=>c (h.mpr z)];rfl
theorem EI{l:-Int}{y:Wy}(h:gs l y=ι):y.1∈l↔y.2.1∈l:=by
 unfold gs at h
 by_cases c:y.1∈l<;>by_cases d:y.2.1∈l<;>simp[c,d] at h ⊢
theorem gx{l:-Int}{n:Int}:n∈dI ws l↔(0<=n/\n<(↑ws:Int))/\gs l (aN ws n)=θ:=by
 unfold dI;rw[Wc,bL]
theorem EJ{l:-Int}(h:dI ws l=[]){n:Int}(hn:0<=n/\n<(↑ws:Int)):(aN ws n).1∈l↔(aN ws n).2.1∈l:=by
 refine EI ?_
 cases q:gs l (aN ws n) with
 |false=>rfl
 |true=>let:=gx.mpr ⟨hn,q⟩;rw[h] at this;calc nomatch this
theorem PU(ws:-Wy)(l:-Int):Up (dI ws l):=(rY _).filter _
theorem yX{p:-Int}(h:Nums ws p){l:-Int}(i:∀n,0<=n/\n<(↑ws:Int)->((aN ws n).1∈l↔(aN ws n).2.1∈l)){a b:Int}(c:bz (eV ws p) a b)(j:a∈l):b∈l:=by
 induction c with
 |rf=>exact j
 |st _ e d =>
  let⟨w,⟨k,m,rfl⟩,o⟩:=e;let:=i k (h k m);rcases o with⟨f,g⟩|⟨f,g⟩
  .rw[<-g];rw[<-f] at d;exact this.mp d
  .rw[<-f];rw[<-g] at d;calc this.mpr d
theorem oM(m:Int)(ws:-Wy)(p:-Int)(h:Int):Up (aZ m ws p h):=rZ _ _ _
theorem pP(W:aH m ws){p:-Int}{h:Int}:↑(aZ m ws p h)<=12:=by
 let:=W.iA;calc Wr (sg (n:=m.toNat) (oM m ws p h) λx a=>by let:=((jB W).mp a).1;symm) ⋯
theorem EK(W:aH m ws){p:-Int}{h:Int}(a:0<=h/\h<m):h∈aZ m ws p h:=(jB W).mpr ⟨a,.rf⟩
theorem EL{p d:-Int}(h:∀x∈p,x∈d){a b:Int}(c:bz (eV ws p) a b):bz (eV ws d) a b:=c.mono λv ⟨k,f,e⟩↦⟨k,h k f,e⟩
theorem yY(W:aH m ws){p b:-Int}(c:Nums ws b)(h:∀x∈p,x∈b){a:Int}(f:0<=a/\a<m)(e:dI ws (aZ m ws p a)=[]):aZ m ws b a=aZ m ws p a:=by
 refine ka (oM ..) (oM ..) λx=>⟨λd=>?_,λd=>?_⟩
 .exact yX c (λn g=>EJ e g) ((jB W).mp d).2 (EK W f)
 .let⟨i,j⟩:=(jB W).mp d
  calc(jB W).mpr ⟨i,EL h j⟩
theorem fX{l p:-Int}{n:Int}:n∈jQ ws l p↔((0<=n/\n<(↑ws:Int))/\(aN ws n).1∈l/\(aN ws n).2.1∈l)/\n∉p:=by
 unfold jQ mM;rw[Wc,Wc,bL,V0,Xo,V0,V0]
theorem PV(W:aH m ws){l:-Int}{w:Int}(h:fW ws l=ζ w):0<=w/\w<(↑ws:Int):=by
 unfold fW at h;split at h
 .cases h
 .rename_i a
  cases h
  calc pL _ (Eu a).1
theorem dc.step(W:aH m ws)(O:dc m ws N){e:cM}(he:gW m N e):dc m ws (N.step m ws e):=by
 cases e with
 |wake h =>
  unfold Nt.step;dsimp only;split
  .refine⟨O.pu,O.pn,O.ku,O.kn,O.su,O.sn,O.ju,O.sc,λi d b e=>?_⟩
   let e:(N.q++[η])[i]?=ζ (ζ (d,b)):=e
   by_cases c:i<↑N.q
   .rw[KI c] at e;exact O.q i d b e
   .rw[My ⋯] at e
    cases z:i-↑N.q with
    |zero=>rw[z] at e;cases e
    |succ j=>rw[z] at e;simp at e
  .refine⟨O.pu,O.pn,nC _,λn f=>?_,O.su,O.sn,λn f=>?_,O.sc,λi d h' e=>?_⟩
   .rcases VZ.mp (bA.mp f) with z|z
    .exact O.kn n z
    .exact (fX.mp z).1.1
   .rcases VZ.mp (bA.mp f) with z|z
    .exact O.ju n z
    .let⟨⟨_,A,B⟩,_⟩:=fX.mp z
     exact((jB W).mp A).2.symm.trans ((jB W).mp B).2
   .let e:(N.q++[ζ (fW ws (aZ m ws N.p h),h)])[i]?=ζ (ζ (d,h')):=e
    by_cases c:i<↑N.q
    .rw[KI c] at e;exact O.q i d h' e
    .rw[My ⋯] at e
     cases z:i-↑N.q with
     |zero =>
      rw[z] at e;let e:ζ (fW ws (aZ m ws N.p h),h)=ζ (d,h'):=by simpa using e
      cases e
      calc⟨he,λw l=>PV W l,λz=>?_⟩;unfold fW at z;split at z
      .assumption
      .cases z
     |succ j=>rw[z] at e;simp at e
 |fin i =>
  let⟨d,h,o⟩:=he;let⟨D,l,f⟩:=O.q i d h o
  let k:∀j a b,(N.q.set i η)[j]?=ζ (ζ (a,b))->N.q[j]?=ζ (ζ (a,b)):=λj a b e=>by
   by_cases c:i=j
   .subst c
    rw[Xg (pa.mp o).1] at e;cases e
   .rwa [Xj c] at e
  unfold Nt.step;dsimp only;rw[o];dsimp only;unfold dA
  cases d with
  |none =>
   dsimp only;split
   .exact⟨O.pu,O.pn,O.ku,O.kn,O.su,O.sn,O.ju,O.sc,λj a b e=>O.q j a b (k j a b e)⟩
   .refine⟨O.pu,O.pn,O.ku,O.kn,nC _,λx g=>?_,O.ju,λn s=>?_,λj a b e=>O.q j a b (k j a b e)⟩
    .rcases VZ.mp (bA.mp g) with z|z
     .exact O.sn x z
     .exact ((jB W).mp z).1
    .rw[bA,bA,VZ,VZ]
     exact or_congr (O.sc n s) (EJ (f Y) s)
  |some w =>
   dsimp only;split
   .exact⟨O.pu,O.pn,O.ku,O.kn,O.su,O.sn,O.ju,O.sc,λj a b e=>O.q j a b (k j a b e)⟩
   .let t:∀x∈N.p,x∈gv (N.p++[w]):=λx g=>bA.mpr (XD _ g)
    let u:Nums ws (gv (N.p++[w])):=λx g=>by
     rcases VZ.mp (bA.mp g) with z|z
     .exact O.pn x z
     .rw[Wn.mp z];exact l w Y
    calc⟨nC _,u,O.ku,O.kn,O.su,O.sn,λn r=>EL t (O.ju n r),O.sc,λj a b e=>?_⟩;let⟨v,C,y⟩:=O.q j a b (k j a b e);calc⟨v,C,λz=>?_⟩;show dI ws (aZ m ws (gv (N.p++[w])) b)=[];rw[yY W u t v (y z)];calc y z
theorem dc.run(W:aH m ws):∀{N:Nt}{es:-cM},dc m ws N->iH m ws N es->dc m ws (runN m ws N es)
 |_,[],O,_=>O
 |N,e::r,O,⟨a,b⟩=>dc.run W (N:=N.step m ws e) (es:=r) (dc.step W O a) b
theorem dc.pl(W:aH m ws)(O:dc m ws N):↑N.p<=30:=Wr (sg O.pu O.pn) W.jE
theorem dc.kl(W:aH m ws)(O:dc m ws N):↑N.k<=30:=Wr (sg O.ku O.kn) W.jE
theorem dc.sl(W:aH m ws)(O:dc m ws N):↑N.s<=12:=by
 let:=W.iA;calc Wr (sg (n:=m.toNat) O.su λx a=>by let:=O.sn x a;symm) ⋯
end
end LJ
namespace L2
open PySem PySem.Spec PyProof.Rows
variable[a8]
inductive RK where
 |p (d:D)|w (a:U)|n (ds:-D)|u (t:Bool) (fs:-FV)
abbrev GK:=-DV->-OV->(RK->-OV->-OV->Prop)->Prop
def si(F' H H':Hp)(e:-U)(f:-(Option OV))(v:V):RK->Prop
 |.p d=>Is F' d v
 |.w a=>v=.ref a
 |.u t g=>∃b c,v=.ref b/\F' b=ζ (mw t c)/\fK F' g c
 |.n h=>∃b c,v=.ref b/\H b=η/\H' b=ζ (.lst c)/\F' b=η/\ax F' h c/\¬ Lv e f b
structure EM(F:Hp)(ad:-U)(bF:-OV)(H:Hp)(r:RK)(ows news:-OV)(v:V)(F':Hp)(bV:-U)(H':Hp):Prop where
 ext:Ext F ad (bF.map ζ) H F' bV ((ows++news).map ζ) H'
 sr:SR F' bV ⟨[],(ows++news).map ζ⟩ [] H'
 len:↑ows=↑bF
 res:si F' H H' bV ((ows++news).map ζ) v r
inductive kL (G:GK) (n:Nat) (vs:-V) (H:Hp) (Q:VK) (_:XK):Prop
 |mk (hl:↑vs=n) (F:Hp) (ad:-U) (ys:-DV) (bF:-OV) (K:RK->-OV->-OV->Prop) (S:SR F ad ⟨ys.map ζ,bF.map ζ⟩ (vs.map ζ) H) (g:G ys bF K) (k:∀r ows news,K r ows news->∀v F' bV H',EM F ad bF H r ows news v F' bV H'->Q v H')
def oN(n:Nat)(K:RK->-OV->-OV->Prop)(x:DV)(e:aI):Prop:=∃c b f,e.mu=(c++b).map ζ++f/\↑c=n/\match x with
 |.p d=>K (.p d) c b
 |.w a=>K (.w a) c b
 |.u t g=>K (.u t g) c b
 |.o k=>↑(c++b)<=k/\match e.mu[k]? with
  |some (some (.lst h))=>K (.n h) c b
  |_=>False
 |.t _ _=>False
noncomputable def af(n:Nat)(K:RK->-OV->-OV->Prop):KS where
 nx:=oN n K (.p .non)
 rt:=oN n K
section
variable{F F' H H':Hp}{ad bV:-U}{σ σ':St}{δ:aI}{mu gi:-(Option OV)}
theorem pQ{b:Type}{l:-b}{n k:Nat}{a:b}(e:(l.take n)[k]?=ζ a):k<n/\l[k]?=ζ a:=by
 let c:k<n:=by
  let:=(pa.mp e).1;rw[Ww] at this;symm
 rw[W5 c] at e;calc⟨c,e⟩
theorem SR.cut(m:Nat)(S:SR F ad δ σ H):SR F (ad.take m) ⟨[],δ.mu.take m⟩ [] H:=by
 refine⟨S.sub,λa x=>S.off a x.take,?_,λk l a w f b c d g=>S.inj k l a w f (pQ b).2 (pQ c).2 (pQ d).2 (pQ g).2,λk j e=>?_,λi x e=>by simp at e,Y,S.tab,S.nt⟩
 .show ↑(ad.take _)=↑(δ.mu.take _)
  rw[Ww,Ww,S.di]
 .let⟨b,c⟩:=pQ e
  let⟨a,o,d,h⟩:=S.mu k j c;calc⟨a,o,by rw[W5 b];calc d,h⟩
theorem Ext.cut{m:Nat}(e:Ext F ad mu H F' bV gi H')(b:↑ad<=m):Ext F ad mu H F' (bV.take m) (gi.take m) H' :=
 ⟨e.same,e.new,e.keep,λk a h=>by rw[W5 (VS (pa.mp h).1 b)];calc e.pre k a h,λa x=>e.df a x.take,e.iB⟩
theorem EN{e:-OV}{x:DV}{v:V}{K:RK->-OV->-OV->Prop}{Q:VK}{sl:-(Option DV)}{I:St}(J:SR F ad ⟨sl,e.map ζ⟩ I H)(E:Ext F ad (e.map ζ) H F' bV δ.mu H')(S:SR F' bV δ σ' H')(V:eN F' bV x v)
  (h:oN ↑e K x δ) (k:∀r c b,K r c b->∀v F' bV H',EM F ad e H r c b v F' bV H'->Q v H'):Q v H':=by
 let⟨c,b,T,y,f,h⟩:=h;let C:↑ad=↑e:=by let:=J.di;rwa [nW] at this
 let L:δ.mu.take ↑(c++b)=(c++b).map ζ:=by rw[y,List.take_left' (by rw[nW])]
 let g:=E.cut (m:=↑(c++b)) (by rw[C,qG];symm);let l:=S.cut ↑(c++b);rw[L] at g l
 cases x with
 |p d=>exact k _ _ _ h _ _ _ _ ⟨g,l,f,V⟩
 |w a=>exact k _ _ _ h _ _ _ _ ⟨g,l,f,V⟩
 |u t U=>exact k _ _ _ h _ _ _ _ ⟨g,l,f,V⟩
 |t _ _=>exact h.elim
 |o i =>
  let⟨M,h⟩:=h;split at h
  .rename_i W n
   let⟨a,q,rfl⟩:=V;let⟨a',o,D,N,O,rfl,P⟩:=S.mu i _ n;rw[q] at D;cases D;refine k _ _ _ h _ _ _ _ ⟨g,l,f,a,O,Y,?_,N,S.off a ⟨i,_,q,n⟩,P,λ⟨j,G,A,R⟩=>?_⟩
   .rcases E.df a ⟨i,_,q,n⟩ with⟨j,G,z,_⟩|z
    .let s:j<↑c:=by rw[f,<-C];exact(pa.mp z).1
     let B:δ.mu[j]?=ζ (ζ c[j]):=by
      rw[y,KI (by rw[nW,qG];symm),B8,KI s,tE s];rfl
     let:=S.inj i j a _ _ q (E.pre j a z) n B;rw[qG] at M;symm
    .exact z
   .have ⟨s,A⟩:=pQ A
    let B:δ.mu[j]?=ζ (ζ G):=by
     rw[y,KI (by rw[nW];calc s)];exact R
    let:=S.inj i j a _ _ q A n B;symm
  .calc h.elim
end
theorem hG.yZ{P:X}{w:ω}{K:KD}{t:π->Option ν}{base:Α}{x b:π}{st:χ}{f:ξ}{u:FuncData}{N d:-π}{k:Nat}{G:GK}(F:hG K x b st f u)(S:lU N d (dq st))
  (i:∀(c:ν)(A:Β)(outer:-Ζ)(s:ο)(H:Hp)(E:XK),bw k (A.deeper (envOfC b (dq st) ⇑s f c)) →
   ∃B:WS,ee (gh fZ P w K t base N b (dq st) f c A outer s H E).kQ (gZ st) (eh B)/\∀ys a l,↑ys=↑d->G ys a l->B (af ↑a l) ⟨ys.map ζ++VG (↑N-↑d) η,a.map ζ⟩) :
  cG P w K t base fZ (k+1) f u d (kL G ↑d) :=
 F.qJ S (λD H Q E h=>h.1) λc A e s H D Q E I h=>by
  let⟨z,J,L,n,a,l,m,g,C⟩:=h;let⟨B,M,O⟩:=i c A e s H E I
  let R:↑n=↑d:=by
   let:=m.len;rw[nW] at this;rw[<-z,this];rw[nW]
  refine⟨_,M,J,L,⟨n.map ζ++VG (↑N-↑d) η,a.map ζ⟩,af ↑a l,by rw[<-z];calc m.start,O n a l R g,⟨λj h T o σ' U q r=>?_,λj h=>h.elim,λj h=>h.elim,λy j h v T o σ' U q r V=>?_,trivial⟩⟩
  .exact EN (σ':=σ') m q r (x:=.p .non) (v:=.non) Y h C
  .calc EN (σ':=σ') m q r V h C
def uP(mu:-(Option OV)):-(Nat×OV)->Prop
 |[]=>True
 |(k,a)::r=>mu[k]?=ζ (ζ a)/\uP mu r
theorem EO{mu:-(Option OV)}:∀{es:-(Nat×OV)},uP mu es->∀a∈es,mu[a.1]?=ζ (ζ a.2)
 |(k,c)::r,h,a,b=>by
  rcases Uy.mp b with rfl|b
  .exact h.1
  .calc EO h.2 a b
section
variable{F F' H H':Hp}{ad bV:-U}{δ:aI}{σ σ':St}
theorem PW{xs:-DV}{vs:-V}{r:-DV×-(Nat×OV)}{es:-(Nat×OV)}{G:GK}{n:Nat}{Q:VK}{E:XK}{K:RK->-OV->-OV->Prop}(S:SR F ad δ σ H)(V:dM F ad xs vs)(hn:↑vs=n)(hp:passes δ.mu xs 0=ζ r)(he:uP δ.mu es)(nd:d8 (r.2++es)=θ)(g:G r.1 ((r.2++es).map (·.2)) K)
  (fin:∀res A s v F' D H',K res A s->Ext F ad δ.mu H F' D (b_ δ.mu (r.2++es) A++s.map ζ) H'->SR F' D ⟨δ.sl,b_ δ.mu (r.2++es) A++s.map ζ⟩ σ H'->si F' H H' D (b_ δ.mu (r.2++es) A++s.map ζ) v res->Q v H'):kL G n vs H Q E:=by
 let⟨PX,uQ,b0,c⟩:=pz S.mu hp V;let⟨_,c1,c2⟩:=c [] rfl;let⟨y6,ER⟩:∃y6:-ξ,y6=es.map λx=>(ad[x.1]?).getD 0:=⟨_,rfl⟩;let⟨as,has⟩:∃as,as=PX++y6:=⟨_,rfl⟩;let⟨f,oO⟩:∃f,f=r.2++es:=⟨_,rfl⟩;rw[<-oO] at nd g fin
 let b:∀(i:Nat)(x:Nat×OV),f[i]?=ζ x->δ.mu[x.1]?=ζ (ζ x.2)/\∃a o,as[i]?=ζ a/\ad[x.1]?=ζ a/\H a=ζ o/\fB F a x.2 o:=λi x e=>by
  rw[oO] at e
  by_cases L:i<↑r.2
  .rw[KI L] at e
   let⟨N,a,o,R,z3⟩:=b0 i x e;exact⟨N,a,o,by rw[has,KI (by rw[uQ];calc L)];calc R,z3⟩
  .let L:↑r.2<=i:=by symm
   rw[My L] at e;let m:=EO he x (WU e);let⟨a,o,N,R⟩:=S.mu _ _ m;calc⟨m,a,o,?_,N,R⟩;rw[has,My (by rw[uQ];calc L),uQ,ER,B8,e];show ζ ((ad[x.1]?).getD 0)=ζ a;rw[N];rfl
 let al:↑as=↑f:=by rw[has,oO,qG,qG,uQ,ER,nW]
 let O:∀(i:Nat)(a:ξ),as[i]?=ζ a->Lv ad δ.mu a/\∃x,f[i]?=ζ x/\ad[x.1]?=ζ a/\δ.mu[x.1]?=ζ (ζ x.2):=λi a e=>by
  let L:i<↑f:=by rw[<-al];exact(pa.mp e).1
  let⟨m1,a',o,B,C,_,_⟩:=b i _ (tE L);rw[e] at B;cases B;exact⟨⟨_,_,C,m1⟩,_,tE L,C,m1⟩
 let PY:∀(i:Nat)(Y:OV),((f.map (·.2)).map ζ)[i]?=ζ (ζ Y)->∃x,f[i]?=ζ x/\x.2=Y:=λi Y e=>by
  let e:=ro e;rw[B8] at e;let⟨x,B,C⟩:=KJ.mp e;exact⟨x,B,C⟩
 refine⟨hn,F,as,r.1,f.map (·.2),K,⟨S.sub,λa ⟨i,Y,B,C⟩↦S.off a (O i a B).1,by rw[al];rw[nW,nW],λi j a Y I B C _ _=>?_,λi Y e=>?_,λi y e=>?_,?_,S.tab,S.nt⟩,g,λres A s hk v F' D H' P=>?_⟩
 .let⟨_,x,k1,k2,k3⟩:=O i a B
  let⟨_,kp,p1,p2,p3⟩:=O j a C;let:x.1=kp.1:=S.inj _ _ a _ _ k2 p2 k3 p3;exact wU nd i j x.1 x.2 kp.2 k1 (by rw[this];calc p1)
 .let⟨x,B,rfl⟩:=PY i Y e
  let⟨_,a,o,C,_,e4,e5⟩:=b i x B;exact⟨a,o,C,e4,e5⟩
 .let⟨v,B,C⟩:=c2 i y (ro e)
  calc⟨v,rp B,?_⟩;rw[Wd] at C;exact C.pre λk a h _=>by rw[has,KI (pa.mp h).1];exact h
 .show ↑(vs.map ζ)=↑(r.1.map ζ)
  rw[nW,nW,c1]
 .let X:=P.ext
  let T:=P.sr;let ol:↑A=↑f:=by rw[P.len,nW]
  let di:D.length=↑f+↑s:=by
   let:=T.di;rw[this];show↑((A++s).map ζ)=_;rw[nW,qG,ol]
  let rz:∀a,Lv as ((f.map (·.2)).map ζ) a->Lv ad δ.mu a:=λa ⟨i,_,e,_⟩↦(O i a e).1
  let U3:∀(i:Nat)(a:ξ),as[i]?=ζ a->Lv as ((f.map (·.2)).map ζ) a:=λi a e=>by
   let⟨_,x,k1,_⟩:=O i a e;exact⟨i,x.2,e,rp (by rw[B8,k1];rfl)⟩
  let pre:∀(i:Nat)(a:ξ),as[i]?=ζ a->D[i]?=ζ a:=X.pre;let mo:∀(i:Nat)(I:OV),A[i]?=ζ I->((A++s).map ζ)[i]?=ζ (ζ I):=λi I e=>rp (by rw[KI (pa.mp e).1];calc e);let mn:∀(j:Nat)(w:OV),s[j]?=ζ w->((A++s).map ζ)[↑f+j]?=ζ (ζ w):=λj w e=>rp (by rw[My ⋯,ol,ZJ];calc e);let U:↑(b_ δ.mu f A)=↑ad:=by rw[wV,S.di]
  let ju:∀(l:Nat)(I:OV),(b_ δ.mu f A++s.map ζ)[l]?=ζ (ζ I)->(∃(i:Nat)(x:Nat×OV),l<↑ad/\f[i]?=ζ x/\x.1=l/\A[i]?=ζ I)\/(l<↑ad/\(∀x∈f,x.1≠l)/\δ.mu[l]?=ζ (ζ I))\/(↑ad<=l/\s[l-↑ad]?=ζ I):=λl I e=>by
   by_cases J:l<↑ad
   .rw[KI (by rw[U];calc J)] at e
    by_cases z:∃x∈f,x.1=l
    .let⟨x,hk,rfl⟩:=z
     let⟨i,L⟩:=VL.mp hk;let y7:i<↑A:=by rw[ol];exact(pa.mp L).1
     let:=wW (mu:=δ.mu) nd L (tE y7) (pa.mp (b i x L).1).1;rw[e] at this;cases this
     exact .inl ⟨i,x,J,L,rfl,tE y7⟩
    .let z':∀x∈f,x.1≠l:=λx hk q=>z ⟨x,hk,q⟩
     rw[rq _ _ _ _ z'] at e;exact .inr (.inl ⟨J,z',e⟩)
   .rw[My (by rw[U];symm),U] at e
    exact .inr (.inr ⟨⋯,ro e⟩)
  let gn:∀(l:Nat)(a:ξ),↑ad<=l->(ad++D.drop ↑f)[l]?=ζ a->D[↑f+(l-↑ad)]?=ζ a:=λl a J e=>by
   rw[My J,q2y] at e;exact e
  let go:∀(l:Nat)(a:ξ),l<↑ad->(ad++D.drop ↑f)[l]?=ζ a->ad[l]?=ζ a:=λl a J e=>by
   rw[KI J] at e;exact e
  let Z:∀(l:Nat)(I:OV)(a:ξ),(ad++D.drop ↑f)[l]?=ζ a->(b_ δ.mu f A++s.map ζ)[l]?=ζ (ζ I)->(Lv ad δ.mu a/\l<↑ad/\ad[l]?=ζ a/\∃w,δ.mu[l]?=ζ (ζ w))\/(↑ad<=l/\D[↑f+(l-↑ad)]?=ζ a/\((A++s).map ζ)[↑f+(l-↑ad)]?=ζ (ζ I)):=λl I a B C=>by
   rcases ju l I C with⟨i,x,J,L,rfl,_⟩|⟨J,_,q⟩|⟨J,q⟩
   .exact .inl ⟨⟨_,_,go _ _ J B,(b i x L).1⟩,J,go _ _ J B,_,(b i x L).1⟩
   .exact .inl ⟨⟨_,_,go _ _ J B,q⟩,J,go _ _ J B,_,q⟩
   .exact .inr ⟨J,gn l a J B,mn _ _ q⟩
  let M:∀a,Lv ad δ.mu a->∃o,H a=ζ o/\a∉a8.ad:=λa ⟨k,Y,B,C⟩=>by
   let⟨a',o,e3,e4,h⟩:=S.mu k Y C;rw[B] at e3;cases e3;calc⟨o,e4,λt=>?_⟩;let⟨ps,q⟩:=a8.tb S.tab t;rw[e4] at q;exact h.kind ps (WD q)
  let y8:∀a,Lv ad δ.mu a->F' a=η:=λa l=>by
   cases q:F' a with
   |none=>rfl
   |some u =>
    rcases X.new a u q with y|y|⟨i,Y,y,_⟩
    .rw[S.off a l] at y;cases y
    .let⟨o,z,_⟩:=M a l
     rw[y] at z;cases z
    .let⟨_,x,k1,_⟩:=O i a y
     let L:i<↑A:=by rw[ol];exact(pa.mp k1).1
     rw[T.off a ⟨i,A[i],pre i a y,mo i _ (tE L)⟩] at q;cases q
  let ES:∀(j:Nat)(a:ξ)(w:OV),D[↑f+j]?=ζ a->((A++s).map ζ)[↑f+j]?=ζ (ζ w)->¬ Lv ad δ.mu a:=λj a w B C l=>by
   rcases X.df a ⟨_,w,B,C⟩ with⟨i,Y,y,_⟩|y
   .let L:i<↑A:=by rw[ol,<-al];exact(pa.mp y).1
    let:=T.inj _ _ a _ _ B (pre i a y) C (mo i _ (tE L));symm
   .let⟨o,z,_⟩:=M a l
    rw[y] at z;cases z
  let ex:Ext F ad δ.mu H F' (ad++D.drop ↑f) (b_ δ.mu f A++s.map ζ) H':=by
   refine⟨X.same,λa o e=>?_,λa o e n t=>X.keep a o e (λz=>n (rz a z)) t,λk a e=>by rw[KI (pa.mp e).1];calc e,λa ⟨l,I,B,C⟩=>?_,X.iB⟩
   .rcases X.new a o e with z|z|z
    .exact .inl z
    .exact .inr (.inl z)
    .exact .inr (.inr (rz a z))
   .rcases Z l I a B C with⟨z,_⟩|⟨_,N,R⟩
    .exact .inl z
    .rcases X.df a ⟨_,_,N,R⟩ with z|z
     .exact .inl (rz a z)
     .exact .inr z
  let sr:SR F' (ad++D.drop ↑f) ⟨δ.sl,b_ δ.mu f A++s.map ζ⟩ σ H':=by
   refine⟨T.sub,λa ⟨l,I,B,C⟩=>?_,?_,λk l a Y I B C e3 e4=>?_,λl I e=>?_,λi y e=>?_,S.len,T.tab,T.nt⟩
   .rcases Z l I a B C with⟨z,_⟩|⟨_,N,R⟩
    .exact y8 a z
    .exact T.off a ⟨_,_,N,R⟩
   .show ↑(ad++D.drop ↑f)=↑(b_ δ.mu f A++s.map ζ)
    rw[qG,qG,U,YK,di,nW,ZJ]
   .rcases Z k Y a B e3 with⟨z,_,y1,w1,y2⟩|⟨D0,N,R⟩
    .rcases Z l I a C e4 with⟨_,_,y3,w2,y4⟩|⟨_,N,R⟩
     .exact S.inj k l a _ _ y1 y3 y2 y4
     .exact (ES _ _ _ N R z).elim
    .rcases Z l I a C e4 with⟨z,_⟩|⟨uw,z3,z4⟩
     .exact (ES _ _ _ N R z).elim
     .let:=T.inj _ _ a _ _ N z3 R z4
      symm
   .rcases ju l I e with⟨i,x,J,L,rfl,ho⟩|⟨J,z,q⟩|⟨J,q⟩
    .let⟨_,a,o,B,C,_,_⟩:=b i x L
     let⟨a',o',e3,e4,h5⟩:=T.mu i I (mo i I ho);rw[pre i a B] at e3;cases e3;exact⟨a,o',by rw[KI J];calc C,e4,h5⟩
    .let⟨a,o,B,C,h⟩:=S.mu l I q
     let lv:Lv ad δ.mu a:=⟨l,I,B,q⟩;calc⟨a,o,by rw[KI J];calc B,X.keep a o C (λ⟨i,_,y,_⟩=>?_) (M a lv).choose_spec.2,h.same X.same⟩;let⟨_,x,k1,k2,k3⟩:=O i a y;exact z x (VL.mpr ⟨i,k1⟩) (S.inj _ _ a _ _ k2 B k3 q)
    .let⟨a,o,B,C,h⟩:=T.mu _ _ (mn _ _ q)
     exact⟨a,o,by rw[My J,q2y];calc B,C,h⟩
   .let⟨v,B,h⟩:=S.sl i y e
    exact⟨v,B,h.ext ex⟩
  calc fin res A s v F' _ H' hk ex sr ?_;let W:=P.res
  cases res with
  |p d=>exact W
  |w a=>exact W
  |u t fs=>exact W
  |n ds =>
   let⟨c,us,rfl,n1,n2,n3,n4,n5⟩:=W;calc⟨c,us,rfl,n1,n2,n3,n4,λ⟨l,I,B,C⟩=>?_⟩;rcases Z l I c B C with⟨z,_⟩|⟨_,N,R⟩
   .let⟨o,y,_⟩:=M c z
    rw[n1] at y;cases y
   .calc n5 ⟨_,_,N,R⟩
end
def ai(f:aI)(c:-(Nat×OV))(K:DV->aI->Prop)(r:RK)(e b:-OV):Prop:=match r with
 |.p d=>K (.p d) ⟨f.sl,b_ f.mu c e++b.map ζ⟩
 |.w a=>K (.w a) ⟨f.sl,b_ f.mu c e++b.map ζ⟩
 |.u t g=>K (.u t g) ⟨f.sl,b_ f.mu c e++b.map ζ⟩
 |.n h=>K (.p (.lst h)) ⟨f.sl,b_ f.mu c e++b.map ζ⟩
def aG(d:aI)(b:-(Nat×OV))(K:DV->aI->Prop)(r:RK)(c a:-OV):Prop:=match r with
 |.n e=>K (.o ↑(b_ d.mu b c++a.map ζ)) ⟨d.sl,b_ d.mu b c++a.map ζ++[ζ (.lst e)]⟩
 |_=>False
def oP(o:Bool)(n:Nat)(G:GK)(xs:-DV)(b:aI)(K:DV->aI->Prop):Prop:=∃a,uP b.mu a/\match passes b.mu xs 0 with
 |some r=>(d8 (r.2++a)=θ/\↑r.1=n)/\G r.1 ((r.2++a).map (·.2)) (if o then aG b (r.2++a) K else ai b (r.2++a) K)
 |none=>False
section
variable{F F1 H H1:Hp}{ad pC:-U}{δ δ1:aI}{σ:St}{K:DV->aI->Prop}{Q:VK}{xs:-DV}{vs:-V}{n:Nat}{G:GK}{E:XK}{o:Bool}
theorem sj(kk:∀x e,K x e->∀v F' f H',Ext F ad δ.mu H F' f e.mu H'->SR F' f e σ H'->eN F' f x v->Q v H')(g:oP o n G xs δ1 K)(i:Ext F ad δ.mu H F1 pC δ1.mu H1)(L:SR F1 pC δ1 σ H1)(I:dM F1 pC xs vs):kL G n vs H1 Q E:=by
 let⟨M,N,g⟩:=g;split at g
 .rename_i r J
  let⟨⟨O,P⟩,g⟩:=g;refine PW L I (by rw[↑I,<-pA J,P]) J N O g λj y k v R z U c l h b=>?_
  cases o with
  |false =>
   cases j with
   |p d=>exact kk _ _ c _ _ _ _ (i.trans l) h b
   |w a=>exact kk _ _ c _ _ _ _ (i.trans l) h b
   |u t S=>exact kk _ _ c _ _ _ _ (i.trans l) h b
   |n s =>
    let⟨a,m,rfl,A,B,q,C,D⟩:=b;calc kk _ _ c _ _ _ _ (i.trans (l.adopt (o:=.lst m) A q)) (h.adopt q B D) ?_;show Is _ (.lst s) _;exact⟨a,m,Y,cw,C.same (c_ q)⟩
  |true =>
   cases j with
   |p d=>exact c.elim
   |w a=>exact c.elim
   |u t S=>exact c.elim
   |n s =>
    let⟨a,m,rfl,A,B,q,C,D⟩:=b;let T:fB R a (.lst s) (.lst m):=⟨m,Y,C⟩;calc kk _ _ c _ _ _ _ (i.trans (l.dU (ov:=.lst s) A h.di)) (h.dU q B D T) ⟨a,?_,Y⟩;let:=h.di;rw[<-show ↑z=↑(b_ δ1.mu (r.2++M) y++k.map ζ) from this,My (B6 _),Xh];rfl
 .calc g.elim
end
def aD(o:Bool)(n:Nat)(G:GK)(b:WA):WE:=λc K=>b c λd a=>oP o n G d a K
def aB(o:Bool)(C:U)(m:R)(n:Nat)(G:GK)(fo:WE)(e:WA):WE:=λf K=>fo f λx b=>(∃(a:U)(k:Nat)(d:-(R×FV)),x=.w a/\b.mu[k]?=ζ (ζ (.ins a C d))/\d.lookup m=η)/\e b λg c=>oP o n G (x::g) c K
def aF(C:U)(n:Nat)(G:GK)(d:WA):WE:=λe K=>d e λf b=>∀a,oP ι n G (.w a::f) ⟨b.sl,b.mu++[ζ (.ins a C [])]⟩ λx c=>x=.p .non/\K (.w a) c
theorem d4.look{a:Type}{R:a->V->Prop}{x:π}:∀{fs:-(π×a)}{ws:-(π×V)},d4 R fs ws->(fs.lookup x=η/\ws.lookup x=η)\/∃f v,fs.lookup x=ζ f/\ws.lookup x=ζ v/\R f v
 |[],b,h=>by let h:b=[]:=h;subst h;exact .inl ⟨Y,Y⟩
 |(y,g)::r,b,⟨v,t,e,c,d⟩=>by
  subst e;rw[Wl,Wl]
  cases q:x==y with
  |true=>exact .inr ⟨_,_,Y,Y,c⟩
  |false=>calc d4.look d
theorem je.v{F:Hp}{a:-U}{v:V}:∀{f:FV},je F f v->eN F a f.v v
 |.p _,h=>h
 |.w _,h=>h
noncomputable def lL(f:R)(v:FV):-(R×FV)->-(R×FV)
 |[]=>[(f,v)]
 |(g,x)::r=>if g=f then(g,v)::r else(g,x)::lL f v r
theorem lY.put{F:Hp}{x:R}{g:FV}{v:V}(a:je F g v):∀{fs:-(R×FV)}{ws:-(R×V)},lY F fs ws->lY F (lL x g fs) (dR x v ws)
 |[],b,h=>by let h:b=[]:=h;subst h;exact⟨v,[],Y,a,Y⟩
 |(y,f)::r,b,⟨u,t,e,d,c⟩=>by
  subst e;unfold lL dR;split
  .exact⟨v,t,Y,a,c⟩
  .calc⟨u,_,Y,d,lY.put a c⟩
def ag(C:U)(x:R)(f:WE):WE:=λd K=>f d λy b=>∃(a:U)(k:Nat)(c:-(R×FV))(v:FV),(y=.w a/\b.mu[k]?=ζ (ζ (.ins a C c))/\c.lookup x=ζ v)/\K v.v b
noncomputable def y9:OV->Option U
 |.al a _=>ζ a
 |.ac a _=>ζ a
 |.av a _=>ζ a
 |_=>η
def ah(f:WE):WE:=λd K=>f d λy b=>∃(a:U)(k:Nat)(c:OV),(y=.w a/\b.mu[k]?=ζ (ζ c)/\y9 c=ζ a)/\K (.o k) b
def toF(x:DV)(b:aI)(K:FV->aI->Prop):Prop:=match x with
 |.p d=>K (.p d) b
 |.w a=>K (.w a) b
 |.o k=>match b.mu[k]? with
  |some (some (.lst e))=>∀a,K (.w a) ⟨b.sl,b.mu.set k (ζ (.al a e))⟩
  |some (some (.dct c))=>∀a,K (.w a) ⟨b.sl,b.mu.set k (ζ (.ac a c))⟩
  |_=>False
 |.u _ _=>False
 |.t _ _=>False
def aE(C:U)(x:R)(f fo:WE):WS:=λK h=>f h λz c=>fo c λy d=>toF z d λg b=>∃(a:U)(k:Nat)(e:-(R×FV)),(y=.w a/\b.mu[k]?=ζ (ζ (.ins a C e))/\↑e<1000)/\K.nx ⟨b.sl,b.mu.set k (ζ (.ins a C (lL x g e)))⟩
section
variable{F H:Hp}{ad:-U}{δ:aI}{σ:St}
theorem ET{H:Hp}{a:U}{o:HO}(h:H a=ζ o):upd H a o=H:=by
 funext b
 by_cases c:b=a
 .subst c;rw[cw,h]
 .rw[bt c]
theorem y_{x:DV}{v:V}{K:FV->aI->Prop}(S:SR F ad δ σ H)(V:eN F ad x v)(h:toF x δ K):∃f b,K f b/\Ext F ad δ.mu H F ad b.mu H/\SR F ad b σ H/\je F f v:=by
 cases x with
 |p d=>exact⟨_,_,h,.refl,S,V⟩
 |w a=>exact⟨_,_,h,.refl,S,V⟩
 |u _ _=>exact h.elim
 |t _ _=>exact h.elim
 |o k =>
  let⟨a,g,rfl⟩:=V;unfold toF at h;dsimp only at h;split at h
  .rename_i i e
   let⟨a',o,j,l,c,rfl,m⟩:=S.mu k _ e;rw[g] at j;cases j;let n:fB F a (.al a i) (.lst c):=⟨Y,c,Y,m⟩;let E:=Ext.put (ov:=.al a i) (o:=.lst c) S e g;let T:=S.put e g n;rw[ET l] at E T;exact⟨_,_,h a,E,T,Y⟩
  .rename_i i e
   let⟨a',o,j,l,c,rfl,m⟩:=S.mu k _ e;rw[g] at j;cases j;let n:fB F a (.ac a i) (.dK c):=⟨Y,c,Y,m⟩;let E:=Ext.put (ov:=.ac a i) (o:=.dK c) S e g;let T:=S.put e g n;rw[ET l] at E T;exact⟨_,_,h a,E,T,Y⟩
  .calc h.elim
theorem uR{k:Nat}{a C:U}{fs:-(R×FV)}(S:SR F ad δ σ H)(h:δ.mu[k]?=ζ (ζ (.ins a C fs))):∃b ws,ad[k]?=ζ a/\H a=ζ (.ins C b ws)/\lY F fs ws:=by
 let⟨g,o,d,e,rfl,b,c,rfl,f⟩:=S.mu k _ h;calc⟨b,c,d,e,f⟩
end
section
variable{X:Cx}{a b o v:J}{f fo fv:WE}{fa:WA}{C:U}{x m:R}{pos pos' apos p:I}{G:GK}{n k:Nat}{g:U}{fd:FuncData}{ps:-R}{e:J}{es:-J}
theorem kf(c:i8 X.K C)(e:dF X.K C x)(he:JE X a (tD f))(g:attributeBase a x X.env (eval a X.env)=eval a X.env:=by rfl):JE X (.Attribute a x pos) (tD (ag C x f)) :=
 (JR he g).weak λL H Q ⟨F,h,j,K,S,q,k⟩↦⟨F,h,j,_,S,q,λy l m u M n N o d p=>by
  let⟨a,i,O,w,⟨rfl,r,b⟩,s⟩:=m;let⟨t,A,P,B,D⟩:=uR d r;rcases D.look (x:=x) with⟨z,_⟩|⟨f,E,G,I,J⟩
  .rw[z] at b;cases b
  .rw[G] at b;cases b
   calc⟨a,C,t,A,E,p,B,c,e,I,k _ _ s _ _ _ _ o d J.v⟩⟩
theorem mN(he:JE X a (tD f)):JE X a (tD (ah f)) :=
 he.weak λz H Q ⟨F,l,m,K,S,q,k⟩↦⟨F,l,m,_,S,q,λy n p u A r B s e t=>by
  let⟨a,i,g,⟨rfl,v,c⟩,w⟩:=p;let⟨h,o,x,C,d⟩:=e.mu i g v
  let:h=a:=by
   cases g with
   |al b j=>cases c;exact d.1.symm
   |ac b j=>cases c;exact d.1.symm
   |av b j=>cases c;exact d.1.symm
   |lst _=>cases c
   |dct _=>cases c
   |dtt _=>cases c
   |ins _ _ _=>cases c
  subst this
  calc k _ _ w _ _ _ _ s e ⟨h,x,t⟩⟩
theorem oQ[j3](c:i8 X.K C)(p:dF X.K C x)(r:JE X o (tD fo))(s:JE X v (tD fv))(hs:swapsWith v (ζ (.Attribute o x pos')) pos.line X.env=pure ι:=by rfl):JS X (.Assign [.Attribute o x pos'] v pos) (eh (aE C x fv fo)) :=
 (JU r s hs).weak λD σ H ⟨F,t,A,K,S,q,k⟩↦⟨F,t,A,_,S,q,λz b B u E d H1 G I J=>⟨E,d,b,_,I,B,λy L M w N O H2 j P Q=>by
  let⟨g,R,T,U,e,V⟩:=y_ P (J.ext j) M;let⟨a,i,W,⟨rfl,f,Y⟩,Z⟩:=T;let⟨h,l,m,e2,n⟩:=uR e f;let oi:fB N a (.ins a C (lL x g W)) (.ins C h (dR x u l)):=⟨rfl,h,_,rfl,lY.put V n⟩
  calc⟨a,C,h,l,Q,e2,c,p,by rw[↑n];calc Y,k.nx _ Z _ _ _ _ (((G.trans j).trans U).trans (Ext.put e f m)) (e.put f m oi)⟩⟩⟩
theorem PZ(o:Bool)(c:cG X.prog X.w X.K X.mg X.base fZ k g fd ps (kL G n))(d:bw k X.A)(f:Gl X x)(h:X.mg x=ζ (.ref g))(i:XA X.K (.ref g)=θ)(j:Binds X.K fd ps [])
  (l:JA X (e::es) (cX fa)) (a:cy x:=by decide) (he:dE X e es:=by rfl) (b:dQ X pos es:=by rfl) :
  JE X (.Call (.Name x p) (e::es) [] pos) (tD (aD o n G fa)):=(qz c d f h i j .nil mr l a he b).weak λC H Q ⟨F,m,r,K,S,q,s⟩↦⟨F,m,r,_,S,q,λD t u E I v J y z B=>by
   rw[dV];calc sj s u y z B⟩
theorem P0{r:Bool}{E:XK}:∀b H Q,tD (aB r C m n G fo fa) b H Q->vY C m (kL G n) [] E (tD fo) (cX fa) b H Q:=λb H Q ⟨F,k,l,K,S,q,o⟩=>⟨F,k,l,_,S,q,λy c p u s d R t e g=>by
  let⟨⟨a,i,T,rfl,v,h⟩,w⟩:=p;let⟨A,B,U,D,I⟩:=uR e v;rcases I.look (x:=m) with⟨_,z⟩|⟨f,V,J,W,X⟩
  .refine⟨a,A,B,g,D,z,s,d,c,_,e,w,λY L M Z F2 N H2 j O P=>?_⟩
   rw[dV];exact sj o M (t.trans j) O ⟨_,_,rfl,g.ext j,P⟩
  .rw[J] at h;cases h⟩
theorem P5 {pl:Sem Bool} (r:Bool) (c:i8 X.K C) (d:Meth X.K C m g) (h:cG X.prog X.w X.K X.mg X.base fZ k g fd ps (kL G n)) (i:bw k X.A) (j:Binds X.K fd ps []) (l:JE X o (tD fo)) (p:JA X (e :: es) (cX fa))
  (a:dE X e es:=by rfl) (b:dQ X pos es:=by rfl)
  (q:eval (.Call (.Attribute o m apos) (e :: es) [] pos) X.env=(do
   let ov <- eval o X.env
   standAt apos.atName
   let (f,first) <- holding [ov] (getMethod ov m pl)
   callWith pos f first (backTo pos (starEach (e :: es) X.env)) (backToKw pos (keywordEach [] X.env))):=by rfl) :
  JE X (.Call (.Attribute o m apos) (e :: es) [] pos) (tD (aB r C m n G fo fa)):=(J6 l c d h i j .nil mr p a b q).weak P0
theorem P6 {pl:Sem Bool} (r:Bool) (c:i8 X.K C) (j:Meth X.K C m g) (l:cG X.prog X.w X.K X.mg X.base fZ k g fd ps (kL G n)) (p:bw k X.A) (s:Binds X.K fd ps []) (t:JE X o (tD fo))
  (v:eval (.Call (.Attribute o m apos) [] [] pos) X.env=(do
   let ov <- eval o X.env
   standAt apos.atName
   let (f,first) <- holding [ov] (getMethod ov m pl)
   callWith pos f first (backTo pos (starEach [] X.env)) (backToKw pos (keywordEach [] X.env))):=by rfl) :
  JE X (.Call (.Attribute o m apos) [] [] pos) (tD (aB r C m n G fo ae)):=(J7 t c j l p s .nil mr v).weak λV H Q ⟨F,B,D,K,S,q,E⟩↦⟨F,B,D,_,S,q,λy b I u W J Y L d e=>by
  let⟨⟨a,i,Z,rfl,M,h⟩,N⟩:=I;let⟨O,P,e1,R,T⟩:=uR d M;rcases T.look (x:=m) with⟨_,z⟩ | ⟨f,w',U,z2,z3⟩
  .exact⟨a,O,P,e,R,z,sj (xs:=[.w a]) (vs:=[u]) E (show oP r n G [.w a] b K from N) L d ⟨_,_,rfl,e,rfl⟩⟩
  .rw[U] at h;cases h⟩
theorem P7{F H l f:Hp}{m g:-U}{q b:aI}{r:St}{K:DV->aI->Prop}{Q:VK}{E:XK}{xs:-DV}{vs:-V}(kk:∀x c,K x c->∀v F' d H',Ext F m q.mu H F' d c.mu H'->SR F' d c r H'->eN F' d x v->Q v H')
  (B:∀a,oP ι n G (.w a::xs) ⟨b.sl,b.mu++[ζ (.ins a C [])]⟩ λx i=>x=.p .non/\K (.w a) i) (D:Ext F m q.mu H l g b.mu f) (s:SR l g b r f) (I:dM l g xs vs) {x e:U} (nx:f x=η) (j:f e=η) (J:e≠x) :
  kL G n (.ref x::vs) (upd (upd f e (.own x)) x (.ins C e [])) (λv H2=>v=.non/\Q (.ref x) H2) E:=by
 let t:=s.al (c_ (o:=.own x) j);let u:=Ext.al s (c_ (o:=.own x) j);let k:upd f e (.own x) x=η:=by rw[bt λz=>J z.symm];exact nx
 let L:fB (Nw l f (upd f e (.own x))) x (.ins x C []) (.ins C e []):=⟨Y,e,[],Y,Y⟩;let M:=t.own k L;let A:=Ext.own (o:=.ins C e []) (ov:=.ins x C []) t k;calc sj (K:=λy i=>y=.p .non/\K (.w x) i) (λy c h v N d O X T V=>?_) (B x) ((D.trans u).trans A) M ⟨_,_,Y,Y,(I.ext u).ext A⟩;let⟨rfl,h⟩:=h;calc⟨V,kk _ _ h _ _ _ _ X T Y⟩
theorem P8(M:Mk X.K C g)(d:cG X.prog X.w X.K X.mg X.base fZ k g fd ps (kL G n))(f:bw (k+1) X.A)(h:Gl X x)(i:X.mg x=ζ (.ref C))(j:Binds X.K fd ps [])
  (l:JA X (e::es) (cX fa)) (a:cy x:=by decide) (he:dE X e es:=by rfl) (b:dQ X pos es:=by rfl) :
  JE X (.Call (.Name x p) (e::es) [] pos) (tD (aF C n G fa)):=(J9 M d f h i j .nil mr l a he b).weak λE H Q ⟨F,m,o,K,S,q,r⟩↦⟨F,m,o,_,S,q,λI s t J L u N v y z x O B c D=>by
   rw[dV];calc P7 r t v y z B c D⟩
end
end L2
namespace L2
open PySem PySem.Spec PyProof.Rows
section
variable{M:Model}{A:t}{E:br}{s:ο}{env:u}{outer:-u}{base:Α}{L a C:U}{dx T:Option U}{Q:Unit->ο->Prop}
end
section
variable{X:Cx}{P:ψ}{w:l}{K:KD}{mg:R->Option M}{base:Q}{N:-R}{qual:R}{scope:o}{f:U}{cd:M}{A:t}{outer:-u}{s:L}{H:Hp}{E:XK}
end
section
variable{X:Cx}{pins nA:a5}{σ:St}{H:Hp}{s:L}{E:br}
theorem Inv.sk(I:Inv X pins σ H s):Inv {X with pn:=X.pn++pins,xe:=E} [] σ H s :=
 ⟨⟨I.ok.mod,I.ok.kind,I.ok.glob,I.ok.blt,I.ok.above,I.ok.inj,I.ok.has,I.ok.mY,I.ok.hd,I.ok.frames,I.ok.o6,I.ok.sW,I.ok.bs,I.ok.k_,I.ok.iY,I.ok.kh,I.ok.fj,I.ok.lT⟩,I.os,I.bare,I.base,I.loc,I.cell,I.free,I.dB,λp a=>I.pin p a⁻¹,I.bf,I.len⟩
theorem Inv.kg(I:Inv {X with pn:=X.pn++pins,xe:=E} nA σ H s):Inv X pins σ H s :=
 ⟨⟨I.ok.mod,I.ok.kind,I.ok.glob,I.ok.blt,I.ok.above,I.ok.inj,I.ok.has,I.ok.mY,I.ok.hd,I.ok.frames,I.ok.o6,I.ok.sW,I.ok.bs,I.ok.k_,I.ok.iY,I.ok.kh,I.ok.fj,I.ok.lT⟩,I.os,I.bare,I.base,I.loc,I.cell,I.free,I.dB,λp a=>I.pin p (XD _ a),I.bf,I.len⟩
end
section
variable{X:Cx}{body EU:-y}{b0:y}{x n:R}{p1 p2 pos:I}{L:U}{i:Nat}{tb:XK->TS}{th:TS}
end
variable[a8]
section
variable{X:Cx}{body:-y}{h0:ExceptHandler}{hs:-ExceptHandler}{pos:I}
theorem P9{t:TS}(i:∀pn,ee {X with pn:=pn,xe:=λ_ _=>False} body t):JS X (.Try body (h0::hs) [] [] pos) t:=by
 calc⟨?_⟩;ext d s j H D I h;calc wpAny_Try_except ?_;refine X0 (i (X.pn++d) [] s j H D I.sk h) (λf k g=>?_) (λe k z=>z.elim)
 cases f with
 |next =>
  let⟨a,b,c,q⟩:=g;exact Zx ⟨a,b,c.kg,q⟩
 |brk=>let⟨a,b,c,q⟩:=g;exact⟨a,b,c.kg,q⟩
 |cont=>let⟨a,b,c,q⟩:=g;exact⟨a,b,c.kg,q⟩
 |ret u=>let⟨v,a,b,c,r,q⟩:=g;calc⟨v,a,b,c.kg,r,q⟩
theorem P_[j3]{G:WS}(a:∀pn,ee {X with pn:=pn,xe:=λ_ _=>False} body (eh G)):JS X (.Try body (h0::hs) [] [] pos) (eh G):=P9 a
end
noncomputable def kM{a:Type}(kvs:-(Key×a))(k:Key):-(Key×a):=kvs.filter λb=>S (b.1≠k)
omit [a8] in
theorem d4.drop {α:Type} {R:α->V->Prop} (k:Key):∀{EV:-(Key×α)}{ws:-(Key×V)},d4 R EV ws->d4 R (kM EV k) (ni ws k)
 |[],_,h=>by let h:_=[]:=h;subst h;rfl
 |kd::r,_,⟨v,t,e,h1,h2⟩=>by
  subst e;unfold kM ni;rw[XB,XB];split
  .exact⟨v,_,Y,h1,h2.drop k⟩
  .calc h2.drop k
def aQ(fo e:WE):WE:=λf K=>fo f λx b=>ak x b λ_ _ _=>e b λy a=>ar y λi=>ak x a λk B c=>match cL c (.inl i) with
 |some d=>K (.p d) ⟨a.sl,a.mu.set k (ζ (B (kM c (.inl i))))⟩
 |none=>False
def aj(x:R)(f:WE):WE:=λd K=>f d λy b=>∃(a:U)(k:Nat)(c:-(Key×FV))(v:FV),(y=.w a/\b.mu[k]?=ζ (ζ (.av a c))/\cL c (.inr x)=ζ v)/\K v.v b
def aO(x:R)(f fo:WE):WS:=λK h=>f h λz d=>fo d λy e=>toF z e λg b=>∃(a:U)(k:Nat)(c:-(Key×FV)),(y=.w a/\b.mu[k]?=ζ (ζ (.av a c))/\↑c<1000)/\K.nx ⟨b.sl,b.mu.set k (ζ (.av a (putD c (.inr x) g)))⟩
def aP:-(R×WE)->aI->(-(Key×FV)->aI->Prop)->Prop
 |[],a,K=>K [] a
 |(x,f)::r,a,K=>f a λy b=>toF y b λg c=>aP r c λd e=>K ((.inr x,g)::d) e
def aR(es:-(R×WE)):WE:=λd K=>aP es ⟨d.sl,d.mu++[ζ (.dct [])]⟩ λc b=>(b.mu[↑d.mu]?=ζ (ζ (.dct []))/\↑c<=15)/\∀a,K (.w a) ⟨b.sl,b.mu.set ↑d.mu (ζ (.av a (c.foldl (λe f=>putD e f.1 f.2) [])))⟩
section
variable{F H:Hp}{ad:-U}{δ:aI}{σ:St}
theorem EW{k:Nat}{a:U}{kvs:-(Key×FV)}(S:SR F ad δ σ H)(h:δ.mu[k]?=ζ (ζ (.av a kvs))):∃ws,ad[k]?=ζ a/\H a=ζ (.dK ws)/\lY F kvs ws:=by
 let⟨f,o,c,d,rfl,b,rfl,e⟩:=S.mu k _ h;calc⟨b,c,d,e⟩
variable{X:Cx}{o i e v:J}{fo fi fv f:WE}{pos apos:I}{x:R}
theorem Qa(C:JE X o (tD fo))(D:JE X i (tD fi))(m:M1 X o "pop" apos i pos:=by calc⟨rfl,rfl,rfl,rfl⟩):JE X (.Call (.Attribute o "pop" apos) [i] [] pos) (tD (aQ fo fi)) :=
 (Lx C D m).weak fun σ H Q ⟨F,E,G,K,S,q,k⟩=>⟨F,E,G,_,S,q,λx f I v J g H1 L n p=>by
  let⟨k0,B,M,a,N,rfl,O,rfl,e1,P,i1,m1,R⟩:=rS n p I;calc⟨a,rfl,.inl ⟨N,.inl P⟩,J,g,f,_,n,O,λy T U u V W H2 r h Y=>?_⟩;let⟨i,rfl,Z⟩:=yk Y U;let⟨k1,B',s,b,c,ek,e,eb,t,f2,w,z,j⟩:=rS h (p.ext r) Z;cases ek
  cases eb
  rcases w.val (.inl i) with⟨l,A⟩|⟨d,v,l,A,z3⟩
  .rw[l] at e;exact e.elim
  .rw[l] at e
   let oi:=j (F':=V) (us:=ni c (.inl i)) (w.drop (.inl i))
   calc⟨c,.inl i,v,f2,rfl,A,k _ _ e _ _ _ _ ((L.trans r).trans (Ext.put h z t)) (h.put z t oi) z3⟩⟩
theorem jC{c:Nat}{d:Ε}(J:X.A.units+64<cLine)(g:JE X o (tD fo))(hs:n6 (.Constant (.str x) c d):=by ext _ _;rfl):JE X (.Subscript o (.Constant (.str x) c d) pos) (tD (aj x fo)) :=
 (Lm ⋯ g sX hs).weak λL H Q ⟨F,h,j,K,S,q,k⟩↦⟨F,h,j,_,S,q,λy l m v M n N p e r=>by
  let⟨a,i,s,w,⟨rfl,t,b⟩,u⟩:=m;let⟨O,P,B,C⟩:=EW e t;rcases C.val (.inr x) with⟨z,_⟩|⟨f,D,E,G,I⟩
  .rw[z] at b;cases b
  .rw[E] at b;cases b
   calc⟨a,D,r,by rw[<-G];calc gL.k (k:=q0T x) B,k _ _ u _ _ _ _ p e I.v⟩⟩
theorem za[j3]{j:Nat}{l b:Ε}(hu:X.A.units+64<cLine)(r:JE X o (tD fo))(s:JE X v (tD fv))(hs:swapsWith v (ζ (.Subscript o (.Constant (.str x) j l) b)) pos.line X.env=pure ι:=by rfl):JS X (.Assign [.Subscript o (.Constant (.str x) j l) b] v pos) (eh (aO x fv fo)) :=
 (Cp ⋯ r sX s hs).weak λD σ H ⟨F,t,B,K,S,q,k⟩↦⟨F,t,B,_,S,q,λz c C u E d H1 G I J=>⟨E,d,c,_,I,C,λy L M w N O H2 m P Q=>by
  let⟨g,R,T,U,e,V⟩:=y_ P (J.ext m) M;let⟨a,i,f,⟨rfl,h,W⟩,Y⟩:=T;let⟨Z,n,e2,p⟩:=EW e h;let oi:fB N a (.av a (putD f (.inr x) g)) (.dK (putK Z (.inr x) u)):=⟨rfl,_,rfl,d4.put p V⟩
  calc⟨a,_,Q,ky.k (k:=q0T x) e2 (kW (by rw[↑p];calc Xd W)),k.nx _ Y _ _ _ _ (((G.trans m).trans U).trans (Ext.put e h n)) (e.put h n oi)⟩⟩⟩
structure uS(X:Cx)(pos:I)(keys:-(Option J))(values:-J)(es:-(R×WE)):Prop where
 so:∃so,qV X pos keys values so/\∀σ H (Q:-(V×V)->Hp->Prop) F ad δ K,SR F ad δ σ H->aP es δ K →
  (∀kvs δ',K kvs δ'->∀ws F' bV H',Ext F ad δ.mu H F' bV δ'.mu H'->SR F' bV δ' σ H'->lY F' kvs ws->Q (ws.map λkv=>(kV kv.1,kv.2)) H')->tK so σ H Q
theorem Qb{pos:I}:uS X pos [] [] []:=⟨[],Lp,λa H Q F b c K S q k=>k _ _ q [] _ _ _ .refl S Y⟩
theorem uT{d:Nat}{e:Ε}{ks:-(Option υ)}{vs:-υ}{es:-(π×WE)}(h:JE X v (tD f))(i:uS X pos ks vs es):uS X pos (ζ (.Constant (.str x) d e)::ks) (v::vs) ((x,f)::es):=by
 let⟨j,l,m⟩:=i.so;calc⟨_,Lq sX h l,λn H Q F o p K S q k=>?_⟩;calc⟨F,o,p,_,S,q,λy r s u P t w z A B=>?_⟩;let⟨g,a,C,D,E,G⟩:=y_ A B s;calc m n w _ _ _ a _ E C λI J L b R M T c N O=>?_;exact k _ _ L ((.inr x,u)::b) _ _ _ ((z.trans D).trans c) N ⟨u,b,Y,je.same c.same _ _ G,O⟩
omit [a8] in
theorem d4.merge {α:Type} {R:α->V->Prop}:∀{more:-(Key×α)}{rs:-(Key×V)}{kvs:-(Key×α)}{ws:-(Key×V)},d4 R more rs->d4 R kvs ws->d4 R (more.foldl (λacc kv=>putD acc kv.1 kv.2) kvs) (n7 ws rs)
 |[],_,_,_,h,q=>by let h:_=[]:=h;subst h;exact q
 |kd::r,_,kvs,ws,⟨v,t,e,h1,h2⟩,q=>by
  subst e;let:=d4.merge (more:=r) (rs:=t) (kvs:=putD kvs kd.1 kd.2) (ws:=putK ws kd.1 v) h2 (d4.put q h1);calc this
theorem Qc{keys:-(Option υ)}{a:-υ}{es:-(π×WE)}(h:uS X pos keys a es)(b:keys.all (·.isSome)=θ:=by rfl)(v:↑keys=↑a:=by rfl)(w:keys≠[]:=by simp)(c:↑keys<=15:=by simp):JE X (.Dict keys a pos) (tD (aR es)):=by
 let⟨x,y,z⟩:=h.so;calc(Ls y b v w c).weak λA H Q ⟨F,l,B,K,S,q,k⟩ p j=>?_;let C:fB F p (.dct []) (.dK []):=⟨[],Y,Y⟩;let D:(l++[p])[↑B.mu]?=ζ p:=by rw[<-S.di,My (B6 _),Xh];rfl
 calc z A _ _ F (l++[p]) _ _ (S.own j C) q λd E ⟨⟨f,I⟩,J⟩ m n G R r e s=>?_;let g:=r.pre _ _ D;let⟨p',o,t,L,M,rfl,N⟩:=e.mu _ _ f;rw[g] at t;cases t;let O:M=[]:=N;subst O;let P:fB n p (.av p (d.foldl (λi u=>putD i u.1 u.2) [])) (.dK (n7 [] m)):=⟨Y,_,Y,s.merge (show d4 (je n) [] [] from Y)⟩;calc⟨L,m,Y,by rw[↑s];calc I,?_⟩;calc k _ _ (J p) _ _ _ _ (((Ext.own S j).trans r).trans (Ext.put e f g)) (e.put f g P) Y
end
end L2
namespace LJ
open PySem L2
variable[a8]
noncomputable def l8(x:Option Int×Int):D:=.tup [.int x.2,oD x.1]
noncomputable def cN:Nat->-gH->-(Key×D)
 |_,[]=>[]
 |i,none::r=>cN (i+1) r
 |i,some x::r=>(.inl (i:Int),l8 x)::cN (i+1) r
theorem zb:∀{i:Nat}{q:-gH},cN i (q++[η])=cN i q
 |i,[]=>Y
 |i,none::r=>zb (i:=i+1) (q:=r)
 |i,some x::r=>congrArg (_ :: ·) (zb (i:=i+1) (q:=r))
theorem zc{x:Option Int×Int}:∀{i:Nat}{q:-gH},cN i (q++[ζ x])=cN i q++[(.inl ((i+↑q:Nat):Int),l8 x)]
 |i,[]=>Y
 |i,none::r=>by
  let:=zc (x:=x) (i:=i+1) (q:=r);rw[show i+1+↑r=i+↑(η::r:-gH) by rw[wo];symm] at this;exact this
 |i,some y::r=>by
  let:=zc (x:=x) (i:=i+1) (q:=r);rw[show i+1+↑r=i+↑(ζ y::r:-gH) by rw[wo];symm] at this;calc congrArg (_ :: ·) this
theorem sq:∀{i:Nat}{q:-gH}{a:Key×D},a∈cN i q->∃j:Nat,a.1=.inl (j:Int)/\i<=j/\j<i+↑q
 |i,[],a,h=>nomatch h
 |i,none::r,a,h=>by
  let⟨j,e,b,c⟩:=sq (i:=i+1) (q:=r) h;exact⟨j,e,⋯,by rw[wo];symm⟩
 |i,some x::r,a,h=>by
  rcases Uy.mp h with rfl|h
  .exact⟨i,Y,B6 _,by rw[wo];symm⟩
  .let⟨j,e,b,c⟩:=sq (i:=i+1) (q:=r) h
   calc⟨j,e,⋯,by rw[wo];symm⟩
theorem Qd{q:-gH}{x:Option Int×Int}:putD (cN 0 q) (.inl (↑q:Int)) (l8 x)=cN 0 (q++[ζ x]):=by
 unfold putD;rw[VC ?_,zc,VJ];ext h;let⟨c,b,a⟩:=q1l.mp h;let⟨j,e,_,d⟩:=sq b;rw[e] at a;let:=Zg (W_ a);symm
theorem zd:∀{i:Nat}{q:-gH},↑(cN i q)<=↑q
 |i,[]=>B6 _
 |i,none::r=>q22 (zd (i:=i+1) (q:=r))
 |i,some x::r=>Z6 (zd (i:=i+1) (q:=r))
theorem ze{x:Option Int×Int}:∀{i j:Nat}{q:-gH},q[j]?=ζ (ζ x)->cL (cN i q) (.inl ((i+j:Nat):Int))=ζ (l8 x)
 |i,j,[],h=>by simp at h
 |i,0,none::r,h=>by simp at h
 |i,0,some y::r,h=>by
  cases(show ζ y=ζ x by simpa using h)
  unfold cL cN;rw[ZW (by calc VH Y)];rfl
 |i,j+1,none::r,h=>by
  let:=ze (x:=x) (i:=i+1) (j:=j) (q:=r) h⁻¹;rw[show i+1+j=i+(j+1) by symm] at this;exact this
 |i,j+1,some y::r,h=>by
  let:=ze (x:=x) (i:=i+1) (j:=j) (q:=r) h⁻¹;rw[show i+1+j=i+(j+1) by symm] at this;unfold cL cN;rw[ZX]
  .exact this
  .ext z
   let:=Zg (W_ z);symm
theorem EX{kvs:-(Key×D)}{k:Key}(h:∀a∈kvs,a.1≠k):kM kvs k=kvs:=by
 unfold kM;calc q2c.mpr λa b=>VH (h a b)
theorem zf:∀{i j:Nat}{q:-gH},kM (cN i q) (.inl ((i+j:Nat):Int))=cN i (q.set j η)
 |i,j,[]=>Y
 |i,0,none::r=>by
  show kM (cN (i+1) r) _=cN (i+1) r;calc EX λc a e=>?_;let⟨l,b,d,_⟩:=sq a;rw[b] at e;let:=Zg e;symm
 |i,0,some y::r=>by
  show kM ((.inl (i:Int),l8 y)::cN (i+1) r) _=cN (i+1) r
  let e:kM (cN (i+1) r) (.inl ((i+0:Nat):Int))=cN (i+1) r:=EX λc a e=>by
   let⟨l,b,d,_⟩:=sq a;rw[b] at e;let:=Zg e;symm
  unfold kM at e ⊢;rw[Y6,e];ext z;exact W_ z Y
 |i,j+1,none::r=>by
  let:=zf (i:=i+1) (j:=j) (q:=r);rw[show i+1+j=i+(j+1) by symm] at this;exact this
 |i,j+1,some y::r=>by
  let:=zf (i:=i+1) (j:=j) (q:=r);rw[show i+1+j=i+(j+1) by symm] at this;show kM ((.inl (i:Int),l8 y)::cN (i+1) r) _=(.inl (i:Int),l8 y)::cN (i+1) (r.set j η);unfold kM at this ⊢;rw[Y5,this];calc VH λz=>?_;let:=Zg z;symm
noncomputable def lM(ws:-Wy)(g:-Int)(a:Int):-Int:=(bK ↑ws).filter λn=>(S (a=(aN ws n).1)||S (a=(aN ws n).2.1))&&S (n∉g)
noncomputable def jk(ws:-Wy)(g l:-Int):-Int:=l.flatMap (lM ws g)
theorem gy{ws:-Wy}{g l:-Int}{n:Int}:n∈jk ws g l↔((0<=n/\n<(↑ws:Int))/\n∉g)/\((aN ws n).1∈l\/(aN ws n).2.1∈l):=by
 unfold jk lM;rw[q29]
 constructor
 .ext ⟨d,b,a⟩
  rw[Wc,bL,Xo,q0g,V0,V0,V0] at a;let⟨a,c,e⟩:=a;calc⟨⟨a,e⟩,?_⟩;rcases c with rfl|rfl
  .exact .inl b
  .exact .inr b
 .ext ⟨⟨b,a⟩,c⟩
  rcases c with h|h
  .refine⟨_,h,?_⟩
   rw[Wc,bL,Xo,q0g,V0,V0,V0];exact⟨b,.inl Y,a⟩
  .refine⟨_,h,?_⟩
   rw[Wc,bL,Xo,q0g,V0,V0,V0];calc⟨b,.inr Y,a⟩
section
variable{m:Int}{ws:-Wy}{N:Nt}{h:Int}
theorem Qe(W:aH m ws)(O:dc m ws N):(gv (jk ws (N.p++N.k) (aZ m ws N.p h))).filter (λn=>gs (aZ m ws N.p h) (aN ws n))=dI ws (aZ m ws N.p h):=by
 calc ka ((nC _).filter _) (PU _ _) λn=>?_;rw[Wc,bA,gy,gx]
 constructor
 .ext ⟨⟨⟨a,_⟩,_⟩,b⟩;exact⟨a,b⟩
 .ext ⟨a,b⟩
  let e:∀z:(aN ws n).1∈aZ m ws N.p h↔(aN ws n).2.1∈aZ m ws N.p h,False:=λz=>by rw[EH z] at b;cases b
  refine⟨⟨⟨a,λz=>?_⟩,?_⟩,b⟩
  .rcases VZ.mp z with z|z
   .exact e (EG W a (PT z))
   .exact e (EG W a (O.ju n z))
  .by_cases c:(aN ws n).1∈aZ m ws N.p h
   .exact .inl c
   .by_cases d:(aN ws n).2.1∈aZ m ws N.p h
    .exact .inr d
    .calc (e ⟨λz=>absurd z c,λz=>absurd z d⟩).elim
theorem Qf(W:aH m ws)(O:dc m ws N){i:-Int}(o:i.Perm (dI ws (aZ m ws N.p h))):sortI (N.k++(gv (jk ws (N.p++N.k) (aZ m ws N.p h))).filter λn=>S (n∉i))=oJ m ws N.p N.k h:=by
 let l:∀n,n∈(gv (jk ws (N.p++N.k) (aZ m ws N.p h))).filter (λn=>S (n∉i))↔((0<=n/\n<(↑ws:Int))/\n∉N.p++N.k)/\((aN ws n).1∈aZ m ws N.p h/\(aN ws n).2.1∈aZ m ws N.p h):=λn=>by
  rw[Wc,bA,gy,V0,o.mem_iff,gx]
  constructor
  .ext ⟨⟨f,d⟩,g⟩
   refine⟨f,?_⟩
   let:gs (aZ m ws N.p h) (aN ws n)=ι:=by
    cases q:gs (aZ m ws N.p h) (aN ws n) with
    |false=>rfl
    |true=>exact absurd ⟨f.1,q⟩ g
   let z:=EI this;rcases d with d|d
   .exact⟨d,z.mp d⟩
   .exact⟨z.mpr d,d⟩
  .ext ⟨f,d,g⟩
   exact⟨⟨f,.inl d⟩,λz=>by rw[EH ⟨λ_=>g,λ_=>d⟩] at z;cases z.2⟩
 let r:(N.k++(gv (jk ws (N.p++N.k) (aZ m ws N.p h))).filter λn=>S (n∉i)).Nodup:=by
  calc Xs.mpr ⟨O.ku.nd,Up.nd ((nC _).filter _),λa s b t e=>?_⟩;subst e;exact((l a).mp t).1.2 (V7 _ s)
 unfold oJ;calc ka (sf r) (nC _) λn=>?_;rw[(sortI_perm _).mem_iff,bA,VZ,VZ,l n,fX]
 constructor
 .ext (z|⟨⟨f,d⟩,g,j⟩)
  .exact .inl z
  .exact .inr ⟨⟨f,g,j⟩,λz=>d (XD _ z)⟩
 .ext (z|⟨⟨f,g,j⟩,d⟩)
  .exact .inl z
  .by_cases c:n∈N.k
   .exact .inl c
   .calc .inr ⟨⟨f,λz=>(VZ.mp z).elim d c⟩,g,j⟩
theorem Qg(W:aH m ws){l b:-Int}(p:b.Perm (dI ws l))(c:(b.map (fu ws)).Pairwise kle):b.head?=fW ws l:=by
 unfold fW
 cases b with
 |nil=>rw[List.nil_perm.mp p,VE Y];rfl
 |cons a r =>
  let d:dI ws l≠[]:=λz=>by rw[z] at p;exact absurd p.length_eq (by simp)
  rw[VC d];rw[UB,Xu] at c;let:=yL W pL (p.mem_iff.mp Uz) λe f=>(Uy.mp (p.mem_iff.mpr f)).elim (λz=>by rw[z];calc kle_refl _) λz=>c.1 _ (Zq z);rw[this];rfl
theorem zg{b:Type}(p q:b->Bool):∀l:-b,↑(l.filter λx=>p x||q x)+↑(l.filter λx=>p x&&q x)=↑(l.filter p)+↑(l.filter q)
 |[]=>Y
 |a::r=>by
  let c:=zg p q r;rw[XB,XB,XB,XB];cases d:p a<;>cases e:q a<;>simp<;>symm
theorem zh{a:Type}(p:a->Bool)(l:-a)(h:∀x∈l,p x=ι):↑(l.filter p)=0:=by
 rw[XR,q1A];calcλx b z=>by rw[h x b] at z;cases z
theorem zi(f:Int->Int)(us:-Int):∀{l:-Int},l.Nodup->(l.map λa=>↑(us.filter λn=>S (a=f n))).sum=↑(us.filter λn=>S (f n∈l))
 |[],_=>by
  rw[V9,List.sum_nil];exact(zh _ _ λx _=>by simp).symm
 |a::r,b=>by
  let⟨d,e⟩:=Yy.mp b;rw[UB,q4o,zi f us e];let:=zg (λn=>S (a=f n)) (λn=>S (f n∈r)) us
  rw[zh (λn=>S (a=f n)&&S (f n∈r)) us (λx _=>by
   by_cases c:a=f x
   .rw[VH c,VD (by rw[<-c];calc d)];rfl
   .rw[VD c];rfl)] at this
  rw[q4_] at this;rw[<-this];congr 2;funext n;rw[<-Bool.decide_or];congr 1;rw[Uy,@eq_comm _ a (f n)]
theorem Qh(W:aH m ws)(p k l:-Int)(e:l.Nodup):↑(jk ws (p++k) l)=↑(lI ws (fw ws p k) l):=by
 let d:∀a,↑(lM ws (p++k) a)=↑((fw ws p k).filter λn=>S (a=(aN ws n).1))+↑((fw ws p k).filter λn=>S (a=(aN ws n).2.1)):=λa=>by
  let:=zg (λn=>S (a=(aN ws n).1)) (λn=>S (a=(aN ws n).2.1)) (fw ws p k);rw[zh (λn=>S (a=(aN ws n).1)&&S (a=(aN ws n).2.1)) _ (λx b=>?_)] at this
  .rw[<-this,q4_]
   unfold lM fw;rw[List.filter_filter]
  .let b:=uo (Wc.mp b).1
   let⟨y,f,_,_,i,j,d,g,_,_,u⟩:=mE W b.1 b.2;let h:aN ws x=y:=f;rw[h,d,g]
   by_cases c:a=i
   .rw[VH c,VD ⋯];rfl
   .rw[VD c];rfl
 unfold jk lI lH;rw[List.length_flatMap,YP,qG,Ye,Ye,nW,nW];let o:=zi (λn=>(aN ws n).1) (fw ws p k) e;let q:=zi (λn=>(aN ws n).2.1) (fw ws p k) e
 let t:∀l:-Int,(l.map λa=>↑(lM ws (p++k) a)).sum=(l.map λa=>↑((fw ws p k).filter λn=>S (a=(aN ws n).1))).sum+(l.map λa=>↑((fw ws p k).filter λn=>S (a=(aN ws n).2.1))).sum:=λl=>by
  induction l with
  |nil=>rfl
  |cons a r s =>
   erw[UB,q4o];rw[s,d a];symm
 rw[t l,o,q];rfl
theorem Qi(W:aH m ws)(O:dc m ws N)(hs:h∉N.s):(N.s++aZ m ws N.p h).Nodup:=by
 calc Xs.mpr ⟨O.su.nd,(oM ..).nd,λa c b d e=>?_⟩;subst e;calc hs (yX O.pn O.sc ((jB W).mp d).2.symm c)
theorem Qj{p:-Int}(u:Up p){w:Int}(d:w∉p):(p++[w]).Nodup:=Xs.mpr ⟨u.nd,by simp,λa f b c e=>by
 rw[Wn] at c
 subst e;subst c;calc d f⟩
end
section
variable{m:Int}{ws:-Wy}{N:Nt}
theorem Qk(W:aH m ws){p:-Int}{a b:Int}(h:b∈aZ m ws p a):aZ m ws p b=aZ m ws p a:=by
 calc ka (oM ..) (oM ..) λx=>?_;rw[jB W,jB W];let c:=((jB W).mp h).2;calc and_congr_right λ_=>⟨λz=>c.trans z,λz=>c.symm.trans z⟩
def kN(m:Int)(ws:-Wy)(N:Nt):Prop:=∀h∈N.s,dI ws (aZ m ws N.p h)=[]
theorem kN.step(W:aH m ws)(O:dc m ws N)(S:kN m ws N){e:cM}(he:gW m N e):kN m ws (N.step m ws e):=by
 let a:=dc.step W O he
 cases e with
 |wake h =>
  unfold Nt.step at a ⊢;dsimp only at a ⊢;split<;>exact S
 |fin i =>
  let⟨d,h,f⟩:=he;let⟨k,l,g⟩:=O.q i d h f;unfold Nt.step at a ⊢;dsimp only at a ⊢;rw[f] at a ⊢;dsimp only at a ⊢;unfold dA at a ⊢
  cases d with
  |none =>
   dsimp only at a ⊢;split
   .exact S
   .ext x b
    rcases VZ.mp (bA.mp b) with z|z
    .exact S x z
    .show dI ws (aZ m ws N.p x)=[]
     rw[Qk W z];exact g Y
  |some w =>
   dsimp only at a ⊢;split
   .exact S
   .rename_i c
    rw[VC c] at a;ext x b;let e:=S x b;show dI ws (aZ m ws (gv (N.p++[w])) x)=[];rw[yY W a.pn (λy j=>bA.mpr (XD _ j)) (O.sn x b) e];calc e
theorem kN.run(W:aH m ws):∀{N:Nt}{es:-cM},dc m ws N->kN m ws N->iH m ws N es->kN m ws (runN m ws N es)
 |_,[],_,S,_=>S
 |N,e::r,O,S,⟨a,b⟩=>kN.run W (N:=N.step m ws e) (es:=r) (dc.step W O a) (kN.step W O S a) b
theorem zj(m:Int)(ws:-Wy):kN m ws cg:=λ_ h=>nomatch h
structure fh(m:Int)(ws:-Wy)(N:Nt)(is:-Nat)(N':Nt):Prop where
 p:∀x,x∈N'.p↔x∈N.p\/∃i∈is,∃h,N.q[i]?=ζ (ζ (ζ x,h))
 k:N'.k=N.k
 s:∀x,x∈N'.s↔x∈N.s\/∃i∈is,∃h,N.q[i]?=ζ (ζ (η,h))/\x∈aZ m ws N.p h
 q:∀j,N'.q[j]?=if j∈is then N.q[j]?.map λ_=>η else N.q[j]?
theorem zk(W:aH m ws):∀{is:-Nat}{N:Nt},dc m ws N->is.Nodup->(∀i∈is,∃fo h,N.q[i]?=ζ (ζ (fo,h)))->iH m ws N (is.map .fin)/\fh m ws N is (runN m ws N (is.map .fin))
 |[],N,O,_,_=>⟨trivial,⟨λx=>⟨.inl,λz=>z.elim id λ⟨_,h,_⟩↦nomatch h⟩,Y,λx=>⟨.inl,λz=>z.elim id λ⟨_,h,_⟩↦nomatch h⟩,λj=>by rw[VC Wx];rfl⟩⟩
 |i::r,N,O,I,F=>by
  let⟨v,J⟩:=Yy.mp I;let⟨b,h,l⟩:=F i Uz;let⟨T,U,V⟩:=O.q i b h l;let G:gW m N (.fin i):=⟨b,h,l⟩;let C:=dc.step W O G
  let y:N.step m ws (.fin i)=⟨(dA m ws N b h).p,(dA m ws N b h).k,(dA m ws N b h).s,N.q.set i η⟩:=by
   unfold Nt.step;dsimp only;rw[l];cases b<;>unfold dA<;>dsimp only<;>split<;>rfl
  let⟨g,t⟩:∃g,g=N.step m ws (.fin i):=⟨_,Y⟩;rw[<-t] at C y;let A:∀j,j≠i->g.q[j]?=N.q[j]?:=λj a=>by rw[y];exact Xj λz=>a z.symm
  let K:g.q[i]?=ζ η:=by rw[y];exact Xg (pa.mp l).1
  let H:∀x,x∈g.p↔x∈N.p\/b=ζ x:=λx=>by
   rw[y]
   cases b with
   |none=>unfold dA;dsimp only;split<;>simp
   |some w =>
    unfold dA;dsimp only;split
    .rename_i c
     exact⟨.inl,λz=>z.elim id λz=>by cases z;calc c⟩
    .show x∈gv (N.p++[w])↔_
     rw[bA,VZ,Wn];exact Zj ⟨λz=>by rw[z],λz=>by cases z;rfl⟩
  let L:g.k=N.k:=by
   rw[y];cases b<;>unfold dA<;>dsimp only<;>split<;>rfl
  let M:∀x,x∈g.s↔x∈N.s\/b=η/\x∈aZ m ws N.p h:=λx=>by
   rw[y]
   cases b with
   |some w=>unfold dA;dsimp only;split<;>simp
   |none =>
    unfold dA;dsimp only;split
    .rename_i c
     exact⟨.inl,λz=>z.elim id λz=>yX O.pn O.sc ((jB W).mp z.2).2 c⟩
    .show x∈gv (N.s++aZ m ws N.p h)↔_
     rw[bA,VZ];exact Zj ⟨λz=>⟨Y,z⟩,λz=>z.2⟩
  let o:∀f,0<=f/\f<m->dI ws (aZ m ws N.p f)=[]->aZ m ws g.p f=aZ m ws N.p f:=λf r e=>yY W C.pn (λx u=>(H x).mpr (.inl u)) r e
  let⟨P,B⟩:=zk W (is:=r) (N:=g) C J λj a=>by
   let n:j≠i:=λz=>v (by rw[<-z];calc a);rw[A j n];exact F j (UA _ a)
  let Q:runN m ws N ((i::r).map .fin)=runN m ws g (r.map .fin):=by rw[t];rfl
  rw[Q];refine⟨⟨G,by rw[<-t];calc P⟩,⟨λx=>?_,by rw[B.k,L],λx=>?_,λj=>?_⟩⟩
  .rw[B.p,H,or_assoc]
   refine Zj ⟨?_,?_⟩
   .ext (z|⟨j,a,f,e⟩)
    .exact⟨i,Uz,h,by rw[l,z]⟩
    .let n:j≠i:=λz=>v (by rw[<-z];calc a)
     rw[A j n] at e;exact⟨j,UA _ a,f,e⟩
   .ext ⟨j,a,h',e⟩
    rcases Uy.mp a with rfl|a
    .rw[l] at e;cases e;exact .inl Y
    .let n:j≠i:=λz=>v (by rw[<-z];calc a)
     exact .inr ⟨j,a,h',by rw[A j n];calc e⟩
  .rw[B.s,M,or_assoc]
   refine Zj ⟨?_,?_⟩
   .ext (⟨R,S⟩|⟨j,a,f,e,u⟩)
    .exact⟨i,Uz,h,by rw[l,R],S⟩
    .let n:j≠i:=λz=>v (by rw[<-z];calc a)
     rw[A j n] at e;let⟨D,_,E⟩:=O.q j _ _ e;rw[o f D (E Y)] at u;exact⟨j,UA _ a,f,e,u⟩
   .ext ⟨j,a,h',e,u⟩
    rcases Uy.mp a with rfl|a
    .rw[l] at e;cases e;exact .inl ⟨Y,u⟩
    .let n:j≠i:=λz=>v (by rw[<-z];calc a)
     let⟨D,_,E⟩:=O.q j _ _ e;exact .inr ⟨j,a,h',by rw[A j n];calc e,by rw[o h' D (E Y)];calc u⟩
  .rw[B.q]
   by_cases c:j=i
   .subst c
    rw[VC v,VE Uz,K,l];rfl
   .rw[A j c]
    by_cases d:j∈r
    .rw[VE d,VE (UA _ d)]
    .rw[VC d,VC λz=>(Uy.mp z).elim c d]
theorem fh.eq(W:aH m ws){is b:-Nat}{A B:Nt}(e:dc m ws A)(f:dc m ws B)(c:fh m ws N is A)(d:fh m ws N b B)(p:∀i,i∈is↔i∈b):A.p=B.p/\A.k=B.k/\A.s=B.s :=
 ⟨ka e.pu f.pu λx=>by rw[c.p,d.p];calc Zj ⟨λ⟨i,a,r⟩↦⟨i,(p i).mp a,r⟩,λ⟨i,a,r⟩↦⟨i,(p i).mpr a,r⟩⟩,
  c.k.trans d.k.symm,
  ka e.su f.su λx=>by rw[c.s,d.s];calc Zj ⟨λ⟨i,a,r⟩↦⟨i,(p i).mp a,r⟩,λ⟨i,a,r⟩↦⟨i,(p i).mpr a,r⟩⟩⟩
theorem uU:∀{hs:-Int}{N:Nt},(∀h∈hs,0<=h/\h<m)->iH m ws N (hs.map .wake)/\∃k,runN m ws N (hs.map .wake)=⟨N.p,k,N.s,N.q++hs.map λh=>if h∈N.s then η else ζ (fW ws (aZ m ws N.p h),h)⟩
 |[],N,_=>⟨trivial,N.k,by rw[V9,V9,dV];rfl⟩
 |h::r,N,b=>by
  let a:∃k,N.step m ws (.wake h)=⟨N.p,k,N.s,N.q++[if h∈N.s then η else ζ (fW ws (aZ m ws N.p h),h)]⟩:=by
   unfold Nt.step;dsimp only
   by_cases c:h∈N.s
   .rw[VE c,VE c];exact⟨_,Y⟩
   .rw[VC c,VC c];exact⟨_,Y⟩
  let⟨k,a⟩:=a;let⟨e,f,g⟩:=uU (hs:=r) (N:=N.step m ws (.wake h)) λx d=>b x (UA _ d);calc⟨⟨b h Uz,e⟩,f,?_⟩;show runN m ws (N.step m ws (.wake h)) (r.map .wake)=_;rw[g,a,UB,X1];rfl
end
end LJ
namespace L2
open PySem PySem.Spec PyProof.Rows
variable[a8]
def aS(x:DV)(c:aI)(K:FV->aI->Prop):Prop:=match x with
 |.w a=>K (.w a) c
 |y=>eg y c λd b=>K (.p d) b
def aw:-DV->aI->(-FV->aI->Prop)->Prop
 |[],a,K=>K [] a
 |x::d,a,K=>aS x a λf b=>aw d b λe c=>K (f::e) c
def aU(t:Bool)(d:WA):WE:=λe K=>d e λf a=>aw f a λc b=>↑c<=1000/\K (.u t c) b
def oR(f g:WE):WE:=λd K=>f d λx a=>g a λy b=>∃t c i v,(x=.u t c/\y=.p (.int i)/\eW c i=ζ v)/\K v.v b
abbrev uV:=-FV->aI->(aI->Prop)->Prop
def aV:uV:=λa b K=>match a with
 |[]=>K b
 |_=>False
def aW(g:WG)(g':uV):uV:=λb c K=>match b with
 |f::r=>g f.v c λa=>g' r a K
 |[]=>False
def aX(n:Nat)(g:uV):WG:=λx b K=>match x with
 |.u true a=>↑a=n/\g a b K
 |_=>False
section
variable{F H:Hp}{ad:-U}{δ:aI}{σ:St}
omit [a8] in
theorem fK.length {F:Hp}:∀{fs:-FV}{us:-V},fK F fs us->↑us=fs.length
 |[],_,h=>by let h:_=[]:=h;rw[h];rfl
 |_::_,_,⟨v,t,e,_,h2⟩=>by rw[e,wo,wo,fK.length h2]
omit [a8] in
theorem fK.get {F:Hp}:∀{fs:-FV}{us:-V}{j:Nat}{f:FV},fK F fs us->fs[j]?=ζ f->∃v,us[j]?=ζ v/\je F f v
 |[],_,j,f,_,e=>by simp at e
 |g::r,_,0,f,⟨v,t,e,h1,h2⟩,q=>by subst e;cases(show ζ g=ζ f by simpa using q);exact⟨v,Y,h1⟩
 |g::r,_,j+1,f,⟨v,t,e,h1,h2⟩,q=>by subst e;simpa using fK.get h2 (show r[j]?=ζ f by simpa using q)
theorem Ql{x:DV}{v:V}{K:FV->aI->Prop}(S:SR F ad δ σ H)(V:eN F ad x v)(h:aS x δ K):∃f b F',K f b/\Ext F ad δ.mu H F' ad b.mu H/\SR F' ad b σ H/\je F' f v:=by
 cases x with
 |w a=>exact⟨_,_,F,h,.refl,S,V⟩
 |p d=>let⟨d,b,e,g,i,j,l⟩:=n_ S V (show eg (.p d) δ (λd c=>K (.p d) c) from h);exact⟨_,_,e,g,i,j,l⟩
 |o k=>let⟨d,b,e,g,i,j,l⟩:=n_ S V (show eg (.o k) δ (λd c=>K (.p d) c) from h);exact⟨_,_,e,g,i,j,l⟩
 |u _ _=>exact h.elim
 |t _ _=>calc h.elim
theorem EY:∀{xs:-DV}{vs:-V}{F:Hp}{b:aI}{K:-FV->aI->Prop},SR F ad b σ H->dM F ad xs vs->aw xs b K->∃fs a F',K fs a/\Ext F ad b.mu H F' ad a.mu H/\SR F' ad a σ H/\fK F' fs vs
 |[],_,F,b,K,S,V,h=>⟨[],b,F,h,.refl,S,V⟩
 |x::u,_,F,b,K,S,⟨v,r,e,j,k⟩,h=>by
  subst e;let⟨f,l,w,m,d,n,o⟩:=Ql S j h;let⟨i,c,p,q,g,s,t⟩:=EY n (k.ext d) m;calc⟨f::i,c,p,q,d.trans g,s,v,r,Y,je.same g.same _ _ o,t⟩
variable{X:Cx}{a b e:J}{es:-J}{f g:WE}{fa:WA}{pos:I}
theorem Qm{j g:Hp}{a:-U}{c:aI}{t:Bool}{K:DV->aI->Prop}{Q:VK}{xs:-DV}{vs:-V}(k:∀x d,K x d->∀v F' f H',Ext F ad δ.mu H F' f d.mu H'->SR F' f d σ H'->eN F' f x v->Q v H')(q:aw xs c λfs h=>fs.length<=1000/\K (.u t fs) h)(r:Ext F ad δ.mu H j a c.mu g)(s:SR j a c σ g)(w:dM j a xs vs):↑vs<=sizeLine/\∀p,g p=η->Q (.ref p) (upd g p (mw t vs)):=by
 let⟨B,h,C,⟨y,z⟩,A,i,m⟩:=EY s w q;calc⟨kY (by rw[↑m];calc y),λp l=>?_⟩;let n:a_ g (upd g p (mw t vs)):=c_ l;calc k _ _ z _ _ _ _ ((r.trans A).trans (Ext.al i n)) (i.al n) ?_;rw[Nw.upd i.sub l];calc⟨p,vs,Y,cw,m.same λb o e=>by rw[bt (ed (i.sub b o e) l)];calc e⟩
theorem Qn{a}(b:JA X es (cX fa)):JE X (.Tuple es a pos) (tD (aU θ fa)):=(Bz b).weak λl H Q ⟨F,c,d,K,S,q,k⟩ ↦
 ⟨F,c,d,_,S,q,λm e f n o g p h i j=>Qm (t:=true) k f h i j⟩
end
end L2
namespace LJ
open PySem L2 PySem.Spec PySem.W PyProof.Rows
structure Ev where
 P:X
 w:l
 K:KD
 mg:R->Option M
 base:Q
section
variable[a8]
structure Fx(V:Ev)(k:Nat)(x:R)(ps:-R)(n:Nat)(G:GD):Prop where
 ex:∃f fd,Fn V.P V.w V.K V.mg V.base k x ps (lZ G n) f fd
def Dx(V:Ev)(x:R)(st:y):Prop:=∃f a,V.mg x=ζ (.ref f)/\hG V.K x x st f a
def uW(V:Ev)(x:R)(st:y)(T:U)(pos:I)(q:R):Prop:=∃f a,(V.mg x=ζ (.ref f)/\hG V.K x x st f a)/\iG V.mg V.base a T pos q
def Ct(V:Ev)(x:R)(i:Int):Prop:=∃u,V.mg x=ζ u/\RelV (.int i) u
section
variable{X:Cx}{x:R}{ps:-R}{G:GD}{e:J}{es:-J}{fa:WA}{p pos:I}{j k n:Nat}
theorem cS(F:Fx ⟨X.prog,X.w,X.K,X.mg,X.base⟩ j x ps n G)(c:bw k X.A)(d:JA X (e::es) (cX fa))(f:q18 j k=θ:=by rfl)(g:Gl X x:=by rfl)(a:cy x:=by decide)(he:dE X e es:=by rfl)(b:dQ X pos es:=by rfl):
  JE X (.Call (.Name x p) (e::es) [] pos) (tD (aA n G fa)):=let⟨_,_,F⟩:=F.ex;Ma F.ok (c.mono (X8 f)) g F.ph F.kp F.bd d a he b
theorem Qo(F:Fx ⟨X.prog,X.w,X.K,X.mg,X.base⟩ j x ps n G)(c:bw k X.A)(d:JA X (e::es) (cX fa))(f:q18 j k=θ:=by rfl)(g:Gl X x:=by rfl)(a:cy x:=by decide)(he:dE X e es:=by rfl)(b:dQ X pos es:=by rfl):
  JE X (.Call (.Name x p) (e::es) [] pos) (tD (fM n G fa)):=let⟨_,_,F⟩:=F.ex;Mb F.ok (c.mono (X8 f)) g F.ph F.kp F.bd d a he b
theorem Qp{i:Int}(C:Ct ⟨X.prog,X.w,X.K,X.mg,X.base⟩ x i)(c:Gl X x:=by rfl)(hd:cy x:=by decide):JE X (.Name x pos) (tD (dC (.int i))):=let⟨_,a,b⟩:=C;LV c a b hd
end
theorem _root_.L2.iG.env{d:R->Option M}{base:Q}{c:FuncData}{T:U}{e:I}{q:R}{a:M}(L:iG d base c T e q)(h:c.code=a):∃b,a=.ref b/\CodeHd base b T:=let⟨b,f,g⟩:=L.code;⟨b,h.symm.trans f,g⟩
noncomputable def Qq:NameKind->Bool
 |.local=>θ
 |.cell=>θ
 |_=>ι
noncomputable def Qr:NameKind->Bool
 |.free=>ι
 |_=>θ
noncomputable def Qs:ScopeKind->Bool
 |.function=>θ
 |_=>ι
noncomputable def oS(N P:-R)(a:o):Bool:=Qs a.kind && !a.isCoroutine && !a.isGenerator&&S N.Nodup&&S (N.take ↑P=P)&&(P.all λx=>match a.names.lookup x with
 |some k=>Qq k
 |none=>ι)&&a.names.all λy=>Qr y.2
theorem gz{N P:-R}{a:o}(h:oS N P a=θ):lU N P a:=by
 unfold oS at h;erw[Xo,ZV,V0,Yg] at h;let⟨⟨⟨⟨⟨⟨b,c⟩,d⟩,f⟩,g⟩,i⟩,j⟩:=h;refine⟨?_,c,d,f,g,λx l=>?_,λy m z=>?_⟩
 .cases q:a.kind<;>rw[q] at b<;>first|rfl|cases b
 .let:=i x l
  split at this
  .rename_i k e
   rw[e];cases k<;>first|exact .inl Y|exact .inr Y|cases this
  .cases this
 .let:=j y m
  rw[z] at this;cases this
def jm(x:R)(st:y)(d:-R):Prop:=∀(e a f:M)(g:Option U)(b h:M)(c:-M),↑c=↑d->bindArgs (Xt x x (jw st) (gZ st) (dq st) .none e a f g b h) ⟨c,[]⟩=pure (d.zip c)
section
theorem zm{us:-M}(h:↑us=1):∃a,us=[a]:=q1z.mp h
theorem zo{us:-M}(h:↑us=2):∃a b,us=[a,b]:=by
 cases us with
 |nil=>cases h
 |cons a r=>let⟨b,rfl⟩:=zm (YI h);calc⟨a,b,Y⟩
theorem EZ{us:-M}(h:↑us=3):∃a b c,us=[a,b,c]:=by
 cases us with
 |nil=>cases h
 |cons a r=>let⟨b,c,rfl⟩:=zo (YI h);calc⟨a,b,c,Y⟩
theorem Qt{us:-M}(h:↑us=4):∃a b c d,us=[a,b,c,d]:=by
 cases us with
 |nil=>cases h
 |cons a r=>let⟨b,c,d,rfl⟩:=EZ (YI h);calc⟨a,b,c,d,Y⟩
theorem mO{x:R}{st:y}{d:-R}(h:∀(e b f:M) (g:Option U) (c ct a:M),bindArgs (Xt x x (jw st) (gZ st) (dq st) .none e b f g c ct) ⟨[a],[]⟩=pure (d.zip [a]):=by intros;rfl)(j:↑d=1:=by rfl):jm x st d:=λe b f g c i l k=>by
 let⟨a,rfl⟩:=zm (k.trans j);calc h e b f g c i a
theorem g_{x:R}{st:y}{e:-R}(h:∀(f c g:M) (i:Option U) (d ct a b:M),bindArgs (Xt x x (jw st) (gZ st) (dq st) .none f c g i d ct) ⟨[a,b],[]⟩=pure (e.zip [a,b]):=by intros;rfl)(k:↑e=2:=by rfl):jm x st e:=λf c g i d j m l=>by
 let⟨a,b,rfl⟩:=zo (l.trans k);calc h f c g i d j a b
theorem jn{x:R}{st:y}{f:-R}(h:∀(g d i:M) (j:Option U) (e ct a b c:M),bindArgs (Xt x x (jw st) (gZ st) (dq st) .none g d i j e ct) ⟨[a,b,c],[]⟩=pure (f.zip [a,b,c]):=by intros;rfl)(l:↑f=3:=by rfl):jm x st f:=λg d i j e k n m=>by
 let⟨a,b,c,rfl⟩:=EZ (m.trans l);calc h g d i j e k a b c
theorem E4{x:R}{st:y}{g:-R}(h:∀(i e j:M) (k:Option U) (f ct a b c d:M),bindArgs (Xt x x (jw st) (gZ st) (dq st) .none i e j k f ct) ⟨[a,b,c,d],[]⟩=pure (g.zip [a,b,c,d]):=by intros;rfl)(m:↑g=4:=by rfl):jm x st g:=λi e j k f l o n=>by
 let⟨a,b,c,d,rfl⟩:=Qt (n.trans m);calc h i e j k f l a b c d
variable{V:Ev}{x:R}{st:y}{N ps:-R}{k:Nat}{G:GD}
theorem d9(D:Dx V x st)(j:jm x st ps)(h:∀{b:M} {A:t} {outer:-u} {s:L} {H:Hp} {E:XK} {f:U},bw k (A.deeper (envOfC x (dq st) ⇑s f b))->N.Nodup->(A.deeper (envOfC x (dq st) ⇑s f b)).units+64<cLine →
   ∃B:WS,ee (gh fZ V.P V.w V.K V.mg V.base N x (dq st) f b A outer s H E).kQ (gZ st) (eh B)/\∀ys c e,↑ys=↑ps->G ys c e->B (eu ↑c e) ⟨ys.map ζ++VG (↑N-↑ps) η,c.map ζ⟩)(g:oS N ps (dq st)=θ:=by decide +kernel):Fx V (k+1) x ps ↑ps G :=
 let⟨f,l,a,F⟩:=D
 ⟨f,l,F.L7 (gz g) λb A d s H E i=>h i (gz g).nd i.units,a,F.kp,F.binds j⟩
theorem Qu{T:U}{g:I}{q:R}(D:uW V x st T g q)(m:jm x st ps)(h:∀{b:M} {A:t} {outer:-u} {s:L} {H:Hp} {E:XK} {f:U} {d:FuncData},iG V.mg V.base d T g q->d.code=b->bw k (A.deeper (envOfC x (dq st) ⇑s f b))->N.Nodup->(A.deeper (envOfC x (dq st) ⇑s f b)).units+64<cLine →
   ∃B:WS,ee (gh fZ V.P V.w V.K V.mg V.base N x (dq st) f b A outer s H E).kQ (gZ st) (eh B)/\∀ys c i,↑ys=↑ps->G ys c i->B (eu ↑c i) ⟨ys.map ζ++VG (↑N-↑ps) η,c.map ζ⟩)(j:oS N ps (dq st)=θ:=by decide +kernel):Fx V (k+1) x ps ↑ps G :=
 let⟨f,d,⟨a,F⟩,n⟩:=D
 ⟨f,d,F.x_ (gz j) λb A e s H E o l=>h n o l (gz j).nd l.units,a,F.kp,F.binds m⟩
end
end
section
variable{K:KD}{h:Q}{mg:R->Option M}
def Dk(K:KD)(x:R)(st:y):Prop:=∃f a,Yf K mainGlobals x=ζ (ζ (.ref f))/\hG K x x st f a
inductive iI (K:KD):-(R×y)->Prop
 |nil:iI K []
 |cons {x st r}:Dk K x st->iI K r->iI K ((x,st)::r)
theorem zp{x:R}{st:y}{r:-(R×y)}{f:U}{od c:Option U}{sl:Array (Option M)}{oc d e g b ct:M}(a:Yf K mainGlobals x=ζ (ζ (.ref f)))(l:K.lookup f=ζ ⟨oc,od,.func (Xt x x (jw st) (gZ st) (dq st) .none d e g c b ct),sl⟩)(q:Zh K b x=θ)(k:XA K (.ref f)=θ)(h:iI K r):iI K ((x,st)::r) :=
 .cons ⟨f,_,a,tF l q k⟩ h
theorem iI.at{ds:-(R×y)}(h:iI K ds)(i:Nat){x:R}{st:y}(e:ds[i]?=ζ (x,st)):Dk K x st:=by
 induction h generalizing i with
 |nil=>cases e
 |cons d _ a=>cases i with
  |zero=>cases e;exact d
  |succ i=>calc a i e
def uX(K:KD)(x:R)(st:y)(T:U):Prop:=∃f a,(Yf K mainGlobals x=ζ (ζ (.ref f))/\hG K x x st f a)/\∃b,a.code=.ref b/\q3g K b T=θ
inductive gA (K:KD):-(R×y×U)->Prop
 |nil:gA K []
 |cons {x st T r}:uX K x st T->gA K r->gA K ((x,st,T)::r)
theorem sv{x:R}{st:y}{T:U}{r:-(R×y×U)}{f b:U}{od d:Option U}{sl:Array (Option M)}{oc e g i ct:M}(a:Yf K mainGlobals x=ζ (ζ (.ref f)))(l:K.lookup f=ζ ⟨oc,od,.func (Xt x x (jw st) (gZ st) (dq st) .none e g i d (.ref b) ct),sl⟩)(q:Zh K (.ref b) x=θ)(k:XA K (.ref f)=θ)(c:q3g K b T=θ)(h:gA K r):gA K ((x,st,T)::r) :=
 .cons ⟨f,_,⟨a,tF l q k⟩,b,Y,c⟩ h
theorem gA.at{ds:-(R×y×U)}(h:gA K ds)(i:Nat){x:R}{st:y}{T:U}(e:ds[i]?=ζ (x,st,T)):uX K x st T:=by
 induction h generalizing i with
 |nil=>cases e
 |cons d _ a=>cases i with
  |zero=>cases e;exact d
  |succ i=>calc a i e
theorem gA.code{ds:-(R×y×U)}(h:gA K ds){c:Q}(X:K.In c):∀T∈ds.map (·.2.2),∃b,q33 c b T:=by
 induction h with
 |nil=>ext T a;exact nomatch a
 |cons d _ f =>
  ext T a;rcases Uy.mp a with rfl|a
  .let⟨_,_,_,b,_,e⟩:=d
   exact⟨b,q2f X e⟩
  .calc f T a
theorem Qv{x:R}{r:-R}(a:Yf K mainGlobals x=ζ η)(h:∀y∈r,Yf K mainGlobals y=ζ η):∀y∈x::r,Yf K mainGlobals y=ζ η:=λy b=>by
 rcases Uy.mp b with rfl|b
 .exact a
 .calc h y b
theorem Qw{ls:-lE}(g:(ls.map (·.T)).Nodup):∀{a b:lE},a∈ls->b∈ls->a.T=b.T->a=b:=by
 induction ls with
 |nil=>ext a b h;exact nomatch h
 |cons c r i =>
  ext a b h j e;rw[UB,Yy] at g;rcases Uy.mp h with rfl|d<;>rcases Uy.mp j with rfl|f
  .rfl
  .exact absurd (VI.mpr ⟨b,f,e.symm⟩) g.1
  .exact absurd (VI.mpr ⟨a,d,e⟩) g.1
  .calc i g.2 d f e
theorem Dk.v{P:ψ}{w:l}{base:Q}{x:R}{st:y}(d:Dk K x st)(X:K.In h)(G:h.Ns mainGlobals mg):Dx ⟨P,w,K,mg,base⟩ x st :=
 let⟨f,b,a,F⟩:=d
 ⟨f,b,Zu X G a,F⟩
theorem uX.v{P:ψ}{w:ω}{base:Q}{x:R}{st:y}{ls:-lE}{C:CC}{T:U}{g:I}{q:R}(d:uX K x st T)(X:K.In h)(G:h.Ns mainGlobals mg)(i:K.In base)(j:∀t∈ls,base.BuiltinsAt mg t.T)(k:(ls.map (·.T)).Nodup)(l:∀t∈ls,mainGlobals≠t.T)(c:⟨T,g,q⟩∈ls):@uW (g8 ls C) ⟨P,w,K,mg,base⟩ x st T g q :=
 let⟨f,m,⟨a,F⟩,n,o,p⟩:=d
 letI:a8:=g8 ls C
 ⟨f,m,⟨Zu X G a,F⟩,⟨n,o,q2f i p⟩,l _ c,j _ c,NU c λa r b s e=>Qw k r s e⟩
def Ck(K:KD)(x:R)(i:Int):Prop:=∃u,Yf K mainGlobals x=ζ (ζ u)/\RelV (.int i) u
theorem Ck.v{P:ψ}{w:l}{base:Q}{x:R}{i:Int}(d:Ck K x i)(X:K.In h)(G:h.Ns mainGlobals mg):Ct ⟨P,w,K,mg,base⟩ x i :=
 let⟨u,a,r⟩:=d
 ⟨u,Zu X G a,r⟩
noncomputable def zq:-R:=["len", "range", "list", "tuple", "set", "sorted", "min", "max", "sum", "all", "any", "enumerate", "zip", "isinstance", "int", "bool", "str", "repr"]
theorem Qx(X:K.In h)(G:h.Ns mainGlobals mg)(N:∀x∈zq,Yf K mainGlobals x=ζ η):BT mg :=
 have n:∀i x,zq[i]?=ζ x->mg x=η:=λi x e=>PySem.W.mg_none_of X G (N x (WU e))
 ⟨n 0 _ Y,n 1 _ Y,n 2 _ Y,n 3 _ Y,n 4 _ Y,n 5 _ Y,n 6 _ Y,n 7 _ Y,n 8 _ Y,n 9 _ Y,n 10 _ Y,n 11 _ Y,n 12 _ Y,n 13 _ Y,n 14 _ Y,n 15 _ Y,n 16 _ Y,n 17 _ Y⟩
end
section
variable[a8]
structure Kx(K:KD)(C:U)(fs:-R):Prop where
 c:i8 K C
 n:∀f∈fs,dF K C f
theorem Kx.at{K:KD}{C:U}{fs:-R}(h:Kx K C fs)(f:R)(e:fs.contains f=θ:=by rfl):dF K C f:=h.n f (q1K.mp e)
structure Fk(V:Ev)(C:U)(k:Nat)(m:R)(ps:-R)(n:Nat)(G:GK):Prop where
 ex:∃f fd,Meth V.K C m f/\cG V.P V.w V.K V.mg V.base fZ k f fd ps (kL G n)/\Binds V.K fd ps []
structure Fq(V:Ev)(k:Nat)(x:R)(ps:-R)(n:Nat)(G:GK):Prop where
 ex:∃f fd,Fn V.P V.w V.K V.mg V.base k x ps (kL G n) f fd
structure Fc(V:Ev)(C:U)(k:Nat)(x:R)(ps:-R)(n:Nat)(G:GK):Prop where
 ex:∃f fd,V.mg x=ζ (.ref C)/\Mk V.K C f/\cG V.P V.w V.K V.mg V.base fZ k f fd ps (kL G n)/\Binds V.K fd ps []
def Dm(V:Ev)(C:U)(m q:R)(st:y):Prop:=∃f a,Meth V.K C m f/\hG V.K m q st f a
def Dc(V:Ev)(C:U)(x q:R)(st:y):Prop:=∃f a,(V.mg x=ζ (.ref C)/\Mk V.K C f)/\hG V.K "__init__" q st f a
section
variable{X:Cx}{C:U}{x m:R}{ps:-R}{G:GK}{e o:J}{es:-J}{fa:WA}{fo:WE}{p pos apos:I}{j k n:Nat}
theorem hE(r:Bool)(F:Fq ⟨X.prog,X.w,X.K,X.mg,X.base⟩ j x ps n G)(c:bw k X.A)(d:JA X (e::es) (cX fa))(f:q18 j k=θ:=by rfl)(g:Gl X x:=by rfl)(a:cy x:=by decide)(he:dE X e es:=by rfl)(b:dQ X pos es:=by rfl):
  JE X (.Call (.Name x p) (e::es) [] pos) (tD (aD r n G fa)):=let⟨_,_,F⟩:=F.ex;PZ r F.ok (c.mono (X8 f)) g F.ph F.kp F.bd d a he b
theorem oT(F:Fc ⟨X.prog,X.w,X.K,X.mg,X.base⟩ C j x ps n G)(d:bw k X.A)(f:JA X (e::es) (cX fa))(g:q18 (j+1) k=θ:=by rfl)(h:Gl X x:=by rfl)(b:cy x:=by decide)(he:dE X e es:=by rfl)(c:dQ X pos es:=by rfl):
  JE X (.Call (.Name x p) (e::es) [] pos) (tD (aF C n G fa)):=let⟨_,_,a,M,F,B⟩:=F.ex;P8 M F (d.mono (X8 g)) h a B f b he c
theorem jS {pl:q7P Bool} (r:Bool) (c:i8 X.K C) (F:Fk ⟨X.prog,X.w,X.K,X.mg,X.base⟩ C j m ps n G) (d:bw k X.A) (g:JE X o (tD fo)) (h:JA X (e :: es) (cX fa)) (i:q18 j k=θ:=by rfl)
  (a:dE X e es:=by rfl) (b:dQ X pos es:=by rfl)
  (l:eval (.Call (.Attribute o m apos) (e :: es) [] pos) X.env=(do
   let ov <- eval o X.env
   standAt apos.atName
   let (f,first) <- holding [ov] (getMethod ov m pl)
   callWith pos f first (backTo pos (starEach (e :: es) X.env)) (backToKw pos (keywordEach [] X.env))):=by rfl) :
  JE X (.Call (.Attribute o m apos) (e :: es) [] pos) (tD (aB r C m n G fo fa)):=let ⟨_,_,M,F,B⟩:=F.ex; P5 r c M F (d.mono (X8 i)) B g h a b l
theorem oU {pl:q7P Bool} (r:Bool) (c:i8 X.K C) (F:Fk ⟨X.prog,X.w,X.K,X.mg,X.base⟩ C j m ps n G) (a:bw k X.A) (b:JE X o (tD fo)) (d:q18 j k=θ:=by rfl)
  (e:eval (.Call (.Attribute o m apos) [] [] pos) X.env=(do
   let ov <- eval o X.env
   standAt apos.atName
   let (f,first) <- holding [ov] (getMethod ov m pl)
   callWith pos f first (backTo pos (starEach [] X.env)) (backToKw pos (keywordEach [] X.env))):=by rfl) :
  JE X (.Call (.Attribute o m apos) [] [] pos) (tD (aB r C m n G fo ae)):=let ⟨_,_,M,F,B⟩:=F.ex; P6 r c M F (a.mono (X8 d)) B b e
end
def mP(x q:R)(st:y)(d:-R):Prop:=∀(e a f:M)(g:Option U)(b h:M)(c:-M),↑c=↑d->bindArgs (Xt x q (jw st) (gZ st) (dq st) .none e a f g b h) ⟨c,[]⟩=pure (d.zip c)
theorem E5{x q:R}{st:y}{d:-R}(h:∀(e b f:M) (g:Option U) (c ct a:M),bindArgs (Xt x q (jw st) (gZ st) (dq st) .none e b f g c ct) ⟨[a],[]⟩=pure (d.zip [a]):=by intros;rfl)(j:↑d=1:=by rfl):mP x q st d:=λe b f g c i l k=>by
 let⟨a,rfl⟩:=zm (k.trans j);calc h e b f g c i a
theorem zr{x q:R}{st:y}{e:-R}(h:∀(f c g:M) (i:Option U) (d ct a b:M),bindArgs (Xt x q (jw st) (gZ st) (dq st) .none f c g i d ct) ⟨[a,b],[]⟩=pure (e.zip [a,b]):=by intros;rfl)(k:↑e=2:=by rfl):mP x q st e:=λf c g i d j m l=>by
 let⟨a,b,rfl⟩:=zo (l.trans k);calc h f c g i d j a b
section
variable{V:Ev}{C:U}{x m q:R}{st:y}{N ps:-R}{k:Nat}{G:GK}
abbrev zt(V:Ev)(N e:-R)(q:R)(st:y)(k:Nat)(G:GK):Prop:=∀{a:M}{A:t}{b:-u}{s:L}{H:Hp}{E:XK}{f:U},bw k (A.deeper (envOfC q (dq st) ⇑s f a))->N.Nodup->(A.deeper (envOfC q (dq st) ⇑s f a)).units+64<cLine →
   ∃B:WS,ee (gh fZ V.P V.w V.K V.mg V.base N q (dq st) f a A b s H E).kQ (gZ st) (eh B)/\∀d c g,↑d=↑e->G d c g->B (af ↑c g) ⟨d.map ζ++VG (↑N-↑e) η,c.map ζ⟩
theorem uY(D:Dm V C m q st)(e:mP m q st ps)(h:zt V N ps q st k G)(c:oS N ps (dq st)=θ:=by decide +kernel):Fk V C (k+1) m ps ↑ps G :=
 let⟨f,g,a,F⟩:=D
 ⟨f,g,a,F.yZ (gz c) λi A b s H E d=>h d (gz c).nd d.units,F.binds e⟩
theorem Qy(D:Dc V C x q st)(e:mP "__init__" q st ps)(h:zt V N ps q st k G)(c:oS N ps (dq st)=θ:=by decide +kernel):Fc V C (k+1) x ps ↑ps G :=
 let⟨f,g,a,F⟩:=D
 ⟨f,g,a.1,a.2,F.yZ (gz c) λi A b s H E d=>h d (gz c).nd d.units,F.binds e⟩
theorem k9(D:Dx V x st)(e:jm x st ps)(h:zt V N ps x st k G)(c:oS N ps (dq st)=θ:=by decide +kernel):Fq V (k+1) x ps ↑ps G :=
 let⟨f,g,a,F⟩:=D
 ⟨f,g,F.yZ (gz c) λi A b s H E d=>h d (gz c).nd d.units,a,F.kp,F.binds e⟩
end
end
inductive iJ (K:KD) (C:U):-(R×R×y)->Prop
 |nil:iJ K C []
 |cons {m q st r}:(∃f fd,Meth K C m f/\hG K m q st f fd)->iJ K C r->iJ K C ((m,q,st)::r)
theorem allM{K:KD}{C:U}{m q:R}{st:y}{r:-(R×R×y)}{f:U}{od d:Option U}{sl:Array (Option M)}{oc e g j b ct:M}(a:XT K (.ref C) m=ζ (ζ (.ref f)))(i:q1t K (.ref f)=θ)(l:K.lookup f=ζ ⟨oc,od,.func (Xt m q (jw st) (gZ st) (dq st) .none e g j d b ct),sl⟩)(c:Zh K b q=θ)(k:XA K (.ref f)=θ)(h:iJ K C r):iJ K C ((m,q,st)::r) :=
 .cons ⟨f,_,⟨a,i,k⟩,tF l c k⟩ h
theorem iJ.at{K:KD}{C:U}{ds:-(R×R×y)}(h:iJ K C ds)(i:Nat){m q:R}{st:y}(e:ds[i]?=ζ (m,q,st)):∃f a,Meth K C m f/\hG K m q st f a:=by
 induction h generalizing i with
 |nil=>cases e
 |cons d _ b=>cases i with
  |zero=>cases e;exact d
  |succ i=>calc b i e
end LJ
namespace L2
open PySem PySem.Spec PyProof.Rows
variable[a8]
theorem Qz{X:Cx}{x:R}{p pos:I}{G:GK}{k:Nat}{g:U}{b:FuncData}{c:-R}(o:Bool)(d:cG X.prog X.w X.K X.mg X.base fZ k g b c (kL G 0))(e:bw k X.A)(f:Gl X x)(h:X.mg x=ζ (.ref g))(i:XA X.K (.ref g)=θ)(j:Binds X.K b c [])
  (a:cy x:=by decide) :
  JE X (.Call (.Name x p) [] [] pos) (tD (aD o 0 G ae)):=(J0 d e f h i j .nil mr a).weak λn H Q ⟨F,r,l,K,S,q,m⟩↦sj (xs:=[]) (vs:=[]) m (show oP o 0 G [] l K from q) .refl S Y
end L2
namespace LJ
open PySem L2 PySem.Spec PySem.W PyProof.Rows
variable[a8]
theorem QA{X:Cx}{x:R}{b:-R}{G:GK}{p pos:I}{j k:Nat}(r:Bool)(F:Fq ⟨X.prog,X.w,X.K,X.mg,X.base⟩ j x b 0 G)(c:bw k X.A)(d:q18 j k=θ:=by rfl)(e:Gl X x:=by rfl)(a:cy x:=by decide):
  JE X (.Call (.Name x p) [] [] pos) (tD (aD r 0 G ae)):=let⟨_,_,F⟩:=F.ex;Qz r F.ok (c.mono (X8 d)) e F.ph F.kp F.bd a
theorem QB{x:R}{st:y}{c:-R}(h:∀(d a e:M) (f:Option U) (b ct:M),bindArgs (Xt x x (jw st) (gZ st) (dq st) .none d a e f b ct) ⟨[],[]⟩=pure (c.zip []):=by intros;rfl)(i:↑c=0:=by rfl):jm x st c:=λd a e f b g k j=>by
 obtain rfl:=XR.mp (j.trans i);calc h d a e f b g
end LJ
open Lean in
local macro_rules
 |`(tactic|simp![$ls,*] $[$l:location]?)=>do
  let a:=ls.getElems
  let some n:=a[0]?.bind λx=>x.raw[2].isNatLit?|Macro.throwUnsupported
  let t←((("ag ah aE toF aB aD aF ai aG FV.v af dV kb aj aO aR aP aL aQ aM au ar ak aK aU aS aw aX aW aV mq nV".splitOn " ").take (if n==0 then 32 else 0)).toArray).mapM λs=>`(Parser.Tactic.simpLemma|$(mkIdent s.toName):ident)
  let b:Syntax.TSepArray [`Lean.Parser.Tactic.simpStar,`Lean.Parser.Tactic.simpErase,`Lean.Parser.Tactic.simpLemma] ",":=⟨(Syntax.SepArray.ofElems (sep:=",") (t.map (·.raw)++(a.extract 1 a.size).map (·.raw))).elemsAndSeps⟩
  `(tactic|simp![$b,*] $[$l]?)
namespace LJ
open PySem L2
variable[a8]
inductive zu (ys:-DV) (bF:-OV) (K:RV->-OV->Prop):Prop
 |mk (m:Int) (ws:-Wy) (ns:-Int) (_:aH m ws) (_:Nums ws ns) (_:ys=[.p (a6 m ws),.p (tupI ns)]) (_:bF=[]) (_:K (.p (a9 (ic m ws ns))) [])
def zv:WS:=(az (aJ 2 (ft (aq (d2 (aa 0) (dC (.int 0)) ba) ae))) (az (bH (bo (aa 1)) (bj 3) (az (aJ 4 (d2 (d2 (aa 0) (dC (.int 1)) ba) (aa 3) ba)) (aJ 2 (aA 3 rN (aq (aa 2) (aq (d2 (aa 4) (dC (.int 0)) ba) (aq (d2 (aa 4) (dC (.int 1)) ba) ae))))))) (aY (aa 2))))
theorem QC:Sem 2 3 zu zv:=by
 ext H s I-⟨m,a,b,W,t,rfl,rfl,k⟩;let J:=W.m1;let u:=W.iA;let v:↑(bK m.toNat)=m.toNat:=by unfold bK;simp
 let w:dm 0 m.toNat=(bK m.toNat).map D.int:=ou m.toNat;unfold zv tupI;calc bc λN e=>?_;simp![dw,a6];calc⟨⟨⋯,⋯⟩,?_⟩;subst e;rw[w];calc bc λN e=>j_ λK M O x f z=>?_;simp!;subst x f z;refine jA (λi g=>g=⟨[ζ (.p (.tup [.int m,.tup (a.map bJ)])),ζ (.p (.tup (b.map D.int))),ζ (.p (.lst ((gg a (bK m.toNat) (b.take i)).map D.int))),η,η],[]⟩) Y ?_ ?_
 .ext j d g L l rfl A
  rw[B8] at l;let⟨n,c,rfl⟩:=KJ.mp l;let⟨B,C⟩:=t n (WU c);let⟨y,E,P,F,i,k,o,q,Q,R,_⟩:=mE W B C;calc⟨trivial,?_⟩;erw[bj,VA,VB];calc bc λS h=>?_;simp![eB,F];subst h;simp![dw,eB,bJ];let r:↑(gg a (bK m.toNat) (b.take j))=m.toNat:=by rw[rO,v]
  refine⟨gg a (bK m.toNat) (b.take j),i,k,by rw[o,q];rfl,Y,⋯,⋯,⋯,?_⟩
  let G:hJ (gg a (bK m.toNat) (b.take j)) i k=gg a (bK m.toNat) (b.take (j+1)):=by
   let:b.take (j+1)=b.take j++[n]:=by rw[Y4,c];rfl
   rw[this];unfold gg;rw[q0Y];show _=hJ _ (dO a n).1 (dO a n).2
   let:dO a n=(i,k):=by
    unfold dO;rw[E,o,q,V8,V8]
   rw[this]
  rw[G];exact A _ Y
 .ext g rfl
  rw[nW,Xc (B6 _)];calc⟨trivial,?_⟩;show N _;subst e;simp!;calc cK k
inductive sx (ys:-DV) (bF:-OV) (K:RV->-OV->Prop):Prop
 |mk (m:Int) (ws:-Wy) (us:-Int) (h:Int) (_:aH m ws) (_:Nums ws us) (_:(0<=h/\h<m)) (_:ys=[.p (a6 m ws),.p (tupI us),.p (.int h)]) (_:bF=[]) (_:K (.p (a9 (aZ m ws us h))) [])
def zw:WS:=(az (aJ 3 (aA 2 zu (aq (aa 0) (aq (aa 1) ae)))) (aY (cx (bW (aq (aa 3) ae)) [η,η,ζ 3,ζ 2] (dz 2 (cj (bj 0) (cj (bj 1) dt))) (dT (d2 (aa 1) (d2 (aa 2) (aa 3) ba) oEq)) (aa 0))))
open Classical in
theorem QD:Sem 3 1 sx zw:=by
 rintro ys bF K'-⟨m,ws,us,h,W,hu,hh,rfl,rfl,k⟩;have iA:=W.iA;obtain⟨i,rfl⟩:=Ym hh.1;have hi:i<m.toNat:=by symm
 unfold zw;refine bc λN hN=>?_;simp!;refine⟨m,ws,us,W,hu,rfl,rfl,?_⟩;have mo:=yy W hu;generalize ic m ws us=fs at mo;have a1:=oC (ns:=fs) (i:=i) (by rw[mo.1];exact hi);rw[show a9 fs=.lst (fs.map D.int) from rfl];simp!;subst hN;simp!;refine L2.j8 (oG λx=>decide (bz (eV ws us) i x)) oF (by rw[l0,nW,mo.1];symm) trivial ?_ ?_
 .intro d hd acc L' ha h1 h2
  obtain⟨z,hz⟩:=VL.mp hd;obtain⟨e,z1,z2⟩:=l3 hz;rw[B8] at z1;obtain⟨y,z3,rfl⟩:=KJ.mp z1;rw[VJ] at z2;subst z2;have zl:z<m.toNat:=by rw[<-mo.1];exact(pa.mp z3).1
  have ez:fs.getD z 0=y:=by rw[KH,z3];rfl
  simp only[oG,oF] at h1 h2;simp![a1];rw[rX]
  by_cases c:bz (eV ws us) i z
  .rw[VH (show y=fs.getD i 0 by rw[<-ez];exact((mo.2 i z hi zl).mpr c).symm)]
   simp!;exact⟨ha,h1 (VH c)⟩
  .rw[VD (show ¬ y=fs.getD i 0 fromλe=>c ((mo.2 i z hi zl).mp (by rw[<-e,ez])))]
   simp!;exact h2 (VD c)
 .have e:=uH (λx=>decide (bz (eV ws us) i x)) (fs.map D.int) 0
  have e2:(cls m.toNat (eV ws us) i).map D.int=((q0Z 0 (fs.map D.int).length).filter λk:Nat=>decide (bz (eV ws us) i k)).map λk:Nat=>D.int k:=by
   unfold cls bK;rw[Ye,VW,nW,<-Zi,mo.1];rfl
  rw[<-e2] at e;rw[e];exact cK k
noncomputable def zx(t:Bool)(ns:-Int):D:=if t=θ then tupI ns else a9 ns
inductive sy (ys:-DV) (bF:-OV) (K:RV->-OV->Prop):Prop
 |mk (t:Bool) (ns:-Int) (_:↑(fc ns)<60) (_:ys=[.p (zx t ns)]) (_:bF=[]) (_:K (.p (tupI (gv ns))) [])
def zy:WS:=(aY (dN (aq (dN (aq (aa 0) ae) aK) ae) fP))
theorem QE:Sem 1 0 sy zy:=by
 ext c a d-⟨t,b,h,rfl,rfl,k⟩;unfold zy;let e:↑(sortI (fc b))<60:=by rw[xj];exact h
 cases t
 all_goals
  simp![0,zx,tupI,a9,j7];calc⟨h,?_⟩;calc cK k
inductive zz (ys:-DV) (bF:-OV) (K:RV->-OV->Prop):Prop
 |mk (m:Int) (ws:-Wy) (p k s l:-Int) (_:aH m ws) (_:↑p<=30) (_:k.length<=30) (_:↑l<=12) (_:ys=[.p (a6 m ws),.p (gw p k s),.p (a9 l)]) (_:bF=[]) (_:K (.p (.int (2*((↑l:Int)-1)+2*(↑(lI ws (fw ws p k) l):Int)))) [])
def zA:WS:=(az (aJ 3 (d2 (d2 (aa 1) (dC (.int 0)) ba) (d2 (aa 1) (dC (.int 1)) ba) bX)) (az (aJ 4 (cx (eA (aq (dN (aq (d2 (aa 0) (dC (.int 1)) ba) ae) bB) ae)) [η,ζ 3] (bj 0) (dT (d2 (aa 0) (aa 1) (dn θ))) (aa 0))) (az (aJ 5 (cx (bo (aA 2 uN (aq (aa 0) (aq (aa 4) ae)))) [η,ζ 2] (bj 0) (dT (d2 (aa 0) (aa 1) (dn ι))) (aa 0))) (aY (d2 (d2 (dC (.int 2)) (d2 (dN (aq (aa 2) ae) bB) (dC (.int 1)) (oI λi j=>.int (i-j))) bO) (d2 (dC (.int 2)) (dN (aq (aa 5) ae) bB) bO) bX)))))
theorem QF(ws:-Wy)(p k:-Int):Nums ws (fw ws p k):=λn h=>uo (Wc.mp h).1
theorem QG(ws:-Wy)(p k:-Int):↑(fw ws p k)<=↑ws:=by
 let:=W0 (λn=>S (n∉p++k)) (bK ↑ws);rw[k7] at this;calc this
theorem QH(ws:-Wy)(us:-Int):↑(lH ws us)=↑us+↑us:=by unfold lH;rw[qG,nW,nW]
noncomputable def mQ(p:Int->Bool):D->Bool
 |.int n=>p n
 |_=>ι
theorem uZ(p:Int->Bool)(us:-Int):((us.map D.int).filter (mQ p)).map (λd=>d)=(us.filter p).map D.int:=by
 rw[List.map_id',Ye];rfl
theorem QI:Sem 3 3 zz zA:=by
 ext x t y-⟨m,b,p,k,s,l,W,z,A,B,rfl,rfl,i⟩;let u:=W.jE;let C:bD ((p++k).map D.int)=0:=hU _;let a:=hU l;unfold zA;calc bc λN e=>?_;simp only[VX,dep,bD,VY,WV,WW,WX,Wg,az,aJ,dN,gb,aq,ae,a,d2,dC,aa,cA,dG,eg,cq,aI.fix,gD,bg,bG,eI,dT,fq,bT,eP,bQ,fD,eO,cZ,gj,cP,c3,c4,dr,aY,gM,bh,bj,dt,cj,dz,b6,bH,cx,eY,bI,bo,fE,eA,gk,bW,c5,fN,bN,aA,fM,passes,d8,b_,cH,cV,ba,cQ,bX,cR,b8,gU,cu,fT,eX,cI,gT,gf,gR,bO,oI,cW,oEq,fF,oLt,b3,fO,dn,bB,e7,gc,fP,fQ,f9,c7,c6,cf,ft,gQ,gq,gN,gG,b7,eZ,e8,bR,bU,cJ,f_,c8,gP,gm,eu,fR,aI.trim,du,fL,Wh,Wi,UB,V9,V_,Wd,VN,VU,VO,VM,Wa,VA,VB,wo,VP,VT,Wm,WL,WY,Wf,Wu,WC,WH,WM,Wv,VQ,V6,Xk,W8,↓reduceIte,XC,XI,XQ,reduceCtorEq,We,VJ,Ws,WZ,Wj,WN,nW,qG,gw,tupI,dw,eB]
 calc⟨⋯,?_⟩;rw[<-VR];subst e;calc bc λN e=>?_;simp only[VX,dep,bD,VY,WV,WW,WX,Wg,az,aJ,dN,gb,aq,ae,a,d2,dC,aa,cA,dG,eg,cq,aI.fix,gD,bg,bG,eI,dT,fq,bT,eP,bQ,fD,eO,cZ,gj,cP,c3,c4,dr,aY,gM,bh,bj,dt,cj,dz,b6,bH,cx,eY,bI,bo,fE,eA,gk,bW,c5,fN,bN,aA,fM,passes,d8,b_,cH,cV,ba,cQ,bX,cR,b8,gU,cu,fT,eX,cI,gT,gf,gR,bO,oI,cW,oEq,fF,oLt,b3,fO,dn,bB,e7,gc,fP,fQ,f9,c7,c6,cf,ft,gQ,gq,gN,gG,b7,eZ,e8,bR,bU,cJ,f_,c8,gP,gm,eu,fR,aI.trim,du,fL,Wh,Wi,UB,V9,V_,Wd,VN,VU,VO,VM,Wa,VA,VB,wo,VP,VT,Wm,WL,WY,Wf,Wu,WC,WH,WM,Wv,VQ,V6,Xk,W8,↓reduceIte,XC,XI,XQ,reduceCtorEq,We,VJ,Ws,WZ,Wj,WN,nW,qG,a6,eB];refine⟨⋯,?_⟩
 rw[V8,ou];refine L2.j8 (mQ λn=>S (n∉p++k)) (λd=>d) (by rw[nW,k7];symm) trivial ?_ ?_
 .ext d j o L q f g
  let⟨n,v,rfl⟩:=VI.mp j;erw[mQ] at f g;simp only[VX,dep,bD,VY,WV,WW,WX,Wg,az,aJ,dN,gb,aq,ae,a,d2,dC,aa,cA,dG,eg,cq,aI.fix,gD,bg,bG,eI,dT,fq,bT,eP,bQ,fD,eO,cZ,gj,cP,c3,c4,dr,aY,gM,bh,bj,dt,cj,dz,b6,bH,cx,eY,bI,bo,fE,eA,gk,bW,c5,fN,bN,aA,fM,passes,d8,b_,cH,cV,ba,cQ,bX,cR,b8,gU,cu,fT,eX,cI,gT,gf,gR,bO,oI,cW,oEq,fF,oLt,b3,fO,dn,bB,e7,gc,fP,fQ,f9,c7,c6,cf,ft,gQ,gq,gN,gG,b7,eZ,e8,bR,bU,cJ,f_,c8,gP,gm,eu,fR,aI.trim,du,fL,Wh,Wi,UB,V9,V_,Wd,VN,VU,VO,VM,Wa,VA,VB,wo,VP,VT,Wm,WL,WY,Wf,Wu,WC,WH,WM,Wv,VQ,V6,Xk,W8,↓reduceIte,XC,XI,XQ,reduceCtorEq,We,VJ,Ws,WZ,Wj,WN,nW,qG];calc⟨⋯,?_⟩;rw[jj]
  by_cases c:n∈p++k
  .rw[VH c];simp only[VX,dep,bD,VY,WV,WW,WX,Wg,az,aJ,dN,gb,aq,ae,a,d2,dC,aa,cA,dG,eg,cq,aI.fix,gD,bg,bG,eI,dT,fq,bT,eP,bQ,fD,eO,cZ,gj,cP,c3,c4,dr,aY,gM,bh,bj,dt,cj,dz,b6,bH,cx,eY,bI,bo,fE,eA,gk,bW,c5,fN,bN,aA,fM,passes,d8,b_,cH,cV,ba,cQ,bX,cR,b8,gU,cu,fT,eX,cI,gT,gf,gR,bO,oI,cW,oEq,fF,oLt,b3,fO,dn,bB,e7,gc,fP,fQ,f9,c7,c6,cf,ft,gQ,gq,gN,gG,b7,eZ,e8,bR,bU,cJ,f_,c8,gP,gm,eu,fR,aI.trim,du,fL,Wh,Wi,UB,V9,V_,Wd,VN,VU,VO,VM,Wa,VA,VB,wo,VP,VT,Wm,WL,WY,Wf,Wu,WC,WH,WM,Wv,VQ,V6,Xk,W8,↓reduceIte,XC,XI,XQ,reduceCtorEq,We,VJ,Ws,WZ,Wj,WN,nW,qG];exact g (VD (q07 c))
  .rw[VD c];simp only[VX,dep,bD,VY,WV,WW,WX,Wg,az,aJ,dN,gb,aq,ae,a,d2,dC,aa,cA,dG,eg,cq,aI.fix,gD,bg,bG,eI,dT,fq,bT,eP,bQ,fD,eO,cZ,gj,cP,c3,c4,dr,aY,gM,bh,bj,dt,cj,dz,b6,bH,cx,eY,bI,bo,fE,eA,gk,bW,c5,fN,bN,aA,fM,passes,d8,b_,cH,cV,ba,cQ,bX,cR,b8,gU,cu,fT,eX,cI,gT,gf,gR,bO,oI,cW,oEq,fF,oLt,b3,fO,dn,bB,e7,gc,fP,fQ,f9,c7,c6,cf,ft,gQ,gq,gN,gG,b7,eZ,e8,bR,bU,cJ,f_,c8,gP,gm,eu,fR,aI.trim,du,fL,Wh,Wi,UB,V9,V_,Wd,VN,VU,VO,VM,Wa,VA,VB,wo,VP,VT,Wm,WL,WY,Wf,Wu,WC,WH,WM,Wv,VQ,V6,Xk,W8,↓reduceIte,XC,XI,XQ,reduceCtorEq,We,VJ,Ws,WZ,Wj,WN,nW,qG];exact⟨q,f (VH c)⟩
 rw[uZ];let r:=QF b p k;let w:=QG b p k;rw[show(bK ↑b).filter (λn=>S (n∉p++k))=fw b p k from Y];unfold lI at i;generalize fw b p k=h at r w i ⊢;subst e;calc bc λN e=>?_;simp only[VX,dep,bD,VY,WV,WW,WX,Wg,az,aJ,dN,gb,aq,ae,a,d2,dC,aa,cA,dG,eg,cq,aI.fix,gD,bg,bG,eI,dT,fq,bT,eP,bQ,fD,eO,cZ,gj,cP,c3,c4,dr,aY,gM,bh,bj,dt,cj,dz,b6,bH,cx,eY,bI,bo,fE,eA,gk,bW,c5,fN,bN,aA,fM,passes,d8,b_,cH,cV,ba,cQ,bX,cR,b8,gU,cu,fT,eX,cI,gT,gf,gR,bO,oI,cW,oEq,fF,oLt,b3,fO,dn,bB,e7,gc,fP,fQ,f9,c7,c6,cf,ft,gQ,gq,gN,gG,b7,eZ,e8,bR,bU,cJ,f_,c8,gP,gm,eu,fR,aI.trim,du,fL,Wh,Wi,UB,V9,V_,Wd,VN,VU,VO,VM,Wa,VA,VB,wo,VP,VT,Wm,WL,WY,Wf,Wu,WC,WH,WM,Wv,VQ,V6,Xk,W8,↓reduceIte,XC,XI,XQ,reduceCtorEq,We,VJ,Ws,WZ,Wj,WN,nW,qG]
 calc⟨m,b,h,W,r,⋯,Y,Y,?_⟩;rw[show a9 (lH b h)=.lst ((lH b h).map D.int) from Y];simp only[VX,dep,bD,VY,WV,WW,WX,Wg,az,aJ,dN,gb,aq,ae,a,d2,dC,aa,cA,dG,eg,cq,aI.fix,gD,bg,bG,eI,dT,fq,bT,eP,bQ,fD,eO,cZ,gj,cP,c3,c4,dr,aY,gM,bh,bj,dt,cj,dz,b6,bH,cx,eY,bI,bo,fE,eA,gk,bW,c5,fN,bN,aA,fM,passes,d8,b_,cH,cV,ba,cQ,bX,cR,b8,gU,cu,fT,eX,cI,gT,gf,gR,bO,oI,cW,oEq,fF,oLt,b3,fO,dn,bB,e7,gc,fP,fQ,f9,c7,c6,cf,ft,gQ,gq,gN,gG,b7,eZ,e8,bR,bU,cJ,f_,c8,gP,gm,eu,fR,aI.trim,du,fL,Wh,Wi,UB,V9,V_,Wd,VN,VU,VO,VM,Wa,VA,VB,wo,VP,VT,Wm,WL,WY,Wf,Wu,WC,WH,WM,Wv,VQ,V6,Xk,W8,↓reduceIte,XC,XI,XQ,reduceCtorEq,We,VJ,Ws,WZ,Wj,WN,nW,qG,a9]
 let E:=QH b h;refine L2.j8 (mQ λn=>S (n∈l)) (λd=>d) (by rw[nW];symm) trivial ?_ ?_
 .ext d j o L q f g
  let⟨n,v,rfl⟩:=VI.mp j;erw[mQ] at f g;simp only[VX,dep,bD,VY,WV,WW,WX,Wg,az,aJ,dN,gb,aq,ae,a,d2,dC,aa,cA,dG,eg,cq,aI.fix,gD,bg,bG,eI,dT,fq,bT,eP,bQ,fD,eO,cZ,gj,cP,c3,c4,dr,aY,gM,bh,bj,dt,cj,dz,b6,bH,cx,eY,bI,bo,fE,eA,gk,bW,c5,fN,bN,aA,fM,passes,d8,b_,cH,cV,ba,cQ,bX,cR,b8,gU,cu,fT,eX,cI,gT,gf,gR,bO,oI,cW,oEq,fF,oLt,b3,fO,dn,bB,e7,gc,fP,fQ,f9,c7,c6,cf,ft,gQ,gq,gN,gG,b7,eZ,e8,bR,bU,cJ,f_,c8,gP,gm,eu,fR,aI.trim,du,fL,Wh,Wi,UB,V9,V_,Wd,VN,VU,VO,VM,Wa,VA,VB,wo,VP,VT,Wm,WL,WY,Wf,Wu,WC,WH,WM,Wv,VQ,V6,Xk,W8,↓reduceIte,XC,XI,XQ,reduceCtorEq,We,VJ,Ws,WZ,Wj,WN,nW,qG,a];rw[jj]
  by_cases c:n∈l
  .rw[VH c];simp only[VX,dep,bD,VY,WV,WW,WX,Wg,az,aJ,dN,gb,aq,ae,a,d2,dC,aa,cA,dG,eg,cq,aI.fix,gD,bg,bG,eI,dT,fq,bT,eP,bQ,fD,eO,cZ,gj,cP,c3,c4,dr,aY,gM,bh,bj,dt,cj,dz,b6,bH,cx,eY,bI,bo,fE,eA,gk,bW,c5,fN,bN,aA,fM,passes,d8,b_,cH,cV,ba,cQ,bX,cR,b8,gU,cu,fT,eX,cI,gT,gf,gR,bO,oI,cW,oEq,fF,oLt,b3,fO,dn,bB,e7,gc,fP,fQ,f9,c7,c6,cf,ft,gQ,gq,gN,gG,b7,eZ,e8,bR,bU,cJ,f_,c8,gP,gm,eu,fR,aI.trim,du,fL,Wh,Wi,UB,V9,V_,Wd,VN,VU,VO,VM,Wa,VA,VB,wo,VP,VT,Wm,WL,WY,Wf,Wu,WC,WH,WM,Wv,VQ,V6,Xk,W8,↓reduceIte,XC,XI,XQ,reduceCtorEq,We,VJ,Ws,WZ,Wj,WN,nW,qG];exact⟨q,f (VH c)⟩
  .rw[VD c];simp only[VX,dep,bD,VY,WV,WW,WX,Wg,az,aJ,dN,gb,aq,ae,a,d2,dC,aa,cA,dG,eg,cq,aI.fix,gD,bg,bG,eI,dT,fq,bT,eP,bQ,fD,eO,cZ,gj,cP,c3,c4,dr,aY,gM,bh,bj,dt,cj,dz,b6,bH,cx,eY,bI,bo,fE,eA,gk,bW,c5,fN,bN,aA,fM,passes,d8,b_,cH,cV,ba,cQ,bX,cR,b8,gU,cu,fT,eX,cI,gT,gf,gR,bO,oI,cW,oEq,fF,oLt,b3,fO,dn,bB,e7,gc,fP,fQ,f9,c7,c6,cf,ft,gQ,gq,gN,gG,b7,eZ,e8,bR,bU,cJ,f_,c8,gP,gm,eu,fR,aI.trim,du,fL,Wh,Wi,UB,V9,V_,Wd,VN,VU,VO,VM,Wa,VA,VB,wo,VP,VT,Wm,WL,WY,Wf,Wu,WC,WH,WM,Wv,VQ,V6,Xk,W8,↓reduceIte,XC,XI,XQ,reduceCtorEq,We,VJ,Ws,WZ,Wj,WN,nW,qG];exact g (VD c)
 rw[uZ];subst e;simp only[VX,dep,bD,VY,WV,WW,WX,Wg,az,aJ,dN,gb,aq,ae,a,d2,dC,aa,cA,dG,eg,cq,aI.fix,gD,bg,bG,eI,dT,fq,bT,eP,bQ,fD,eO,cZ,gj,cP,c3,c4,dr,aY,gM,bh,bj,dt,cj,dz,b6,bH,cx,eY,bI,bo,fE,eA,gk,bW,c5,fN,bN,aA,fM,passes,d8,b_,cH,cV,ba,cQ,bX,cR,b8,gU,cu,fT,eX,cI,gT,gf,gR,bO,oI,cW,oEq,fF,oLt,b3,fO,dn,bB,e7,gc,fP,fQ,f9,c7,c6,cf,ft,gQ,gq,gN,gG,b7,eZ,e8,bR,bU,cJ,f_,c8,gP,gm,eu,fR,aI.trim,du,fL,Wh,Wi,UB,V9,V_,Wd,VN,VU,VO,VM,Wa,VA,VB,wo,VP,VT,Wm,WL,WY,Wf,Wu,WC,WH,WM,Wv,VQ,V6,Xk,W8,↓reduceIte,XC,XI,XQ,reduceCtorEq,We,VJ,Ws,WZ,Wj,WN,nW,qG];let F:=W0 (λn=>S (n∈l)) (lH b h);calc⟨by unfold kj;symm,by unfold kj;symm,cK i⟩
inductive zB (ys:-DV) (bF:-OV) (K:RV->-OV->Prop):Prop
 |mk (m:Int) (ws:-Wy) (l:-Int) (_:aH m ws) (_:ys=[.p (a6 m ws),.p (a9 l)]) (_:bF=[]) (_:K (.p (a9 (mM ws l))) [])
def zC:WS:=(aY (cx (bW (aq (d2 (aa 0) (dC (.int 1)) ba) ae)) [η,η,ζ 1] (dz 2 (cj (bj 0) (cj (bj 1) dt))) (bT (dT (d2 (d2 (aa 1) (dC (.int 0)) ba) (aa 2) (dn ι))) (dT (d2 (d2 (aa 1) (dC (.int 1)) ba) (aa 2) (dn ι)))) (aa 0)))
theorem QJ:Sem 2 0 zB zC:=by
 ext w n x-⟨m,a,l,W,rfl,rfl,k⟩;let o:=W.jE;let A:=hU l;unfold zC;simp![a6,eB];refine L2.j8 (oG λi=>S ((aN a i).1∈l)&&S ((aN a i).2.1∈l)) oF (by rw[l0,nW];symm) trivial ?_ ?_
 .ext d p q B r f b
  let⟨z,s⟩:=VL.mp p;let⟨e,g,h⟩:=l3 s;rw[B8] at g;let⟨y,t,rfl⟩:=KJ.mp g;rw[VJ] at h;subst h;let u:aN a (z:Int)=y:=by unfold aN;rw[V8,KH,t];rfl
  erw[oG,oF] at f b;rw[u] at f b;simp![a9,bJ,dw,eB];calc⟨⋯,?_⟩;rw[jj]
  by_cases c:y.1∈l
  .rw[VH c] at f b ⊢
   simp!;calc⟨⋯,?_⟩;rw[jj]
   by_cases j:y.2.1∈l
   .rw[VH j] at f b ⊢;simp!;exact⟨r,f Y⟩
   .rw[VD j] at f b ⊢;simp!;exact b Y
  .rw[VD c] at f b ⊢
   simp!;exact b Y
 .let e:=uH (λi=>S ((aN a i).1∈l)&&S ((aN a i).2.1∈l)) (a.map bJ) 0
  let v:(mM a l).map D.int=((q0Z 0 ↑(a.map bJ)).filter λk:Nat=>S ((aN a (k:Int)).1∈l)&&S ((aN a (k:Int)).2.1∈l)).map λk:Nat=>D.int k:=by
   unfold mM bK;rw[Ye,VW,nW,<-Zi];rfl
  rw[<-v] at e;rw[e];calc cK k
inductive zD (ys:-DV) (bF:-OV) (K:RV->-OV->Prop):Prop
 |mk (m:Int) (ws:-Wy) (N:Nt) (h:Int) (_:aH m ws) (_:dc m ws N) (_:(0<=h/\h<m)) (_:ys=[.p (a6 m ws),.p (gw N.p N.k N.s),.p (.int h)]) (_:bF=[]) (_:K (.p (.tup [oD (fW ws (aZ m ws N.p h)),.int (sh m ws N.p N.k h),gw N.p (oJ m ws N.p N.k h) N.s])) [])
def zE:WS:=(az (aJ 3 (aA 3 sx (aq (aa 0) (aq (d2 (aa 1) (dC (.int 0)) ba) (aq (aa 2) ae))))) (az (aJ 4 (aA 2 uJ (aq (aa 0) (aq (aA 2 uI (aq (aa 0) (aq (aa 3) ae))) ae)))) (az (aJ 5 (cx (bo (aA 2 zB (aq (aa 0) (aq (aa 3) ae)))) [η,ζ 1] (bj 0) (dT (d2 (aa 0) (d2 (aa 1) (dC (.int 0)) ba) (dn θ))) (aa 0))) (az (aJ 6 (bg (aq (d2 (aa 1) (dC (.int 0)) ba) (aq (aA 1 sy (aq (d2 (dN (aq (d2 (aa 1) (dC (.int 1)) ba) ae) e7) (aa 5) bX) ae)) (aq (d2 (aa 1) (dC (.int 2)) ba) ae))))) (aY (bg (aq (aa 4) (aq (aA 3 zz (aq (aa 0) (aq (aa 1) (aq (aa 3) ae)))) (aq (aa 6) ae)))))))))
theorem QK:Sem 3 4 zD zE:=by
 ext G q H-⟨m,a,N,h,W,O,r,rfl,rfl,k⟩;let g:=W.jE;let t:=O.pl W;let u:=O.kl W;let v:=pP W (p:=N.p) (h:=h);let w:=hU N.p
 let y:↑(mM a (aZ m a N.p h))<=↑a:=by
  let:=W0 (λn=>S ((aN a n).1∈aZ m a N.p h)&&S ((aN a n).2.1∈aZ m a N.p h)) (bK ↑a);rw[k7] at this;exact this
 let I:↑(jQ a (aZ m a N.p h) N.p)<=↑a:=Wr (W0 _ _) y
 let B:∀x∈N.k++jQ a (aZ m a N.p h) N.p,0<=x/\x<(↑a:Int):=λx A=>by
  rcases VZ.mp A with z|z
  .exact O.kn x z
  .exact (fX.mp z).1.1
 unfold zE;calc bc λM f=>?_;simp![gw,dw];calc⟨m,a,N.p,h,W,O.pn,r,Y,Y,?_⟩;simp!;subst f;calc bc λM f=>?_;simp!;calc⟨m,a,aZ m a N.p h,W,Y,Y,?_⟩;simp!
 let j:∀d,d=oD (fW a (aZ m a N.p h))->M ⟨[ζ (.p (a6 m a)),ζ (.p (.tup [tupI N.p,tupI N.k,tupI N.s])),ζ (.p (.int h)),ζ (.p (a9 (aZ m a N.p h))),ζ (.p d),η,η],[]⟩:=by
  ext d rfl;subst f;calc bc λM f=>?_;simp!;calc⟨m,a,aZ m a N.p h,W,Y,Y,?_⟩;rw[show a9 (mM a (aZ m a N.p h))=.lst ((mM a (aZ m a N.p h)).map D.int) from Y];simp!;refine L2.j8 (mQ λn=>S (n∉N.p)) (λd=>d) (by rw[nW];symm) trivial ?_ ?_
  .ext d C E L F l o
   let⟨n,i,rfl⟩:=VI.mp C;erw[mQ] at l o;simp![dw,tupI,w];rw[jj]
   by_cases c:n∈N.p
   .rw[VH c];simp!;exact o (VD (q07 c))
   .rw[VD c];simp!;exact⟨F,l (VH c)⟩
  rw[uZ,show(mM a (aZ m a N.p h)).filter (λn=>S (n∉N.p))=jQ a (aZ m a N.p h) N.p from Y];subst f;calc bc λM f=>?_;simp![dw,eB,at2,tupI];calc⟨⋯,?_⟩;rw[<-VR];calc⟨ι,N.k++jQ a (aZ m a N.p h) N.p,uO B g,Y,Y,?_⟩;simp!;subst f;simp!;calc⟨m,a,N.p,N.k,N.s,aZ m a N.p h,W,t,u,v,Y,Y,?_⟩;simp!;exact cK k
 refine⟨m,a,dI a (aZ m a N.p h),W,pL,Y,Y,λe=>?_,λn i b=>?_⟩
 .refine j _ ?_
  unfold fW;rw[VE e];rfl
 .refine j _ ?_
  unfold fW;rw[VC (q2x i),yL W pL i b];rfl
inductive zF (ys:-DV) (bF:-OV) (K:RV->-OV->Prop):Prop
 |mk (m:Int) (ws:-Wy) (N:Nt) (w:Int) (_:aH m ws) (_:dc m ws N) (_:(0<=w/\w<(↑ws:Int))) (_:ys=[.p (a6 m ws),.p (gw N.p N.k N.s),.p (.int w)]) (_:bF=[]) (_:K (.p (.tup [.int w,.int (1+yT m ws N.p w),gw (gv (N.p++[w])) N.k N.s])) [])
def zG:WS:=(az (aJ 3 (cx (bo (aA 2 uN (aq (aa 0) (aq (bG (aq (aa 2) ae)) ae)))) [η,ζ 0,ζ 1] (bj 0) bI (dN (aq (aA 3 sx (aq (aa 1) (aq (d2 (aa 2) (dC (.int 0)) ba) (aq (aa 0) ae)))) ae) bB))) (aY (bg (aq (aa 2) (aq (d2 (dC (.int 1)) (dN (aq (aa 3) ae) pO) bX) (aq (bg (aq (aA 1 sy (aq (d2 (d2 (aa 1) (dC (.int 0)) ba) (bg (aq (aa 2) ae)) bX) ae)) (aq (d2 (aa 1) (dC (.int 1)) ba) (aq (d2 (aa 1) (dC (.int 2)) ba) ae)))) ae))))))
theorem E6{a b x:Int}(h:x∈[a,b])(c:∀y∈[a,b],x<=y):x=min a b:=by
 let d:=c a (by simp);let e:=c b (by simp);erw[Uy,Wx,YC] at h;symm
theorem QL:Sem 3 1 zF zG:=by
 ext B j C-⟨m,a,N,w,W,O,e,rfl,rfl,k⟩;let f:=W.jE;let D:=O.pl W;let⟨l,o⟩:=yW W e
 let q:∀x∈N.p++[w],0<=x/\x<(↑a:Int):=λx g=>by
  rcases VZ.mp g with z|z
  .exact O.pn x z
  .rw[Wn.mp z];exact e
 unfold zG;calc bc λM r=>?_;simp!;calc⟨m,a,[w],W,λn s=>by rw[Wn.mp s];calc e,by show 1<=400;decide,Y,Y,?_⟩;rw[show a9 (lH a [w])=.lst [.int (aN a w).1,.int (aN a w).2.1] from Y];simp!
 refine L2.j9 (λd=>match d with|.int x=>.int (↑(aZ m a N.p x):Int)|_=>.non) (by show 2<=1000;decide) trivial ?_ ?_
 .ext d i t L u h
  let⟨x,v,rfl⟩:∃x:Int,(0<=x/\x<m)/\d=.int x:=by
   erw[Uy,Wx,YC] at i;rcases i with rfl|rfl
   .exact⟨_,l,Y⟩
   .exact⟨_,o,Y⟩
  simp![gw,dw];calc⟨m,a,N.p,x,W,O.pn,v,Y,Y,?_⟩;simp![a9];exact⟨u,h⟩
 simp!;subst r;unfold aY bg;calc pG λy c=>?_;simp!;subst c;dsimp only;calc pG λy c=>?_;simp![pO,intsOf];calc⟨by simp,λx g b=>?_⟩;let A:=E6 g b;subst c;simp![gw,dw,eB,at2,tupI];refine⟨⋯,θ,N.p++[w],uO q f,?_,Y,?_⟩
 .unfold zx tupI
  rw[VR];rfl
 simp!;calc cK ?_;rw[A];calc k
inductive zH (ys:-DV) (bF:-OV) (K:RV->-OV->Prop):Prop
 |mk (m:Int) (ws:-Wy) (N:Nt) (h:Int) (_:aH m ws) (_:dc m ws N) (_:(0<=h/\h<m)) (_:ys=[.p (a6 m ws),.p (gw N.p N.k N.s),.p (.int h)]) (_:bF=[]) (_:K (.p (.tup [.non,.int ((↑(aZ m ws N.p h):Int)-1),gw N.p N.k (gv (N.s++aZ m ws N.p h))])) [])
def zI:WS:=(az (aJ 3 (aA 3 sx (aq (aa 0) (aq (d2 (aa 1) (dC (.int 0)) ba) (aq (aa 2) ae))))) (aY (bg (aq (dC .non) (aq (d2 (dN (aq (aa 3) ae) bB) (dC (.int 1)) (oI λi j=>.int (i-j))) (aq (bg (aq (d2 (aa 1) (dC (.int 0)) ba) (aq (d2 (aa 1) (dC (.int 1)) ba) (aq (aA 1 sy (aq (d2 (dN (aq (d2 (aa 1) (dC (.int 2)) ba) ae) e7) (aa 3) bX) ae)) ae)))) ae))))))
theorem QM:Sem 3 1 zH zI:=by
 ext i b j-⟨m,a,N,h,W,O,c,rfl,rfl,k⟩;let d:=W.iA;let l:=O.sl W;let n:=pP W (p:=N.p) (h:=h)
 let f:∀x∈N.s++aZ m a N.p h,0<=x/\x<((m.toNat:Nat):Int):=λx e=>by
  rcases VZ.mp e with z|z
  .let:=O.sn x z;symm
  .let:=((jB W).mp z).1;symm
 unfold zI;calc bc λM g=>?_;simp![gw,dw];calc⟨m,a,N.p,h,W,O.pn,c,Y,Y,?_⟩;rw[show a9 (aZ m a N.p h)=.lst ((aZ m a N.p h).map D.int) from Y];simp!;subst g;simp![dw,eB,at2,tupI];calc⟨⋯,?_⟩;rw[<-VR];calc⟨ι,N.s++aZ m a N.p h,uO f ⋯,Y,Y,?_⟩;simp!;calc cK k
inductive zJ (ys:-DV) (bF:-OV) (K:RV->-OV->Prop):Prop
 |mk (m:Int) (ws:-Wy) (N:Nt) (fo:Option Int) (h:Int) (_:aH m ws) (_:dc m ws N) (_:(0<=h/\h<m)) (_:(∀w,fo=ζ w->0<=w/\w<(↑ws:Int))) (_:ys=[.p (a6 m ws),.p (gw N.p N.k N.s),.p (.int h),.p (oD fo)]) (_:bF=[]) (_:K (.p (.tup [oD (lJ m ws N fo h).1,.int (lJ m ws N fo h).2,gw (dA m ws N fo h).p (dA m ws N fo h).k (dA m ws N fo h).s])) [])
def zK:WS:=(az (bh (bT (dT (d2 (aa 3) (dC .non) cu)) (dT (d2 (aa 2) (d2 (aa 1) (dC (.int 2)) ba) (dn θ)))) (aY (aA 3 zH (aq (aa 0) (aq (aa 1) (aq (aa 2) ae))))) cP) (az (bh (bT (dT (d2 (aa 3) (dC .non) fT)) (dT (d2 (aa 3) (d2 (aa 1) (dC (.int 0)) ba) (dn θ)))) (aY (aA 3 zF (aq (aa 0) (aq (aa 1) (aq (aa 3) ae))))) cP) (aY (bg (aq (dC .non) (aq (dC (.int 0)) (aq (aa 1) ae)))))))
theorem QN:Sem 4 0 zJ zK:=by
 ext r i t-⟨m,f,N,j,h,W,O,l,n,rfl,rfl,k⟩;let o:=hU N.s;let a:=hU N.p;unfold zK;unfold lJ dA at k;calc bc λM b=>?_;refine iD λA B q g=>?_
 cases j with
 |none =>
  simp only[VX,dep,bD,VY,WV,WW,WX,Wg,az,aJ,dN,gb,aq,ae,a,d2,dC,aa,cA,dG,eg,cq,aI.fix,gD,bg,bG,eI,dT,fq,bT,eP,bQ,fD,eO,cZ,gj,cP,c3,c4,dr,aY,gM,bh,bj,dt,cj,dz,b6,bH,cx,eY,bI,bo,fE,eA,gk,bW,c5,fN,bN,aA,fM,passes,d8,b_,cH,cV,ba,cQ,bX,cR,b8,gU,cu,fT,eX,cI,gT,gf,gR,bO,oI,cW,oEq,fF,oLt,b3,fO,dn,bB,e7,gc,fP,fQ,f9,c7,c6,cf,ft,gQ,gq,gN,gG,b7,eZ,e8,bR,bU,cJ,f_,c8,gP,gm,eu,fR,aI.trim,du,fL,Wh,Wi,UB,V9,V_,Wd,VN,VU,VO,VM,Wa,VA,VB,wo,VP,VT,Wm,WL,WY,Wf,Wu,WC,WH,WM,Wv,VQ,V6,Xk,W8,↓reduceIte,XC,XI,XQ,reduceCtorEq,We,VJ,Ws,WZ,Wj,WN,nW,qG,oD,b3,gw,at2,tupI,o];rw[jj];dsimp only at k
  by_cases c:h∈N.s
  .rw[VH c]
   rw[VE c,VE c] at k;simp only[VX,dep,bD,VY,WV,WW,WX,Wg,az,aJ,dN,gb,aq,ae,a,d2,dC,aa,cA,dG,eg,cq,aI.fix,gD,bg,bG,eI,dT,fq,bT,eP,bQ,fD,eO,cZ,gj,cP,c3,c4,dr,aY,gM,bh,bj,dt,cj,dz,b6,bH,cx,eY,bI,bo,fE,eA,gk,bW,c5,fN,bN,aA,fM,passes,d8,b_,cH,cV,ba,cQ,bX,cR,b8,gU,cu,fT,eX,cI,gT,gf,gR,bO,oI,cW,oEq,fF,oLt,b3,fO,dn,bB,e7,gc,fP,fQ,f9,c7,c6,cf,ft,gQ,gq,gN,gG,b7,eZ,e8,bR,bU,cJ,f_,c8,gP,gm,eu,fR,aI.trim,du,fL,Wh,Wi,UB,V9,V_,Wd,VN,VU,VO,VM,Wa,VA,VB,wo,VP,VT,Wm,WL,WY,Wf,Wu,WC,WH,WM,Wv,VQ,V6,Xk,W8,↓reduceIte,XC,XI,XQ,reduceCtorEq,We,VJ,Ws,WZ,Wj,WN,nW,qG];subst g;show M _;subst b;simp only[VX,dep,bD,VY,WV,WW,WX,Wg,az,aJ,dN,gb,aq,ae,a,d2,dC,aa,cA,dG,eg,cq,aI.fix,gD,bg,bG,eI,dT,fq,bT,eP,bQ,fD,eO,cZ,gj,cP,c3,c4,dr,aY,gM,bh,bj,dt,cj,dz,b6,bH,cx,eY,bI,bo,fE,eA,gk,bW,c5,fN,bN,aA,fM,passes,d8,b_,cH,cV,ba,cQ,bX,cR,b8,gU,cu,fT,eX,cI,gT,gf,gR,bO,oI,cW,oEq,fF,oLt,b3,fO,dn,bB,e7,gc,fP,fQ,f9,c7,c6,cf,ft,gQ,gq,gN,gG,b7,eZ,e8,bR,bU,cJ,f_,c8,gP,gm,eu,fR,aI.trim,du,fL,Wh,Wi,UB,V9,V_,Wd,VN,VU,VO,VM,Wa,VA,VB,wo,VP,VT,Wm,WL,WY,Wf,Wu,WC,WH,WM,Wv,VQ,V6,Xk,W8,↓reduceIte,XC,XI,XQ,reduceCtorEq,We,VJ,Ws,WZ,Wj,WN,nW,qG,b3,fO]
   exact cK k
  .rw[VD c]
   rw[VC c,VC c] at k;simp only[VX,dep,bD,VY,WV,WW,WX,Wg,az,aJ,dN,gb,aq,ae,a,d2,dC,aa,cA,dG,eg,cq,aI.fix,gD,bg,bG,eI,dT,fq,bT,eP,bQ,fD,eO,cZ,gj,cP,c3,c4,dr,aY,gM,bh,bj,dt,cj,dz,b6,bH,cx,eY,bI,bo,fE,eA,gk,bW,c5,fN,bN,aA,fM,passes,d8,b_,cH,cV,ba,cQ,bX,cR,b8,gU,cu,fT,eX,cI,gT,gf,gR,bO,oI,cW,oEq,fF,oLt,b3,fO,dn,bB,e7,gc,fP,fQ,f9,c7,c6,cf,ft,gQ,gq,gN,gG,b7,eZ,e8,bR,bU,cJ,f_,c8,gP,gm,eu,fR,aI.trim,du,fL,Wh,Wi,UB,V9,V_,Wd,VN,VU,VO,VM,Wa,VA,VB,wo,VP,VT,Wm,WL,WY,Wf,Wu,WC,WH,WM,Wv,VQ,V6,Xk,W8,↓reduceIte,XC,XI,XQ,reduceCtorEq,We,VJ,Ws,WZ,Wj,WN,nW,qG];subst q;simp only[VX,dep,bD,VY,WV,WW,WX,Wg,az,aJ,dN,gb,aq,ae,a,d2,dC,aa,cA,dG,eg,cq,aI.fix,gD,bg,bG,eI,dT,fq,bT,eP,bQ,fD,eO,cZ,gj,cP,c3,c4,dr,aY,gM,bh,bj,dt,cj,dz,b6,bH,cx,eY,bI,bo,fE,eA,gk,bW,c5,fN,bN,aA,fM,passes,d8,b_,cH,cV,ba,cQ,bX,cR,b8,gU,cu,fT,eX,cI,gT,gf,gR,bO,oI,cW,oEq,fF,oLt,b3,fO,dn,bB,e7,gc,fP,fQ,f9,c7,c6,cf,ft,gQ,gq,gN,gG,b7,eZ,e8,bR,bU,cJ,f_,c8,gP,gm,eu,fR,aI.trim,du,fL,Wh,Wi,UB,V9,V_,Wd,VN,VU,VO,VM,Wa,VA,VB,wo,VP,VT,Wm,WL,WY,Wf,Wu,WC,WH,WM,Wv,VQ,V6,Xk,W8,↓reduceIte,XC,XI,XQ,reduceCtorEq,We,VJ,Ws,WZ,Wj,WN,nW,qG]
   calc⟨m,f,N,h,W,O,l,Y,Y,?_⟩;simp only[VX,dep,bD,VY,WV,WW,WX,Wg,az,aJ,dN,gb,aq,ae,a,d2,dC,aa,cA,dG,eg,cq,aI.fix,gD,bg,bG,eI,dT,fq,bT,eP,bQ,fD,eO,cZ,gj,cP,c3,c4,dr,aY,gM,bh,bj,dt,cj,dz,b6,bH,cx,eY,bI,bo,fE,eA,gk,bW,c5,fN,bN,aA,fM,passes,d8,b_,cH,cV,ba,cQ,bX,cR,b8,gU,cu,fT,eX,cI,gT,gf,gR,bO,oI,cW,oEq,fF,oLt,b3,fO,dn,bB,e7,gc,fP,fQ,f9,c7,c6,cf,ft,gQ,gq,gN,gG,b7,eZ,e8,bR,bU,cJ,f_,c8,gP,gm,eu,fR,aI.trim,du,fL,Wh,Wi,UB,V9,V_,Wd,VN,VU,VO,VM,Wa,VA,VB,wo,VP,VT,Wm,WL,WY,Wf,Wu,WC,WH,WM,Wv,VQ,V6,Xk,W8,↓reduceIte,XC,XI,XQ,reduceCtorEq,We,VJ,Ws,WZ,Wj,WN,nW,qG];exact cK k
 |some w =>
  simp only[VX,dep,bD,VY,WV,WW,WX,Wg,az,aJ,dN,gb,aq,ae,a,d2,dC,aa,cA,dG,eg,cq,aI.fix,gD,bg,bG,eI,dT,fq,bT,eP,bQ,fD,eO,cZ,gj,cP,c3,c4,dr,aY,gM,bh,bj,dt,cj,dz,b6,bH,cx,eY,bI,bo,fE,eA,gk,bW,c5,fN,bN,aA,fM,passes,d8,b_,cH,cV,ba,cQ,bX,cR,b8,gU,cu,fT,eX,cI,gT,gf,gR,bO,oI,cW,oEq,fF,oLt,b3,fO,dn,bB,e7,gc,fP,fQ,f9,c7,c6,cf,ft,gQ,gq,gN,gG,b7,eZ,e8,bR,bU,cJ,f_,c8,gP,gm,eu,fR,aI.trim,du,fL,Wh,Wi,UB,V9,V_,Wd,VN,VU,VO,VM,Wa,VA,VB,wo,VP,VT,Wm,WL,WY,Wf,Wu,WC,WH,WM,Wv,VQ,V6,Xk,W8,↓reduceIte,XC,XI,XQ,reduceCtorEq,We,VJ,Ws,WZ,Wj,WN,nW,qG,oD,b3];dsimp only at k;subst g;show M _;subst b;calc bc λM b=>?_;refine iD λu v d e=>?_
  simp only[VX,dep,bD,VY,WV,WW,WX,Wg,az,aJ,dN,gb,aq,ae,a,d2,dC,aa,cA,dG,eg,cq,aI.fix,gD,bg,bG,eI,dT,fq,bT,eP,bQ,fD,eO,cZ,gj,cP,c3,c4,dr,aY,gM,bh,bj,dt,cj,dz,b6,bH,cx,eY,bI,bo,fE,eA,gk,bW,c5,fN,bN,aA,fM,passes,d8,b_,cH,cV,ba,cQ,bX,cR,b8,gU,cu,fT,eX,cI,gT,gf,gR,bO,oI,cW,oEq,fF,oLt,b3,fO,dn,bB,e7,gc,fP,fQ,f9,c7,c6,cf,ft,gQ,gq,gN,gG,b7,eZ,e8,bR,bU,cJ,f_,c8,gP,gm,eu,fR,aI.trim,du,fL,Wh,Wi,UB,V9,V_,Wd,VN,VU,VO,VM,Wa,VA,VB,wo,VP,VT,Wm,WL,WY,Wf,Wu,WC,WH,WM,Wv,VQ,V6,Xk,W8,↓reduceIte,XC,XI,XQ,reduceCtorEq,We,VJ,Ws,WZ,Wj,WN,nW,qG,fO,gw,dw,tupI,a];rw[jj]
  by_cases c:w∈N.p
  .rw[VH c]
   rw[VE c,VE c] at k;simp only[VX,dep,bD,VY,WV,WW,WX,Wg,az,aJ,dN,gb,aq,ae,a,d2,dC,aa,cA,dG,eg,cq,aI.fix,gD,bg,bG,eI,dT,fq,bT,eP,bQ,fD,eO,cZ,gj,cP,c3,c4,dr,aY,gM,bh,bj,dt,cj,dz,b6,bH,cx,eY,bI,bo,fE,eA,gk,bW,c5,fN,bN,aA,fM,passes,d8,b_,cH,cV,ba,cQ,bX,cR,b8,gU,cu,fT,eX,cI,gT,gf,gR,bO,oI,cW,oEq,fF,oLt,b3,fO,dn,bB,e7,gc,fP,fQ,f9,c7,c6,cf,ft,gQ,gq,gN,gG,b7,eZ,e8,bR,bU,cJ,f_,c8,gP,gm,eu,fR,aI.trim,du,fL,Wh,Wi,UB,V9,V_,Wd,VN,VU,VO,VM,Wa,VA,VB,wo,VP,VT,Wm,WL,WY,Wf,Wu,WC,WH,WM,Wv,VQ,V6,Xk,W8,↓reduceIte,XC,XI,XQ,reduceCtorEq,We,VJ,Ws,WZ,Wj,WN,nW,qG];subst e;show M _;subst b;simp only[VX,dep,bD,VY,WV,WW,WX,Wg,az,aJ,dN,gb,aq,ae,a,d2,dC,aa,cA,dG,eg,cq,aI.fix,gD,bg,bG,eI,dT,fq,bT,eP,bQ,fD,eO,cZ,gj,cP,c3,c4,dr,aY,gM,bh,bj,dt,cj,dz,b6,bH,cx,eY,bI,bo,fE,eA,gk,bW,c5,fN,bN,aA,fM,passes,d8,b_,cH,cV,ba,cQ,bX,cR,b8,gU,cu,fT,eX,cI,gT,gf,gR,bO,oI,cW,oEq,fF,oLt,b3,fO,dn,bB,e7,gc,fP,fQ,f9,c7,c6,cf,ft,gQ,gq,gN,gG,b7,eZ,e8,bR,bU,cJ,f_,c8,gP,gm,eu,fR,aI.trim,du,fL,Wh,Wi,UB,V9,V_,Wd,VN,VU,VO,VM,Wa,VA,VB,wo,VP,VT,Wm,WL,WY,Wf,Wu,WC,WH,WM,Wv,VQ,V6,Xk,W8,↓reduceIte,XC,XI,XQ,reduceCtorEq,We,VJ,Ws,WZ,Wj,WN,nW,qG]
   exact cK k
  .rw[VD c]
   rw[VC c,VC c] at k;simp only[VX,dep,bD,VY,WV,WW,WX,Wg,az,aJ,dN,gb,aq,ae,a,d2,dC,aa,cA,dG,eg,cq,aI.fix,gD,bg,bG,eI,dT,fq,bT,eP,bQ,fD,eO,cZ,gj,cP,c3,c4,dr,aY,gM,bh,bj,dt,cj,dz,b6,bH,cx,eY,bI,bo,fE,eA,gk,bW,c5,fN,bN,aA,fM,passes,d8,b_,cH,cV,ba,cQ,bX,cR,b8,gU,cu,fT,eX,cI,gT,gf,gR,bO,oI,cW,oEq,fF,oLt,b3,fO,dn,bB,e7,gc,fP,fQ,f9,c7,c6,cf,ft,gQ,gq,gN,gG,b7,eZ,e8,bR,bU,cJ,f_,c8,gP,gm,eu,fR,aI.trim,du,fL,Wh,Wi,UB,V9,V_,Wd,VN,VU,VO,VM,Wa,VA,VB,wo,VP,VT,Wm,WL,WY,Wf,Wu,WC,WH,WM,Wv,VQ,V6,Xk,W8,↓reduceIte,XC,XI,XQ,reduceCtorEq,We,VJ,Ws,WZ,Wj,WN,nW,qG];subst d;simp only[VX,dep,bD,VY,WV,WW,WX,Wg,az,aJ,dN,gb,aq,ae,a,d2,dC,aa,cA,dG,eg,cq,aI.fix,gD,bg,bG,eI,dT,fq,bT,eP,bQ,fD,eO,cZ,gj,cP,c3,c4,dr,aY,gM,bh,bj,dt,cj,dz,b6,bH,cx,eY,bI,bo,fE,eA,gk,bW,c5,fN,bN,aA,fM,passes,d8,b_,cH,cV,ba,cQ,bX,cR,b8,gU,cu,fT,eX,cI,gT,gf,gR,bO,oI,cW,oEq,fF,oLt,b3,fO,dn,bB,e7,gc,fP,fQ,f9,c7,c6,cf,ft,gQ,gq,gN,gG,b7,eZ,e8,bR,bU,cJ,f_,c8,gP,gm,eu,fR,aI.trim,du,fL,Wh,Wi,UB,V9,V_,Wd,VN,VU,VO,VM,Wa,VA,VB,wo,VP,VT,Wm,WL,WY,Wf,Wu,WC,WH,WM,Wv,VQ,V6,Xk,W8,↓reduceIte,XC,XI,XQ,reduceCtorEq,We,VJ,Ws,WZ,Wj,WN,nW,qG]
   calc⟨m,f,N,w,W,O,n w Y,Y,Y,?_⟩;simp only[VX,dep,bD,VY,WV,WW,WX,Wg,az,aJ,dN,gb,aq,ae,a,d2,dC,aa,cA,dG,eg,cq,aI.fix,gD,bg,bG,eI,dT,fq,bT,eP,bQ,fD,eO,cZ,gj,cP,c3,c4,dr,aY,gM,bh,bj,dt,cj,dz,b6,bH,cx,eY,bI,bo,fE,eA,gk,bW,c5,fN,bN,aA,fM,passes,d8,b_,cH,cV,ba,cQ,bX,cR,b8,gU,cu,fT,eX,cI,gT,gf,gR,bO,oI,cW,oEq,fF,oLt,b3,fO,dn,bB,e7,gc,fP,fQ,f9,c7,c6,cf,ft,gQ,gq,gN,gG,b7,eZ,e8,bR,bU,cJ,f_,c8,gP,gm,eu,fR,aI.trim,du,fL,Wh,Wi,UB,V9,V_,Wd,VN,VU,VO,VM,Wa,VA,VB,wo,VP,VT,Wm,WL,WY,Wf,Wu,WC,WH,WM,Wv,VQ,V6,Xk,W8,↓reduceIte,XC,XI,XQ,reduceCtorEq,We,VJ,Ws,WZ,Wj,WN,nW,qG];calc cK k
noncomputable def nO(C a b:U)(m:Int)(ws:-Wy)(N:Nt):OV:=.ins a C [("town",.p (a6 m ws)),("latest",.p (gw N.p N.k N.s)),("begun",.p (.int (↑N.q:Int))),("going",.w b)]
noncomputable def gO(b:U)(N:Nt):OV:=.ac b (cN 0 N.q)
def sA(C:U):GK:=λe c K=>∃(a:U)(m:Int)(d:-Wy),aH m d/\e=[.w a,.p (a6 m d)]/\c=[.ins a C []]/\∀b,K (.p .non) [nO C a b m d cg] [gO b cg]
def zL(c_Night:U):WS:=(az (dr (aA 1 uz (aq (aa 1) ae))) (az (aE c_Night "town" (aa 1) (aa 0)) (az (aE c_Night "latest" (dC (.tup [(.tup []),(.tup []),(.tup [])])) (aa 0)) (az (aE c_Night "begun" (dC (.int 0)) (aa 0)) (aE c_Night "going" aL (aa 0))))))
theorem QO(C:U):∀ys c e,↑ys=2->sA C ys c e->zL C (af ↑c e) ⟨ys.map ζ++VG 0 η,c.map ζ⟩:=by
 ext g c e-⟨a,m,f,W,rfl,rfl,k⟩;unfold zL;calc bc λN d=>?_;simp![ag,ah,aE,toF,aB,aD,aF,ai,aG,FV.v,af,dV,kb];calc⟨m,f,W,Y,Y,?_⟩;simp![ag,ah,aE,toF,aB,aD,aF,ai,aG,FV.v,af,dV,kb];subst d;calc bc λN d=>?_;simp![ag,ah,aE,toF,aB,aD,aF,ai,aG,FV.v,af,dV,kb];calc⟨a,0,_,⟨Y,Y,by decide⟩,?_⟩;subst d;calc bc λN d=>?_;simp![ag,ah,aE,toF,aB,aD,aF,ai,aG,FV.v,af,dV,kb];calc⟨a,0,_,⟨Y,Y,by show 1<1000;decide⟩,?_⟩;subst d;calc bc λN d=>?_;simp![ag,ah,aE,toF,aB,aD,aF,ai,aG,FV.v,af,dV,kb];refine⟨a,0,_,⟨Y,Y,by show 2<1000;decide⟩,?_⟩
 subst d;simp![0];ext b;calc⟨a,0,_,⟨Y,Y,by show 3<1000;decide⟩,?_⟩;calc⟨_,[gO b cg],[],Y,Y,k b⟩
def sC(C:U):GK:=λe d K=>∃(a b:U)(m:Int)(c:-Wy)(N:Nt)(h:Int),aH m c/\dc m c N/\(0<=h/\h<m)/\↑N.q<900/\e=[.w a,.p (.int h)]/\d=[nO C a b m c N,gO b N]/\K (.p (jR (N.tell m c (.wake h)))) [nO C a b m c (N.step m c (.wake h)),gO b (N.step m c (.wake h))] []
def zM(c_Night:U):WS:=(az (bh (bQ (dT (aA 3 nv (aq (aa 1) (aq (dC (.int 0)) (aq (d2 (d2 (ag c_Night "town" (aa 0)) (dC (.int 0)) ba) (dC (.int 1)) (oI λi j=>.int (i-j))) ae)))))) eX cP) (az (aJ 2 (ag c_Night "begun" (aa 0))) (az (aE c_Night "begun" (d2 (aa 2) (dC (.int 1)) bX) (aa 0)) (az (bh (dT (d2 (aa 1) (d2 (ag c_Night "latest" (aa 0)) (dC (.int 2)) ba) (dn ι))) (aY (bg (aq (dC .non) (aq (dC (.int 0)) ae)))) cP) (az (aJ 3 (aA 3 zD (aq (ag c_Night "town" (aa 0)) (aq (ag c_Night "latest" (aa 0)) (aq (aa 1) ae))))) (az (aM (bg (aq (aa 1) (aq (d2 (aa 3) (dC (.int 0)) ba) ae))) (ah (ag c_Night "going" (aa 0))) (aa 2)) (az (aE c_Night "latest" (d2 (aa 3) (dC (.int 2)) ba) (aa 0)) (aY (bg (aq (dC .non) (aq (d2 (aa 3) (dC (.int 1)) ba) ae)))))))))))
theorem QP(C:U):∀ys e g,↑ys=2->sC C ys e g->zM C (af ↑e g) ⟨ys.map ζ++VG 2 η,e.map ζ⟩:=by
 ext r e g-⟨a,b,m,f,N,h,W,O,j,t,rfl,rfl,k⟩;let l:=hU N.s;let u:=zd (i:=0) (q:=N.q);unfold zM;calc bc λM d=>?_;simp![ag,ah,aE,toF,aB,aD,aF,ai,aG,FV.v,af,dV,kb];calc⟨a,0,_,.p (a6 m f),⟨Y,Y,Y⟩,?_⟩;simp![ag,ah,aE,toF,aB,aD,aF,ai,aG,FV.v,af,dV,kb,a6,dw];calc⟨.int h,0,m-1,Y,Y,?_⟩;simp![ag,ah,aE,toF,aB,aD,aF,ai,aG,FV.v,af,dV,kb];rw[rL j.1 ⋯];simp![ag,ah,aE,toF,aB,aD,aF,ai,aG,FV.v,af,dV,kb];subst d;calc bc λM d=>?_;simp![ag,ah,aE,toF,aB,aD,aF,ai,aG,FV.v,af,dV,kb];calc⟨a,0,_,.p (.int (↑N.q:Int)),⟨Y,Y,Y⟩,?_⟩;subst d
 calc bc λM d=>?_;simp![ag,ah,aE,toF,aB,aD,aF,ai,aG,FV.v,af,dV,kb];calc⟨a,0,_,⟨Y,Y,by show 4<1000;decide⟩,?_⟩;subst d;calc bc λM d=>?_;calc iD λA B n o=>?_;simp![ag,ah,aE,toF,aB,aD,aF,ai,aG,FV.v,af,dV,kb];calc⟨a,0,_,.p (gw N.p N.k N.s),⟨Y,Y,Y⟩,?_⟩;simp![ag,ah,aE,toF,aB,aD,aF,ai,aG,FV.v,af,dV,kb,gw,at2,tupI,l];rw[jj];unfold Nt.tell Nt.step at k;dsimp only at k
 by_cases c:h∈N.s
 .rw[VH c]
  rw[VE c,VE c] at k;simp![ag,ah,aE,toF,aB,aD,aF,ai,aG,FV.v,af,dV,kb];subst n;simp![ag,ah,aE,toF,aB,aD,aF,ai,aG,FV.v,af,dV,kb];calc⟨[_,_],[],[],Y,Y,?_⟩;unfold nO gO at k;dsimp only at k;rw[zb,qG] at k;exact k
 .rw[VD c]
  rw[VC c,VC c] at k;simp![ag,ah,aE,toF,aB,aD,aF,ai,aG,FV.v,af,dV,kb];subst o;show M _;subst d;calc bc λM d=>?_;simp![ag,ah,aE,toF,aB,aD,aF,ai,aG,FV.v,af,dV,kb];calc⟨a,0,_,.p (a6 m f),⟨Y,Y,Y⟩,a,0,_,.p (gw N.p N.k N.s),⟨Y,Y,Y⟩,?_⟩;simp![ag,ah,aE,toF,aB,aD,aF,ai,aG,FV.v,af,dV,kb];calc⟨m,f,N,h,W,O,j,Y,Y,?_⟩;simp![ag,ah,aE,toF,aB,aD,aF,ai,aG,FV.v,af,dV,kb];subst d;calc bc λM d=>?_;simp![0,dw];refine⟨a,0,_,.w b,⟨Y,Y,Y⟩,b,1,gO b N,⟨Y,Y,Y⟩,?_⟩
  simp![0,gO];calc⟨⋯,?_⟩;rw[show D.tup [.int h,oD (fW f (aZ m f N.p h))]=l8 (fW f (aZ m f N.p h),h) from Y,Qd];subst d;calc bc λM d=>?_;simp![ag,ah,aE,toF,aB,aD,aF,ai,aG,FV.v,af,dV,kb,at2];calc⟨a,0,_,⟨Y,Y,by show 4<1000;decide⟩,?_⟩;subst d;simp![ag,ah,aE,toF,aB,aD,aF,ai,aG,FV.v,af,dV,kb,eB];calc⟨[_,_],[],[],Y,Y,?_⟩;unfold nO gO at k;dsimp only at k;rw[qG] at k;calc k
def pR(C:U):GK:=λe d K=>∃(a b:U)(m:Int)(c:-Wy)(N:Nt)(i:Nat),aH m c/\dc m c N/\gW m N (.fin i)/\e=[.w a,.p (.int (i:Int))]/\d=[nO C a b m c N,gO b N]/\K (.p (jR (N.tell m c (.fin i)))) [nO C a b m c (N.step m c (.fin i)),gO b (N.step m c (.fin i))] []
def zN(c_Night:U):WS:=(az (bh (eP (bQ (dT (aA 1 ui (aq (aa 1) ae)))) (dT (au θ (aa 1) (ah (ag c_Night "going" (aa 0)))))) eX cP) (az (aJ 2 (aQ (ah (ag c_Night "going" (aa 0))) (aa 1))) (az (aJ 3 (aA 4 zJ (aq (ag c_Night "town" (aa 0)) (aq (ag c_Night "latest" (aa 0)) (aq (d2 (aa 2) (dC (.int 0)) ba) (aq (d2 (aa 2) (dC (.int 1)) ba) ae)))))) (az (aE c_Night "latest" (d2 (aa 3) (dC (.int 2)) ba) (aa 0)) (aY (bg (aq (d2 (aa 3) (dC (.int 0)) ba) (aq (d2 (aa 3) (dC (.int 1)) ba) ae))))))))
theorem zO{m:Int}{ws:-Wy}{N:Nt}{q:-gH}(fo:Option Int)(h:Int):dA m ws ⟨N.p,N.k,N.s,q⟩ fo h=⟨(dA m ws N fo h).p,(dA m ws N fo h).k,(dA m ws N fo h).s,q⟩:=by
 cases fo<;>unfold dA<;>dsimp only<;>split<;>rfl
theorem QQ(C:U):∀ys c e,↑ys=2->pR C ys c e->zN C (af ↑c e) ⟨ys.map ζ++VG 2 η,c.map ζ⟩:=by
 ext x c e-⟨a,b,m,l,N,i,W,O,⟨f,h,g⟩,rfl,rfl,k⟩;let⟨o,r,y⟩:=O.q i f h g;let n:cL (cN 0 N.q) (.inl (i:Int))=ζ (l8 (f,h)):=by let:=ze (i:=0) g;rwa [VJ] at this
 let t:kM (cN 0 N.q) (.inl (i:Int))=cN 0 (N.q.set i η):=by let:=zf (i:=0) (j:=i) (q:=N.q);rwa [VJ] at this
 unfold Nt.tell Nt.step at k;dsimp only at k;rw[g] at k;dsimp only at k;rw[zO] at k;unfold zN;calc bc λM d=>?_;calc iD λA B z u=>?_;simp![0];calc⟨.int i,Y,Y,?_⟩;simp![0,xH];calc⟨a,0,_,.w b,⟨Y,Y,Y⟩,b,1,gO b N,⟨Y,Y,Y⟩,?_⟩;simp![0,gO,n,q0F,q0R];subst u;show M _
 subst d;calc bc λM d=>?_;simp![0];calc⟨a,0,_,.w b,⟨Y,Y,Y⟩,b,1,gO b N,⟨Y,Y,Y⟩,?_⟩;simp![0,gO,n,t];subst d;calc bc λM d=>?_;simp![ag,ah,aE,toF,aB,aD,aF,ai,aG,FV.v,af,dV,kb];calc⟨a,0,_,.p (a6 m l),⟨Y,Y,Y⟩,a,0,_,.p (gw N.p N.k N.s),⟨Y,Y,Y⟩,?_⟩;simp![ag,ah,aE,toF,aB,aD,aF,ai,aG,FV.v,af,dV,kb,l8,dw,eB];calc⟨m,l,N,f,h,W,O,o,r,Y,Y,?_⟩;simp![ag,ah,aE,toF,aB,aD,aF,ai,aG,FV.v,af,dV,kb]
 subst d;calc bc λM d=>?_;simp![ag,ah,aE,toF,aB,aD,aF,ai,aG,FV.v,af,dV,kb,at2];calc⟨a,0,_,⟨Y,Y,by show 4<1000;decide⟩,?_⟩;subst d;simp![ag,ah,aE,toF,aB,aD,aF,ai,aG,FV.v,af,dV,kb,dw,eB];calc⟨[_,_],[],[],Y,Y,?_⟩;unfold nO gO at k;dsimp only at k;rw[XW] at k;calc k
section
variable{m:Int}{ws:-Wy}
theorem pS:∀{N:Nt}{es:-cM}{i:Nat}{e:cM},iH m ws N es->es[i]?=ζ e->gW m (runN m ws N (es.take i)) e/\iH m ws N (es.take i)
 |_,[],_,_,_,h=>by simp at h
 |N,x::r,0,e,h,q=>by cases(show ζ x=ζ e by simpa using q);exact⟨h.1,trivial⟩
 |N,x::r,i+1,e,h,q=>by
  let:=pS (N:=N.step m ws x) (es:=r) (i:=i) (e:=e) h.2 q⁻¹;calc⟨this.1,h.1,this.2⟩
theorem QR(N:Nt)(e:cM):(N.step m ws e).q.length<=↑N.q+1:=by
 cases e with
 |wake h =>
  unfold Nt.step;dsimp only;split
  .show ↑(N.q++[η])<=_;rw[qG];exact B6 _
  .show ↑(N.q++[ζ _])<=_;rw[qG];exact B6 _
 |fin i =>
  unfold Nt.step;dsimp only;split
  .rename_i a h _
   rw[zO (N:=N) a h];show↑(N.q.set i η)<=_;rw[XW];symm
  .omega
theorem oV:∀{N:Nt}{es:-cM},(runN m ws N es).q.length<=↑N.q+↑es
 |_,[]=>B6 _
 |N,x::r=>by
  let:=oV (N:=N.step m ws x) (es:=r);let:=QR (m:=m) (ws:=ws) N x;show(runN m ws (N.step m ws x) r).q.length<=_;rw[wo];symm
theorem pT{b:Type}{l:-b}{i:Nat}{a:b}(h:l[i]?=ζ a):l.take (i+1)=l.take i++[a]:=by
 rw[List.take_add_one,h];rfl
end
def zP(C:U):GK:=λf d K=>∃(a b:U)(m:Int)(c:-Wy)(N:Nt)(e:cM),aH m c/\dc m c N/\gW m N e/\↑N.q<900/\f=[.w a,.p (hV e)]/\d=[nO C a b m c N,gO b N]/\K (.p (jR (N.tell m c e))) [nO C a b m c (N.step m c e),gO b (N.step m c e)] []
def zQ(c_Night:U):WS:=(az (bh (bT (dT (aA 2 pH (aq (aa 1) (aq (dC (.int 2)) ae)))) (dT (d2 (d2 (aa 1) (dC (.int 0)) ba) (dC (.str "wake")) oEq))) (aY (aB ι c_Night "wake" 2 (sC c_Night) (aa 0) (aq (d2 (aa 1) (dC (.int 1)) ba) ae))) cP) (az (bh (bT (dT (aA 2 pH (aq (aa 1) (aq (dC (.int 2)) ae)))) (dT (d2 (d2 (aa 1) (dC (.int 0)) ba) (dC (.str "end")) oEq))) (aY (aB ι c_Night "end" 2 (pR c_Night) (aa 0) (aq (d2 (aa 1) (dC (.int 1)) ba) ae))) cP) eX))
theorem QS(C:U):∀ys c f,↑ys=2->zP C ys c f->zQ C (af ↑c f) ⟨ys.map ζ++VG 0 η,c.map ζ⟩:=by
 ext s c f-⟨a,b,m,d,N,e,W,O,j,o,rfl,rfl,k⟩;let p:dEq (.str "wake") (.str "wake")=θ:=Y;let q:dEq (.str "end") (.str "wake")=ι:=Y;let r:dEq (.str "end") (.str "end")=θ:=Y;unfold zQ;refine bc λM l=>iD λA B g n=>?_
 cases e with
 |wake h =>
  simp![ag,ah,aE,toF,aB,aD,aF,ai,aG,FV.v,af,dV,kb,hV];calc⟨.tup [.str "wake",.int h],2,Y,Y,?_⟩;simp![ag,ah,aE,toF,aB,aD,aF,ai,aG,FV.v,af,dV,kb,oB,dw,p,q1I,q0J];subst g;simp![ag,ah,aE,toF,aB,aD,aF,ai,aG,FV.v,af,dV,kb];calc⟨⟨a,0,_,Y,Y,Y⟩,?_⟩;simp![ag,ah,aE,toF,aB,aD,aF,ai,aG,FV.v,af,dV,kb,eB];calc⟨[(0,nO C a b m d N),(1,gO b N)],⟨Y,Y,trivial⟩,?_⟩;simp![ag,ah,aE,toF,aB,aD,aF,ai,aG,FV.v,af,dV,kb];calc⟨a,b,m,d,N,h,W,O,j,o,Y,Y,?_⟩;simp![ag,ah,aE,toF,aB,aD,aF,ai,aG,FV.v,af,dV,kb];exact⟨[_,_],[],[],Y,Y,k⟩
 |fin i =>
  simp![ag,ah,aE,toF,aB,aD,aF,ai,aG,FV.v,af,dV,kb,hV];calc⟨.tup [.str "end",.int i],2,Y,Y,?_⟩;simp![ag,ah,aE,toF,aB,aD,aF,ai,aG,FV.v,af,dV,kb,oB,dw,q,q1I,q0J];subst n;simp![ag,ah,aE,toF,aB,aD,aF,ai,aG,FV.v,af,dV,kb];subst l;calc bc λM l=>iD λA B g n=>?_;simp![ag,ah,aE,toF,aB,aD,aF,ai,aG,FV.v,af,dV,kb];calc⟨.tup [.str "end",.int i],2,Y,Y,?_⟩;simp![ag,ah,aE,toF,aB,aD,aF,ai,aG,FV.v,af,dV,kb,oB,dw,r,q1I,q0J];subst g;simp![ag,ah,aE,toF,aB,aD,aF,ai,aG,FV.v,af,dV,kb];calc⟨⟨a,0,_,Y,Y,Y⟩,?_⟩;simp![ag,ah,aE,toF,aB,aD,aF,ai,aG,FV.v,af,dV,kb,eB]
  calc⟨[(0,nO C a b m d N),(1,gO b N)],⟨Y,Y,trivial⟩,?_⟩;simp![ag,ah,aE,toF,aB,aD,aF,ai,aG,FV.v,af,dV,kb];calc⟨a,b,m,d,N,i,W,O,j,Y,Y,?_⟩;simp![ag,ah,aE,toF,aB,aD,aF,ai,aG,FV.v,af,dV,kb];calc⟨[_,_],[],[],Y,Y,k⟩
def zR(C:U):GK:=λf e K=>∃(a b:U)(m:Int)(c:-Wy)(d:-cM),aH m c/\iH m c cg d/\↑d<900/\f=[.w a,.p (.lst (d.map hV))]/\e=[nO C a b m c cg,gO b cg]/\K (.n ((kK m c cg d).map jR)) [nO C a b m c (runN m c cg d),gO b (runN m c cg d)] []
def zS(c_Night:U):WS:=(az (aJ 2 (eI ae)) (az (bH (bW (aq (aa 1) ae)) (dz 2 (cj (bj 3) (cj (bj 4) dt))) (dr (bU (aa 2) (aq (aD ι 2 (zP c_Night) (aq (aa 0) (aq (aa 4) ae))) ae)))) (aY (aa 2))))
theorem QT(C:U):∀ys c h,↑ys=2->zR C ys c h->zS C (af ↑c h) ⟨ys.map ζ++VG 3 η,c.map ζ⟩:=by
 ext J c h-⟨a,b,m,ws,es,W,A,B,rfl,rfl,k⟩;unfold zS;calc bc λM j=>?_;simp![ag,ah,aE,toF,aB,aD,aF,ai,aG,FV.v,af,dV,kb];subst j;calc bc λM j=>j_ λK O P D l E=>?_;simp![ag,ah,aE,toF,aB,aD,aF,ai,aG,FV.v,af,dV,kb];subst D l E;refine jA (λi n=>n=⟨[ζ (.w a),ζ (.p (.lst (es.map hV))),ζ (.o 2),η,η],[ζ (nO C a b m ws (runN m ws cg (es.take i))),ζ (gO b (runN m ws cg (es.take i))),ζ (.lst ((kK m ws cg (es.take i)).map jR))]⟩) Y ?_ ?_
 .ext i d n L F rfl G
  let⟨Q,t,u⟩:=l3 F;rw[VJ] at u;subst u;rw[B8] at t;let⟨e,r,rfl⟩:=KJ.mp t;let H:i<↑es:=(pa.mp r).1;let⟨x,I⟩:=pS A r;let g:=oV (m:=m) (ws:=ws) (N:=cg) (es:=es.take i);let y:=yV (m:=m) (ws:=ws) (N:=cg) (a:=es.take i);rw[Ww,q1J (Xd H)] at g y;let g:(runN m ws cg (es.take i)).q.length<=i:=by let:=g;erw[cg,VP,VJ] at this;exact this
  let z:=dc.run W (lK m ws) I;let s:∀f,f=_->L f:=G;rw[pT r,oK,yU] at s;generalize runN m ws cg (es.take i)=N at z x g s ⊢;calc⟨trivial,?_⟩;erw[dz,cj,dt,bj,wo,VP,VA,VB,VJ,Ws,XC];simp![ag,ah,aE,toF,aB,aD,aF,ai,aG,FV.v,af,dV,kb,bR];calc⟨[(0,nO C a b m ws N),(1,gO b N)],⟨Y,Y,trivial⟩,?_⟩;simp![ag,ah,aE,toF,aB,aD,aF,ai,aG,FV.v,af,dV,kb];calc⟨a,b,m,ws,N,e,W,z,x,⋯,Y,Y,?_⟩;simp![ag,ah,aE,toF,aB,aD,aF,ai,aG,FV.v,af,dV,kb,b_];calc⟨by rw[y];symm,?_⟩;calc s _ ?_;rw[VR];rfl
 .ext n rfl
  calc⟨trivial,?_⟩;show M _;subst j;simp![ag,ah,aE,toF,aB,aD,aF,ai,aG,FV.v,af,dV,kb];calc⟨[_,_],[],[ζ (.lst _)],Y,Y,B6 _,?_⟩;rw[l0,nW,VX];calc k
end LJ
namespace PySem
open Sem (wp)
section
variable{prog:X}{w:l}{A:t}{E:br}{s:L}{z TI TO i j:U}{fp gp:-U}{n m k:Nat}{P P':Nat->M->Prop}{St U4:Nat->Q->Prop}{a b:M}
end
section
variable{prog:X}{w:l}{A:t}{E:br}{s:L}
end
end PySem
namespace L2
open PySem PySem.Spec PyProof.Rows
section
variable{X:Cx}{pins:a5}{σ:St}{H:Hp}{s:L}
end
section
variable{X:Cx}{elts:-J}{x1:Nat}{tp:I}
end
section
variable[a8]{X:Cx}{a b:J}{fa:WA}
end
end L2
namespace LJ
open PySem L2
variable[a8]
inductive zT (ys:-DV) (bF:-OV) (K:RV->-OV->Prop):Prop
 |mk (m:Int) (ws:-Wy) (l:-Int) (n:Int) (_:aH m ws) (_:(0<=n/\n<(↑ws:Int))) (_:ys=[.p (a6 m ws),.p (a9 l),.p (.int n)]) (_:bF=[]) (_:K (.p (.bl (gs l (aN ws n)))) [])
def zU:WS:=(az (b6 (b8 (d2 (d2 (aa 0) (dC (.int 1)) ba) (aa 2) ba) b7 (eZ (dC (.int 2)))) (dz 2 (cj (bj 3) (cj (bj 4) dt)))) (aY (d2 (d2 (aa 3) (aa 1) (dn ι)) (d2 (aa 4) (aa 1) (dn ι)) fF)))
theorem QU:Sem 3 2 zT zU:=by
 ext j a o-⟨m,b,l,n,W,⟨c,d⟩,rfl,rfl,k⟩;let⟨y,e,r,f,_⟩:=mE W c d;let g:aN b n=y:=e;rw[g] at k;unfold zU;calc bc λN h=>?_;let i:cutD [D.int y.1,D.int y.2.1,D.int y.2.2] η (ζ 2)=[D.int y.1,D.int y.2.1]:=Y;simp![a6,eB,f,bJ,i];subst h;simp![a9];let s:=hU l;calc⟨⋯,⋯,?_⟩;rw[jj,jj];unfold gs at k;generalize S (y.1∈l)=p at k;generalize S (y.2.1∈l)=q at k;cases p<;>cases q<;>calc cK k
noncomputable def sD:D->D
 |.tup [_,n]=>n
 |_=>.non
inductive sE (ys:-DV) (bF:-OV) (K:RV->-OV->Prop):Prop
 |mk (m:Int) (ws:-Wy) (us:-Int) (h:Int) (_:aH m ws) (_:Nums ws us) (_:(0<=h/\h<m)) (_:ys=[.p (a6 m ws),.p (a9 us),.p (.int h)]) (_:bF=[]) (_:K (.p (a9 (aZ m ws us h))) [])
def zV:WS:=(az (aJ 3 (aA 2 xV (aq (aa 0) (aq (aa 1) ae)))) (aY (cx (eA (aq (d2 (aa 0) (dC (.int 0)) ba) ae)) [η,ζ 3,ζ 2] (bj 0) (dT (d2 (d2 (aa 1) (aa 0) ba) (d2 (aa 1) (aa 2) ba) oEq)) (aa 0))))
open Classical in
theorem QV:Sem 3 1 sE zV:=by
 rintro ys bF K'-⟨m,ws,us,h,W,hu,hh,rfl,rfl,k⟩;obtain⟨i,rfl⟩:=Ym hh.1;have hi:i<m.toNat:=by symm
 have iA:=W.iA;have mo:=yy W hu;have a1:=oC (ns:=ic m ws us) (i:=i) (by rw[mo.1];exact hi);unfold aZ at k;unfold zV;refine bc λN hN=>?_;simp!;refine⟨m,ws,us,W,hu,.inl ⟨rfl,rfl,?_⟩⟩;generalize ic m ws us=fs at mo a1;rw[show a9 fs=.lst (fs.map D.int) from rfl];simp!;subst hN;simp![a6,dw];refine⟨⋯,?_⟩
 refine L2.j8 (λd=>match d with
  |.int x=>decide (bz (eV ws us) i x)
  |_=>false) id (by rw[lz];symm) trivial ?_ ?_
 .intro d hd acc L' ha h1 h2
  obtain⟨z,hz⟩:=VL.mp hd;obtain⟨zl,rfl⟩:=ly hz;rw[q2V] at h1 h2 ⊢;have a2:=oC (ns:=fs) (i:=z) (by rw[mo.1];exact zl);dsimp only at h1 h2;simp![a1,a2];rw[rX]
  by_cases q:bz (eV ws us) i z
  .rw[VH ((mo.2 z i zl hi).mpr q.symm)]
   simp!;exact⟨ha,h1 (VH q)⟩
  .rw[VD λy=>q ((mo.2 z i zl hi).mp y).symm]
   simp!;exact h2 (VD q)
 have e:((dm 0 m.toNat).filter λd=>match d with
  |.int x=>decide (bz (eV ws us) i x)
  |_=>false).map id=(cls m.toNat (eV ws us) i).map D.int:=by
  unfold cls;rw[q0X,ou,Ye];rfl
 rw[e];exact cK k
inductive zW (ys:-DV) (bF:-OV) (K:RV->-OV->Prop):Prop
 |mk (m:Int) (ws:-Wy) (l us:-Int) (_:aH m ws) (_:Nums ws us) (_:↑us<=30) (_:ys=[.p (a6 m ws),.p (a9 l),.p (a9 us)]) (_:bF=[]) (_:∀os:-Int,os.Perm (us.filter λn=>gs l (aN ws n))->(os.map (fu ws)).Pairwise kle->K (.p (a9 os)) [])
def zX:WS:=(az (aJ 3 (cx (bo (aa 2)) [η,ζ 0,ζ 1] (bj 0) (dT (aA 3 zT (aq (aa 1) (aq (aa 2) (aq (aa 0) ae))))) (bg (aq (aA 2 yi (aq (aa 1) (aq (aa 0) ae))) (aq (aa 0) ae))))) (aY (cx (bo (dN (aq (aa 3) ae) ux)) [η,η] (dz 2 (cj (bj 0) (cj (bj 1) dt))) bI (aa 1))))
theorem QW:Sem 3 1 zW zX:=by
 ext H z I-⟨m,c,l,j,W,A,o,rfl,rfl,k⟩;let t:↑(j.filter λn=>gs l (aN c n))<=30:=Wr (W0 _ _) o;unfold zX;calc bc λN B=>?_;rw[show a9 j=.lst (j.map D.int) from Y];simp!
 refine j8 (λd=>match d with
  |.int n=>gs l (aN c n)
  |_=>ι) (λd=>match d with
  |.int n=>kJ c n
  |_=>.non) (by rw[nW];symm) trivial ?_ ?_
 .ext d g p L r u v
  let⟨n,C,rfl⟩:=VI.mp g;let w:=A n C;dsimp only at u v;simp!;calc⟨m,c,l,n,W,w,Y,Y,?_⟩;simp!
  cases q:gs l (aN c n) with
  |false=>simp!;exact v q
  |true =>
   simp!;calc⟨m,c,n,W,w,Y,Y,?_⟩;simp!;exact⟨r,u q⟩
 let e:((j.map D.int).filter λd=>match d with
  |.int n=>gs l (aN c n)
  |_=>ι).map (λd=>match d with
  |.int n=>kJ c n
  |_=>.non)=(j.filter λn=>gs l (aN c n)).map (kJ c):=by
  rw[Ye,VW];rfl
 rw[e];generalize j.filter (λn=>gs l (aN c n))=E at t k;subst B;simp![ux]
 refine⟨⋯,λd=>match d with
  |.tup [.tup F,.int n]=>(match intsOf F with
   |some l=>l++[n]
   |none=>[])
  |_=>[],.inr ⟨3,λd g=>?_⟩,λi x s=>?_⟩
 .let⟨n,_,rfl⟩:=VI.mp g
  refine⟨fu c n,n,Y,Y,?_⟩
  show(match intsOf ((fu c n).map D.int) with
   |some l=>l++[n]
   |none=>[])=_
  rw[j7]
 .let⟨f,rfl,y⟩:∃f:-Int,i=f.map (kJ c)/\f.Perm E:=by
   refine⟨i.map λd=>match d with
    |.tup [_,.int n]=>n
    |_=>0,?_,?_⟩
   .rw[VW]
    calc(q0X i).symm.trans (W7 λd g=>?_);let⟨n,_,rfl⟩:=VI.mp (x.mem_iff.mp g);rfl
   .let:=x.map λd=>match d with
     |.tup [_,.int n]=>n
     |_=>0
    rw[VW] at this;exact this.trans (List.Perm.of_eq ((W7 λn _=>Y).trans (q0X _)))
  let J:↑f<=30:=by rw[y.length_eq];exact t
  let G:(f.map (fu c)).Pairwise kle:=by
   rw[VW] at s;rw[XO] at s ⊢;refine s.imp λ{a b} h=>?_
   let h:kle ((match intsOf ((fu c a).map D.int) with
    |some l=>l++[a]
    |none=>[])) ((match intsOf ((fu c b).map D.int) with
    |some l=>l++[b]
    |none=>[])):=h
   rw[j7,j7] at h;exact Oe Y h
  refine L2.j9 sD (by rw[nW];symm) trivial ?_ ?_
  .ext d g p L r h
   let⟨n,_,rfl⟩:=VI.mp g;simp![kJ];exact⟨r,h⟩
  .let e:(f.map (kJ c)).map sD=f.map D.int:=by rw[VW];rfl
   rw[e];calc cK (k f y G)
noncomputable def fx:gH->D
 |none=>.non
 |some x=>.tup [oD x.1,.int x.2]
noncomputable def lO(a b:U)(N:Nt):OV:=.av a [(.inr "put",.p (a9 N.p)),(.inr "known",.p (a9 N.k)),(.inr "sure",.p (a9 N.s)),(.inr "searches",.w b)]
noncomputable def sO(b:U)(N:Nt):OV:=.al b (N.q.map fx)
def zY(C:U):GK:=λd c K=>d=[]/\c=[]/\∀a b,K (.w a) [] [lO a b cg,sO b cg]
def zZ(c_Night:U):WS:=(aY (aR [("put",(bG ae)),("known",(bG ae)),("sure",(bG ae)),("searches",(eI ae))]))
theorem QX(C:U):∀ys c d,↑ys=0->zY C ys c d->zZ C (af ↑c d) ⟨ys.map ζ++VG 0 η,c.map ζ⟩:=by
 ext e c d-⟨rfl,rfl,k⟩;unfold zZ;simp![0];ext b a;calc⟨[],[lO a b cg,sO b cg],[],Y,Y,k a b⟩
noncomputable def cv:Nat->-gH->-Int
 |_,[]=>[]
 |i,none::r=>cv (i+1) r
 |i,some _::r=>(i:Int)::cv (i+1) r
theorem sF:∀{i:Nat}{q:-gH}{x:Int},x∈cv i q->∃j fo h,x=((i+j:Nat):Int)/\q[j]?=ζ (ζ (fo,h))
 |i,[],x,h=>nomatch h
 |i,none::r,x,h=>by
  let⟨j,a,b,e,g⟩:=sF (i:=i+1) (q:=r) h;exact⟨j+1,a,b,by rw[e];congr 1;symm,by simpa using g⟩
 |i,some y::r,x,h=>by
  rcases Uy.mp h with rfl|h
  .exact⟨0,y.1,y.2,Y,Y⟩
  .let⟨j,a,b,e,g⟩:=sF (i:=i+1) (q:=r) h
   calc⟨j+1,a,b,by rw[e];congr 1;symm,by simpa using g⟩
theorem sG:∀{i:Nat}{q:-gH},↑(cv i q)<=↑q
 |i,[]=>B6 _
 |i,none::r=>q22 (sG (i:=i+1) (q:=r))
 |i,some x::r=>Z6 (sG (i:=i+1) (q:=r))
noncomputable def lN:D->Bool
 |.tup [_,.non]=>ι
 |_=>θ
noncomputable def iK:D->D
 |.tup [x,_]=>x
 |_=>.non
theorem z5:∀{i:Nat}{q:-gH},(((iS i (q.map fx)).filter lN).map iK)=(cv i q).map D.int
 |i,[]=>Y
 |i,none::r=>by
  show((D.tup [.int i,.non]::iS (i+1) (r.map fx)).filter lN).map iK=_;rw[Y6 (by simp[lN])];exact z5 (i:=i+1) (q:=r)
 |i,some y::r=>by
  show((D.tup [.int i,.tup [oD y.1,.int y.2]]::iS (i+1) (r.map fx)).filter lN).map iK=_;rw[Y5 (by rfl),UB,z5 (i:=i+1) (q:=r)];rfl
def z6(C:U):GK:=λd c K=>∃(a b:U)(N:Nt),↑N.q<900/\d=[.w a]/\c=[lO a b N,sO b N]/\K (.p (a9 (cv 0 N.q))) [lO a b N,sO b N] []
def z7(c_Night:U):WS:=(aY (cx (bW (aq (ah (aj "searches" (aa 0))) ae)) [η,η] (dz 2 (cj (bj 0) (cj (bj 1) dt))) (dT (d2 (aa 1) (dC .non) fT)) (aa 0)))
theorem QY(C:U):∀ys c f,↑ys=1->z6 C ys c f->z7 C (af ↑c f) ⟨ys.map ζ++VG 0 η,c.map ζ⟩:=by
 ext p c f-⟨a,b,N,q,rfl,rfl,k⟩;unfold z7;simp![0];calc⟨a,0,_,.w b,⟨Y,Y,Y⟩,b,1,sO b N,⟨Y,Y,Y⟩,?_⟩;simp![0,sO];refine L2.j8 lN iK ?_ ?_ ?_ ?_
 .rw[l0,nW];symm
 .trivial
 .ext d l m L n g h
  let⟨i,o⟩:=VL.mp l;let⟨e,j,rfl⟩:=l3 o;rw[B8] at j;let⟨s,r,rfl⟩:=KJ.mp j;rw[VJ] at g h ⊢;simp![0]
  cases s with
  |none=>simp![0,fx];exact h Y
  |some y=>simp![0,fx];exact⟨n,g Y⟩
 .rw[z5]
  calc⟨[_,_],[],[],Y,Y,k⟩
theorem z8{a b:U}{N:Nt}:∃kvs,lO a b N=.av a kvs/\cL kvs (.inr "put")=ζ (.p (a9 N.p))/\cL kvs (.inr "known")=ζ (.p (a9 N.k))/\cL kvs (.inr "sure")=ζ (.p (a9 N.s))/\cL kvs (.inr "searches")=ζ (.w b)/\↑kvs=4
 /\ (∀d,putD kvs (.inr "put") d=[(.inr "put",d),(.inr "known",.p (a9 N.k)),(.inr "sure",.p (a9 N.s)),(.inr "searches",.w b)])
 /\ (∀d,putD kvs (.inr "known") d=[(.inr "put",.p (a9 N.p)),(.inr "known",d),(.inr "sure",.p (a9 N.s)),(.inr "searches",.w b)])
 /\ (∀d,putD kvs (.inr "sure") d=[(.inr "put",.p (a9 N.p)),(.inr "known",.p (a9 N.k)),(.inr "sure",d),(.inr "searches",.w b)]) :=
 ⟨_,Y,Y,Y,Y,Y,Y,λ_=>Y,λ_=>Y,λ_=>Y⟩
theorem QZ(l:-Int):((l.map D.int).any λe=>dEq e .non)=ι:=by
 rw[q43];calc YU.mpr λx _=>by simp[dEq]
noncomputable def sH(a:Int)(g:-Int):D->Bool
 |.tup [.int n,.tup [.int i,.int j,_]]=>(S (a=i)||S (a=j))&&S (n∉g)
 |_=>ι
theorem Q0(ws:-Wy)(b:Int)(g:-Int):((iS 0 (ws.map bJ)).filter (sH b g)).map iK=(lM ws g b).map D.int:=by
 let d:∀(a:-Wy)(c:-Wy),ws=a++c->((iS ↑a (c.map bJ)).filter (sH b g)).map iK=(((q0Z ↑a ↑c).map λ(i:Nat)=>(i:Int)).filter λn=>(S (b=(aN ws n).1)||S (b=(aN ws n).2.1))&&S (n∉g)).map D.int:=by
  ext a c
  induction c generalizing a with
  |nil=>ext _;rfl
  |cons y r f =>
   ext e;let h:=f (a++[y]) (by rw[X1];calc e);rw[qG,WJ] at h
   let j:aN ws (↑a:Int)=y:=by
    unfold aN;rw[V8,e,KH,My (B6 _),Xh];rfl
   show((D.tup [.int (↑a:Nat),bJ y]::iS (↑a+1) (r.map bJ)).filter (sH b g)).map iK=_;rw[wo,q3e,UB,XB,XB,j];show(if((S (b=y.1)||S (b=y.2.1))&&S ((↑a:Int)∉g))=θ then _ else _:-D).map iK=_;split
   .rw[UB,UB,h];rfl
   .exact h
 let:=d [] ws Y;rw[VP] at this;rw[this];unfold lM bK;rw[Zi]
theorem E7(ws:-Wy)(g l:-Int):↑(jk ws g l)<=↑l*↑ws:=by
 unfold jk
 induction l with
 |nil=>simp
 |cons x r a =>
  rw[q23,qG,wo,q4O]
  let:↑(lM ws g x)<=↑ws:=by
   unfold lM;calc Wr (W0 _ _) ?_;rw[k7];exact B6 _
  symm
def z9(C:U):GK:=λe d K=>∃(a b:U)(m:Int)(c:-Wy)(N:Nt)(h:Int),aH m c/\dc m c N/\(0<=h/\h<m)/\↑N.q<900/\e=[.p (a6 m c),.w a,.p (.int h)]/\d=[lO a b N,sO b N]/\K (.p (jR (N.tell m c (.wake h)))) [lO a b (N.step m c (.wake h)),sO b (N.step m c (.wake h))] []
def z_(c_Night:U):WS:=(az (bh (dT (d2 (aa 2) (aj "sure" (aa 1)) (dn ι))) (az (dr (bU (ah (aj "searches" (aa 1))) (aq (dC .non) ae))) (aY (bg (aq (dC .non) (aq (dC (.int 0)) ae))))) cP) (az (aJ 3 (aA 3 sE (aq (aa 0) (aq (aj "put" (aa 1)) (aq (aa 2) ae))))) (az (aJ 4 (d2 (aj "put" (aa 1)) (aj "known" (aa 1)) bX)) (az (aJ 5 (eI ae)) (az (bH (bo (aa 3)) (bj 6) (dr (cJ (aa 5) (aq (cx (bW (aq (d2 (aa 0) (dC (.int 1)) ba) ae)) [η,η,ζ 6,ζ 4] (dz 2 (cj (bj 0) (cj (bj 1) dt))) (bT (dT (d2 (aa 2) (b8 (aa 1) b7 (eZ (dC (.int 2)))) (dn ι))) (dT (d2 (aa 0) (aa 3) (dn θ)))) (aa 0)) ae)))) (az (aJ 7 (aA 3 zW (aq (aa 0) (aq (aa 3) (aq (dN (aq (aa 5) ae) aK) ae))))) (az (aO "known" (dN (aq (d2 (aj "known" (aa 1)) (cx (bo (dN (aq (aa 5) ae) aK)) [η,ζ 7] (bj 0) (dT (d2 (aa 0) (aa 1) (dn θ))) (aa 0)) bX) ae) kE) (aa 1)) (az (dr (bU (ah (aj "searches" (aa 1))) (aq (bg (aq (fD (dT (d2 (aa 7) (bG ae) fF)) (d2 (aa 7) (dC (.int 0)) ba) (dC .non)) (aq (aa 2) ae))) ae))) (aY (bg (aq (dC .non) (aq (d2 (d2 (dC (.int 2)) (d2 (dN (aq (aa 3) ae) bB) (dC (.int 1)) (oI λi j=>.int (i-j))) bO) (d2 (dC (.int 2)) (dN (aq (aa 5) ae) bB) bO) bX) ae))))))))))))
theorem Q1(C:ξ):∀ys u R,↑ys=3->z9 C ys u R->z_ C (af ↑u R) ⟨ys.map ζ++VG 5 η,u.map ζ⟩:=by
 ext ys u R-⟨a,b,m,ws,N,h,W,O,hh,ql,rfl,rfl,k⟩;let E:=W.jE;let d0:=hU N.s;let pl:=O.pl W;let kl:=O.kl W;let ll:=pP W (p:=N.p) (h:=h);unfold z_;calc bc λM t=>?_;calc iD λA B hA hB=>?_;simp![0];calc⟨a,0,_,.p (a9 N.s),⟨rfl,rfl,rfl⟩,?_⟩;simp![0,a9];calc⟨⋯,?_⟩;rw[jj];unfold Nt.tell Nt.step at k;dsimp only at k
 by_cases c:h∈N.s
 .rw[VH c]
  rw[VE c,VE c] at k;simp![0];subst hA;calc bc λM2 V=>?_;simp![0];calc⟨a,0,_,.w b,⟨rfl,rfl,rfl⟩,b,1,sO b N,⟨rfl,rfl,rfl⟩,?_⟩;simp![0,sO];calc⟨⋯,?_⟩;subst V;simp![0];refine⟨[_,_],[],[],rfl,rfl,?_⟩
  unfold lO sO at k;dsimp only at k;rw[VR] at k;exact k
 .rw[VD c]
  rw[VC c,VC c] at k;simp![0];subst hB;show M _;subst t;calc bc λM t=>?_;simp![0];calc⟨a,0,_,.p (a9 N.p),⟨rfl,rfl,rfl⟩,?_⟩;simp![0];calc⟨m,ws,N.p,h,W,O.pn,hh,rfl,rfl,?_⟩;simp![0]
  subst t;let⟨l,G⟩:∃l,l=aZ m ws N.p h:=⟨_,rfl⟩;rw[<-G] at ll;rw[<-G];calc bc λM t=>?_;simp![0];calc⟨a,0,_,.p (a9 N.p),⟨rfl,rfl,rfl⟩,a,0,_,.p (a9 N.k),⟨rfl,rfl,rfl⟩,?_⟩;simp![0,a9,nW];calc⟨⋯,?_⟩;rw[<-VR];subst t;calc bc λM t=>?_;simp![0];subst t;let⟨g,hg⟩:∃g,g=N.p++N.k:=⟨_,rfl⟩
  rw[<-hg];let dg:=hU g;let al:=E7 ws g l;let U5:↑l*↑ws<=12*30:=q34 ll E;calc bc λM t=>j_ λg' b' K2 X Y hK=>?_;simp![0];subst X Y hK;refine jA (λi Z=>Z=⟨[ζ (.p (a6 m ws)),ζ (.w a),ζ (.p (.int h)),ζ (.p (.lst (l.map D.int))),ζ (.p (.lst (g.map D.int))),ζ (.o 2),η,η],[ζ (lO a b N),ζ (sO b N),ζ (.lst ((jk ws g (l.take i)).map D.int))]⟩) rfl ?_ ?_
  .ext i d Z L hi rfl hL
   rw[B8] at hi;let⟨f,ho,rfl⟩:=KJ.mp hi;calc⟨trivial,?_⟩;let U6:=E7 ws g (l.take i);let il:i<↑l:=(pa.mp ho).1;let U7:↑(l.take i)*↑ws<=12*30:=q34 (by rw[Ww];symm) E
   let U8:↑(lM ws g f)<=↑ws:=by
    unfold lM;calc Wr (W0 _ _) ?_;rw[k7];exact B6 _
   erw[bj,VA,VB];simp![0,a6,eB];refine L2.j8 (sH f g) iK (by rw[l0,nW];symm) trivial ?_ ?_
   .ext d hd acc L' ha H z
    let⟨j,hj⟩:=VL.mp hd;let⟨e,g1,rfl⟩:=l3 hj;rw[B8] at g1;let⟨y,hy,rfl⟩:=KJ.mp g1;let c2:cutD [D.int y.1,D.int y.2.1,D.int y.2.2] η (ζ 2)=[D.int y.1,D.int y.2.1]:=rfl;erw[sH,bJ,VJ] at H z;simp![0,bJ,c2]
    let e1:(dEq (.int y.1) (.int f)||dEq (.int y.2.1) (.int f))=(μ (f=y.1)||μ (f=y.2.1)):=by
     rw[rX,rX,decide_eq_decide.mpr (@eq_comm _ y.1 f),decide_eq_decide.mpr (@eq_comm _ y.2.1 f)]
    rw[e1]
    cases q:(μ (f=y.1)||μ (f=y.2.1)) with
    |false =>
     rw[q] at z;simp![0];exact z rfl
    |true =>
     rw[q] at H z;simp![0];calc⟨⋯,?_⟩;rw[jj]
     by_cases S:(j:Int)∈g
     .rw[VH S]
      simp![0];exact z (by rw[q2l];calc VD (q07 S))
     .rw[VD S]
      simp![0];exact⟨ha,H (by rw[q2l];calc VH S)⟩
   .rw[Q0]
    simp![0];calc⟨⋯,?_⟩;calc hL _ ?_;rw[pT ho];unfold jk;rw[List.flatMap_append,VR,q23,List.flatMap_nil,dV];rfl
  .ext Z rfl
   calc⟨trivial,?_⟩;show M _;rw[nW,VX];let am:∀x∈jk ws g l,0<=x/\x<(↑ws:Int):=λx hx=>(gy.mp hx).1.1;let J:=uO am E;let rl:↑(gv (jk ws g l))<=↑ws:=EE am;let rn:Nums ws (gv (jk ws g l)):=λx hx=>am x (bA.mp hx);let ec:=Qh W N.p N.k l (by rw[G];calc(oM ..).nd);let eo:=Qe (h:=h) W O;let ek:=@Qf _ _ _ _ h W O;let T:=@Qg _ m ws W l;rw[<-G] at eo ek;rw[<-hg] at eo ek ec;let K:R (.p (jR (η,sh m ws N.p N.k h))) [lO a b ⟨N.p,oJ m ws N.p N.k h,N.s,N.q++[ζ (fW ws l,h)]⟩,sO b ⟨N.p,oJ m ws N.p N.k h,N.s,N.q++[ζ (fW ws l,h)]⟩] []:=by rw[G];exact k
   let hc:sh m ws N.p N.k h=2*((↑l:Int)-1)+2*(↑(jk ws g l):Int):=by
    unfold sh;rw[ec,<-G]
   rw[hc] at K;generalize jk ws g l=F at *;subst t;calc bc λM t=>?_;simp![0];rw[j7];dsimp only;calc⟨J,?_⟩;calc⟨m,ws,l,gv F,W,rn,⋯,rfl,rfl,λI U up=>?_⟩;rw[eo] at U;let ol:=(PB (ws:=ws) (l:=l));let U9:=U.length_eq;let U_:=hU I;simp![0];subst t;calc bc λM t=>?_;simp![0]
   calc⟨a,0,_,.p (a9 N.k),⟨rfl,rfl,rfl⟩,?_⟩;simp![0];rw[j7];dsimp only;calc⟨J,?_⟩;refine L2.j8 (mQ λn=>μ (n∉I)) (λd=>d) (by rw[nW];calc Wr rl ⋯) trivial ?_ ?_
   .ext d hd acc L ha H z
    let⟨n,hn,rfl⟩:=VI.mp hd;erw[mQ] at H z;simp![0,a9];calc⟨⋯,?_⟩;rw[jj]
    by_cases c:n∈I
    .rw[VH c];simp![0];exact z (VD (q07 c))
    .rw[VD c];simp![0];exact⟨ha,H (VH c)⟩
   rw[uZ];let fl:=W0 (λn=>μ (n∉I)) (gv F);let P:=ek U
   change sortI (N.k++(sortI (fc F)).filter _)=_ at P
   change ↑((sortI (fc F)).filter _)<=↑(sortI (fc F)) at fl
   change ↑(sortI (fc F))<=_ at rl
   simp![0,a9];calc⟨⋯,?_⟩;rw[<-VR];unfold kE;dsimp only;rw[j7];dsimp only;calc⟨by rw[qG];symm,?_⟩;rw[P];let⟨kvs,e1,e2,e3,e4,e5,e6,p1,p2,p3⟩:=z8 (a:=a) (b:=b) (N:=N);calc⟨a,0,kvs,⟨rfl,by rw[e1];rfl,⋯⟩,?_⟩;rw[p2];subst t;calc bc λM t=>?_;let T:=T U up
   let go:∀fd,fd=oD (fW ws l)->M ⟨[ζ (.p (.tup [.int m,.tup (ws.map bJ)])),ζ (.w a),ζ (.p (.int h)),ζ (.p (.lst (l.map D.int))),ζ (.p (.lst (g.map D.int))),ζ (.o 2),η,ζ (.p (.lst (I.map D.int)))],[ζ (.av a [(.inr "put",.p (a9 N.p)),(.inr "known",.p (a9 (oJ m ws N.p N.k h))),(.inr "sure",.p (a9 N.s)),(.inr "searches",.w b)]),ζ (.al b (N.q.map fx++[.tup [fd,.int h]])),ζ (.lst (F.map D.int))]⟩:=by
    ext fd rfl;subst t;simp![0];calc⟨.inl ⟨by decide,by decide⟩,.inl ⟨by decide,by decide⟩,?_⟩;calc⟨[_,_],[],[ζ _],rfl,rfl,?_⟩;unfold lO sO at K;dsimp only at K;rw[VR] at K;exact K
   cases I with
   |nil =>
    simp![0,a6];calc⟨a,0,_,.w b,⟨rfl,rfl,rfl⟩,b,1,sO b N,⟨rfl,rfl,rfl⟩,?_⟩;simp![0,sO,dEq,dW];calc⟨⋯,?_⟩;exact go _ (by rw[<-T];rfl)
   |cons x r =>
    let Q:dEq (.lst ((x::r).map D.int)) (.lst [])=ι:=by simp[dEq,dW]
    let a0:eW ((x::r).map D.int) 0=ζ (.int x):=dw;let Q2:=hU (x::r);generalize(x::r).map D.int=xr at Q a0 Q2 go ⊢;simp![0,a6];calc⟨a,0,_,.w b,⟨rfl,rfl,rfl⟩,b,1,sO b N,⟨rfl,rfl,rfl⟩,?_⟩;simp![0,sO,Q,a0];calc⟨⋯,?_⟩;calc⟨⋯,?_⟩;calc go _ (by rw[<-T];rfl)
def Aa(C:U):GK:=λe d K=>∃(a b:U)(m:Int)(c:-Wy)(N:Nt)(i:Nat),aH m c/\dc m c N/\gW m N (.fin i)/\e=[.p (a6 m c),.w a,.p (.int (i:Int))]/\d=[lO a b N,sO b N]/\K (.p (jR (N.tell m c (.fin i)))) [lO a b (N.step m c (.fin i)),sO b (N.step m c (.fin i))] []
def Ab(c_Night:U):WS:=(az (b6 (d2 (ah (aj "searches" (aa 1))) (aa 2) ba) (dz 2 (cj (bj 3) (cj (bj 4) dt)))) (az (e8 (dC .non) (ah (aj "searches" (aa 1))) (aa 2)) (az (bh (eP (bT (dT (d2 (aa 3) (dC .non) cu)) (dT (d2 (aa 4) (aj "sure" (aa 1)) (dn ι)))) (dT (d2 (aa 3) (aj "put" (aa 1)) (dn ι)))) (aY (bg (aq (dC .non) (aq (dC (.int 0)) ae)))) cP) (az (bh (dT (d2 (aa 3) (dC .non) cu)) (az (aJ 5 (aA 3 sE (aq (aa 0) (aq (aj "put" (aa 1)) (aq (aa 4) ae))))) (az (aO "sure" (dN (aq (d2 (aj "sure" (aa 1)) (aa 5) bX) ae) kE) (aa 1)) (aY (bg (aq (dC .non) (aq (d2 (dN (aq (aa 5) ae) bB) (dC (.int 1)) (oI λi j=>.int (i-j))) ae)))))) cP) (az (aJ 6 (cx (bo (b8 (d2 (d2 (aa 0) (dC (.int 1)) ba) (aa 3) ba) b7 (eZ (dC (.int 2))))) [η,ζ 0,ζ 1] (bj 0) bI (dN (aq (aA 3 sE (aq (aa 1) (aq (aj "put" (aa 2)) (aq (aa 0) ae)))) ae) bB))) (az (aO "put" (dN (aq (d2 (aj "put" (aa 1)) (bG (aq (aa 3) ae)) bX) ae) kE) (aa 1)) (aY (bg (aq (aa 3) (aq (d2 (dC (.int 1)) (dN (aq (aa 6) ae) pO) bX) ae))))))))))
theorem Q3{q:-gH}{i:Nat}{s:gH}(h:q[i]?=ζ s):eW (q.map fx) (i:Int)=ζ (fx s):=iP (by rw[B8,h];rfl)
theorem Q4{q:-gH}{i:Nat}{s:gH}(h:q[i]?=ζ s):i_ ↑q (i:Int)=ζ i:=by
 let:=(pa.mp h).1;unfold i_;rw[VE ⋯,VE ⋯,V8]
theorem Q5(C:ξ):∀ys f u,↑ys=3->Aa C ys f u->Ab C (af ↑f u) ⟨ys.map ζ++VG 4 η,f.map ζ⟩:=by
 ext ys f u-⟨a,b,m,l,N,i,W,O,⟨F,h,t⟩,rfl,rfl,k⟩;let⟨Q,n,hn⟩:=O.q i F h t;let ds:=hU N.s;let dp:=hU N.p;let R:=W.jE;let pl:=O.pl W;let sl:=O.sl W;let ll:=pP W (p:=N.p) (h:=h);unfold Nt.tell Nt.step at k;dsimp only at k;rw[t] at k;dsimp only at k;rw[zO] at k;unfold Ab;calc bc λM e=>?_;simp![0];calc⟨a,0,_,.w b,⟨rfl,rfl,rfl⟩,b,1,sO b N,⟨rfl,rfl,rfl⟩,?_⟩;simp![0,sO,Q3 t,fx]
 subst e;calc bc λM e=>?_;simp![0];calc⟨a,0,_,.w b,⟨rfl,rfl,rfl⟩,b,1,.al b (N.q.map fx),⟨rfl,rfl,rfl⟩,?_⟩;simp![0,Q4 t]
 let S:(N.q.map fx).set i .non=(N.q.set i η).map fx:=by
  show(N.q.map fx).set i (fx η)=_;exact q5a.symm
 rw[S];unfold lJ dA at k;subst e;refine bc λM e=>iD λA B o r=>?_
 cases F with
 |none =>
  dsimp only at k;simp![0,oD];calc⟨a,0,_,.p (a9 N.s),⟨rfl,rfl,rfl⟩,?_⟩;simp![0,a9];calc⟨⋯,?_⟩;rw[jj]
  by_cases c:h∈N.s
  .rw[VH c]
   rw[VE c,VE c] at k;simp![0];subst o;simp![0];exact⟨[_,_],[],[],rfl,rfl,k⟩
  .rw[VD c]
   rw[VC c,VC c] at k;simp![0];calc⟨a,0,_,.p (a9 N.p),⟨rfl,rfl,rfl⟩,?_⟩;simp![0,a9];calc⟨⋯,?_⟩;rw[QZ];simp![0];subst r;show M _;subst e;calc bc λM e=>iD λA B o r=>?_;simp![0]
   subst o;calc bc λT g=>?_;simp![0];calc⟨a,0,_,.p (a9 N.p),⟨rfl,rfl,rfl⟩,?_⟩;simp![0];calc⟨m,l,N.p,h,W,O.pn,Q,rfl,rfl,?_⟩;simp![0];subst g;let⟨j,z,U,V,X,Y,Z,G,p2,H⟩:=z8 (a:=a) (b:=b) (N:=N);let E:sortI (N.s++aZ m l N.p h)=gv (N.s++aZ m l N.p h):=ED (Qi W O c);refine bc λT g=>?_
   simp![0];calc⟨a,0,_,.p (a9 N.s),⟨rfl,rfl,rfl⟩,?_⟩;simp![0,a9];calc⟨⋯,?_⟩;rw[<-VR];unfold kE;dsimp only;rw[j7];dsimp only;calc⟨by rw[qG];symm,?_⟩;rw[E];calc⟨a,0,j,⟨rfl,by rw[z];rfl,⋯⟩,?_⟩;rw[H];subst g;simp![0,nW];exact⟨[_,_],[],[],rfl,rfl,k⟩
 |some w =>
  let n:=n w rfl;dsimp only at k;simp![0,oD];calc⟨a,0,_,.p (a9 N.p),⟨rfl,rfl,rfl⟩,?_⟩;simp![0,a9];calc⟨⋯,?_⟩;rw[jj]
  by_cases c:w∈N.p
  .rw[VH c]
   rw[VE c,VE c] at k;simp![0];subst o;simp![0];exact⟨[_,_],[],[],rfl,rfl,k⟩
  .rw[VD c]
   rw[VC c,VC c] at k;simp![0];subst r;show M _;subst e;calc bc λM e=>iD λA B o r=>?_;simp![0];subst r;show M _;subst e;let⟨I,J⟩:=yW W n;let⟨y,ey,hy,ea,_⟩:=mE W n.1 n.2;let K:aN l w=y:=ey;let c2:cutD [D.int y.1,D.int y.2.1,D.int y.2.2] η (ζ 2)=[D.int y.1,D.int y.2.1]:=rfl;let l1:=pP W (p:=N.p) (h:=y.1);let l2:=pP W (p:=N.p) (h:=y.2.1);rw[K] at I J;refine bc λM e=>?_
   simp![0,a6,eB,ea,bJ,c2]
   refine L2.j9 (λd=>match d with|.int x=>.int (↑(aZ m l N.p x):Int)|_=>.non) (by show 2<=1000;decide) trivial ?_ ?_
   .ext d P acc L ha hL
    let⟨x,rx,rfl⟩:∃x:Int,(0<=x/\x<m)/\d=.int x:=by
     erw[Uy,Wx,YC] at P;rcases P with rfl|rfl
     .exact⟨_,I,rfl⟩
     .exact⟨_,J,rfl⟩
    simp![0];calc⟨a,0,_,.p (a9 N.p),⟨rfl,rfl,rfl⟩,?_⟩;simp![0];calc⟨m,l,N.p,x,W,O.pn,rx,rfl,rfl,?_⟩;simp![0,a9];exact⟨ha,hL⟩
   simp![0];subst e;let⟨j,z,U,V,X,Y,Z,G,p2,H⟩:=z8 (a:=a) (b:=b) (N:=N);let E:sortI (N.p++[w])=gv (N.p++[w]):=ED (Qj O.pu c);calc bc λM e=>?_;simp![0];calc⟨a,0,_,.p (a9 N.p),⟨rfl,rfl,rfl⟩,?_⟩;simp![0,a9];calc⟨⋯,?_⟩;unfold kE;dsimp only;rw[show N.p.map D.int++[D.int w]=(N.p++[w]).map D.int by rw[VR];rfl,j7]
   dsimp only;calc⟨by rw[qG];simp;symm,?_⟩;rw[E];calc⟨a,0,j,⟨rfl,by rw[z];rfl,⋯⟩,?_⟩;rw[G];subst e;simp![0,pO,intsOf];calc⟨by simp,λx hx bx=>?_⟩;let ex:=E6 hx bx;calc⟨[_,_],[],[],rfl,rfl,?_⟩;unfold yT at k;rw[K,<-ex] at k;calc k
theorem Q6{a b c k:Int}(h:0<=k/\k<3):∃p,eW [D.int a,D.int b,D.int c] k=ζ (.int p)/\(p=a\/p=b\/p=c):=by
 let⟨t,rfl⟩:=Ym h.1;let d:t<3:=by symm
 match t,d with
 |0,_=>exact⟨a,iP Y,.inl Y⟩
 |1,_=>exact⟨b,iP Y,.inr (.inl Y)⟩
 |2,_=>calc⟨c,iP Y,.inr (.inr Y)⟩
theorem Q7{us:-Int}{k:Int}(b:0<=k)(c:k<↑us):∃x,x∈us/\eW (us.map D.int) k=ζ (.int x):=by
 let⟨t,rfl⟩:=Ym b;let a:t<↑us:=by symm
 calc⟨us[t],Yi a,iP (by rw[B8,tE a];rfl)⟩
def Ac(C:U):GK:=λh d K=>∃(n:Int)(a b:U)(m:Int)(f:-Wy)(N:Nt)(c:Int)(o:OV),aH m f/\↑N.q<900/\h=[.o 0,.p (a6 m f),.w a,.p (.int c)]/\d=[o,lO a b N,sO b N]/\bu n o/\n+10<2 ^ 30/\∀e g,gW m N e->bu (n+4) g->K (.p (hV e)) [g,lO a b N,sO b N] []
def Ad(c_Night:U):WS:=(az (aJ 4 (aA 2 h8 (aq (aa 0) (aq (dC (.int 6)) ae)))) (az (aJ 5 (aA 2 h8 (aq (aa 0) (aq (d2 (aa 1) (dC (.int 0)) ba) ae)))) (az (aJ 6 (aD ι 1 (z6 c_Night) (aq (aa 2) ae))) (az (bh (eP (dT (d2 (aa 6) (bG ae) oEq)) (dT (d2 (aa 4) (aa 3) oLt))) (aY (bg (aq (dC (.str "wake")) (aq (aa 5) ae)))) cP) (aY (bg (aq (dC (.str "end")) (aq (d2 (aa 6) (d2 (bG (aq (dC (.int 0)) (aq (d2 (dN (aq (aa 6) ae) bB) (dC (.int 1)) (oI λi j=>.int (i-j))) (aq (aA 2 h8 (aq (aa 0) (aq (dN (aq (aa 6) ae) bB) ae))) ae)))) (aA 2 h8 (aq (aa 0) (aq (dC (.int 3)) ae))) ba) ba) ae))))))))
theorem Q8(C:ξ):∀ys g u,↑ys=4->Ac C ys g u->Ad C (af ↑g u) ⟨ys.map ζ++VG 3 η,g.map ζ⟩:=by
 ext ys g u-⟨n,a,b,m,J,N,e,o,W,K,rfl,rfl,P,hn,k⟩;let m1:=W.m1;let L:=W.iA;unfold Ad;calc bc λM s=>?_;simp![0];calc⟨n,6,o,rfl,rfl,P,⋯,⋯,by decide,λl O k0 k1 Q=>?_⟩;simp![0];subst s;calc bc λM s=>?_;simp![0,a6,dw];refine⟨n+1,m,O,rfl,rfl,Q,⋯,⋯,⋯,λf E R S H=>?_⟩
 simp![0];subst s;calc bc λM s=>?_;simp![0];calc⟨[(1,lO a b N),(2,sO b N)],⟨rfl,rfl,trivial⟩,?_⟩;simp![0];calc⟨a,b,N,K,rfl,rfl,?_⟩;simp![0];subst s;refine bc λM s=>iD λA B T U=>?_
 let d:A ⟨[ζ (.o 0),ζ (.p (.tup [.int m,.tup (J.map bJ)])),ζ (.w a),ζ (.p (.int e)),ζ (.p (.int l)),ζ (.p (.int f)),ζ (.p (a9 (cv 0 N.q)))],[ζ E,ζ (lO a b N),ζ (sO b N)]⟩:=by
  subst T;simp![0];exact⟨[_,_,_],[],[],rfl,rfl,k (.wake f) E ⟨R,S⟩ (H.mono ⋯)⟩
 cases t:cv 0 N.q with
 |nil =>
  rw[t] at d;simp![0,a9,V9,dEq,dW];exact d
 |cons x r =>
  let F:dEq (.lst ((x::r).map D.int)) (.lst [])=ι:=by simp[dEq,dW]
  let V:=hU (x::r);rw[t] at d;let G:=λz (X:z∈x::r)=>sF (i:=0) (q:=N.q) (x:=z) (by rw[t];calc X);let Y:0<↑(x::r):=by simp
  let Z:↑(x::r)<=↑N.q:=by rw[<-t];exact sG
  generalize x::r=us at *;simp![0,a9,F];refine⟨⋯,?_⟩
  by_cases c:l<e
  .rw[VH c]
   simp![0];exact d
  .rw[VD c]
   simp![0];subst U;show M _;subst s;simp![0,nW];calc⟨n+1+1,↑us,E,rfl,rfl,H,⋯,⋯,⋯,λz o3 z0 z1 P3=>?_⟩;simp![0];calc⟨n+1+1+1,3,o3,rfl,rfl,P3,⋯,⋯,by decide,λy o4 y0 y1 P4=>?_⟩;simp![0]
   let⟨p,ep,hp⟩:=Q6 (a:=0) (b:=(↑us:Int)-1) (c:=z) ⟨y0,y1⟩;rw[ep];dsimp only;let⟨w,hw,ew⟩:=Q7 (us:=us) (k:=p) ⋯ ⋯;rw[ew];simp![0];let⟨j,fo,h,I,e2⟩:=G w hw;rw[VJ] at I;subst I;calc⟨[_,_,_],[],[],rfl,rfl,k (.fin j) o4 ⟨fo,h,e2⟩ (P4.mono ⋯)⟩
def Ae(C:U):GK:=λf d K=>∃(a b:U)(m:Int)(c:-Wy)(N:Nt)(e:cM),aH m c/\dc m c N/\gW m N e/\↑N.q<900/\f=[.p (a6 m c),.w a,.p (hV e)]/\d=[lO a b N,sO b N]/\K (.p (jR (N.tell m c e))) [lO a b (N.step m c e),sO b (N.step m c e)] []
def Af(c_Night:U):WS:=(az (bh (dT (d2 (d2 (aa 2) (dC (.int 0)) ba) (dC (.str "wake")) oEq)) (aY (aD ι 3 (z9 c_Night) (aq (aa 0) (aq (aa 1) (aq (d2 (aa 2) (dC (.int 1)) ba) ae))))) cP) (aY (aD ι 3 (Aa c_Night) (aq (aa 0) (aq (aa 1) (aq (d2 (aa 2) (dC (.int 1)) ba) ae))))))
theorem Q9(C:U):∀ys c d,↑ys=3->Ae C ys c d->Af C (af ↑c d) ⟨ys.map ζ++VG 0 η,c.map ζ⟩:=by
 ext r c d-⟨a,b,m,f,N,e,W,O,g,j,rfl,rfl,k⟩;let l:dEq (.str "wake") (.str "wake")=θ:=Y;let n:dEq (.str "end") (.str "wake")=ι:=Y;unfold Af;refine bc λM o=>iD λA B p q=>?_
 cases e with
 |wake h =>
  simp![0,hV,dw,l];subst p;simp![0,eB];calc⟨[(0,lO a b N),(1,sO b N)],⟨Y,Y,trivial⟩,?_⟩;simp![0];calc⟨a,b,m,f,N,h,W,O,g,j,Y,Y,?_⟩;simp![0];exact⟨[_,_],[],[],Y,Y,k⟩
 |fin i =>
  simp![0,hV,dw,n];subst q;show M _;subst o;simp![0,eB];calc⟨[(0,lO a b N),(1,sO b N)],⟨Y,Y,trivial⟩,?_⟩;simp![0];calc⟨a,b,m,f,N,i,W,O,g,Y,Y,?_⟩;simp![0];calc⟨[_,_],[],[],Y,Y,k⟩
def Ag(C:U):GK:=λh f K=>∃(n m c:Int)(d:-Wy)(o:OV),aH m d/\0<=c/\c<=60/\h=[.o 0,.p (a6 m d),.p (.int c)]/\f=[o]/\bu n o/\n+500<2 ^ 30/\∀e g a b,iH m d cg e->↑e=c.toNat->bu (n+400) g->K (.u θ [.p (.lst (e.map hV)),.p (.lst ((kK m d cg e).map jR)),.w a]) [g] [lO a b (runN m d cg e),sO b (runN m d cg e)]
def Ah(c_Night:U):WS:=(az (aJ 3 (d2 (dC (.int 1)) (aA 2 h8 (aq (aa 0) (aq (dC (.int 5)) ae))) bX)) (az (aJ 4 (aD ι 0 (zY c_Night) ae)) (az (aJ 5 (eI ae)) (az (aJ 6 (eI ae)) (az (bH (eA (aq (aa 2) ae)) (bj 7) (az (aJ 8 (aD ι 4 (Ac c_Night) (aq (aa 0) (aq (aa 1) (aq (aa 4) (aq (aa 3) ae)))))) (az (dr (bU (aa 5) (aq (aa 8) ae))) (dr (bU (aa 6) (aq (aD ι 3 (Ae c_Night) (aq (aa 1) (aq (aa 4) (aq (aa 8) ae)))) ae)))))) (aY (aU θ (aq (aa 5) (aq (aa 6) (aq (aa 4) ae))))))))))
theorem Q_(C:ξ):∀ys c t,↑ys=3->Ag C ys c t->Ah C (af ↑c t) ⟨ys.map ζ++VG 6 η,c.map ζ⟩:=by
 ext V c t-⟨n,m,g,ws,o,W,X,F,rfl,rfl,P,Y,k⟩;unfold Ah;calc bc λM f=>?_;simp![0];calc⟨n,5,o,rfl,rfl,P,⋯,⋯,by decide,λz G Z z1 H=>?_⟩;simp![0];subst f;calc bc λM f=>?_;simp![0];calc⟨[],trivial,?_⟩;simp![0]
 calc⟨rfl,rfl,λa b=>?_⟩;simp![0];subst f;calc bc λM f=>?_;simp![0];subst f;calc bc λM f=>?_;simp![0];subst f;calc bc λM f=>j_ λg' b' K2 I u J=>?_;simp![0];refine⟨⋯,?_⟩
 subst I u J;refine jA (λi x=>∃es o,iH m ws cg es/\↑es=i/\bu (n+1+5*i) o/\x=⟨[ζ (.o 0),ζ (.p (a6 m ws)),ζ (.p (.int g)),ζ (.p (.int (1+z))),ζ (.w a),ζ (.o 3),ζ (.o 4),η,η],[ζ o,ζ (lO a b (runN m ws cg es)),ζ (sO b (runN m ws cg es)),ζ (.lst (es.map hV)),ζ (.lst ((kK m ws cg es).map jR))]⟩) ⟨[],G,trivial,rfl,H.mono ⋯,rfl⟩ ?_ ?_
 .ext i d x L K ⟨es,y,l,j,r,rfl⟩ O
  let⟨il,rfl⟩:=ly K;let D:=oV (m:=m) (ws:=ws) (N:=cg) (es:=es);let D:(runN m ws cg es).q.length<=i:=by let z:cg.q.length=0:=rfl;symm
  let E:=dc.run W (lK m ws) l;let Q:=yV (m:=m) (ws:=ws) (N:=cg) (a:=es);let A:∀e o,gW m (runN m ws cg es) e->bu (n+1+5*(i+1:Nat)) o->L ⟨[ζ (.o 0),ζ (.p (a6 m ws)),ζ (.p (.int g)),ζ (.p (.int (1+z))),ζ (.w a),ζ (.o 3),ζ (.o 4),η,η],[ζ o,ζ (lO a b ((runN m ws cg es).step m ws e)),ζ (sO b ((runN m ws cg es).step m ws e)),ζ (.lst (es.map hV++[hV e])),ζ (.lst ((kK m ws cg es).map jR++[jR ((runN m ws cg es).tell m ws e)]))]⟩:=λe o s R=>O _ ⟨es++[e],o,EF l s,by rw[qG,j];rfl,R,by rw[oK,yU,VR,VR];rfl⟩;let B:↑((kK m ws cg es).map jR)=i:=by rw[nW,Q,j]
  generalize runN m ws cg es=N at E D A ⊢;generalize(kK m ws cg es).map jR=ts at A B ⊢;calc⟨trivial,?_⟩;erw[bj,VA,VB];calc bc λS h=>?_;simp![0];calc⟨[(1,lO a b N),(2,sO b N)],⟨rfl,rfl,trivial⟩,?_⟩;simp![0];calc⟨n+1+5*i,a,b,m,ws,N,1+z,y,W,⋯,rfl,rfl,r,⋯,λe T s U=>?_⟩;simp![0]
  subst h;calc bc λS h=>?_;simp![0];calc⟨⋯,?_⟩;subst h;simp![0];calc⟨[(1,lO a b N),(2,sO b N)],⟨rfl,rfl,trivial⟩,?_⟩;simp![0];calc⟨a,b,m,ws,N,e,W,E,s,⋯,rfl,rfl,?_⟩;simp![0]
  exact⟨⋯,A e T s (U.mono ⋯)⟩
 .ext x ⟨es,y,l,j,r,rfl⟩
  calc⟨trivial,?_⟩;show M _;rw[lz] at j r;subst f;simp![0];calc⟨[_],[_,_],[η,η],rfl,rfl,k es y a b l j (r.mono ⋯)⟩
end LJ
namespace L2
open PySem PySem.Spec PyProof.Rows
section
variable{prog:X}{w:l}{A:t}{d:U}
theorem E8:∀{vs:-(Key×M)}{us:-M}{ks:-Int},↑us=↑vs->vs.map (·.1)=ks.map YA->(∀(j:Nat)(v:M),us[j]?=ζ v->∃k x,vs[j]?=ζ (k,x)/\(gJ prog w).is k v=θ)->IntsAre us ks
 |[],[],[],_,_,_=>.nil
 |_::_,[],_,h,_,_=>nomatch h
 |[],_::_,_,h,_,_=>nomatch h
 |[],[],_::_,_,h,_=>nomatch h
 |_::_,_::_,[],_,h,_=>nomatch h
 |f::c,u::p,n::d,g,a,b=>by
  let⟨k,x,i,l⟩:=b 0 u Y;cases(show ζ f=ζ (k,x) from i)
  let a:k::c.map (·.1)=YA n::d.map YA:=a;let⟨m,o⟩:=q06 a;subst m
  let⟨t,rfl⟩:∃t,u=.int n t:=by
   exact q0P (k:=n) (v:=u) l
  calc .cons n t (E8 (YI g) o λj v e=>b (j+1) v e)
theorem gathered{R:-M->ο->Prop}{s:ο}{vs:-(Key×M)}{ep:Nat}{ks:-Int}(G:A.handled=η)(H:(d==sysModules)=ι)(u:s.heap.DictAt (gJ prog w) d vs ep)(z:vs.map (·.1)=ks.map YA)(hn:↑ks<64)
  (h:∀(h':Q)(tk:Nat)(us:-M),(∀b o,s.heap.get? b=ζ o->h'.get? b=ζ o)->⇑s<=h'.objs.size->IntsAre us ks->R us {s with heap:=h',toks:=tk}) :
  ρ (ς prog w) A (collect (.ref d)) R E s:=by
 let L:↑vs=↑ks:=by let:=congrArg q5P z;rwa [nW,nW] at this
 let K:=PySem.W.kdl_dict (knd:=gJ prog w) (kvs:=vs) (ep:=ep) H;let g:=K.there _ u;unfold collect;calc nX (Zf (Xe entry_proto_collect' ?_));rw[Xi PySem.F.plain_proto_collect _];calc nX (XP ?_);calc B7 ⟨Yo q1m _,Xe entry_list_iadd' ?_⟩;rw[Xi q1m _];let I:(s.heap.push {cls:=.type "list",data:=.seq ([]:-M).toArray}).get? ⇑s=ζ {cls:=.type "list",data:=.seq #[]}:=UD _ Y
 let p:=PySem.W.kdl_extend (A:=A) (s:={s with heap:=s.heap.push {cls:=.type "list",data:=.seq ([]:-M).toArray}})
  (R:=λq n=>∃(i:Q)(l:Nat)(k:Array M)(c:Nat),q=.ok (.ret (.ref ⇑s))/\n={s with heap:=i,toks:=l} ∧
   (∀b o,s.heap.get? b=ζ o->i.get? b=ζ o)/\i.get? ⇑s=ζ {cls:=.type "list",dict:=none,data:=.seq k c,slots := #[]}/\IntsAre k.toList ks)
  K G (K.keep _ _ u λb _ o e=>B5 _ e) ⇑s (Yc g.1) (Yc g.2) (.ref ⇑s) 0 I
  (λi l k c m a B=>⟨i,l,k,c,Y,Y,λb o e=>m b o (VF (Vz e)) (B5 _ e),a,E8 (by rw[UC];calc B.1) z λj v e=>B.2 j v (by rw[<-Wt];calc e)⟩) (PySem.W.kdl_size ⋯)
 refine X0 p (λr n x=>?_) λe n x=>?_
 .cases r with
  |done f =>
   let⟨i,l,k,c,e,rfl,m,a,t⟩:=x;cases e
   calc nX (q1r a ?_);exact B7 (h i l k.toList m (Xd (Vz a)) t)
  |again C =>
   calc⟨x.1,YF x.2 λq D y=>?_⟩;let⟨i,l,k,c,rfl,rfl,m,a,t⟩:=y;calc nX (q1r a ?_);exact B7 (h i l k.toList m (Xd (Vz a)) t)
 .let⟨_,_,_,_,J,_⟩:=x
  cases J
theorem E9:∀{us:-M}{ks:-Int},IntsAre us ks->↑us=↑ks
 |_,_,.nil=>Y
 |_,_,.cons _ _ r=>congrArg Nat.succ (E9 r)
theorem Ra{s:L}{Q:br}{vs:-(Key×M)}{ep:Nat}{ks:-Int}(p:A.handled=η)(q:(d==sysModules)=ι)(t:s.heap.DictAt (gJ prog w) d vs ep)(u:vs.map (·.1)=ks.map YA)(hn:↑ks<64)
  (h:∀(h':Α)(tk:Nat)(r:U)(out:Array M)(a:-Int)(e:Nat),(∀b f,s.heap.get? b=ζ f->h'.get? b=ζ f)->⇑s<=r->h'.get? r=ζ (seqObj "list" out e)->IntsAre out.toList a->a.Perm ks->a.Pairwise (· <= ·)->Q (.ref r) {s with heap:=h',toks:=tk}) :
  G (ς prog w) A (call (.builtin "sorted") [.ref d]) Q E s:=by
 calc Zp q3n q2X q2Y (q2Z _) ?_;unfold Builtin.«sorted»;calc nX (m:=checkCount "sorted" 1 1 _) (B7 ?_);calc nX (gathered (A:=A.in1) (by simp[p]) q t u hn λg k i j v l=>?_);let C:=E9 l;calc nX (Z9 ?_);let c:(g.push (seqObj "list" i.toArray 0)).get? g.objs.size=ζ (seqObj "list" i.toArray 0):=UD _ Y;calc nX (WK (XJ (s:={s with heap:=g.push (seqObj "list" i.toArray 0),toks:=k}) q13 ⟨_,c,Y⟩ q1G (list_sort_tree c l ⋯ λout a x y z=>⟨_,Y,?_⟩) (q14 _)));let⟨e,B⟩:=sortedHeap_at (out:=out) c;calc B7 ⟨_,Y,h _ _ _ out a e (λb f n=>?_) v B x y z⟩;let o:b<g.objs.size:=Vz (j b f n)
 show(sortedHeap (g.push (seqObj "list" i.toArray 0)) g.objs.size i out).get? b=ζ f;rw[sortedHeap_old (VF o) (by rw[size_push'];calc WR o)];calc B5 _ (j b f n)
end
section
variable{X:Cx}
theorem E_:∀{kvs:-(Key×V)}{vs:-(Key×M)},KV kvs vs->vs.map (·.1)=kvs.map (·.1)
 |[],_,.nil=>Y
 |_::_,_,.cons r a=>by rw[UB,UB,E_ a,r.1]
theorem Rb(k:X.calm=θ):g6 X (.builtin "sorted") (λxs H Q=>∃(d:U)(kvs:-(Key×V))(ks:-Int),xs=[.ref d]/\H d=ζ (.dK kvs)/\kvs.map (·.1)=ks.map YA/\↑ks<64/\∀(r:U)(a:-Int),a.Perm ks->a.Pairwise (· <= ·)->H r=η->Q (.ref r) (upd H r (.lst (a.map V.int)))):=by
 ext g s N H L O Q I r h;let⟨d,l,M,rfl,m,n,p,q⟩:=h;let⟨u,rfl,t⟩:=vals1 r;cases t
 let⟨z,v,x,c,y⟩:=nZ I.bf m;let⟨o,A,B,C,b⟩:=y;let D:s.heap.DictAt (gJ X.prog X.w) d x B:=⟨o,A,C,b⟩;calc Ra (I.ok.hd k) v D (by rw[E_ c,n]) p λP E r f a e F i G J j K=>?_;calc⟨.ref r,_,I.laid (t':=E) (o:=.lst (a.map V.int)) F i ?_,Y,q _ a j K (I.bf.fresh i)⟩;calc⟨Xd (kW (by rw[nW,j.length_eq];symm)),f.toList,e,tM J,?_⟩;simpa[seqObj] using G
variable[a8]{fa:WA}
def Ai(d:WA):WE:=λe K=>d e λf a=>match f with
 |[x]=>ak x a λ_ _ b=>∃c:-Int,(b.map (·.1)=c.map YA/\↑c<64)/\K (.p (.lst ((sortI c).map D.int))) a
 |_=>False
theorem Fb{b:Type}{R:b->V->Prop}:∀{a:-(Key×b)}{ws:-(Key×V)},d4 R a ws->ws.map (·.1)=a.map (·.1)
 |[],_,h=>by let h:_=[]:=h;subst h;rfl
 |d::r,_,⟨v,t,e,f,c⟩=>by subst e;rw[UB,UB,Fb c]
theorem Rc{a:υ}{p pos:Ε}(g:X.calm=θ)(h:Gl X "sorted")(i:X.mg "sorted" = η)(j:bootBuiltins "sorted" = ζ (.builtin "sorted"))(l:JA X [a] (cX fa))(he:starEach [a] X.env=[(ι,eval a X.env)]:=by rfl):JE X (.Call (.Name "sorted" p) [a] [] pos) (tD (Ai fa)) :=
 (o9 (Rb g) h i j l (he:=he)).weak λO H Q ⟨F,m,n,K,S,q,k⟩=>⟨F,m,n,_,S,q,λo s c P R t T u b w=>by
  match o,c,w with
  |[x],c,⟨v,r,e,y,d⟩ =>
   let d:r=[]:=d;subst d e;let⟨U,B,z,a,A,rfl,⟨C,⟨D,E⟩,G⟩,rfl,V,I,J,W,_⟩:=rS b y c;calc⟨a,A,C,Y,I,by rw[Fb J,D],E,λr L M N f=>?_⟩;calc k _ _ G _ _ _ _ (u.trans (Ext.al b (c_ f))) (b.al (c_ f)) ?_;rw[<-oq M N]
   calc kD b.sub f mB⟩
end
end L2
namespace LJ
open PySem L2
variable[a8]
theorem Aj:∀{i:Nat}{q:-gH},(cN i q).map (·.1)=(cv i q).map YA
 |i,[]=>Y
 |i,none::r=>Aj (i:=i+1) (q:=r)
 |i,some x::r=>congrArg (_ :: ·) (Aj (i:=i+1) (q:=r))
theorem u1:∀{i:Nat}{q:-gH},Up (cv i q)/\∀x∈cv i q,(i:Int)<=x
 |i,[]=>⟨.nil,λ_ h=>nomatch h⟩
 |i,none::r=>by
  let⟨c,b⟩:=u1 (i:=i+1) (q:=r);exact⟨c,λx a=>by let:=b x a;symm⟩
 |i,some y::r=>by
  let⟨c,b⟩:=u1 (i:=i+1) (q:=r);calc⟨Xu.mpr ⟨λx a=>by let:=b x a;symm,c⟩,λx a=>?_⟩;rcases Uy.mp a with rfl|a
  .exact q16 _
  .let:=b x a;symm
theorem Rf{us:-Int}(h:Up us):sortI us=us:=ka (sf h.nd) h λx=>(sortI_perm _).mem_iff
def sI(C:U):GK:=λe c K=>∃(a b:U)(m:Int)(d:-Wy)(N:Nt),↑(cv 0 N.q)<64/\e=[.w a]/\c=[nO C a b m d N,gO b N]/\K (.p (a9 (cv 0 N.q))) [nO C a b m d N,gO b N] []
def Ak(c_Night:U):WS:=(aY (Ai (aq (ah (ag c_Night "going" (aa 0))) ae)))
theorem Rg(C:U):∀ys c d,↑ys=1->sI C ys c d->Ak C (af ↑c d) ⟨ys.map ζ++VG 0 η,c.map ζ⟩:=by
 ext f c d-⟨a,b,m,g,N,e,rfl,rfl,k⟩;unfold Ak;simp![0,Ai];calc⟨a,0,_,.w b,⟨Y,Y,Y⟩,b,1,gO b N,⟨Y,Y,Y⟩,?_⟩;simp![0,gO];calc⟨cv 0 N.q,⟨Aj,e⟩,?_⟩;rw[Rf u1.1];calc⟨[_,_],[],[],Y,Y,k⟩
noncomputable def lP(N:Nt):D:=.tup [a9 N.p,a9 N.k,a9 N.s]
def pU(C:U):GK:=λe c K=>∃(a b:U)(m:Int)(d:-Wy)(N:Nt),e=[.w a]/\c=[nO C a b m d N]/\K (.p (lP N)) [nO C a b m d N] []
def Al(c_Night:U):WS:=(aY (bg (aq (dN (aq (d2 (ag c_Night "latest" (aa 0)) (dC (.int 0)) ba) ae) e7) (aq (dN (aq (d2 (ag c_Night "latest" (aa 0)) (dC (.int 1)) ba) ae) e7) (aq (dN (aq (d2 (ag c_Night "latest" (aa 0)) (dC (.int 2)) ba) ae) e7) ae)))))
theorem Rh(C:U):∀ys c d,↑ys=1->pU C ys c d->Al C (af ↑c d) ⟨ys.map ζ++VG 0 η,c.map ζ⟩:=by
 ext e c d-⟨a,b,m,f,N,rfl,rfl,k⟩;unfold Al;simp![0];calc⟨a,0,_,.p (gw N.p N.k N.s),⟨Y,Y,Y⟩,?_⟩;simp![0,gw,tupI,dw];calc⟨a,0,_,.p (gw N.p N.k N.s),⟨Y,Y,Y⟩,?_⟩;simp![0,gw,tupI,eB];calc⟨a,0,_,.p (gw N.p N.k N.s),⟨Y,Y,Y⟩,?_⟩;simp![0,gw,tupI,at2]
 calc⟨[_],[],[],Y,Y,k⟩
def Am(C:U):GK:=λd c K=>∃(m:Int)(a:-Wy)(b:-cM),aH m a/\iH m a cg b/\↑b<900/\d=[.p (a6 m a),.p (.lst (b.map hV))]/\c=[]/\K (.p (lP (runN m a cg b))) [] []
def An(c_Night:U):WS:=(az (aJ 2 (aF c_Night 2 (sA c_Night) (aq (aa 0) ae))) (az (dr (aD ι 2 (zR c_Night) (aq (aa 2) (aq (aa 1) ae)))) (aY (aB ι c_Night "stand" 1 (pU c_Night) (aa 2) ae))))
theorem Ri(C:U):∀ys c e,↑ys=2->Am C ys c e->An C (af ↑c e) ⟨ys.map ζ++VG 1 η,c.map ζ⟩:=by
 ext j c e-⟨m,d,f,W,i,g,rfl,rfl,k⟩;unfold An;calc bc λM h=>?_;simp![0];ext a;calc⟨[(0,.ins a C [])],⟨Y,trivial⟩,?_⟩;simp![0];calc⟨a,m,d,W,Y,Y,λb=>?_⟩;simp![0];subst h;calc bc λM h=>?_;simp![0]
 calc⟨[(0,nO C a b m d cg),(1,gO b cg)],⟨Y,Y,trivial⟩,?_⟩;simp![0];calc⟨a,b,m,d,f,W,i,g,Y,Y,?_⟩;simp![0];subst h;simp![0];calc⟨⟨a,0,_,Y,Y,Y⟩,[(0,nO C a b m d (runN m d cg f))],⟨Y,trivial⟩,?_⟩;simp![0]
 calc⟨a,b,m,d,runN m d cg f,Y,Y,?_⟩;simp![0];calc⟨[],[],[ζ _,ζ _],Y,Y,k⟩
section
variable{m:Int}{ws:-Wy}{N:Nt}
theorem Ao:∀{i j:Nat}{q:-gH}{fo:Option Int}{h:Int},q[j]?=ζ (ζ (fo,h))->((i+j:Nat):Int)∈cv i q
 |i,j,[],_,_,e=>by simp at e
 |i,0,none::r,_,_,e=>by simp at e
 |i,0,some y::r,_,_,e=>Uz
 |i,j+1,none::r,fo,h,e=>by
  let:=Ao (i:=i+1) (j:=j) (q:=r) (fo:=fo) (h:=h) e⁻¹;rw[show i+1+j=i+(j+1) by symm] at this;exact this
 |i,j+1,some y::r,fo,h,e=>by
  let:=Ao (i:=i+1) (j:=j) (q:=r) (fo:=fo) (h:=h) e⁻¹;rw[show i+1+j=i+(j+1) by symm] at this;calc UA _ this
theorem Fd{q:-gH}{us:-Int}(p:us.Perm (cv 0 q)):∃is:-Nat,us=is.map (λi:Nat=>(i:Int))/\is.Nodup/\∀i,i∈is↔∃fo h,q[i]?=ζ (ζ (fo,h)):=by
 let f:∀x∈us,∃j:Nat,x=(j:Int)/\∃b h,q[j]?=ζ (ζ (b,h)):=λx a=>by
  let⟨j,b,h,d,c⟩:=sF (p.mem_iff.mp a);rw[VJ] at d;exact⟨j,d,b,h,c⟩
 let e:us=(us.map q17).map (λi:Nat=>(i:Int)):=by
  rw[VW];calc(q0X us).symm.trans (W7 λx a=>?_);let⟨j,rfl,_⟩:=f x a;rfl
 refine⟨us.map q17,e,?_,λi=>?_⟩
 .let g:us.Nodup:=p.nodup_iff.mpr u1.1.nd
  rw[e] at g;exact(XO.mp g).imp λh z=>h (by rw[z])
 .rw[VI]
  constructor
  .ext ⟨x,a,rfl⟩
   let⟨j,rfl,r⟩:=f x a;exact r
  .ext ⟨b,h,c⟩
   calc⟨(i:Int),p.mem_iff.mpr ?_,Y⟩;let:=Ao (i:=0) c
   rwa [VJ] at this
def Still(N:Nt):Prop:=∀(i:Nat)(x:Option Int×Int),N.q[i]?≠ζ (ζ x)
theorem Ap(h:Still N):cv 0 N.q=[]:=by
 cases q:cv 0 N.q with
 |nil=>rfl
 |cons a r =>
  let⟨j,b,c,_,e⟩:=sF (i:=0) (q:=N.q) (x:=a) (by rw[q];calc Uz);calc absurd e (h j _)
theorem fh.nD{is:-Nat}{b:Nt}(h:fh m ws N is b)(a:∀i,i∈is↔∃fo h,N.q[i]?=ζ (ζ (fo,h))):Still b:=λi x e=>by
 rw[h.q] at e;split at e
 .cases z:N.q[i]? with
  |none=>rw[z] at e;cases e
  |some y=>rw[z] at e;cases e
 .rename_i c
  calc c ((a i).mpr ⟨_,_,e⟩)
theorem Fe{us vs:-Int}(h:∀x,x∈us↔x∈vs):eV ws us=eV ws vs:=by
 funext w;calc propext ⟨λ⟨k,a,e⟩↦⟨k,(h k).mp a,e⟩,λ⟨k,a,e⟩↦⟨k,(h k).mpr a,e⟩⟩
theorem Rj(W:aH m ws)(O:dc m ws N)(S:kN m ws N)(E:Still N){us:-Int}(y:Nums ws us)(A:∀x,x∈N.p↔x∈us){hs:-Int}(j:∀h,h∈hs↔0<=h/\h<m){o r:Nt}(B:o=runN m ws N (hs.map .wake)){is:-Nat}(F:∀i,i∈is↔∃fo h,o.q[i]?=ζ (ζ (fo,h)))(C:fh m ws o is r):
  (∀x,x∈r.p↔x∈us\/x∈g9 m ws us)/\∀h,0<=h/\h<m->dI ws (aZ m ws N.p h)=[]->h∈r.s:=by
 let⟨_,k,g⟩:=uU (m:=m) (ws:=ws) (N:=N) (hs:=hs) λh z=>(j h).mp z;rw[g] at B;subst B;let D:eV ws N.p=eV ws us:=Fe A
 let v:∀{i:Nat}{u:Option Int}{h:Int},(N.q++hs.map λh=>if h∈N.s then η else ζ (fW ws (aZ m ws N.p h),h))[i]?=ζ (ζ (u,h))->h∈hs/\h∉N.s/\u=fW ws (aZ m ws N.p h):=λ{i u h} e=>by
  by_cases c:i<↑N.q
  .rw[KI c] at e;exact absurd e (E i _)
  .rw[My ⋯,B8] at e
   let⟨x,G,e⟩:=KJ.mp e;split at e
   .cases e
   .rename_i H
    cases e
    exact⟨WU G,H,Y⟩
 let d:∀{h:Int},h∈hs->h∉N.s->∃i∈is,(N.q++hs.map λh=>if h∈N.s then η else ζ (fW ws (aZ m ws N.p h),h))[i]?=ζ (ζ (fW ws (aZ m ws N.p h),h)):=λ{h} a b=>by
  let⟨t,I⟩:=VL.mp a
  let e:(N.q++hs.map λh=>if h∈N.s then η else ζ (fW ws (aZ m ws N.p h),h))[↑N.q+t]?=ζ (ζ (fW ws (aZ m ws N.p h),h)):=by
   rw[My ⋯,ZJ,B8,I];show ζ (if h∈N.s then η else ζ _)=_;rw[VC b]
  exact⟨_,(F _).mpr ⟨_,_,e⟩,e⟩
 refine⟨λx=>?_,λh w J=>?_⟩
 .rw[C.p,gu]
  refine or_congr (A x) ⟨?_,?_⟩
  .ext ⟨i,_,h,e⟩
   let⟨a,b,n⟩:=v e;unfold fW at n;split at n
   .cases n
   .rename_i f
    refine⟨aZ m ws N.p h,((r9 W y).1.mem _).mpr ⟨h,by let:=(j h).mp a;let:=W.m1;symm,by unfold aZ;rw[D]⟩,f,WD n⟩
  .ext ⟨l,K,f,rfl⟩
   let⟨h,w,rfl⟩:=((r9 W y).1.mem _).mp K;let L:cls m.toNat (eV ws us) h=aZ m ws N.p h:=by unfold aZ;rw[D]
   rw[L] at f ⊢;let M:h∉N.s:=λz=>f (S h z);let⟨i,a,b⟩:=d ((j h).mpr ⋯) M;calc⟨i,a,h,?_⟩;rw[b];unfold fW;rw[VC f]
 .rw[C.s]
  by_cases c:h∈N.s
  .exact .inl c
  .let⟨i,a,b⟩:=d ((j h).mpr w) c
   calc .inr ⟨i,a,h,?_,EK W w⟩;rw[b];unfold fW;rw[VE J]
inductive oW (m:Int) (ws:-Wy):-Int->-(-Int)->Prop
 |nil {us:-Int} (h:g9 m ws us=[]):oW m ws us []
 |cons {us a:-Int} {r:-(-Int)} (e:a=g9 m ws us) (h:oW m ws (us++a) r):oW m ws us (a::r)
theorem Ff(W:aH m ws):∀{n:Nat}{us:-Int},Nums ws us->us.Nodup->↑ws<n+↑us->oW m ws us (nB m ws n us)
 |0,d,b,c,h=>by let:=uM b c;symm
 |n+1,d,b,c,h=>by
  unfold nB
  cases q:g9 m ws d with
  |nil=>exact .nil q
  |cons a r =>
   let⟨e,f⟩:=yO W b c;rw[q] at e f;calc .cons q.symm (Ff W e f (by rw[qG,wo];symm))
theorem Fg:∀{n:Nat}{us:-Int},↑(nB m ws n us)<=n
 |0,_=>B6 _
 |n+1,a=>by
  unfold nB;split
  .exact VY _
  .calc Z6 Fg
theorem Rk(W:aH m ws){us:-Int}(b:Nums ws us)(h:g9 m ws us=[]){x:Int}(c:0<=x/\x<m):dI ws (cls m.toNat (eV ws us) x)=[]:=by
 cases q:dI ws (cls m.toNat (eV ws us) x) with
 |nil=>rfl
 |cons a r =>
  let:k8 ws (dI ws (cls m.toNat (eV ws us) x))∈g9 m ws us:=gu.mpr ⟨_,((r9 W b).1.mem _).mpr ⟨x,⋯,Y⟩,by rw[q];calc List.cons_ne_nil _ _,Y⟩;rw[h] at this;calc nomatch this
end
inductive pV (ys:-DV) (bF:-OV) (K:RV->-OV->Prop):Prop
 |mk (n:Int) (us:-Int) (o:OV) (_:↑us<=60) (_:ys=[.o 0,.p (a9 us)]) (_:bF=[o]) (_:bu n o) (_:n+100<2 ^ 30) (_:∀(out:-Int) o',out.Perm us->bu (n+60) o'->K (.p (a9 out)) [o'])
def Aq:WS:=(az (aJ 2 (gb (aq (aa 1) ae) gc)) (aY (cx (eA (aq (dN (aq (aa 2) ae) bB) ae)) [η,ζ 2,ζ 0] (bj 0) bI (f_ (aa 1) (aq (aA 2 h8 (aq (aa 2) (aq (dN (aq (aa 1) ae) bB) ae))) ae)))))
theorem Rl:Sem 2 1 pV Aq:=by
 ext E u F-⟨n,c,o,v,rfl,rfl,P,G,k⟩;unfold Aq;calc bc λM w=>?_;rw[show a9 c=.lst (c.map D.int) from Y];simp!;subst w;simp!;calc⟨⟨⋯,⋯⟩,?_⟩;refine ud (λj f m=>∃o a b,bu (n+j) o/\f=b.map D.int/\(b++a).Perm c/\↑b=j/\m=⟨[η,ζ (.o 1),ζ (.o 0)],[ζ o,ζ (.lst (a.map D.int))]⟩) ⟨o,c,[],P.mono ⋯,Y,.refl _,Y,Y⟩ ?_ ?_
 .ext j d f m L x ⟨i,a,b,l,rfl,g,p,rfl⟩ y
  let⟨q,rfl⟩:=ly x;let q:j<↑c:=by symm
  let s:=g.length_eq;rw[qG] at s;simp!;calc⟨n+j,↑a,i,Y,Y,l,⋯,⋯,⋯,λr z A H B=>?_⟩;simp!;let⟨h,rfl⟩:=Ym A;let t:h<↑a:=by symm
  let C:PySem.seqIndex? (h:Int) ↑a=ζ h:=CH t;rw[C];dsimp only;rw[B8,tE t,xE];calc⟨⟨⋯,⋯⟩,⋯,?_⟩;calc y _ _ ⟨z,a.eraseIdx h,b++[a[h]],B.mono ⋯,by rw[VR];rfl,?_,by rw[qG,p];rfl,Y⟩;rw[X1];exact(Z0 b (xD t)).trans g
 .ext f m ⟨i,a,b,l,rfl,g,p,rfl⟩
  let e:↑(dm 0 (↑c:Int).toNat)=↑c:=by rw[lz];symm
  rw[e] at p l;let s:=g.length_eq;rw[qG] at s;let:a=[]:=XR.mp ⋯;subst this;rw[dV] at g;calc⟨trivial,?_⟩;calc⟨[i],Y,Y,k b i g (l.mono ⋯)⟩
theorem Rm{A B:Nt}(h:A.p=B.p/\A.k=B.k/\A.s=B.s):lP A=lP B:=by
 unfold lP;rw[h.1,h.2.1,h.2.2]
theorem Rn(es:-cM):bD (es.map hV)<=1:=by
 induction es with
 |nil=>simp[bD]
 |cons n r a=>cases n<;>simp[bD,dep,hV]<;>symm
theorem Ro(N:Nt):dep (lP N)<=3:=by
 let a:=hU N.p;let b:=hU N.k;let c:=hU N.s;erw[lP,a9,dep,bD];symm
theorem Fh{m:Int}{ws:-Wy}:∀{N:Nt}{a b:-cM},runN m ws N (a++b)=runN m ws (runN m ws N a) b
 |N,[],b=>Y
 |N,x::a,b=>Fh (N:=N.step m ws x) (a:=a)
theorem Fi{m:Int}{ws:-Wy}:∀{N:Nt}{a b:-cM},iH m ws N a->iH m ws (runN m ws N a) b->iH m ws N (a++b)
 |N,[],b,_,h=>h
 |N,x::a,b,⟨c,d⟩,h=>⟨c,Fi (N:=N.step m ws x) (a:=a) d h⟩
noncomputable def nE:D->D:=λd=>.tup [.str "end",d]
theorem Rp(is:-Nat):((is.map λi:Nat=>(i:Int)).map D.int).map nE=(is.map cM.fin).map hV:=by
 rw[VW,VW,VW];rfl
def Ar(C:U):GK:=λd a K=>∃(n m:Int)(b:-Wy)(o:OV),aH m b/\d=[.o 0,.p (a6 m b)]/\a=[o]/\bu n o/\n+2000<2 ^ 30/\∀c,bu (n+1000) c->K (.p (.bl θ)) [c] []
def As(c_Night:U):WS:=(az (aJ 2 (oR (aD ι 3 (Ag c_Night) (aq (aa 0) (aq (aa 1) (aq (aA 2 h8 (aq (aa 0) (aq (dC (.int 25)) ae))) ae)))) (dC (.int 0)))) (az (aJ 3 (aF c_Night 2 (sA c_Night) (aq (aa 1) ae))) (az (bH (bo (aa 2)) (dz 2 (cj (bj 4) (cj (bj 5) dt))) (bh (dT (d2 (aa 4) (dC (.str "wake")) oEq)) (dr (aB ι c_Night "wake" 2 (sC c_Night) (aa 3) (aq (aa 5) ae))) (dr (aB ι c_Night "end" 2 (pR c_Night) (aa 3) (aq (aa 5) ae))))) (az (aJ 6 (aB ι c_Night "under" 1 (sI c_Night) (aa 3) ae)) (az (aJ 7 (eI ae)) (az (bH (eA (aq (dC (.int 2)) ae)) (bj 8) (az (aJ 9 (cx (bo (aA 2 pV (aq (aa 0) (aq (aa 6) ae)))) [η] (bj 0) bI (bg (aq (dC (.str "end")) (aq (aa 0) ae))))) (dr (bU (aa 7) (aq (aD ι 2 (Am c_Night) (aq (aa 1) (aq (d2 (aa 2) (aa 9) bX) ae))) ae))))) (az (bH (bo (aA 2 pV (aq (aa 0) (aq (aa 6) ae)))) (bj 5) (dr (aB ι c_Night "end" 2 (pR c_Night) (aa 3) (aq (aa 5) ae)))) (aY (eO (d2 (d2 (aa 7) (dC (.int 0)) ba) (d2 (aa 7) (dC (.int 1)) ba) oEq) (eO (d2 (aB ι c_Night "stand" 1 (pU c_Night) (aa 3) ae) (d2 (aa 7) (dC (.int 0)) ba) oEq) (d2 (aB ι c_Night "under" 1 (sI c_Night) (aa 3) ae) (bG ae) oEq)))))))))))
theorem Rq(C:ξ):∀ys G K',↑ys=2->Ar C ys G K'->As C (af ↑G K') ⟨ys.map ζ++VG 8 η,G.map ζ⟩:=by
 ext ys G K'-⟨n,m,ws,o,W,rfl,rfl,P,hn,k⟩;let ww:dEq (.str "wake") (.str "wake")=θ:=rfl;let ew:dEq (.str "end") (.str "wake")=ι:=rfl;unfold As;calc bc λM g=>?_;simp![0,oR];calc⟨n,25,o,rfl,rfl,P,⋯,⋯,by decide,λV o1 m0 m1 P1=>?_⟩;simp![0];calc⟨[],trivial,?_⟩;simp![0]
 calc⟨n+1,m,V,ws,o1,W,⋯,⋯,rfl,rfl,P1,⋯,λes o2 a0 b0 ok el P2=>?_⟩;simp![0];calc⟨θ,_,0,_,⟨rfl,rfl,dw⟩,?_⟩;simp![0];subst g;let Va:↑es<=24:=by symm
 let de:=Rn es;let⟨c,l⟩:∃c,c=runN m ws cg es:=⟨_,rfl⟩;let O1:dc m ws c:=by rw[l];exact dc.run W (lK m ws) ok
 let q1:↑c.q<=24:=by
  let:=oV (m:=m) (ws:=ws) (N:=cg) (es:=es);let z:cg.q.length=0:=rfl;rw[<-l] at this;symm
 calc bc λM g=>?_;simp![0];ext a;calc⟨[(3,.ins a C [])],⟨rfl,trivial⟩,?_⟩;simp![0];calc⟨a,m,ws,W,rfl,rfl,λb=>?_⟩;simp![0];subst g;generalize ζ (lO a0 b0 (runN m ws cg es))=R;generalize ζ (sO b0 (runN m ws cg es))=S;calc bc λM g=>j_ λg' b' K2 X r Y=>?_;simp![0]
 subst X r Y;refine jA (λi s=>s=⟨[ζ (.o 0),ζ (.p (a6 m ws)),ζ (.p (.lst (es.map hV))),ζ (.w a),η,η,η,η,η,η],[ζ o2,R,S,ζ (nO C a b m ws (runN m ws cg (es.take i))),ζ (gO b (runN m ws cg (es.take i)))]⟩) rfl ?_ ?_
 .ext i d s L H rfl E
  rw[B8] at H;let⟨e,T,rfl⟩:=KJ.mp H;let il:i<↑es:=(pa.mp T).1;let⟨K,Z⟩:=pS ok T;let ql:=oV (m:=m) (ws:=ws) (N:=cg) (es:=es.take i);rw[Ww,q1J (Xd il)] at ql;let z0:cg.q.length=0:=rfl;let U:=dc.run W (lK m ws) Z;rw[pT T,oK] at E;generalize runN m ws cg (es.take i)=F at U K ql E ⊢;refine⟨trivial,?_⟩
  cases e with
  |wake h =>
   erw[hV,dz,cj,dt,bj,dG,wo,VP,VA,VB,VJ,Ws,XC];calc iD λA B hA hB=>?_;simp![0,ww];subst hA;simp![0];calc⟨⟨a,3,_,rfl,rfl,rfl⟩,[(3,nO C a b m ws F),(4,gO b F)],⟨rfl,rfl,trivial⟩,?_⟩;simp![0];calc⟨a,b,m,ws,F,h,W,U,K,⋯,rfl,rfl,?_⟩;simp![0]
   exact E _ rfl
  |fin j =>
   erw[hV,dz,cj,dt,bj,dG,wo,VP,VA,VB,VJ,Ws,XC];calc iD λA B hA hB=>?_;simp![0,ew];subst hB;simp![0];calc⟨⟨a,3,_,rfl,rfl,rfl⟩,[(3,nO C a b m ws F),(4,gO b F)],⟨rfl,rfl,trivial⟩,?_⟩;simp![0];calc⟨a,b,m,ws,F,j,W,U,K,rfl,rfl,?_⟩;simp![0]
   exact E _ rfl
 .ext s rfl
  calc⟨trivial,?_⟩;show M _;rw[nW,VX,<-l];let ul:↑(cv 0 c.q)<=24:=Wr sG q1;subst g;calc bc λM g=>?_;simp![0];calc⟨⟨a,3,_,rfl,rfl,rfl⟩,[(3,nO C a b m ws c),(4,gO b c)],⟨rfl,rfl,trivial⟩,?_⟩;simp![0];calc⟨a,b,m,ws,c,⋯,rfl,rfl,?_⟩;simp![0];subst g;refine bc λM g=>?_
  simp![0];subst g
  let t:∀{us:-Int},us.Perm (cv 0 c.q)->∃is:-Nat,us=is.map (λi:Nat=>(i:Int))/\iH m ws c (is.map .fin)/\fh m ws c is (runN m ws c (is.map .fin))/\(∀i,i∈is↔∃fo h,c.q[i]?=ζ (ζ (fo,h))):=λ{us} p=>by
   let⟨is,O,e2,e3⟩:=Fd p;let⟨R,S⟩:=zk W (is:=is) O1 e2 λi H=>(e3 i).mp H;exact⟨is,O,R,S,e3⟩
  let⟨Rr,u0,v0,w0,x0⟩:=t (.refl _);let⟨Q,Fj⟩:∃Q,Q=lP (runN m ws c (Rr.map .fin)):=⟨_,rfl⟩
  let one:∀{is:-Nat},iH m ws c (is.map .fin)->fh m ws c is (runN m ws c (is.map .fin))->(∀i,i∈is↔∃fo h,c.q[i]?=ζ (ζ (fo,h)))->lP (runN m ws c (is.map .fin))=Q:=λ{is} K Z h3=>by
   rw[Fj];exact Rm (fh.eq W (dc.run W O1 K) (dc.run W O1 v0) Z w0 λi=>(h3 i).trans (x0 i).symm)
  let Vb:dep Q<=3:=by rw[Fj];exact Ro _
  calc bc λM g=>j_ λg' b' K2 X r Y=>?_;simp![0];calc⟨by decide,?_⟩;subst X r Y;refine jA (λi s=>∃o,bu (n+401+60*i) o/\s=⟨[ζ (.o 0),ζ (.p (a6 m ws)),ζ (.p (.lst (es.map hV))),ζ (.w a),η,η,ζ (.p (a9 (cv 0 c.q))),ζ (.o 5),η,η],[ζ o,R,S,ζ (nO C a b m ws c),ζ (gO b c),ζ (.lst (VG i Q))]⟩) ⟨o2,P2.mono ⋯,rfl⟩ ?_ ?_
  .ext i d s L H ⟨o3,P3,rfl⟩ E
   let⟨i2,rfl⟩:=ly H;let i2:i<2:=i2;calc⟨trivial,?_⟩;erw[bj,VA,VB];calc bc λM2 Rt=>?_;simp![0];calc⟨n+401+60*i,cv 0 c.q,o3,⋯,rfl,rfl,P3,⋯,λu o4 pm P4=>?_⟩;let⟨is,O,y,I,J⟩:=t pm;let il:is.length<=24:=by let:=pm.length_eq;rw[O,nW] at this;symm
   let f:=one y I J;rw[show a9 u=.lst (u.map D.int) from rfl];simp![0];refine L2.j9 nE (by rw[nW,O,nW];symm) trivial ?_ ?_
   .ext d hd acc L' ha h
    simp![0];exact⟨ha,h⟩
   rw[O,Rp];subst Rt;simp![0,nW];calc⟨⋯,?_⟩;rw[<-VR];calc⟨[],trivial,?_⟩;simp![0];let Ru:iH m ws cg (es++is.map .fin):=Fi ok (by rw[<-l];calc y);calc⟨m,ws,es++is.map .fin,W,Ru,by rw[qG,nW];symm,rfl,rfl,?_⟩;rw[Fh,<-l,f];simp![0];calc⟨by rw[Zc];symm,?_⟩;refine E _ ⟨o4,P4.mono ⋯,?_⟩
   rw[List.replicate_succ']
  .ext s ⟨o3,P3,rfl⟩
   calc⟨trivial,?_⟩;show M _;rw[show↑(dm 0 (q17 2))=2 from rfl] at P3;subst g;calc bc λM g=>j_ λg' b' K2 X r Y=>?_;simp![0];calc⟨n+401+60*(2:Nat),cv 0 c.q,o3,⋯,rfl,rfl,P3,⋯,λu o4 pm P4=>?_⟩;let⟨is,O,y,I,J⟩:=t pm;let il:is.length<=24:=by let:=pm.length_eq;rw[O,nW] at this;symm
   let f:=one y I J;let st:=I.nD J;rw[show a9 u=.lst (u.map D.int) from rfl,O];simp![0];subst X r Y;refine jA (λi s=>s=⟨[ζ (.o 0),ζ (.p (a6 m ws)),ζ (.p (.lst (es.map hV))),ζ (.w a),η,η,ζ (.p (a9 (cv 0 c.q))),ζ (.o 5),η,η],[ζ o4,R,S,ζ (nO C a b m ws (runN m ws c ((is.map cM.fin).take i))),ζ (gO b (runN m ws c ((is.map cM.fin).take i))),ζ (.lst [Q,Q])]⟩) rfl ?_ ?_
   .ext i d s L H rfl E
    rw[B8,B8] at H;let⟨x,hx,rfl⟩:=KJ.mp H;let⟨j,hj,rfl⟩:=KJ.mp hx;let T:(is.map cM.fin)[i]?=ζ (cM.fin j):=by rw[B8,hj];rfl
    let⟨K,Z⟩:=pS y T;let U:=dc.run W O1 Z;rw[pT T,oK] at E;generalize runN m ws c ((is.map cM.fin).take i)=F at U K E ⊢;calc⟨trivial,?_⟩;erw[bj,VA,VB];simp![0];calc⟨⟨a,3,_,rfl,rfl,rfl⟩,[(3,nO C a b m ws F),(4,gO b F)],⟨rfl,rfl,trivial⟩,?_⟩;simp![0];calc⟨a,b,m,ws,F,j,W,U,K,rfl,rfl,?_⟩;simp![0]
    exact E _ rfl
   .ext s rfl
    calc⟨trivial,?_⟩;show M _;rw[nW,nW,show(is.map cM.fin).take is.length=is.map cM.fin by rw[Xc];rw[nW];calc B6 _];generalize runN m ws c (is.map cM.fin)=E2 at f st ⊢;subst g;simp![0,dw,eB];calc⟨⋯,?_⟩;rw[lA];simp![0];calc⟨⟨a,3,_,rfl,rfl,rfl⟩,[(3,nO C a b m ws E2)],⟨rfl,trivial⟩,?_⟩;simp![0]
    calc⟨a,b,m,ws,E2,rfl,rfl,?_⟩;rw[f];simp![0,dw];calc⟨⋯,?_⟩;rw[lA];simp![0];calc⟨⟨a,3,_,rfl,rfl,rfl⟩,[(3,nO C a b m ws E2),(4,gO b E2)],⟨rfl,rfl,trivial⟩,?_⟩;simp![0];calc⟨a,b,m,ws,E2,by rw[Ap st];decide,rfl,rfl,?_⟩;rw[Ap st];simp![0,a9,V9,dEq,dW]
    calc⟨[o4],[],[R,S,ζ _,ζ _,ζ _],rfl,rfl,k o4 (P4.mono ⋯)⟩
theorem all_ints{m:Int}{us:-Int}(u:Up us)(h:∀x,x∈us↔0<=x/\x<m):us=bK m.toNat:=ka u (rY _) λx=>by rw[h,bL];calc⟨λz=>by symm,λz=>by symm⟩
theorem seg{b:Type}{l:-b}{i:Nat}{a:b}(h:l[i]?=ζ a):l.drop i=a::l.drop (i+1):=by
 let⟨c,e⟩:=pa.mp h;rw[YS c,e]
theorem Au:∀{i:Nat}{q r:-gH},↑(cv i (q++r))<=↑(cv i q)+↑r
 |i,[],r=>by rw[Wd];exact Wr sG (Nat.le_add_left _ _)
 |i,none::q,r=>Au (i:=i+1) (q:=q) (r:=r)
 |i,some x::q,r=>by
  let:=Au (i:=i+1) (q:=q) (r:=r);show↑(cv (i+1) (q++r))+1<=↑(cv (i+1) q)+1+↑r;symm
structure Rv(m:Int)(ws:-Wy)(N:Nt)(put:-Int)(R:-(-Int)):Prop where
 ok:dc m ws N
 wh:kN m ws N
 st:Still N
 nums:Nums ws put
 nd:put.Nodup
 eq:∀x,x∈N.p↔x∈put
 rs:oW m ws put R
def Av(C:U):GK:=λd a K=>∃(n m:Int)(b:-Wy)(o:OV),aH m b/\d=[.o 0,.p (a6 m b)]/\a=[o]/\bu n o/\n+10000<2 ^ 30/\∀c,bu (n+5000) c->K (.p (.bl θ)) [c] []
def Aw(c_Night:U):WS:=(az (aJ 2 (aF c_Night 2 (sA c_Night) (aq (aa 1) ae))) (az (aJ 3 (bG ae)) (az (bH (bo (d2 (aA 1 yP (aq (aa 1) ae)) (bG (aq (bG ae) ae)) bX)) (bj 4) (az (bH (bo (aA 2 pV (aq (aa 0) (aq (ft (aq (d2 (aa 1) (dC (.int 0)) ba) ae)) ae)))) (bj 5) (dr (aB ι c_Night "wake" 2 (sC c_Night) (aa 2) (aq (aa 5) ae)))) (az (bH (bo (aA 2 pV (aq (aa 0) (aq (aB ι c_Night "under" 1 (sI c_Night) (aa 2) ae) ae)))) (bj 6) (dr (aB ι c_Night "end" 2 (pR c_Night) (aa 2) (aq (aa 6) ae)))) (az (aJ 3 (d2 (aa 3) (aa 4) bX)) (bh (dT (d2 (d2 (aB ι c_Night "stand" 1 (pU c_Night) (aa 2) ae) (dC (.int 0)) ba) (dN (aq (aa 3) ae) kE) fF)) (aY (dC (.bl ι))) cP))))) (aY (d2 (d2 (aB ι c_Night "stand" 1 (pU c_Night) (aa 2) ae) (dC (.int 2)) ba) (ft (aq (d2 (aa 1) (dC (.int 0)) ba) ae)) oEq)))))
theorem Rw(C:ξ):∀ys G K',↑ys=2->Av C ys G K'->Aw C (af ↑G K') ⟨ys.map ζ++VG 5 η,G.map ζ⟩:=by
 ext ys G K'-⟨n,m,ws,o,W,rfl,rfl,P,hn,k⟩;let m1:=W.m1;let iA:=W.iA;let Vc:=W.jE;let rg:dm 0 m.toNat=(bK m.toNat).map D.int:=ou m.toNat;let il:↑(bK m.toNat)=m.toNat:=k7 _;unfold Aw;calc bc λM U=>?_;simp![0];ext a;calc⟨[(1,.ins a C [])],⟨rfl,trivial⟩,?_⟩;simp![0];calc⟨a,m,ws,W,rfl,rfl,λb=>?_⟩;simp![0]
 subst U;calc bc λM U=>?_;simp![0];subst U;calc bc λM U=>j_ λg' b' K2 V y X=>?_;simp![0];calc⟨m,ws,W,rfl,rfl,?_⟩;let rl:↑(pN m ws)<=↑ws+1:=Fg;let r0:oW m ws [] (pN m ws):=Ff W (λx h=>nomatch h) .nil (by rw[VP];symm);generalize pN m ws=R at rl r0;simp![0,nW]
 calc⟨⋯,?_⟩;subst V y X;refine jA (λi E=>∃o N f,bu (n+120*i) o/\(i<=↑R->Rv m ws N f (R.drop i))/\(↑R<i->N.s=bK m.toNat)/\↑N.q<=12*i/\↑f<=30/\E=⟨[ζ (.o 0),ζ (.p (a6 m ws)),ζ (.w a),ζ (.p (a9 f)),η,η,η],[ζ o,ζ (nO C a b m ws N),ζ (gO b N)]⟩) ⟨o,cg,[],P.mono ⋯,λ_=>⟨lK m ws,zj m ws,(λi x=>by simp[cg]),(λx h=>nomatch h),.nil,(λx=>.rfl),r0⟩,λh=>absurd h ⋯,VY _,VY _,rfl⟩ ?_ ?_
 .ext i d E L J ⟨o1,N,f,P1,hR,Y,ql,pl,rfl⟩ hL
  let iR:i<=↑R:=by
   let:=(pa.mp J).1;rw[qG,nW] at this;simp at this;symm
  let H:=hR iR
  let⟨u,rfl,Z,rs⟩:∃u,d=a9 u/\u=g9 m ws f/\(i<↑R->oW m ws (f++u) (R.drop (i+1))):=by
   by_cases c:i<↑R
   .rw[KI (by rw[nW];calc c),B8] at J
    let⟨u,hu,rfl⟩:=KJ.mp J;let:=H.rs;rw[seg hu] at this
    cases this with
    |cons e h=>exact⟨u,rfl,e,λ_=>h⟩
   .let e:i=↑R:=by symm
    subst e;rw[My (by rw[nW];calc B6 _),nW,Xh] at J;cases(show ζ (D.lst [])=ζ d from J)
    let:=H.rs;rw[q3i] at this
    cases this with
    |nil h=>exact⟨[],rfl,h.symm,λz=>absurd z c⟩
  let T:=yO W H.nums H.nd;rw[<-Z] at T;let ul:=uM T.1 T.2;rw[qG] at ul;calc⟨trivial,?_⟩;erw[bj,VA,VB];calc bc λM2 F=>j_ λg' b' K2 V y X=>?_;simp![0,a6,dw];calc⟨⟨⋯,⋯⟩,?_⟩;rw[rg,show D.lst ((bK m.toNat).map D.int)=a9 (bK m.toNat) from rfl];calc⟨n+120*i,bK m.toNat,o1,by rw[il];symm,rfl,rfl,P1,⋯,λhs o2 pm P2=>?_⟩;rw[show a9 hs=.lst (hs.map D.int) from rfl];simp![0]
  let hh:∀h,h∈hs↔0<=h/\h<m:=λh=>by rw[pm.mem_iff,bL];exact⟨λz=>by symm,λz=>by symm⟩
  let hl:↑hs<=12:=by rw[pm.length_eq,il];symm
  let⟨K,_,_⟩:=uU (m:=m) (ws:=ws) (N:=N) (hs:=hs) λh z=>(hh h).mp z;let O1:=dc.run W H.ok K;let S1:=kN.run W H.ok H.wh K;subst V y X;refine jA (λj E=>E=⟨[ζ (.o 0),ζ (.p (.tup [.int m,.tup (ws.map bJ)])),ζ (.w a),ζ (.p (a9 f)),ζ (.p (a9 u)),η,η],[ζ o2,ζ (nO C a b m ws (runN m ws N ((hs.map cM.wake).take j))),ζ (gO b (runN m ws N ((hs.map cM.wake).take j)))]⟩) rfl ?_ ?_
  .ext j d E L2 hj rfl l
   rw[B8] at hj;let⟨h,I,rfl⟩:=KJ.mp hj;let he:(hs.map cM.wake)[j]?=ζ (cM.wake h):=by rw[B8,I];rfl
   let⟨g1,g2⟩:=pS K he;let jl:j<↑hs:=(pa.mp I).1;let ON:=dc.run W H.ok g2;let qn:=oV (m:=m) (ws:=ws) (N:=N) (es:=(hs.map cM.wake).take j);rw[Ww,nW,q1J (Xd jl)] at qn;rw[pT he,oK] at l;generalize runN m ws N ((hs.map cM.wake).take j)=O at ON g1 qn l ⊢;calc⟨trivial,?_⟩;erw[bj,VA,VB];simp![0];calc⟨⟨a,1,_,rfl,rfl,rfl⟩,[(1,nO C a b m ws O),(2,gO b O)],⟨rfl,rfl,trivial⟩,?_⟩;simp![0]
   calc⟨a,b,m,ws,O,h,W,ON,g1,⋯,rfl,rfl,?_⟩;simp![0];exact l _ rfl
  .ext E rfl
   calc⟨trivial,?_⟩;show M2 _;rw[nW,show(hs.map cM.wake).take ↑hs=hs.map cM.wake by rw[Xc];rw[nW];calc B6 _];let qn:=oV (m:=m) (ws:=ws) (N:=N) (es:=hs.map cM.wake);rw[nW] at qn;let⟨t,Q⟩:∃t,t=runN m ws N (hs.map cM.wake):=⟨_,rfl⟩;rw[<-Q] at O1 S1 qn ⊢
   let Vd:↑(cv 0 t.q)<=12:=by
    let⟨_,k',g⟩:=uU (m:=m) (ws:=ws) (N:=N) (hs:=hs) λh z=>(hh h).mp z;rw[Q,g];let:=Au (i:=0) (q:=N.q) (r:=hs.map λh=>if h∈N.s then η else ζ (fW ws (aZ m ws N.p h),h));rw[Ap H.st,nW] at this;exact Wr this (by rw[VP];symm)
   subst F;calc bc λM2 F=>j_ λg' b' K2 V y X=>?_;simp![0];calc⟨⟨a,1,_,rfl,rfl,rfl⟩,[(1,nO C a b m ws t),(2,gO b t)],⟨rfl,rfl,trivial⟩,?_⟩;simp![0];calc⟨a,b,m,ws,t,⋯,rfl,rfl,?_⟩;simp![0];refine⟨n+120*i+60,cv 0 t.q,o2,⋯,rfl,rfl,P2,⋯,λout o3 Rx P3=>?_⟩
   let⟨is,e1,Ry,ia⟩:=Fd Rx;let⟨S,en⟩:=zk W (is:=is) O1 Ry λi J=>(ia i).mp J;rw[show a9 out=.lst (out.map D.int) from rfl,e1];simp![0];subst V y X;refine jA (λj E=>E=⟨[ζ (.o 0),ζ (.p (.tup [.int m,.tup (ws.map bJ)])),ζ (.w a),ζ (.p (a9 f)),ζ (.p (a9 u)),η,η],[ζ o3,ζ (nO C a b m ws (runN m ws t ((is.map cM.fin).take j))),ζ (gO b (runN m ws t ((is.map cM.fin).take j)))]⟩) rfl ?_ ?_
   .ext j d E L2 hj rfl l
    rw[B8,B8] at hj;let⟨x,hx,rfl⟩:=KJ.mp hj;let⟨h,I,rfl⟩:=KJ.mp hx;let he:(is.map cM.fin)[j]?=ζ (cM.fin h):=by rw[B8,I];rfl
    let⟨g1,g2⟩:=pS S he;let ON:=dc.run W O1 g2;rw[pT he,oK] at l;generalize runN m ws t ((is.map cM.fin).take j)=O at ON g1 l ⊢;calc⟨trivial,?_⟩;erw[bj,VA,VB];simp![0];calc⟨⟨a,1,_,rfl,rfl,rfl⟩,[(1,nO C a b m ws O),(2,gO b O)],⟨rfl,rfl,trivial⟩,?_⟩;simp![0];calc⟨a,b,m,ws,O,h,W,ON,g1,rfl,rfl,?_⟩;simp![0]
    exact l _ rfl
   .ext E rfl
    calc⟨trivial,?_⟩;show M2 _;rw[nW,nW,show(is.map cM.fin).take is.length=is.map cM.fin by rw[Xc];rw[nW];calc B6 _];let O2:=dc.run W O1 S;let S2:=kN.run W O1 S1 S;let yo:=en.nD ia;let⟨tp,ts⟩:=Rj W H.ok H.wh H.st H.nums H.eq hh Q ia en
    let q2:(runN m ws t (is.map cM.fin)).q.length<=↑t.q:=by
     calc q0O.mp ?_;rw[en.q,q0O.mpr (B6 ↑t.q)];split<;>rfl
    generalize runN m ws t (is.map cM.fin)=N2 at O2 S2 yo tp ts q2 ⊢;rw[<-Z] at tp;let ep:N2.p=sortI (f++u):=ka O2.pu (sf T.2) λx=>by rw[tp,(sortI_perm _).mem_iff,VZ]
    let Rz:=hU (sortI (f++u));subst F;calc bc λM2 F=>?_;simp![0,a9,nW];calc⟨⋯,?_⟩;rw[<-VR];subst F;calc iD λA B hA hB=>?_;simp![0];calc⟨⟨a,1,_,rfl,rfl,rfl⟩,[(1,nO C a b m ws N2)],⟨rfl,trivial⟩,?_⟩;simp![0];calc⟨a,b,m,ws,N2,rfl,rfl,?_⟩;simp![0,lP,dw]
    unfold kE;dsimp only;rw[j7];dsimp only;calc⟨by rw[qG];symm,?_⟩;rw[ep];let dd:=lA (.lst ((sortI (f++u)).map D.int));simp![0,a9,dd];calc⟨⋯,?_⟩;subst hB;simp![0];refine hL _ ⟨o3,N2,f++u,P3.mono ⋯,λc=>?_,λc=>?_,⋯,by rw[qG];symm,rfl⟩
    .exact⟨O2,S2,yo,T.1,T.2,λx=>by rw[tp,VZ],rs ⋯⟩
    .let e:u=[]:=by
      let eR:i=↑R:=by symm
      let:=H.rs;rw[eR,q3i] at this
      cases this with
      |nil h=>rw[Z];exact h
     rw[e] at Z;calc all_ints O2.su λx=>⟨O2.sn x,λhx=>ts x hx ?_⟩;let:=Rk W H.nums Z.symm hx;unfold aZ;rw[Fe H.eq];exact this
 .ext E ⟨o1,N,f,P1,hR,Y,ql,pl,rfl⟩
  calc⟨trivial,?_⟩;show M _;let e:↑(R.map a9++[D.lst []])=↑R+1:=by rw[qG,nW];rfl
  rw[e] at Y P1;let Y:=Y ⋯;let Rz:=hU (bK m.toNat);subst U;simp![0];calc⟨⟨a,1,_,rfl,rfl,rfl⟩,[(1,nO C a b m ws N)],⟨rfl,trivial⟩,?_⟩;simp![0];calc⟨a,b,m,ws,N,rfl,rfl,?_⟩;simp![0,lP,at2,a6,dw,Y];calc⟨⟨⋯,⋯⟩,?_⟩;rw[rg];simp![0,a9]
  calc⟨⋯,?_⟩;rw[lA];calc⟨[o1],[],[ζ _,ζ _],rfl,rfl,k o1 (P1.mono ⋯)⟩
noncomputable abbrev KL:KS:=⟨λ_=>False,λx _=>x=.p (.bl θ),λ_=>False,λ_=>False⟩
theorem RA{a b c e k:Int}(h:0<=k/\k<4):∃p,eW [D.int a,D.int b,D.int c,D.int e] k=ζ (.int p)/\(p=a\/p=b\/p=c\/p=e):=by
 let⟨t,rfl⟩:=Ym h.1;let d:t<4:=by symm
 match t,d with
 |0,_=>exact⟨a,iP Y,.inl Y⟩
 |1,_=>exact⟨b,iP Y,.inr (.inl Y)⟩
 |2,_=>exact⟨c,iP Y,.inr (.inr (.inl Y))⟩
 |3,_=>calc⟨e,iP Y,.inr (.inr (.inr Y))⟩
def Ax(c_Night:U):WS:=(az (bH (eA (aq (dC (.int 4)) ae)) (bj 2) (az (aJ 3 (aA 3 xF (aq (aA 1 xw (aq (aa 1) ae)) (aq (d2 (bG (aq (dC (.int 6)) (aq (dC (.int 12)) (aq (dC (.int 9)) (aq (dC (.int 4)) ae))))) (aa 2) ba) (aq (dC (.int 30)) ae))))) (bh (eP (bQ (dT (aD ι 2 (Ar c_Night) (aq (aa 1) (aq (aa 3) ae))))) (bQ (dT (aD ι 2 (Av c_Night) (aq (aa 1) (aq (aa 3) ae)))))) (aY (dC (.bl ι))) cP))) (aY (dC (.bl θ))))
theorem RB(C:U)(ns:-Int)(hn:↑ns<=63):Ax C KL ⟨η::ζ (.o 0)::VG 2 η,[ζ (jO ns 0 0)]⟩:=by
 unfold Ax;calc bc λN n=>?_;simp![0];calc⟨by decide,?_⟩;refine jA (λi g=>∃o,bu (20000*i) o/\g=⟨η::ζ (.o 0)::VG 2 η,[ζ o]⟩) ⟨jO ns 0 0,⟨ns,0,0,Y,hn,⋯,⋯⟩,Y⟩ ?_ ?_
 .ext j d g L p ⟨o,P,rfl⟩ q
  let⟨f,rfl⟩:=ly p;let f:j<4:=f;calc⟨trivial,?_⟩;erw[bj,VN,VU,VA,VB];let⟨r,h,s⟩:=RA (a:=6) (b:=12) (c:=9) (e:=4) (k:=0+(j:Int)) ⟨⋯,⋯⟩;calc bc λM t=>?_;simp![0];calc⟨20000*j,o,Y,Y,P,λu w=>?_⟩;simp![0,h];calc⟨20000*j,r,30,u,Y,Y,w,⋯,⋯,⋯,⋯,⋯,λm l x W _ _ y=>?_⟩;simp![0]
  subst t;calc iD λA B H z=>?_;simp![0];calc⟨[],trivial,?_⟩;simp![0];calc⟨20000*j+300,m,l,x,W,Y,Y,y,⋯,λD E=>?_⟩;simp![0];calc⟨[],trivial,?_⟩;simp![0];refine⟨20000*j+300+1000,m,l,D,W,Y,Y,E,⋯,λF G=>?_⟩
  simp![0];subst z;simp![0];exact q _ ⟨F,G.mono ⋯,Y⟩
 .ext g ⟨o,P,rfl⟩
  calc⟨trivial,?_⟩;show N _;subst n;simp![0]
end LJ
namespace L2
open PySem PySem.Spec PyProof.Rows
variable[a8]
section
variable{F H:Hp}{ad:-U}{δ:aI}{σ:St}
variable{X:Cx}{a b e i o:J}{es:-J}{body:-y}{f g:WE}{fa:WA}{w:WI}{wg:WG}{bs:WS}{pos:I}
theorem RC(E:JE X a (tD f))(G:JE X i (tD g))(hs:wa i:=by ext _ _;rfl):JE X (.Subscript a i pos) (tD (oR f g)):=(wc Ks E G hs).weak fun σ H Q ⟨F,I,J,K,S,q,k⟩ ↦
 ⟨F,I,J,_,S,q,λx o L v M p H1 N O P=>⟨M,p,o,_,O,L,λy R T u U V H2 r D h=>by
  let⟨t,s,j,w,⟨rfl,rfl,c⟩,W⟩:=T;let⟨b,A,rfl,l,m⟩:=P;let h:Is U (.int j) u:=h;erw[Is] at h;subst h;let l:=D.sub _ _ (r.same _ _ l);let m:=m.same r.same
  let⟨n,B,C⟩:∃n,i_ ↑s j=ζ n/\s[n]?=ζ w:=by
   unfold eW at c
   cases z:i_ ↑s j with
   |none=>rw[z] at c;cases c
   |some n=>rw[z] at c;exact⟨n,rfl,c⟩
  let⟨v,Y,Z⟩:=m.get C;let d:eW A j=ζ v:=by unfold eW;rw[↑m,B];exact Y
  let e:=k _ _ W _ _ _ _ (N.trans r) D Z.v
  cases t with
  |true=>exact .inr (.inl ⟨b,A,j,v,rfl,rfl,cF.of l,d,e⟩)
  |false=>calc .inl ⟨b,A,j,v,rfl,rfl,bS.of l,d,e⟩⟩⟩
end
end L2
namespace LJ
open PySem L2 PySem.Spec PySem.W PyProof.Rows
variable[a8]
end LJ
namespace L2
open PySem PySem.Spec PyProof.Rows
noncomputable def RD:J->-R
 |.Name x _=>[x]
 |.Tuple a _ _=>a.filterMap fun
  |.Name x _=>ζ x
  |_=>η
 |_=>[]
noncomputable def d_(N:-R)(cp:-(Option Nat))(a:J):-R:=RD a++cp.filterMap λc=>c.bind λi=>N[i]?
variable[a8]
section
variable{X:Cx}{tg iter elt:J}{ifs:-J}{scope:o}{pos:I}{w:WI}{g:WG}{t:WT}{f:WE}{cp:-(Option Nat)}
theorem RE(a:JI X tg iter (kC w))(b:∀d,(d_ X.N cp tg).Nodup->JG (dH X scope (d_ X.N cp tg) d) tg (j5 g))(c:∀d,JF (dH X scope (d_ X.N cp tg) d) ifs (d5 t))(he:∀d,JE (dH X scope (d_ X.N cp tg) d) elt (tD f))(e:X.calm=θ:=by rfl)(hn:S (d_ X.N cp tg).Nodup=θ:=by kernel_rfl)
  (h:scope.kind=.function:=by rfl) (i:lh X.N X.env.scope scope (d_ X.N cp tg) cp=θ:=by kernel_rfl) (hs:∀x,foldedSetIterable iter X.env x=pure x:=by ext _;rfl) :
  JE X (.ListComp elt [⟨tg,iter,ifs,0⟩] scope pos) (tD (cx w cp g t f)):=tW cp _ e a (λd=>b d (W_ hn)) c he h i hs
theorem RF(a:JI X tg iter (kC w))(b:∀d,(d_ X.N cp tg).Nodup->JG (dH X scope (d_ X.N cp tg) d) tg (j5 g))(c:∀d,JF (dH X scope (d_ X.N cp tg) d) ifs (d5 t))(he:∀d,JE (dH X scope (d_ X.N cp tg) d) elt (tD f))(e:X.calm=θ:=by rfl)(hn:S (d_ X.N cp tg).Nodup=θ:=by kernel_rfl)
  (h:scope.kind=.function:=by rfl) (i:lh X.N X.env.scope scope (d_ X.N cp tg) cp=θ:=by kernel_rfl) (hs:∀x,foldedSetIterable iter X.env x=pure x:=by ext _;rfl) :
  JE X (.ListComp elt [⟨tg,iter,ifs,0⟩] scope pos) (tD (eY w cp g t f)):=L3 cp _ e a (λd=>b d (W_ hn)) c he h i hs
theorem RG[j3]{i:Nat}{x:R}{a b:I}(j:X.N.Nodup)(c:JI X tg iter (kC w))(k:∀d,(d_ X.N cp tg).Nodup->JG (dH X scope (d_ X.N cp tg) d) tg (j5 g))(l:∀d,JF (dH X scope (d_ X.N cp tg) d) ifs (d5 t))(he:∀d,JE (dH X scope (d_ X.N cp tg) d) elt (tD f))(m:X.N[i]?=ζ x:=by rfl)(n:Loc X.env.scope x:=by trivial)(o:X.calm=θ:=by rfl)(hn:S (d_ X.N cp tg).Nodup=θ:=by kernel_rfl)
  (p:scope.kind=.function:=by rfl) (q:lh X.N X.env.scope scope (d_ X.N cp tg) cp=θ:=by kernel_rfl) (hs:∀x,foldedSetIterable iter X.env x=pure x:=by ext _;rfl)
  (e:swapsWith (.ListComp elt [⟨tg,iter,ifs,0⟩] scope pos) (ζ (.Name x a)) b.line X.env=pure θ:=by rfl)
  (h:ik X x:=by first|exact .inl Y|exact .inr Y|assumption) :
  JS X (.Assign [.Name x a] (.ListComp elt [⟨tg,iter,ifs,0⟩] scope pos) b) (eh (aJ i (cx w cp g t f))):=wR cp _ j m n o c (λd=>k d (W_ hn)) l he p q hs e h
end
end L2
namespace LJ
open PySem L2 PySem.Spec PySem.W PyProof.Rows
variable[a8]{X:Cx}{Z:Ev}{x:R}{ps:-R}{G:GD}{e:J}{es:-J}{fa:WA}{p pos:I}{j k n:Nat}
end LJ
namespace LJ
open PySem L2 PySem.Spec PySem.W PyProof.Rows
variable[a8]
def Ay(V:Ev)(x:R)(d:D):Prop:=∃v u,V.mg x=ζ u/\RelV v u/\Is a8.cs d v
theorem RH{X:Cx}{x:R}{d:D}{pos:I}(C:Ay ⟨X.prog,X.w,X.K,X.mg,X.base⟩ x d)(a:Gl X x:=by rfl)(hd:cy x:=by decide):JE X (.Name x pos) (tD (dC d)) :=
 let⟨_,_,b,r,c⟩:=C
 (Bm a b r hd).weak λ_ _ _ ⟨_,_,_,_,S,q,k⟩↦k _ _ q _ _ _ _ .refl S (Is.same S.nt.cs c)
def u2(K:KD)(x:R)(d:D):Prop:=∃v u,Yf K mainGlobals x=ζ (ζ u)/\RelV v u/\Is a8.cs d v
theorem u2.v{K:KD}{h:Q}{b:R->Option M}{P:ψ}{w:l}{base:Q}{x:R}{d:D}(c:u2 K x d)(X:K.In h)(G:h.Ns mainGlobals b):Ay ⟨P,w,K,b,base⟩ x d :=
 let⟨v,u,a,r,i⟩:=c
 ⟨v,u,Zu X G a,r,i⟩
end LJ
namespace LJ
open PySem L2
noncomputable def top(i:Nat):y:=PySem.Challenge.pw_lotjoin_k51_whole_searches_in_any_order.main.body.getD i (.Pass ⟨0,0,0,0⟩)
section
variable[a8]{Z:Ev}
set_option hygiene false
local macro_rules | `(tactic| ac_rfl) => `(tactic| repeat' first|(show JE _ (.Name _ _) _;(first|exact dv _|exact Qp (by assumption)))|(show JE _ (.Constant _ _ _) _;(first|exact b9|exact tP|exact kz))|(show JA _ _ _;(first|exact bq|refine a7 ?_ ?_|refine cB ?_ ?_|refine fm ?_ ?_|refine cY ?_ ?_|refine q4 ?_ ?_|refine q3 ?_ ?_|refine jf ?_ ?_))|(show JE _ (.Call _ _ _ _) _;(first|refine cS (by assumption) hr ?_|refine Qo (by assumption) hr ?_|refine iQ ot (by rfl) B.len YQ ?_|refine iQ (MB rfl) (by rfl) B.all LH ?_|refine iQ (MC rfl) (by rfl) B.min ue ?_|refine iQ (MD rfl) (by rfl) B.max MN ?_|refine iQ (Ez rfl) (by rfl) B.min ue ?_|refine iQ (N8 hu) (by rfl) B.sorted lD ?_|refine iQ rH (by rfl) B.sorted lD ?_|refine q9 t8 (by rfl) B.list lX ?_|refine q9 MA (by rfl) B.tuple CD ?_|refine MP MQ (by rfl) B.list lX ?_|refine t9 ME (by rfl) B.isinstance (by rfl) B.int LG ?_|refine t9 MF (by rfl) B.isinstance (by rfl) B.bool LF ?_|refine t9 MG (by rfl) B.isinstance (by rfl) B.tuple CD ?_|refine t9 MH (by rfl) B.isinstance (by rfl) B.list lX ?_|refine xk rfl (by rfl) B.list lX (by rfl) B.range xo ?_|refine MV rfl (by rfl) B.sorted lD (by rfl) B.set qW ?_|refine yS rfl (by rfl) B.sorted lD (by rfl) B.set qW ?_|refine Nj rfl hu (by rfl) B.len YQ (by rfl) B.set qW ?_|refine(kU W9 Xw Xx mm ?_ ?_).weak oz|refine(kU W9 q08 q09 B1 ?_ ?_).weak Ds|refine(kU W9 PySem.F.slot_list_pop PySem.F.type_list_pop Kz ?_ ?_).weak MI))|(show JE _ (.Subscript _ _ _) _;(first|refine dS dX ?_ ?_ λ_ _=>rfl|refine xp ?_ ?_ ?_))|(show JE _ (.BinOp _ _ _ _) _;(first|refine g7 (op:=.Add) k4 ?_ ?_|refine g7 (op:=.Sub) rE ?_ ?_|refine g7 (op:=.Mult) xb ?_ ?_|refine g7 (op:=.Mod) Mt ?_ ?_|refine g7 (op:=.FloorDiv) M6 ?_ ?_|refine g7 (op:=.Pow) Mu ?_ ?_|refine MR ?_ ?_))|(show JE _ (.Compare _ _ _ _) _;(first|refine my (op:=.Eq) (lC hu) ?_ ?_ (by rfl)|refine my (op:=.NotEq) (xc hu) ?_ ?_ (by rfl)|refine my (op:=.Lt) (xf hu) ?_ ?_ (by rfl)|refine my (op:=.Gt) C_ ?_ ?_ (by rfl)|refine my (op:=.In) (oo hu) ?_ ?_ (by rfl)|refine Mz C9 C9 ?_ ?_ ?_))|(show JE _ _ _;(first|refine kA ?_|refine oa ?_|refine jN ?_|refine wM ?_ ?_|refine CP ?_|refine LY ?_|refine CQ ?_ ?_ ?_|exact D1|refine RE ?_ (λd nd=>?_) (λd=>?_) λd=>?_|refine RF ?_ (λd nd=>?_) (λd=>?_) λd=>?_))|(show JS _ _ _;(first|refine f7 ?_|refine j4 ?_ ?_ ?_|refine RG nd ?_ (λd nd=>?_) (λd=>?_) λd=>?_|refine f6 nd rfl (by trivial) ?_|refine jy ?_|refine D4 hu ?_ ?_ ?_|refine(s_ ?_ (vN ?_ ?_ set_list)).weak Dt|refine CS ?_ ?_|refine lr Xp rfl ?_ ?_ ?_|refine Oh Xp ?_ ?_|exact uf))|(show ee _ _ _;(first|refine dy ?_|refine bZ ?_ ?_|exact kB))|(show JT _ _ _;(first|refine gE (op:=.Eq) (lC hu) ?_ ?_ (by rfl)|refine gE (op:=.Lt) (xf hu) ?_ ?_ (by rfl)|refine gE (op:=.Gt) C_ ?_ ?_ (by rfl)|refine gE (op:=.GtE) Mv ?_ ?_ (by rfl)|refine gE (op:=.In) (oo hu) ?_ ?_ (by rfl)|refine gE (op:=.NotIn) (xg hu) ?_ ?_ (by rfl)|refine gE (op:=.Is) xq ?_ ?_ (by rfl)|refine gE (op:=.IsNot) DK ?_ ?_ (by rfl)|refine Of hu ?_ ?_|refine rh ?_|refine JW.jt (pv ?_ ?_)|refine JW.jt (pq ?_ ?_)|refine oe ?_))|(show JW _ _ _;(first|refine pv ?_ ?_|refine rj ?_|refine pq ?_ ?_|refine ri ?_))|exact xh|refine xi ?_|refine t4 (by rfl) B.range ?_|refine Mr (by rfl) B.range ?_|refine tZ (by rfl) B.enumerate ?_|refine l4 ?_|exact hH nd rfl (by trivial)|refine px rfl ?_|exact pw|refine lq ?_ ?_|exact wQ|refine tU ?_)
noncomputable abbrev Fl:y:=top 10
abbrev Az(Z:Ev):Prop:=Fx Z 1 "is_whole" ["thing"] 1 ui
theorem RI(D:Dx Z "is_whole" Fl)(B:BT Z.mg):Az Z:=d9 (N:=["thing"]) D mO λhr nd hu=>⟨xI,(by ac_rfl),Ng⟩
noncomputable abbrev Fm:y:=top 11
abbrev pW(Z:Ev):Prop:=Fx Z 2 "is_within" ["thing", "least", "most"] 3 nv
theorem RJ(D:Dx Z "is_within" Fm)(B:BT Z.mg)(Fp:Az Z):pW Z:=d9 (N:=["thing", "least", "most"]) D jn λhr nd hu=>⟨xJ,(by ac_rfl),Nh⟩
noncomputable abbrev Fs:y:=top 12
abbrev u3(Z:Ev):Prop:=Fx Z 1 "is_tuple_of" ["thing", "size"] 2 pH
theorem RL(D:Dx Z "is_tuple_of" Fs)(B:BT Z.mg):u3 Z:=d9 (N:=["thing", "size"]) D g_ λhr nd hu=>⟨xK,(by ac_rfl),Ni⟩
noncomputable abbrev Ft:y:=top 13
abbrev Fu(Z:Ev):Prop:=Fx Z 3 "are_ends" ["many", "one", "other"] 3 xM
theorem RM(D:Dx Z "are_ends" Ft)(B:BT Z.mg)(sJ:pW Z):Fu Z:=d9 (N:=["many", "one", "other"]) D jn λhr nd hu=>⟨xN,(by ac_rfl),Nk⟩
noncomputable abbrev Fv:y:=top 14
abbrev Fw(Z:Ev):Prop:=Fx Z 4 "is_way" ["many", "thing"] 2 xO
theorem RN(D:Dx Z "is_way" Fv)(B:BT Z.mg)(Ve:Ct Z "MOST_PRICE" 1000000000)(u4:u3 Z)(Vf:Fu Z)(sJ:pW Z):Fw Z:=d9 (N:=["many", "thing"]) D g_ λhr nd hu=>⟨xP,(by ac_rfl),Nl⟩
noncomputable abbrev Fy:y:=top 15
abbrev Fz(Z:Ev):Prop:=Fx Z 5 "are_ways" ["many", "thing"] 2 xQ
theorem RO(D:Dx Z "are_ways" Fy)(B:BT Z.mg)(Vg:Ct Z "MOST_WAYS" 30)(Vh:Fw Z):Fz Z:=d9 (N:=["many", "thing"]) D g_ λhr nd hu=>⟨xR,(by ac_rfl),Nm⟩
noncomputable abbrev FA:y:=top 16
abbrev FC(Z:Ev):Prop:=Fx Z 6 "is_web" ["thing"] 1 xS
theorem RP(D:Dx Z "is_web" FA)(B:BT Z.mg)(Vi:Ct Z "MOST_HOUSES" 12)(u4:u3 Z)(sJ:pW Z)(Vj:Fz Z):FC Z:=d9 (N:=["thing"]) D mO λhr nd hu=>⟨xT,(by ac_rfl),Nn⟩
noncomputable abbrev FD:y:=top 17
abbrev AA(Z:Ev):Prop:=Fx Z 7 "need_web" ["web"] 1 uz
theorem RQ(D:Dx Z "need_web" FD)(B:BT Z.mg)(Vk:FC Z):AA Z:=d9 (N:=["web"]) D mO λhr nd hu=>⟨yf,(by ac_rfl),Oa⟩
noncomputable abbrev FE:y:=top 18
abbrev FF(Z:Ev):Prop:=Fx Z 1 "rank_of" ["way"] 1 yg
theorem RR(D:Dx Z "rank_of" FE)(B:BT Z.mg):FF Z:=d9 (N:=["way"]) D mO λhr nd hu=>⟨yh,(by ac_rfl),Ob⟩
noncomputable abbrev FG:y:=top 20
abbrev FH(Z:Ev):Prop:=Fx Z 8 "need_ways" ["web", "ways"] 2 ym
theorem RS(D:Dx Z "need_ways" FG)(B:BT Z.mg)(FI:AA Z)(sJ:pW Z):FH Z:=d9 (N:=["web", "ways", "last", "seen", "place", "number"]) D g_ λhr nd hu=>⟨yn,(by ac_rfl),Ol⟩
noncomputable abbrev FJ:y:=top 21
abbrev AB(Z:Ev):Prop:=Fx Z 1 "joined" ["firsts", "one", "other"] 3 rN
theorem RT(D:Dx Z "joined" FJ)(B:BT Z.mg):AB Z:=d9 (N:=["firsts", "one", "other", "gone", "kept"]) D jn λhr nd hu=>⟨xU,(by ac_rfl),Np⟩
noncomputable abbrev AD:y:=top 22
abbrev FK(Z:Ev):Prop:=Fx Z 2 "firsts_of" ["web", "ways"] 2 uj
abbrev FL(Z:Ev):Prop:=Fx Z 2 "firsts_of" ["web", "ways"] 2 zu
theorem RU(D:Dx Z "firsts_of" AD)(B:BT Z.mg)(RW:AB Z):FK Z:=d9 (N:=["web", "ways", "firsts", "number", "way"]) D g_ λhr nd hu=>⟨uk,(by ac_rfl),Nq⟩
theorem RX(D:Dx Z "firsts_of" AD)(B:BT Z.mg)(RW:AB Z):FL Z:=d9 (N:=["web", "ways", "firsts", "number", "way"]) D g_ λhr nd hu=>⟨zv,(by ac_rfl),QC⟩
noncomputable abbrev FN:y:=top 25
abbrev AE(Z:Ev):Prop:=Fx Z 5 "least_of" ["web", "ways"] 2 uJ
theorem RY{T:U}(D:uW Z "least_of" FN T ⟨78,25,78,63⟩ ((("least_of" : R)++".<locals>.")++"<lambda>"))(B:BT Z.mg)(RZ:FF Z):AE Z:=Qu (N:=["web", "ways"]) D g_ λLD hc hr nd hu=>⟨yK,(dy (f7 (Px ι (lF.mk (x:="number") (Nb:=["web"]) (cp:=[ζ 0]) ⟨LD.env hc,LD.ng,LD.blt⟩ LD.tbl Y Y (by first|rfl|kernel_rfl) Y Y (λ_ _ _ _ _=>Y) ⟨1,hr.mono (by decide),λd hr=>(cS RZ hr (cY (dS dX (dS dX (dv 1) b9 (λ_ _=>Y)) (dv 0) (λ_ _=>Y)) bq))⟩) hu (by rfl) B.min ue (a7 (dv 1) bq)))),PA⟩
noncomputable abbrev FO:y:=top 26
abbrev FP(Z:Ev):Prop:=Fx Z 1 "leads_out" ["way", "houses"] 2 yH
theorem R0(D:Dx Z "leads_out" FO)(B:BT Z.mg):FP Z:=d9 (N:=["way", "houses"]) D g_ λhr nd hu=>⟨yI,(by ac_rfl),Py⟩
noncomputable abbrev FQ:y:=top 27
abbrev AF(Z:Ev):Prop:=Fx Z 2 "ways_out" ["web", "houses"] 2 uI
theorem R1(D:Dx Z "ways_out" FQ)(B:BT Z.mg)(Vl:FP Z):AF Z:=d9 (N:=["web", "houses"]) D g_ λhr nd hu=>⟨yJ,(by ac_rfl),Pz⟩
noncomputable abbrev FR:y:=top 28
abbrev u5(Z:Ev):Prop:=Fx Z 3 "lot_at" ["web", "ways", "house"] 3 sx
theorem R3(D:Dx Z "lot_at" FR)(B:BT Z.mg)(Vm:FL Z):u5 Z:=d9 (N:=["web", "ways", "house", "firsts"]) D jn λhr nd hu=>⟨zw,(by ac_rfl),QD⟩
noncomputable abbrev FT:y:=top 29
abbrev AG(Z:Ev):Prop:=Fx Z 1 "ends_of" ["web", "ways"] 2 uN
theorem R4(D:Dx Z "ends_of" FT)(B:BT Z.mg):AG Z:=d9 (N:=["web", "ways"]) D g_ λhr nd hu=>⟨yR,(by ac_rfl),PN⟩
noncomputable abbrev FU:y:=top 32
abbrev u6(Z:Ev):Prop:=Fx Z 1 "rising" ["numbers"] 1 sy
theorem R5(D:Dx Z "rising" FU)(B:BT Z.mg):u6 Z:=d9 (N:=["numbers"]) D mO λhr nd hu=>⟨zy,(by ac_rfl),QE⟩
noncomputable abbrev FW:y:=top 33
abbrev FX(Z:Ev):Prop:=Fx Z 2 "letters_of_asking" ["web", "stand", "lot"] 3 zz
theorem R6(D:Dx Z "letters_of_asking" FW)(B:BT Z.mg)(R7:AG Z):FX Z:=d9 (N:=["web", "stand", "lot", "settled", "unsettled", "asking"]) D jn λhr nd hu=>⟨zA,(by ac_rfl),QI⟩
noncomputable abbrev FY:y:=top 34
abbrev FZ(Z:Ev):Prop:=Fx Z 1 "ways_within" ["web", "lot"] 2 zB
theorem R8(D:Dx Z "ways_within" FY)(B:BT Z.mg):FZ Z:=d9 (N:=["web", "lot"]) D g_ λhr nd hu=>⟨zC,(by ac_rfl),QJ⟩
noncomputable abbrev F7:y:=top 35
abbrev F8(Z:Ev):Prop:=Fx Z 6 "waked" ["web", "stand", "house"] 3 zD
theorem R9(D:Dx Z "waked" F7)(B:BT Z.mg)(F9:u5 Z)(R_:AE Z)(Sa:AF Z)(Vn:FZ Z)(F_:u6 Z)(Vo:FX Z):F8 Z:=d9 (N:=["web", "stand", "house", "lot", "found", "within", "behind"]) D jn λhr nd hu=>⟨zE,(by ac_rfl),QK⟩
noncomputable abbrev Ga:y:=top 36
abbrev Gb(Z:Ev):Prop:=Fx Z 4 "joined_over" ["web", "stand", "found"] 3 zF
theorem Sb(D:Dx Z "joined_over" Ga)(B:BT Z.mg)(R7:AG Z)(F9:u5 Z)(F_:u6 Z):Gb Z:=d9 (N:=["web", "stand", "found", "sizes"]) D jn λhr nd hu=>⟨zG,(by ac_rfl),QL⟩
noncomputable abbrev Gd:y:=top 37
abbrev Ge(Z:Ev):Prop:=Fx Z 4 "told_whole" ["web", "stand", "house"] 3 zH
theorem Sd(D:Dx Z "told_whole" Gd)(B:BT Z.mg)(F9:u5 Z)(F_:u6 Z):Ge Z:=d9 (N:=["web", "stand", "house", "lot"]) D jn λhr nd hu=>⟨zI,(by ac_rfl),QM⟩
noncomputable abbrev Gf:y:=top 38
abbrev Gg(Z:Ev):Prop:=Fx Z 5 "ended" ["web", "stand", "house", "found"] 4 zJ
theorem Se(D:Dx Z "ended" Gf)(B:BT Z.mg)(Vp:Ge Z)(Vq:Gb Z):Gg Z:=d9 (N:=["web", "stand", "house", "found"]) D E4 λhr nd hu=>⟨zK,(by ac_rfl),QN⟩
noncomputable abbrev Gh:y:=inClass (top 39) 0
abbrev u7(Z:Ev)(c_Night:U):Prop:=Fc Z c_Night 8 "Night" ["self", "web"] 2 (sA c_Night)
theorem Sf{c_Night:U}(D:Dc Z c_Night "Night" "Night.__init__" Gh)(B:BT Z.mg)(h_:Ay Z "FIRST_STAND" (.tup [(.tup []),(.tup []),(.tup [])]))(ay:Kx Z.K c_Night ["town", "latest", "begun", "going"])(FI:AA Z):u7 Z c_Night:=Qy (N:=["self", "web"]) D zr λhr nd hu=>⟨zL c_Night,(bZ (jy (cS FI hr (a7 (dv 1) bq))) (bZ (oQ ay.c (ay.at "town") (dv 0) (dv 1)) (bZ (oQ ay.c (ay.at "latest") (dv 0) (RH h_)) (bZ (oQ ay.c (ay.at "begun") (dv 0) b9) (dy (oQ ay.c (ay.at "going") (dv 0) D1)))))),QO c_Night⟩
noncomputable abbrev Gi:y:=inClass (top 39) 1
abbrev u9(Z:Ev)(c_Night:U):Prop:=Fk Z c_Night 7 "wake" ["self", "house"] 2 (sC c_Night)
theorem Sg{c_Night:U}(D:Dm Z c_Night "wake" "Night.wake" Gi)(B:BT Z.mg)(ay:Kx Z.K c_Night ["town", "latest", "begun", "going"])(sJ:pW Z)(Sh:F8 Z):u9 Z c_Night:=uY (N:=["self", "house", "number", "waking"]) D zr λhr nd hu=>⟨zM c_Night,(bZ (j4 (rh (oe (cS sJ hr (a7 (dv 1) (cB b9 (jf (g7 rE (dS dX (kf ay.c (ay.at "town") (dv 0)) b9 (λ_ _=>Y)) b9) bq)))))) (dy uf) kB) (bZ (f6 (i:=2) nd Y (by trivial) (kf ay.c (ay.at "begun") (dv 0))) (bZ (oQ ay.c (ay.at "begun") (dv 0) (g7 k4 (dv 2) b9)) (bZ (j4 (gE (oo hu) (dv 1) (dS dX (kf ay.c (ay.at "latest") (dv 0)) b9 (λ_ _=>Y)) (by rfl)) (dy (f7 (jN (cB kz (cB b9 bq))))) kB) (bZ (f6 (i:=3) nd Y (by trivial) (cS Sh hr (jf (kf ay.c (ay.at "town") (dv 0)) (jf (kf ay.c (ay.at "latest") (dv 0)) (a7 (dv 1) bq))))) (bZ (D4 hu (mN (kf ay.c (ay.at "going") (dv 0))) (dv 2) (jN (a7 (dv 1) (cY (dS dX (dv 3) b9 (λ_ _=>Y)) bq)))) (bZ (oQ ay.c (ay.at "latest") (dv 0) (dS dX (dv 3) b9 (λ_ _=>Y))) (dy (f7 (jN (cB kz (cY (dS dX (dv 3) b9 (λ_ _=>Y)) bq)))))))))))),QP c_Night⟩
noncomputable abbrev Gj:y:=inClass (top 39) 2
abbrev u_(Z:Ev)(c_Night:U):Prop:=Fk Z c_Night 6 "end" ["self", "number"] 2 (pR c_Night)
theorem Si{c_Night:U}(D:Dm Z c_Night "end" "Night.end" Gj)(B:BT Z.mg)(ay:Kx Z.K c_Night ["town", "latest", "begun", "going"])(Fp:Az Z)(Sj:Gg Z):u_ Z c_Night:=uY (N:=["self", "number", "search", "ending"]) D zr λhr nd hu=>⟨zN c_Night,(bZ (j4 (JW.jt (pv (rh (oe (cS Fp hr (a7 (dv 1) bq)))) (rj (Og hu (dv 1) (mN (kf ay.c (ay.at "going") (dv 0))))))) (dy uf) kB) (bZ (f6 (i:=2) nd Y (by trivial) (Qa (mN (kf ay.c (ay.at "going") (dv 0))) (dv 1))) (bZ (f6 (i:=3) nd Y (by trivial) (cS Sj hr (jf (kf ay.c (ay.at "town") (dv 0)) (jf (kf ay.c (ay.at "latest") (dv 0)) (cY (dS dX (dv 2) b9 (λ_ _=>Y)) (cY (dS dX (dv 2) b9 (λ_ _=>Y)) bq)))))) (bZ (oQ ay.c (ay.at "latest") (dv 0) (dS dX (dv 3) b9 (λ_ _=>Y))) (dy (f7 (jN (cY (dS dX (dv 3) b9 (λ_ _=>Y)) (cY (dS dX (dv 3) b9 (λ_ _=>Y)) bq))))))))),QQ c_Night⟩
noncomputable abbrev Gk:y:=inClass (top 39) 3
abbrev va(Z:Ev)(c_Night:U):Prop:=Fk Z c_Night 1 "stand" ["self"] 1 (pU c_Night)
theorem Sk{c_Night:U}(D:Dm Z c_Night "stand" "Night.stand" Gk)(B:BT Z.mg)(ay:Kx Z.K c_Night ["town", "latest", "begun", "going"]):va Z c_Night:=uY (N:=["self"]) D E5 λhr nd hu=>⟨Al c_Night,(dy (f7 (jN (fm (q9 t8 (by rfl) B.list lX (cY (dS dX (kf ay.c (ay.at "latest") (dv 0)) b9 (λ_ _=>Y)) bq)) (fm (q9 t8 (by rfl) B.list lX (cY (dS dX (kf ay.c (ay.at "latest") (dv 0)) b9 (λ_ _=>Y)) bq)) (fm (q9 t8 (by rfl) B.list lX (cY (dS dX (kf ay.c (ay.at "latest") (dv 0)) b9 (λ_ _=>Y)) bq)) bq)))))),Rh c_Night⟩
noncomputable abbrev Gm:y:=inClass (top 39) 4
abbrev AH(Z:Ev)(c_Night:U):Prop:=Fk Z c_Night 1 "under" ["self"] 1 (sI c_Night)
theorem Sl{c_Night:U}(D:Dm Z c_Night "under" "Night.under" Gm)(B:BT Z.mg)(ay:Kx Z.K c_Night ["town", "latest", "begun", "going"]):AH Z c_Night:=uY (N:=["self"]) D E5 λhr nd hu=>⟨Ak c_Night,(dy (f7 (Rc Y (by rfl) B.sorted lD (jf (mN (kf ay.c (ay.at "going") (dv 0))) bq)))),Rg c_Night⟩
noncomputable abbrev Gn:y:=top 40
abbrev Gp(Z:Ev)(c_Night:U):Prop:=Fq Z 8 "told_of" ["night", "event"] 2 (zP c_Night)
theorem Sm{c_Night:U}(D:Dx Z "told_of" Gn)(B:BT Z.mg)(ay:Kx Z.K c_Night ["town", "latest", "begun", "going"])(u4:u3 Z)(cD:u9 Z c_Night)(cm:u_ Z c_Night):Gp Z c_Night:=k9 (N:=["night", "event"]) D g_ λhr nd hu=>⟨zQ c_Night,(bZ (j4 (JW.jt (pq (oe (cS u4 hr (a7 (dv 1) (cB b9 bq)))) (ri (gE (lC hu) (dS dX (dv 1) b9 (λ_ _=>Y)) n8 (by rfl))))) (dy (f7 (jS ι ay.c cD hr (dv 0) (cY (dS dX (dv 1) b9 (λ_ _=>Y)) bq)))) kB) (bZ (j4 (JW.jt (pq (oe (cS u4 hr (a7 (dv 1) (cB b9 bq)))) (ri (gE (lC hu) (dS dX (dv 1) b9 (λ_ _=>Y)) n8 (by rfl))))) (dy (f7 (jS ι ay.c cm hr (dv 0) (cY (dS dX (dv 1) b9 (λ_ _=>Y)) bq)))) kB) (dy uf))),QS c_Night⟩
noncomputable abbrev Gq:y:=top 41
abbrev Gr(Z:Ev)(c_Night:U):Prop:=Fq Z 9 "all_told" ["night", "events"] 2 (zR c_Night)
theorem Sn{c_Night:U}(D:Dx Z "all_told" Gq)(B:BT Z.mg)(ay:Kx Z.K c_Night ["town", "latest", "begun", "going"])(So:Gp Z c_Night):Gr Z c_Night:=k9 (N:=["night", "events", "told", "place", "event"]) D g_ λhr nd hu=>⟨zS c_Night,(bZ (f6 (i:=2) nd Y (by trivial) (oa bq)) (bZ (lr Xp Y (tZ (by rfl) B.enumerate (a7 (dv 1) bq)) (px Y (lq (hH (i:=3) nd Y (by trivial)) (lq (hH (i:=4) nd Y (by trivial)) pw))) (dy (P_ λpn=>(dy (jy ((kU W9 Xw Xx mm (dv 2) (fm (hE ι So hr (a7 (dv 0) (a7 (dv 4) bq))) bq)).weak oz)))))) (dy (f7 (dv 2))))),QT c_Night⟩
noncomputable abbrev Gs:y:=top 42
abbrev Gu(Z:Ev)(c_Night:U):Prop:=Fq Z 10 "stand_behind" ["web", "events"] 2 (Am c_Night)
theorem Sq{c_Night:U}(D:Dx Z "stand_behind" Gs)(B:BT Z.mg)(ay:Kx Z.K c_Night ["town", "latest", "begun", "going"])(cE:u7 Z c_Night)(Sr:Gr Z c_Night)(bP:va Z c_Night):Gu Z c_Night:=k9 (N:=["web", "events", "night"]) D g_ λhr nd hu=>⟨An c_Night,(bZ (f6 (i:=2) nd Y (by trivial) (oT cE hr (a7 (dv 0) bq))) (bZ (jy (hE ι Sr hr (a7 (dv 2) (a7 (dv 1) bq)))) (dy (f7 (oU ι ay.c bP hr (dv 2)))))),Ri c_Night⟩
noncomputable abbrev Gv:y:=top 47
abbrev Gw(Z:Ev):Prop:=Fx Z 1 "_law_spread" ["cell", "at"] 2 xu
theorem Ss(D:Dx Z "_law_spread" Gv)(B:BT Z.mg):Gw Z:=d9 (N:=["cell", "at", "primes", "one", "two", "three"]) D g_ λhr nd hu=>⟨xv,(by ac_rfl),M8⟩
noncomputable abbrev Gx:y:=top 49
abbrev Gy(Z:Ev):Prop:=Fx Z 1 "_law_anew" ["pen"] 1 xw
theorem Su(D:Dx Z "_law_anew" Gx)(B:BT Z.mg):Gy Z:=d9 (N:=["pen"]) D mO λhr nd hu=>⟨xx,(by ac_rfl),M9⟩
noncomputable abbrev Gz:y:=top 50
abbrev oX(Z:Ev):Prop:=Fx Z 2 "_law_take" ["pen", "many"] 2 h8
theorem Sv(D:Dx Z "_law_take" Gz)(B:BT Z.mg)(Vr:Gw Z):oX Z:=d9 (N:=["pen", "many", "at", "cell", "found"]) D g_ λhr nd hu=>⟨xy,(by ac_rfl),M_⟩
noncomputable abbrev GA:y:=top 51
abbrev GB(Z:Ev):Prop:=Fx Z 3 "_law_pairs_of" ["pen", "kind", "many"] 3 xA
theorem Sw(D:Dx Z "_law_pairs_of" GA)(B:BT Z.mg)(lQ:oX Z):GB Z:=d9 (N:=["pen", "kind", "many", "every", "other", "ring", "half"]) D jn λhr nd hu=>⟨xB,(by ac_rfl),Nc⟩
noncomputable abbrev GC:y:=top 52
abbrev GG(Z:Ev):Prop:=Fx Z 4 "_law_web" ["pen", "houses", "most"] 3 xF
theorem Sx(D:Dx Z "_law_web" GC)(B:BT Z.mg)(lQ:oX Z)(Vs:GB Z):GG Z:=d9 (N:=["pen", "houses", "most", "kind", "prices", "many", "pairs", "ways", "k", "one", "other", "price"]) D jn λhr nd hu=>⟨xG,(by ac_rfl),Nf⟩
noncomputable abbrev GH:y:=top 53
abbrev GI(Z:Ev):Prop:=Fx Z 1 "_law_key" ["web", "number"] 2 yi
theorem Sy(D:Dx Z "_law_key" GH)(B:BT Z.mg):GI Z:=d9 (N:=["web", "number", "one", "other", "price"]) D g_ λhr nd hu=>⟨yj,(by ac_rfl),Od⟩
noncomputable abbrev GJ:y:=top 54
abbrev GL(Z:Ev):Prop:=Fx Z 1 "_law_marks_by" ["web", "ways"] 2 xV
theorem Sz(D:Dx Z "_law_marks_by" GJ)(B:BT Z.mg):GL Z:=d9 (N:=["web", "ways", "found", "number", "one", "other"]) D g_ λhr nd hu=>⟨um,(by ac_rfl),Nu⟩
noncomputable abbrev GN:y:=top 55
abbrev AI(Z:Ev):Prop:=Fx Z 2 "_law_lot_at" ["web", "ways", "house"] 3 sE
theorem SA(D:Dx Z "_law_lot_at" GN)(B:BT Z.mg)(Vt:GL Z):AI Z:=d9 (N:=["web", "ways", "house", "marks"]) D jn λhr nd hu=>⟨zV,(by ac_rfl),QV⟩
noncomputable abbrev GP:y:=top 56
abbrev GQ(Z:Ev):Prop:=Fx Z 1 "_law_leads_out" ["web", "houses", "number"] 3 zT
theorem SD(D:Dx Z "_law_leads_out" GP)(B:BT Z.mg):GQ Z:=d9 (N:=["web", "houses", "number", "one", "other"]) D jn λhr nd hu=>⟨zU,(by ac_rfl),QU⟩
noncomputable abbrev GR:y:=top 57
abbrev GS(Z:Ev):Prop:=Fx Z 2 "_law_outs" ["web", "houses", "ways"] 3 zW
theorem SE(D:Dx Z "_law_outs" GR)(B:BT Z.mg)(Vu:GQ Z)(Vv:GI Z):GS Z:=d9 (N:=["web", "houses", "ways", "found"]) D jn λhr nd hu=>⟨zX,(by ac_rfl),QW⟩
noncomputable abbrev GU:y:=top 58
abbrev GV(Z:Ev)(c_Night:U):Prop:=Fq Z 1 "_law_night" [] 0 (zY c_Night)
theorem SF{c_Night:U}(D:Dx Z "_law_night" GU)(B:BT Z.mg):GV Z c_Night:=k9 (N:=[]) D QB λhr nd hu=>⟨zZ c_Night,(dy (f7 (Qc (uT (kA bq) (uT (kA bq) (uT (kA bq) (uT (oa bq) Qb))))))),QX c_Night⟩
noncomputable abbrev GW:y:=top 59
abbrev GX(Z:Ev)(c_Night:U):Prop:=Fq Z 1 "_law_under" ["night"] 1 (z6 c_Night)
theorem SG{c_Night:U}(D:Dx Z "_law_under" GW)(B:BT Z.mg):GX Z c_Night:=k9 (N:=["night"]) D mO λhr nd hu=>⟨z7 c_Night,(dy (f7 (tW [η,η] ["number", "search"] Y (tZ (by rfl) B.enumerate (cY (mN (jC hu (dv 0))) bq)) (λd=>(px Y (lq (hH (i:=0) (show(["number", "search"]:-R).Nodup by decide +kernel) Y (by trivial)) (lq (hH (i:=1) (show(["number", "search"]:-R).Nodup by decide +kernel) Y (by trivial)) pw)))) (λd=>(tU (gE DK (dv 1) kz (by rfl)))) (λd=>(dv 0))))),QY c_Night⟩
noncomputable abbrev GY:y:=top 60
abbrev GZ(Z:Ev)(c_Night:U):Prop:=Fq Z 3 "_law_wake" ["web", "night", "house"] 3 (z9 c_Night)
theorem SH{c_Night:U}(D:Dx Z "_law_wake" GY)(B:BT Z.mg)(vc:AI Z)(SI:GS Z):GZ Z c_Night:=k9 (N:=["web", "night", "house", "lot", "gone", "asked", "one", "outs"]) D jn λhr nd hu=>⟨z_ c_Night,(bZ (j4 (gE (oo hu) (dv 2) (jC hu (dv 1)) (by rfl)) (bZ (jy ((kU W9 Xw Xx mm (mN (jC hu (dv 1))) (cB kz bq)).weak oz)) (dy (f7 (jN (cB kz (cB b9 bq)))))) kB) (bZ (f6 (i:=3) nd Y (by trivial) (cS vc hr (a7 (dv 0) (cY (jC hu (dv 1)) (a7 (dv 2) bq))))) (bZ (f6 (i:=4) nd Y (by trivial) (g7 k4 (jC hu (dv 1)) (jC hu (dv 1)))) (bZ (f6 (i:=5) nd Y (by trivial) (oa bq)) (bZ (lr Xp Y (l4 (dv 3)) (hH (i:=6) nd Y (by trivial)) (dy (jy ((kU W9 q08 q09 B1 (dv 5) (jf (tW [η,η,ζ 6,ζ 4] ["number", "way", "one", "gone"] Y (tZ (by rfl) B.enumerate (cY (dS dX (dv 0) b9 (λ_ _=>Y)) bq)) (λd=>(px Y (lq (hH (i:=0) (show(["number", "way", "one", "gone"]:-R).Nodup by decide +kernel) Y (by trivial)) (lq (hH (i:=1) (show(["number", "way", "one", "gone"]:-R).Nodup by decide +kernel) Y (by trivial)) pw)))) (λd=>(tU (JW.jt (pq (gE (oo hu) (dv 2) (xp (dv 1) xh (xi b9)) (by rfl)) (ri (gE (xg hu) (dv 0) (dv 3) (by rfl))))))) (λd=>(dv 0))) bq)).weak Ds)))) (bZ (f6 (i:=7) nd Y (by trivial) (cS SI hr (a7 (dv 0) (a7 (dv 3) (fm (yS Y (by rfl) B.sorted lD (by rfl) B.set qW (a7 (dv 5) bq)) bq))))) (bZ (za hu (dv 1) (iQ rH (by rfl) B.sorted lD (jf (g7 k4 (jC hu (dv 1)) (tW [η,ζ 7] ["number", "outs"] Y (l4 (yS Y (by rfl) B.sorted lD (by rfl) B.set qW (a7 (dv 5) bq))) (λd=>(hH (i:=0) (show(["number", "outs"]:-R).Nodup by decide +kernel) Y (by trivial))) (λd=>(tU (gE (xg hu) (dv 0) (dv 1) (by rfl)))) (λd=>(dv 0)))) bq))) (bZ (jy ((kU W9 Xw Xx mm (mN (jC hu (dv 1))) (q4 (jN (jf (CQ (gE (xc hu) (dv 7) (kA bq) (by rfl)) (dS dX (dv 7) b9 (λ_ _=>Y)) kz) (a7 (dv 2) bq))) bq)).weak oz)) (dy (f7 (jN (cB kz (jf (g7 k4 (g7 xb b9 (g7 rE (iQ ot (by rfl) B.len YQ (a7 (dv 3) bq)) b9)) (g7 xb b9 (iQ ot (by rfl) B.len YQ (a7 (dv 5) bq)))) bq))))))))))))),Q1 c_Night⟩
noncomputable abbrev G0:y:=top 61
abbrev G1(Z:Ev)(c_Night:U):Prop:=Fq Z 3 "_law_end" ["web", "night", "number"] 3 (Aa c_Night)
theorem SJ{c_Night:U}(D:Dx Z "_law_end" G0)(B:BT Z.mg)(vc:AI Z):G1 Z c_Night:=k9 (N:=["web", "night", "number", "way", "house", "lot", "sizes"]) D jn λhr nd hu=>⟨Ab c_Night,(bZ (CS (dS dX (mN (jC hu (dv 1))) (dv 2) (λ_ _=>Y)) (px Y (lq (hH (i:=3) nd Y (by trivial)) (lq (hH (i:=4) nd Y (by trivial)) pw)))) (bZ ((s_ kz (vN (mN (jC hu (dv 1))) (dv 2) set_list)).weak Dt) (bZ (j4 (JW.jt (pv (JW.jt (pq (gE xq (dv 3) kz (by rfl)) (ri (gE (oo hu) (dv 4) (jC hu (dv 1)) (by rfl))))) (rj (gE (oo hu) (dv 3) (jC hu (dv 1)) (by rfl))))) (dy (f7 (jN (cB kz (cB b9 bq))))) kB) (bZ (j4 (gE xq (dv 3) kz (by rfl)) (bZ (f6 (i:=5) nd Y (by trivial) (cS vc hr (a7 (dv 0) (cY (jC hu (dv 1)) (a7 (dv 4) bq))))) (bZ (za hu (dv 1) (iQ rH (by rfl) B.sorted lD (jf (g7 k4 (jC hu (dv 1)) (dv 5)) bq))) (dy (f7 (jN (cB kz (jf (g7 rE (iQ ot (by rfl) B.len YQ (a7 (dv 5) bq)) b9) bq))))))) kB) (bZ (wR [η,ζ 0,ζ 1] ["end", "web", "night"] (i:=6) nd Y (by trivial) Y (l4 (xp (dS dX (dS dX (dv 0) b9 (λ_ _=>Y)) (dv 3) (λ_ _=>Y)) xh (xi b9))) (λd=>(hH (i:=0) (show(["end", "web", "night"]:-R).Nodup by decide +kernel) Y (by trivial))) (λd=>wQ) (λd=>(iQ ot (by rfl) B.len YQ (fm (cS vc hr (a7 (dv 1) (cY (jC hu (dv 2)) (a7 (dv 0) bq)))) bq)))) (bZ (za hu (dv 1) (iQ rH (by rfl) B.sorted lD (jf (g7 k4 (jC hu (dv 1)) (kA (a7 (dv 3) bq))) bq))) (dy (f7 (jN (a7 (dv 3) (jf (g7 k4 b9 (iQ (Ez Y) (by rfl) B.min ue (a7 (dv 6) bq))) bq))))))))))),Q5 c_Night⟩
noncomputable abbrev G2:y:=top 62
abbrev G3(Z:Ev)(c_Night:U):Prop:=Fq Z 3 "_law_event" ["pen", "web", "night", "wakes"] 4 (Ac c_Night)
theorem SK{c_Night:U}(D:Dx Z "_law_event" G2)(B:BT Z.mg)(ay:Kx Z.K c_Night ["town", "latest", "begun", "going"])(lQ:oX Z)(SM:GX Z c_Night):G3 Z c_Night:=k9 (N:=["pen", "web", "night", "wakes", "kind", "house", "under"]) D E4 λhr nd hu=>⟨Ad c_Night,(bZ (f6 (i:=4) nd Y (by trivial) (cS lQ hr (a7 (dv 0) (cB b9 bq)))) (bZ (f6 (i:=5) nd Y (by trivial) (cS lQ hr (a7 (dv 0) (cY (dS dX (dv 1) b9 (λ_ _=>Y)) bq)))) (bZ (f6 (i:=6) nd Y (by trivial) (hE ι SM hr (a7 (dv 2) bq))) (bZ (j4 (JW.jt (pv (gE (lC hu) (dv 6) (kA bq) (by rfl)) (rj (gE (xf hu) (dv 4) (dv 3) (by rfl))))) (dy (f7 (jN (cB n8 (a7 (dv 5) bq))))) kB) (dy (f7 (jN (cB n8 (cY (dS dX (dv 6) (dS dX (kA (cB b9 (jf (g7 rE (iQ ot (by rfl) B.len YQ (a7 (dv 6) bq)) b9) (fm (cS lQ hr (a7 (dv 0) (fm (iQ ot (by rfl) B.len YQ (a7 (dv 6) bq)) bq))) bq)))) (cS lQ hr (a7 (dv 0) (cB b9 bq))) (λ_ _=>Y)) (λ_ _=>Y)) bq))))))))),Q8 c_Night⟩
noncomputable abbrev G4:y:=top 63
abbrev G5(Z:Ev)(c_Night:U):Prop:=Fq Z 4 "_law_happen" ["web", "night", "event"] 3 (Ae c_Night)
theorem SN{c_Night:U}(D:Dx Z "_law_happen" G4)(B:BT Z.mg)(ay:Kx Z.K c_Night ["town", "latest", "begun", "going"])(SO:GZ Z c_Night)(SQ:G1 Z c_Night):G5 Z c_Night:=k9 (N:=["web", "night", "event"]) D jn λhr nd hu=>⟨Af c_Night,(bZ (j4 (gE (lC hu) (dS dX (dv 2) b9 (λ_ _=>Y)) n8 (by rfl)) (dy (f7 (hE ι SO hr (a7 (dv 0) (a7 (dv 1) (cY (dS dX (dv 2) b9 (λ_ _=>Y)) bq)))))) kB) (dy (f7 (hE ι SQ hr (a7 (dv 0) (a7 (dv 1) (cY (dS dX (dv 2) b9 (λ_ _=>Y)) bq))))))),Q9 c_Night⟩
noncomputable abbrev G6:y:=top 64
abbrev G7(Z:Ev)(c_Night:U):Prop:=Fq Z 5 "_law_events" ["pen", "web", "many"] 3 (Ag c_Night)
theorem SS{c_Night:U}(D:Dx Z "_law_events" G6)(B:BT Z.mg)(ay:Kx Z.K c_Night ["town", "latest", "begun", "going"])(lQ:oX Z)(SU:GV Z c_Night)(SV:G3 Z c_Night)(SW:G5 Z c_Night):G7 Z c_Night:=k9 (N:=["pen", "web", "many", "wakes", "night", "events", "told", "k", "event"]) D jn λhr nd hu=>⟨Ah c_Night,(bZ (f6 (i:=3) nd Y (by trivial) (g7 k4 b9 (cS lQ hr (a7 (dv 0) (cB b9 bq))))) (bZ (f6 (i:=4) nd Y (by trivial) (QA ι SU hr)) (bZ (f6 (i:=5) nd Y (by trivial) (oa bq)) (bZ (f6 (i:=6) nd Y (by trivial) (oa bq)) (bZ (lr Xp Y (t4 (by rfl) B.range (a7 (dv 2) bq)) (hH (i:=7) nd Y (by trivial)) (bZ (f6 (i:=8) nd Y (by trivial) (hE ι SV hr (a7 (dv 0) (a7 (dv 1) (a7 (dv 4) (a7 (dv 3) bq)))))) (bZ (jy ((kU W9 Xw Xx mm (dv 5) (a7 (dv 8) bq)).weak oz)) (dy (jy ((kU W9 Xw Xx mm (dv 6) (fm (hE ι SW hr (a7 (dv 1) (a7 (dv 4) (a7 (dv 8) bq)))) bq)).weak oz)))))) (dy (f7 (Qn (a7 (dv 5) (a7 (dv 6) (a7 (dv 4) bq))))))))))),Q_ c_Night⟩
noncomputable abbrev G8:y:=top 65
abbrev AJ(Z:Ev):Prop:=Fx Z 3 "_law_drawn" ["pen", "numbers"] 2 pV
theorem SX(D:Dx Z "_law_drawn" G8)(B:BT Z.mg)(lQ:oX Z):AJ Z:=d9 (N:=["pen", "numbers", "left"]) D g_ λhr nd hu=>⟨Aq,(by ac_rfl),Rl⟩
noncomputable abbrev G9:y:=top 66
abbrev G_(Z:Ev)(c_Night:U):Prop:=Fq Z 11 "_law_orders_right" ["pen", "web"] 2 (Ar c_Night)
theorem SY{c_Night:U}(D:Dx Z "_law_orders_right" G9)(B:BT Z.mg)(ay:Kx Z.K c_Night ["town", "latest", "begun", "going"])(S7:G7 Z c_Night)(lQ:oX Z)(cE:u7 Z c_Night)(cD:u9 Z c_Night)(cm:u_ Z c_Night)(cU:AH Z c_Night)(sL:AJ Z)(S8:Gu Z c_Night)(bP:va Z c_Night):G_ Z c_Night:=k9 (N:=["pen", "web", "events", "night", "word", "number", "under", "stands", "turn", "ends"]) D g_ λhr nd hu=>⟨As c_Night,(bZ (f6 (i:=2) nd Y (by trivial) (RC (hE ι S7 hr (a7 (dv 0) (a7 (dv 1) (fm (cS lQ hr (a7 (dv 0) (cB b9 bq))) bq)))) b9)) (bZ (f6 (i:=3) nd Y (by trivial) (oT cE hr (a7 (dv 1) bq))) (bZ (lr Xp Y (l4 (dv 2)) (px Y (lq (hH (i:=4) nd Y (by trivial)) (lq (hH (i:=5) nd Y (by trivial)) pw))) (dy (j4 (gE (lC hu) (dv 4) n8 (by rfl)) (dy (jy (jS ι ay.c cD hr (dv 3) (a7 (dv 5) bq)))) (dy (jy (jS ι ay.c cm hr (dv 3) (a7 (dv 5) bq))))))) (bZ (f6 (i:=6) nd Y (by trivial) (oU ι ay.c cU hr (dv 3))) (bZ (f6 (i:=7) nd Y (by trivial) (oa bq)) (bZ (lr Xp Y (t4 (by rfl) B.range (cB b9 bq)) (hH (i:=8) nd Y (by trivial)) (bZ (wR [η] ["number"] (i:=9) nd Y (by trivial) Y (l4 (cS sL hr (a7 (dv 0) (a7 (dv 6) bq)))) (λd=>(hH (i:=0) (show(["number"]:-R).Nodup by decide +kernel) Y (by trivial))) (λd=>wQ) (λd=>(jN (cB n8 (a7 (dv 0) bq))))) (dy (jy ((kU W9 Xw Xx mm (dv 7) (fm (hE ι S8 hr (a7 (dv 1) (jf (g7 k4 (dv 2) (dv 9)) bq))) bq)).weak oz))))) (bZ (lr Xp Y (l4 (cS sL hr (a7 (dv 0) (a7 (dv 6) bq)))) (hH (i:=5) nd Y (by trivial)) (dy (jy (jS ι ay.c cm hr (dv 3) (a7 (dv 5) bq))))) (dy (f7 (wM (my (lC hu) (dS dX (dv 7) b9 (λ_ _=>Y)) (dS dX (dv 7) b9 (λ_ _=>Y)) (by rfl)) (wM (my (lC hu) (oU ι ay.c bP hr (dv 3)) (dS dX (dv 7) b9 (λ_ _=>Y)) (by rfl)) (CP (my (lC hu) (oU ι ay.c cU hr (dv 3)) (kA bq) (by rfl)))))))))))))),Rq c_Night⟩
noncomputable abbrev AK:y:=top 23
abbrev Ha(Z:Ev):Prop:=Fx Z 9 "lots_of" ["web", "ways"] 2 D7
theorem S9(D:Dx Z "lots_of" AK)(B:BT Z.mg)(S_:FH Z)(Ta:FK Z):Ha Z:=by
 let⟨f,fd,a,F⟩:=D;let⟨_,_,GF⟩:=Ta.ex;let sc:lU ["web", "ways", "lots", "house", "first"] ["web", "ways"] (dq AK):=gz (by decide +kernel);calc⟨f,fd,F.qJ sc (λvs H Q E h=>h.1) (λnh A outer s H vs Q E hr h=>?_),a,F.kp,F.binds g_⟩;let⟨hl,F0,ad,ys,bF,K',S0,⟨m,ws,ns,W,hn,hd,yp,rfl,rfl,hK⟩,kk⟩:=h;let nd:=sc.nd;let hu:=hr.units
 refine⟨_,nL (jy (cS S_ hr (a7 (dv 0) (a7 (dv 1) bq))))
  (nL (ti (i:=2) nd Y (q0q Y) jc)
  (nL (vQ Xp Y (Cg (by rfl) B.enumerate (jK (qz GF.ok (hr.mono (by decide)) (by rfl) GF.ph GF.kp GF.bd .nil mr (jJ (jv 0) (jJ (jv 1) bY))) bY)) (vM Y (qk (qi (i:=3) nd Y (q0q Y)) (qk (qi (i:=4) nd Y (q0q Y)) iq)))
   (qf (Bq (kU W9 Xw Xx mm (kU ZI q0h PySem.F.type_dict_setdefault LQ (jv 2) (jJ (jv 4) (qO (tr bY) bY))) (jJ (jv 3) bY)))))
  (qf (vJ (ml (LU Y) (by rfl) B.list lX (jK (Ky ZI q05 PySem.F.type_dict_values LR (jv 2)) bY)))))),?_⟩
 calc OE (Kf:=Z.K) hl W hn hd yp hK S0 (λr ows h v F' H' P _=>kk r ows h v F' H' P) λ_ _ h=>h
noncomputable abbrev Hb:y:=top 44
abbrev Hc(Z:Ev):Prop:=Fx Z 10 "round_of" ["web", "ways"] 2 sd
theorem Tb(D:Dx Z "round_of" Hb)(B:BT Z.mg)(Vw:Ha Z)(Sa:AF Z)(R_:AE Z):Hc Z:=d9 (N:=["web", "ways", "outs"]) D g_ λhr nd hu=>⟨yN,(by ac_rfl),PD⟩
noncomputable abbrev Hd:y:=top 45
abbrev He(Z:Ev):Prop:=Fx Z 11 "rounds_of" ["web"] 1 yP
theorem Tc(D:Dx Z "rounds_of" Hd)(B:BT Z.mg)(Vx:Hc Z):He Z:=d9 (N:=["web", "rounds", "ways", "come"]) D mO λhr nd hu=>⟨yQ,(by ac_rfl),PL⟩
noncomputable abbrev Hf:y:=top 67
abbrev Hg(Z:Ev)(c_Night:U):Prop:=Fq Z 12 "_law_rounds_right" ["pen", "web"] 2 (Av c_Night)
theorem Td{c_Night:U}(D:Dx Z "_law_rounds_right" Hf)(B:BT Z.mg)(ay:Kx Z.K c_Night ["town", "latest", "begun", "going"])(cE:u7 Z c_Night)(Te:He Z)(sL:AJ Z)(cD:u9 Z c_Night)(cU:AH Z c_Night)(cm:u_ Z c_Night)(bP:va Z c_Night):Hg Z c_Night:=k9 (N:=["pen", "web", "night", "put", "ways", "house", "number"]) D g_ λhr nd hu=>⟨Aw c_Night,(bZ (f6 (i:=2) nd Y (by trivial) (oT cE hr (a7 (dv 1) bq))) (bZ (f6 (i:=3) nd Y (by trivial) (kA bq)) (bZ (lr Xp Y (l4 (g7 k4 (cS Te hr (a7 (dv 1) bq)) (kA (q3 (kA bq) bq)))) (hH (i:=4) nd Y (by trivial)) (bZ (lr Xp Y (l4 (cS sL hr (a7 (dv 0) (fm (xk Y (by rfl) B.list lX (by rfl) B.range xo (cY (dS dX (dv 1) b9 (λ_ _=>Y)) bq)) bq)))) (hH (i:=5) nd Y (by trivial)) (dy (jy (jS ι ay.c cD hr (dv 2) (a7 (dv 5) bq))))) (bZ (lr Xp Y (l4 (cS sL hr (a7 (dv 0) (fm (oU ι ay.c cU hr (dv 2)) bq)))) (hH (i:=6) nd Y (by trivial)) (dy (jy (jS ι ay.c cm hr (dv 2) (a7 (dv 6) bq))))) (bZ (f6 (i:=3) nd Y (by trivial) (g7 k4 (dv 3) (dv 4))) (dy (j4 (gE (xc hu) (dS dX (oU ι ay.c bP hr (dv 2)) b9 (λ_ _=>Y)) (iQ rH (by rfl) B.sorted lD (a7 (dv 3) bq)) (by rfl)) (dy (f7 tP)) kB)))))) (dy (f7 (my (lC hu) (dS dX (oU ι ay.c bP hr (dv 2)) b9 (λ_ _=>Y)) (xk Y (by rfl) B.list lX (by rfl) B.range xo (cY (dS dX (dv 1) b9 (λ_ _=>Y)) bq)) (by rfl))))))),Rw c_Night⟩
noncomputable abbrev vd:y:=top 48
theorem lR:lU ["script", "cells", "k", "cell"] ["script"] (dq vd):=gz (by decide +kernel)
theorem Tf{f:U}{fd:FuncData}(F:hG Z.K "_law_open" "_law_open" vd f fd)(h1:Z.mg "list" = η)(h2:Z.mg "enumerate" = η):cG Z.P Z.w Z.K Z.mg Z.base fZ 1 f fd ["script"] (DQ Z.K):=by
 refine F.qJ lR (λvs H Q E h=>?_) (λnh A outer s H vs Q E hr h=>?_)
 .let⟨a,ns,rfl,_⟩:=h
  rfl
 .let⟨a,ns,rfl,hS,hlen,fin⟩:=h
  let nd:=lR.nd
  refine⟨_,nL (ti (i:=1) nd Y (q0q Y) (ml qE (by rfl) h1 PyProof.Rows.boot_list (km (v7 iy (jv 0) BO (tw mZ)) bY)))
   (nL (vQ Xp Y (Cg (by rfl) h2 (km (v7 iy (jv 0) (tw mZ) (tw mZ)) bY)) (vM Y (qk (qi (i:=2) nd Y (q0q Y)) (qk (qi (i:=3) nd Y (q0q Y)) iq)))
    (qf (s_ (qu Bu (wc iw (jv 1) (qu vR (jv 2) mZ) (λ_ _=>Y)) (jv 3)) (vN (jv 1) (qu vR (jv 2) mZ) set_list))))
   (qf (vJ (tr (km (jv 1) (km mZ (km mZ bY))))))),?_⟩
  calc⟨_,Y,_,Y,a,_,Y,hS,λl1 n1=>⟨l1,_,Y,.inl (bS.of cw),λc nc=>?_⟩⟩;let s1:a_ H (upd (upd H l1 (.lst (eF (ns.map V.int) η (ζ 12)))) c (.lst (eF (ns.map V.int) η (ζ 12)))):=(l5 n1).trans (l5 nc);calc⟨_,Y,_,Y,_,Y,a,_,Y,s1.seq hS,λl2 n2=>⟨l2,Y,⟨_,bS.of cw⟩,?_⟩⟩;let Tg:H c=η:=(l5 n1).free nc;let Th:=n2
  let Ti:∃ms:-Int,↑ms=min 12 ↑ns/\eF (ns.map V.int) η (ζ 12)=ms.map V.int:=by
   calc⟨_,?_,xX ns η (ζ 12)⟩;rw[Ww,YK];let e1:HT.bM ↑ns 0 η=0:=HT.Kd _ _;let e2:HT.bM ↑ns ↑ns (ζ 12)=min 12 ↑ns:=HT.v5 ↑ns ↑ns 12;rw[e1,e2];symm
  let yG:↑(eF (ns.map V.int) (ζ 12) (ζ 63))=↑ns-12:=by
   rw[xX,nW,Ww,YK];let e1:HT.bM ↑ns 0 (ζ 12)=min 12 ↑ns:=HT.v5 ↑ns 0 12;let e2:HT.bM ↑ns ↑ns (ζ 63)=min 63 ↑ns:=HT.v5 ↑ns ↑ns 63;rw[e1,e2,Nat.min_eq_right hlen,q2W];symm
  let Hh:∀i x,(eF (ns.map V.int) (ζ 12) (ζ 63))[i]?=ζ x->∃n:Int,x=V.int n:=λi x e=>by
   rw[xX,B8] at e
   cases q:((ns.drop (HT.bM ↑ns 0 (ζ 12))).take (HT.bM ↑ns ↑ns (ζ 63)-HT.bM ↑ns 0 (ζ 12)))[i]? with
   |none=>rw[q] at e;cases e
   |some n=>rw[q] at e;exact⟨n,(WD e).symm⟩
  generalize eF (ns.map V.int) (ζ 12) (ζ 63)=rest at yG Hh n2 ⊢;let⟨ms,Tj,Tn⟩:=Ti
  refine Ci (K:=Z.K) (a:=l2) (xs:=rest) (λi σ H2=>∃(ks:-Int)(v1 v2:Option V),σ=[ζ (.ref a),ζ (.ref c),v1,v2]/\H2 c=ζ (.lst (ks.map V.int))/\↑ks=min 12 ↑ns/\H2 l2=ζ (.lst rest)/\a_ H H2)
   ⟨ms,η,η,Y,?_,Tj,cw,?_⟩ (λi σ H2 _ ⟨_,_,_,_,_,_,q,_⟩↦bS.of q) ?_ ?_
  .rw[bt (ed cw n2),cw,Tn]
  .exact s1.trans (l5 n2)
  .ext i x T σ H2 hi ⟨ks,v1,v2,rfl,hc,hk,AL,sm⟩ hT
   let⟨n,rfl⟩:=Hh i x hi;let y7:i<↑rest:=(pa.mp hi).1;let To:↑ks=12:=by symm
   let cT:c≠T:=ed hc hT;let Hi:upd H2 T (.tup [.int i,.int n]) c=ζ (.lst (ks.map V.int)):=by rw[bt cT];exact hc
   let j0:0<=((i:Int))%12:=Yb _ (by decide);let j1:((i:Int))%12<12:=XE _ (by decide);let⟨m,em⟩:=Nx (ns:=ks) j0 ⋯
   let ix:i_ ↑(ks.map V.int) ((i:Int)%12)=ζ ((i:Int)%12).toNat:=by
    unfold i_;rw[VE j0,VE (by rw[nW];symm)]
   calc⟨T,_,Y,cF.of cw,Y,_,_,Y,_,_,Y,Y,?_⟩;calc⟨_,Y,_,Y,_,_,Y,Y,(show(0:Int)<12 by decide),_,_,_,_,Y,Y,bS.of Hi,em,_,Y,_,_,Y,Y,_,Y,_,Y,_,_,Y,Y,(show(0:Int)<12 by decide),_,_,_,_,Y,Y,Hi,ix,?_⟩;refine⟨ks.set ((i:Int)%12).toNat (m+n),_,_,Y,?_,by rw[XW];calc hk,?_,?_⟩
   .rw[cw,q5a]
   .let Tp:l2≠c:=by
     ext z;subst z;exact absurd Th (by rw[cw];ext y;cases y)
    rw[bt Tp,bt (ed AL hT)];exact AL
   .ext b o e
    rw[bt (ed e Tg)];exact l5 hT b o (sm b o e)
  .ext σ H2 ⟨ks,v1,v2,rfl,hc,hk,AL,sm⟩
   calc⟨_,Y,(by show 3<=sizeLine;decide),λp np=>?_⟩;let Tq:H p=η:=sm.free np;calc fin p c _ (sm.trans (l5 np)) Tq ⟨cw,⟨ks,by rw[bt (ed hc np)];calc hc,⋯⟩,q16 0⟩
noncomputable abbrev pX:y:=top 68
theorem Tr{c_Night:U}{f oY:U}{fd mR:FuncData}(F:hG Z.K "law" "law" pX f fd)(B:BT Z.mg)(GO:Fn Z.P Z.w Z.K Z.mg Z.base 1 "_law_open" ["script"] (DQ Z.K) oY mR)(ay:Kx Z.K c_Night ["town", "latest", "begun", "going"])(Tt:GG Z)(Tu:Gy Z)(Tv:G_ Z c_Night)(Tw:Hg Z c_Night):cG Z.P Z.w Z.K Z.mg Z.base fZ 23 f fd ["script"] (ur Z.K):=by
 let sc:lU ["script", "pen", "turn", "web"] ["script"] (dq pX):=gz (by decide +kernel);refine F.qJ (k:=22) sc (λvs H Q E h=>?_) (λnh A outer s H vs Q E hr h=>?_)
 .let⟨a,ns,rfl,_⟩:=h
  rfl
 let⟨a,ns,rfl,hS,hlen,hT,fin⟩:=h;let nd:=sc.nd;let hu:=hr.units;let rest:ee (gh fZ Z.P Z.w Z.K Z.mg Z.base ["script", "pen", "turn", "web"] "law" (dq pX) f nh A outer s H E).kQ ((gZ pX).drop 1) (eh (Ax c_Night)):=(bZ (lr Xp Y (t4 (by rfl) B.range (cB b9 bq)) (hH (i:=2) nd Y (by trivial)) (bZ (f6 (i:=3) nd Y (by trivial) (cS Tt hr (fm (cS Tu hr (a7 (dv 1) bq)) (cY (dS dX (kA (cB b9 (cB b9 (cB b9 (cB b9 bq))))) (dv 2) (λ_ _=>Y)) (cB b9 bq))))) (dy (j4 (JW.jt (pv (rh (oe (hE ι Tv hr (a7 (dv 1) (a7 (dv 3) bq))))) (rj (rh (oe (hE ι Tw hr (a7 (dv 1) (a7 (dv 3) bq)))))))) (dy (f7 tP)) kB)))) (dy (f7 tP)))
 calc⟨_,nL (ti (i:=1) nd Y (by trivial) (qz GO.ok (hr.mono (by decide)) (by rfl) GO.ph GO.kp GO.bd .nil mr (jJ (jv 0) bY))) rest,?_⟩;calc⟨_,Y,a,ns,Y,hS,hlen,λp c H1 sm hp N1=>?_⟩;let⟨F',ms,hm,S⟩:=Ny (a:=a) (n:=2) (a8.same hT sm) N1;calc Nz S (RB c_Night ms hm) fin
end
end LJ
namespace LJ
open PySem L2 PySem.Spec PySem.W PyProof.Rows
noncomputable def mS(cl:-(U×-V)):Hp:=λb=>(cl.lookup b).map HO.tup
theorem AM{cl:-(U×-V)}{a:U}{o:HO}(e:mS cl a=ζ o):∃xs,o=.tup xs/\cl.lookup a=ζ xs:=by
 unfold mS at e
 cases q:cl.lookup a with
 |none=>rw[q] at e;cases e
 |some b=>rw[q] at e;cases e;calc⟨b,Y,Y⟩
noncomputable def AN(cl:-(U×-V)):CC:=⟨mS cl,λe=>let⟨a,h,_⟩:=AM e;⟨a,h⟩⟩
inductive c9 (K:KD):-(U×-V)->Prop
 |nil:c9 K []
 |cons {a:U} {xs:-V} {lg:Array M} {n:Nat} {od:Option U} {sl:Array (Option M)} {r:-(U×-V)} (hl:K.lookup a=ζ ⟨.type "tuple",od,.seq lg n,sl⟩) (hv:Vals xs lg.toList) (hn:↑xs<=1000) (h:c9 K r):c9 K ((a,xs)::r)
theorem c9.at{K:KD}{h:Q}(X:K.In h):∀{cl:-(U×-V)},c9 K cl->∀{b:U}{xs:-V},cl.lookup b=ζ xs->↑xs<=sizeLine/\∃d:-M,Vals xs d/\IsTup h b d.toArray
 |_,.nil,b,e,q=>nomatch q
 |_,.cons (a:=a) f g i t,b,e,q=>by
  rw[Wl] at q;split at q
  .rename_i c
   let c:=XX c;subst c;cases q
   exact⟨Wr i (by decide),_,g,_,X _ _ f,Y,_,Y⟩
  .calc c9.at X t q
theorem c9.cs{K:KD}{h:Q}{P:ψ}{w:l}{cl:-(U×-V)}(t:c9 K cl)(X:K.In h):Cs P w (mS cl) h :=
 ⟨λe=>let⟨a,h,_⟩:=AM e;⟨a,h⟩,λe=>by
  let⟨d,b,c⟩:=AM e;cases b
  calc c9.at X t c⟩
end LJ
namespace LJ
open PySem L2
noncomputable def dY:-lE:=[⟨185,⟨78,25,78,63⟩,(("least_of" : R)++".<locals>.")++"<lambda>"⟩]
noncomputable def AO:-(R×y×U):=[("least_of",FN,185)]
noncomputable abbrev dp(x:R)(s:y):R×y:=(x,s)
noncomputable def Hj:-(R×y):=[dp "is_whole" Fl,dp "is_within" Fm,dp "is_tuple_of" Fs,dp "are_ends" Ft,dp "is_way" Fv,dp "are_ways" Fy,dp "is_web" FA,dp "need_web" FD,dp "rank_of" FE,dp "need_ways" FG,dp "joined" FJ,dp "firsts_of" AD,dp "leads_out" FO,dp "ways_out" FQ,dp "lot_at" FR,dp "ends_of" FT,dp "rising" FU,dp "letters_of_asking" FW,dp "ways_within" FY,dp "waked" F7,dp "joined_over" Ga,dp "told_whole" Gd,dp "ended" Gf,dp "lots_of" AK,dp "round_of" Hb,dp "rounds_of" Hd,dp "told_of" Gn,dp "all_told" Gq,dp "stand_behind" Gs,dp "_law_spread" Gv,dp "_law_open" vd,dp "_law_anew" Gx,dp "_law_take" Gz,dp "_law_pairs_of" GA,dp "_law_web" GC,dp "_law_key" GH,dp "_law_marks_by" GJ,dp "_law_lot_at" GN,dp "_law_leads_out" GP,dp "_law_outs" GR,dp "_law_night" GU,dp "_law_under" GW,dp "_law_wake" GY,dp "_law_end" G0,dp "_law_event" G2,dp "_law_happen" G4,dp "_law_events" G6,dp "_law_drawn" G8,dp "_law_orders_right" G9,dp "_law_rounds_right" Hf,dp "law" pX]
noncomputable def Tx:-(R×R×y):=[("wake", "Night.wake",Gi),("end", "Night.end",Gj),("stand", "Night.stand",Gk),("under", "Night.under",Gm)]
noncomputable def Tz:-(U×-V):=[(216,[.ref 213,.ref 214,.ref 215]),(213,[]),(214,[]),(215,[])]
noncomputable def sM:CC:=AN Tz
theorem TB{K:KD}(a:Yf K mainGlobals "FIRST_STAND" = ζ (ζ (.ref 216))):@u2 (g8 dY sM) K "FIRST_STAND" (.tup [(.tup []),(.tup []),(.tup [])]):=⟨.ref 216,.ref 216,a,Y,by erw[Is];calc⟨216,_,Y,Y,.cons (by erw[Is];calc⟨213,_,Y,Y,.nil⟩) (.cons (by erw[Is];calc⟨214,_,Y,Y,.nil⟩) (.cons (by erw[Is];calc⟨215,_,Y,Y,.nil⟩) (.nil)))⟩⟩
theorem TC{c_Night iL:U}{jo:FuncData}{l:q3C}{w:ω}{K:KD}{h:Q}{mg:R->Option ν}{fa:U}(X:K.In h)(G:h.Ns mainGlobals mg)(TF:mg "law" = ζ (.ref fa))(DS:iI K Hj)(LS:gA K AO)(N:∀x∈zq,Yf K mainGlobals x=ζ η)(mT:Yf K mainGlobals "Night" = ζ (ζ (.ref c_Night)))(ay:Kx K c_Night ["town", "latest", "begun", "going"])(g0:iJ K c_Night Tx)(mU:Mk K c_Night iL)(mV:hG K "__init__" "Night.__init__" Gh iL jo)(iM:Ck K "MOST_HOUSES" 12)(jT:Ck K "MOST_WAYS" 30)(jq:Ck K "MOST_PRICE" 1000000000)(iN:@u2 (g8 dY sM) K "FIRST_STAND" (.tup [(.tup []),(.tup []),(.tup [])]))
  : ∃fd:FuncData,(∀(s:L)(v:ν),BindsTo s fd ⟨[v],[]⟩ [("script",v)])/\∀base:Q,K.In base->base.Ns mainGlobals mg->(∀t∈dY,base.BuiltinsAt mg t.T)->cG l.prog w K mg base fZ 23 fa fd ["script"] (@ur (g8 dY sM) K):=by
 let⟨f,fd,a,F⟩:=DS.at (x:="law") (st:=pX) 50 Y;cases TF.symm.trans (Zu X G a)
 letI:a8:=g8 dY sM;let B:=Qx X G N;calc⟨fd,λs v=>by let⟨_,_,_,_,_,_,_,_,_,rfl,_⟩:=F.ex;calc .of_eq Y,λbase KB _ hB=>?_⟩;let D:∀(i:Nat){x:R}{st:y},Hj[i]?=ζ (x,st)->Dx ⟨l.prog,w,K,mg,base⟩ x st:=λi _ _ e=>(DS.at i e).v X G;let M:∀(i:Nat){x:R}{st:y}{T:U}{lp:I}{q:R},AO[i]?=ζ (x,st,T)->dY[i]?=ζ ⟨T,lp,q⟩->uW ⟨l.prog,w,K,mg,base⟩ x st T lp q:=λi _ _ _ _ _ e e2=>(LS.at i e).v X G KB hB (by decide) (by decide) (WU e2);let Hk:=RI (D 0 Y) B;let sN:=RJ (D 1 Y) B Hk;let AQ:=RL (D 2 Y) B;let TH:=RM (D 3 Y) B sN;let TJ:=RN (D 4 Y) B (jq.v X G) AQ TH sN
 let TK:=RO (D 5 Y) B (jT.v X G) TJ;let TL:=RP (D 6 Y) B (iM.v X G) AQ sN TK;let Hl:=RQ (D 7 Y) B TL;let TM:=RR (D 8 Y) B;let TN:=RS (D 9 Y) B Hl sN;let Hm:=RT (D 10 Y) B;let TQ:=RU (D 11 Y) B Hm;let jr:=RX (D 11 Y) B Hm;let Hn:=RY (M 0 Y Y) B TM;let TR:=R0 (D 12 Y) B;let Ho:=R1 (D 13 Y) B TR;let AR:=R3 (D 14 Y) B jr;let Hq:=R4 (D 15 Y) B;let AS:=R5 (D 16 Y) B;let TU:=R6 (D 17 Y) B Hq;let TV:=R8 (D 18 Y) B;let TX:=R9 (D 19 Y) B AR Hn Ho TV AS TU;let TY:=Sb (D 20 Y) B Hq AR AS;let TZ:=Sd (D 21 Y) B AR AS;let T1:=Se (D 22 Y) B TZ TY;let T2:=S9 (D 23 Y) B TN TQ
 let T3:=Tb (D 24 Y) B T2 Ho Hn;let T4:=Tc (D 25 Y) B T3;let eK:=Sf (Z:=⟨l.prog,w,K,mg,base⟩) ⟨iL,jo,⟨Zu X G mT,mU⟩,mV⟩ B (iN.v X G) ay Hl;let eM:=Sg (Z:=⟨l.prog,w,K,mg,base⟩) (g0.at 0 Y) B ay sN TX;let fy:=Si (Z:=⟨l.prog,w,K,mg,base⟩) (g0.at 1 Y) B ay Hk T1;let dZ:=Sk (Z:=⟨l.prog,w,K,mg,base⟩) (g0.at 2 Y) B ay;let fY:=Sl (Z:=⟨l.prog,w,K,mg,base⟩) (g0.at 3 Y) B ay;let T5:=Sm (c_Night:=c_Night) (D 26 Y) B ay AQ eM fy;let T6:=Sn (c_Night:=c_Night) (D 27 Y) B ay T5;let T7:=Sq (c_Night:=c_Night) (D 28 Y) B ay eK T6 dZ;let T8:=Ss (D 29 Y) B;let T9:=Su (D 31 Y) B;let pY:=Sv (D 32 Y) B T8
 let T_:=Sw (D 33 Y) B pY;let Ua:=Sx (D 34 Y) B pY T_;let Ub:=Sy (D 35 Y) B;let Uc:=Sz (D 36 Y) B;let Hr:=SA (D 37 Y) B Uc;let Ud:=SD (D 38 Y) B;let Ue:=SE (D 39 Y) B Ud Ub;let Ug:=SF (c_Night:=c_Night) (D 40 Y) B;let Uh:=SG (c_Night:=c_Night) (D 41 Y) B;let Ui:=SH (c_Night:=c_Night) (D 42 Y) B Hr Ue;let Uj:=SJ (c_Night:=c_Night) (D 43 Y) B Hr;let Uk:=SK (c_Night:=c_Night) (D 44 Y) B ay pY Uh;let Ul:=SN (c_Night:=c_Night) (D 45 Y) B ay Ui Uj;let Um:=SS (c_Night:=c_Night) (D 46 Y) B ay pY Ug Uk Ul;let Hs:=SX (D 47 Y) B pY;let Uo:=SY (c_Night:=c_Night) (D 48 Y) B ay Um pY eK eM fy fY Hs T7 dZ
 let Uq:=Td (c_Night:=c_Night) (D 49 Y) B ay eK T4 Hs eM fY fy dZ;let⟨fo,Vy,ao,Fo⟩:=D 30 (x:="_law_open") (st:=vd) Y;calc Tr (Z:=⟨l.prog,w,K,mg,base⟩) F B ⟨Tf Fo B.list B.enumerate,ao,Fo.kp,Fo.binds mO⟩ ay Ua T9 Uo Uq
theorem Ur{K:KD}{h:Q}(X:K.In h)(LS:gA K AO):∀t∈dY,∃cc,q33 h cc t.T:=λt ht=>LS.code X t.T (show t.T∈dY.map (·.T) from Zq ht)
end LJ
open PySem PySem.W PyProof.Rows
end
open LJ L2
inductive PySem.W.Fast:Prop|tw12095620599500436982|tw7547581589578536709|tw7407332131034100028|tw75299622536683898|tw3905737232484931200|tw1675041550488242884|tw4898358128252985739|tw12270045726842012818|tw1047189717987317549|tw11561781242885569810|tw12045117574613628621|tw1251677506486802796|tw12621909416476326516|tw6093750864779333496|tw6709229418553829820|tw5009121944070513783|tw15718589640774423543|tw14310763313952742307|tw14225416797008963212|tw5517603346745544560|tw12336421786062549007|tw4619738603595082894|tw9278764294635743509|tw9606541167774413174|tw10758178909535318925|tw12025888086355850509|tw3220533923279231483|tw7632731692737345447|tw2462516391743836260|tw5305018560528868677|tw4753844661765177758|tw9185761926576895345|tw13634239822948436759|tw11872401776786535862|tw13210296409495299026|tw10982314576705192991|tw1400255448395204371|tw5280110528089047385|tw15711804797215245414|tw4302453893599282553|tw9070186119756943881|tw9359813765227451521|tw2449726674940831304|tw8073505954453430672|tw1239912833169809511|tw8565754805562733454|tw17964464073640001082|tw15918874365582921159|tw9113093150400221167|tw436708034210433306|tw8921284346313052226|tw10323545125966502382|tw3563729574529250231|tw12837315875850102940|tw15023960786602551108|tw18010303825728091045|tw9980277616375882616|tw9966431048715512833|tw7734142743817268725|tw10814681798778308491|tw18249480658767357588|tw16221768483642843269|tw7804527533589381701|tw2601940897876402500|tw11253363216174401802|tw6570031257543016688|tw577838586798209913|tw8769433810490306428|tw14931880392440333475|tw3844890765935465988|tw3138549587083361828|tw14327853901201167726|tw4425991770141609507|tw10966668398947709476|tw9793362760864517283|tw17472190242127538104|tw5483924491170056348|tw16460230224842912150|tw14853339167309550805|tw14962596638245246681|tw11427585839328297435|tw636782978798285008|tw16674435087213773424|tw5449677343942249555|tw4914550526038164996|tw7592475777315712900|tw2988039723617925119|tw8064370287890330848|tw13369091619490982875|tw3293364886810887742|tw17947330241831396944|tw16570568201015596848|tw5461813293314863505|tw14433953226567484281|tw1377047007601168506|tw13081523445867135905|tw3518203164423637028|tw8531509673810346239|tw5829836671116571128|tw553156778106975291|tw16352951806405499417|tw16589009843761995422|tw644916284015902971|tw12307885920506944999|tw2439012199753554782|tw10286298929200674537|tw6959909858463425238|tw12594344989057875462|tw16752427097277895547|tw2693162066652941733|tw9126520993354641045|tw12171741724934772280|tw8724024515321517978|tw998963038653931248|tw12284567520316475529|tw6234796378415625253|tw4147466866636856685|tw17077120430752406808|tw5235181715319266243|tw11003600837979690027|tw17678475127978925251|tw8499327335040995391|tw1038098711484044617|tw14132442718957194768|tw3612633815637828705|tw13528771076759917018|tw15867056952907918771|tw4447400909226406528|tw4134002519431329804|tw12592800020754336999|tw15034994876805691677|tw10951726028568455923|tw1333483962453544676|tw5879916977253657569|tw3693255477831181309|tw4700765859117977758|tw7323533751600225114|tw1082335366812657192|tw3421793844979649959|tw1694499356303041066|tw7015815486467964957|tw10067040415182542406|tw12024380826662359585|tw7720467825909284296|tw7309029947810178497|tw16472769797733649633|tw17056031545531339457|tw8362511515684747291|tw1213509586707447641|tw934190190383395456|tw16927733853634552725|tw2632999988557721496|tw3115743703492435157|tw1400268432313282345|tw2934850358572196312|tw3661798628991709790|tw4009255275933396953|tw5249378866172109616|tw13141137674274741582|tw14353562935175872099|tw10272592075629776606|tw7607507411845545959|tw3060772187588068885|tw1328273003834482417|tw17487048400875920933|tw4904990612262732559|tw18434037835342720074|tw5033472671420264424|tw6935311748505932421|tw4902504843944722660|tw13495422131444778677|tw15814913480418589425|tw17718567653615076272|tw12157781789224650328|tw8856390919704797214|tw6667198873627132960|tw3143489178122145875|tw5480707262638843053|tw15762536012454650158|tw189398766160787640|tw11512389636494625132|tw7150831561551623822|tw11726589535805532868|tw6426261267870126225|tw10391040083564218475|tw6453607180149575691|tw14971292979699041525|tw13127216439335755998|tw14699957676295780638|tw16557257029274166072|tw1618809864100817665|tw15070732799340920324|tw9613869255033521836|tw12144906931232319523|tw17263636043771385157|tw11201907738870027745|tw1425638400941623287|tw5888332602153901769|tw7539623665737153800|tw15372665067201975174|tw5994178356038888766|tw17518463522003813191|tw10663366877446317433|tw352554111848321868|tw14557215354456111010|tw4459386152880882229|tw10389596359821681485|tw14302737745836900009|tw3377809320494816556|tw14337571550499734536|tw11268960174275492129|tw7910050147852146959|tw4749764454620048619|tw9387384130818398736|tw10748256653870072361|tw12775581879311239208|tw5391125795052922346|tw1473043794522949648|tw6306747053569762213|tw9617226637132000968|tw16958368005845974758|tw8266545638696465412|tw10425017470028177936|tw14669882914525303581|tw16549520075391802352|tw17729165862956326211|tw14846823898718079086|tw7011969795636233008|tw5945176879084009042|tw11025839633660570350|tw16421650882109302864|tw4803594658061013065|tw5002822278460674697|tw16591432948915508357|tw17054058637962550012|tw480948796096867551|tw5229025959862913970|tw11185765945846043500|tw17677256417397510679|tw9621329316805659665|tw5289430461669640280|tw3011810961645453094|tw4783746605178701256|tw6435636338617388945|tw16182410537584676467|tw2985923847789134914|tw16410571715465025247|tw11467361563214395150|tw1897895530845548991|tw7092344160151449661|tw15465077529053979456|tw11721497651124879037|tw9680249006546900211|tw5114697912142324079|tw16839244876158442277|tw1694693429611880044|tw17502097889580376786|tw8284153037716072722|tw2462083057000069054|tw1069424020954035922|tw8136049984149238574|tw4363378178765752679|tw16127897582240794264|tw6114595070925763013|tw4672435816571842402|tw9845715752671815808|tw11155819828593905713|tw1174643944221655319|tw14598593424125992167|tw3852891861140194076|tw901107678120980893|tw17148175379809496520|tw10713511841786713665|tw7076183848281665251|tw8159288523699948994|tw17080857240575536830|tw7459345370241637313|tw5395612675334487454|tw6989541710384217879|tw10047089456588030856|tw18433399441657276791|tw14979536901375232075|tw16827028845969028345|tw18409067627600191348|tw13025238288989409401|tw7735222889370622145|tw941455357700677829|tw11428550070239076944|tw15190475278697954009|tw312207682319818371|tw12725155738989869317|tw14988415153049515599|tw4002804828869235173
set_option maxRecDepth 100000 in
set_option maxHeartbeats 0 in
theorem PySem.Challenge.cw_lotjoin_k51_whole_searches_in_any_order_holds : PySem.Challenge.rw_lotjoin_k51_whole_searches_in_any_order.Holds := by
 w_on;o_law;k_head;(case hw=>w_witness2)
 k_fill
 refine LJ.N_ (l:=PySem.Challenge.rw_lotjoin_k51_whole_searches_in_any_order) (kk:=23) LJ.dY LJ.sM rfl rfl rfl ⟨rfl,by decide,by decide,rfl⟩ ?S ?C (λP=>by kernel_rfl) ?F
 case S =>
  intro w h KX;refine LJ.c9.cs ?_ KX
  repeat' first|exact LJ.c9.nil|refine LJ.c9.cons (by k_is) (by repeat' first|exact .nil|refine .cons rfl ?_) (by decide) ?_
 case C =>
  intro w h KX;refine LJ.Ur KX ?_
  repeat' first|exact LJ.gA.nil|refine LJ.sv (by k_is) (by k_is) (by k_is) (by k_is) (by kernel_rfl) ?_
 case F =>
  intro w mg fa h KX G wq;refine' LJ.TC KX G wq ?dD ?dL ?dN ?aNight ?kNight ?mNight ?iNight ?fNight ⟨_,by k_is,_,rfl⟩ ⟨_,by k_is,_,rfl⟩ ⟨_,by k_is,_,rfl⟩ (LJ.TB (by k_is))
  (case dD=>repeat' first|exact LJ.iI.nil|refine LJ.zp (by k_is) (by k_is) (by k_is) (by k_is) ?_)
  (case dL=>repeat' first|exact LJ.gA.nil|refine LJ.sv (by k_is) (by k_is) (by k_is) (by k_is) (by kernel_rfl) ?_)
  (case dN=>repeat' first|exact q2g _|refine LJ.Qv (by k_is) ?_)
  (case aNight=>k_is)
  (case kNight=>exact⟨⟨by k_is,by k_is,by k_is,by k_is⟩,by repeat' first|exact q2g _|refine List.forall_mem_cons.mpr ⟨(by k_is:XT _ _ _=_),?_⟩⟩)
  (case mNight=>repeat' first|exact LJ.iJ.nil|refine LJ.allM (by k_is) (by k_is) (by k_is) (by k_is) (by k_is) ?_)
  (case iNight=>exact⟨by k_is,by k_is,by k_is,by k_is⟩)
  (case fNight=>exact L2.tF (by k_is) (by k_is) (by k_is))
